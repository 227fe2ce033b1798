import PyProof.Rows.All
import Wide.All
import OpenK.AllK
import Wide.FinOn
import PyProof.EqAt
import PyProof.EqKinds
import PyProof.TupleCall
import KE.BitLaws
import Open.SpecLaws
import KE.OsHead
import KE.OsGo
import PyFlatLaws
import PySem.Challenge.RW_twoeditions_s01_answers
section
set_option Elab.async false
set_option linter.all false
set_option maxRecDepth 100000
namespace L2
open PySem PySem.Spec PyProof.Rows
abbrev Key := Sum Int Str
def keyIs : Key → Value → Bool
  | .inl k, v => Value.isInt k v
  | .inr x, v => Value.isStrOf x v
def keyH (w : World) : Key → Int
  | .inl k => hashInt k
  | .inr x => hashStr w x
theorem keyIs_shape : ∀ {k : Key} {v : Value}, keyIs k v = true → (∃ i t, k = Sum.inl i ∧ v = Value.int i t) ∨ (∃ x t, k = Sum.inr x ∧ v = Value.str x t)
  | .inl i, v, h => by
    obtain ⟨t, e⟩ := Value.isInt_shape (k := i) (v := v) h
    exact .inl ⟨i, t, rfl, e⟩
  | .inr x, v, h => by
    obtain ⟨t, e⟩ := Value.isStrOf_shape (x := x) (v := v) h
    exact .inr ⟨x, t, rfl, e⟩
theorem key_ll (a b : Int) : decide ((Sum.inl a : Key) = Sum.inl b) = (a == b) := by
  by_cases e : a = b
  · subst e; simp
  · have h : ¬ (Sum.inl a : Key) = Sum.inl b := fun q => e (Sum.inl.inj q)
    rw [decide_eq_false h]
    exact (beq_eq_false_iff_ne.mpr e).symm
theorem key_rr (a b : Str) : decide ((Sum.inr a : Key) = Sum.inr b) = decide (a = b) := by
  by_cases e : a = b
  · subst e; simp
  · have h : ¬ (Sum.inr a : Key) = Sum.inr b := fun q => e (Sum.inr.inj q)
    rw [decide_eq_false h, decide_eq_false e]
theorem key_lr (a : Int) (b : Str) : decide ((Sum.inl a : Key) = Sum.inr b) = false := decide_eq_false (fun q => nomatch q)
theorem key_rl (a : Str) (b : Int) : decide ((Sum.inr a : Key) = Sum.inl b) = false := decide_eq_false (fun q => nomatch q)
def mixKind (prog : Program) (w : World) : PySem.KeyKind prog w Key where
  is := keyIs
  hash := keyH w
  inj := fun v a b ha hb => by
    rcases keyIs_shape ha with ⟨i, t, rfl, rfl⟩ | ⟨x, t, rfl, rfl⟩
    · rcases keyIs_shape hb with ⟨j, u, rfl, e⟩ | ⟨y, u, rfl, e⟩
      · injection e with e1 _; rw [e1]
      · exact nomatch e
    · rcases keyIs_shape hb with ⟨j, u, rfl, e⟩ | ⟨y, u, rfl, e⟩
      · exact nomatch e
      · injection e with e1 _; rw [e1]
  byValue := fun k v h => by
    rcases keyIs_shape h with ⟨i, t, rfl, rfl⟩ | ⟨x, t, rfl, rfl⟩ <;> rfl
  pyHash := fun hv h => by
    rcases keyIs_shape hv with ⟨i, t, rfl, rfl⟩ | ⟨x, t, rfl, rfl⟩
    · exact wpAny_pyHash_int h
    · exact wpAny_pyHash_str h
  eqBool := fun hu hv h => by
    rcases keyIs_shape hu with ⟨i, t, rfl, rfl⟩ | ⟨x, t, rfl, rfl⟩
    · rcases keyIs_shape hv with ⟨j, u, rfl, rfl⟩ | ⟨y, u, rfl, rfl⟩
      · rw [key_ll] at h; exact wpAny_eqBool_int h
      · rw [key_lr] at h; exact SeqAt.EqAt.int_str i t y u _ _ _ _ h
    · rcases keyIs_shape hv with ⟨j, u, rfl, rfl⟩ | ⟨y, u, rfl, rfl⟩
      · rw [key_rl] at h; exact SeqAt.EqAt.str_int x t j u _ _ _ _ h
      · rw [key_rr] at h; exact wpAny_eqBool_str h
  «strs» := fun k x t v h => by
    rcases keyIs_shape h with ⟨i, u, rfl, e⟩ | ⟨y, u, rfl, e⟩
    · exact nomatch e
    · injection e with e1 _
      subst e1
      cases v <;> rfl
end L2
namespace L2
open PySem PySem.Spec PyProof.Rows
inductive V where
  | non | bl (b : Bool) | int (i : Int) | str (x : Str) | byt (b : Array UInt8) | flt (b : UInt64) | ref (a : Addr) | ty (n : String)
  deriving DecidableEq
def RelV : V → Value → Prop
  | .non, u => u = Value.none
  | .bl b, u => u = Value.bool b
  | .int i, u => ∃ t, u = Value.int i t
  | .str x, u => ∃ t, u = Value.str x t
  | .byt b, u => ∃ t, u = Value.bytes b t
  | .flt b, u => ∃ t, u = Value.float b t
  | .ref a, u => u = Value.ref a
  | .ty n, u => u = Value.type n
abbrev Vals : List V → List Value → Prop := Paired RelV
theorem Vals.length {xs : List V} {us : List Value} (r : Vals xs us) : xs.length = us.length := Paired.length r
theorem Vals.get : ∀ {xs : List V} {us : List Value} {i : Nat} {x : V}, Vals xs us → xs[i]? = some x → ∃ u, us[i]? = some u ∧ RelV x u
  | _, _, _, _, .nil, e => by simp at e
  | _, _, 0, _, .cons r _, e => by simp at e; subst e; exact ⟨_, rfl, r⟩
  | _, _, i + 1, x, .cons _ t, e => by
    obtain ⟨u, h1, h2⟩ := Vals.get (i := i) (x := x) t (by simpa using e)
    exact ⟨u, by simpa using h1, h2⟩
theorem Vals.set {x : V} {u : Value} (r : RelV x u) : ∀ {xs : List V} {us : List Value} (i : Nat), Vals xs us → Vals (xs.set i x) (us.set i u)
  | _, _, _, .nil => .nil
  | _, _, 0, .cons _ t => .cons r t
  | _, _, i + 1, .cons q t => .cons q (Vals.set r i t)
theorem Vals.append : ∀ {xs ys : List V} {us ws : List Value}, Vals xs us → Vals ys ws → Vals (xs ++ ys) (us ++ ws)
  | _, _, _, _, .nil, s => s
  | _, _, _, _, .cons r t, s => .cons r (Vals.append t s)
theorem Vals.take : ∀ {xs : List V} {us : List Value} (n : Nat), Vals xs us → Vals (xs.take n) (us.take n)
  | _, _, 0, _ => .nil
  | _, _, _ + 1, .nil => .nil
  | _, _, n + 1, .cons r t => .cons r (Vals.take n t)
theorem Vals.drop : ∀ {xs : List V} {us : List Value} (n : Nat), Vals xs us → Vals (xs.drop n) (us.drop n)
  | _, _, 0, r => r
  | _, _, _ + 1, .nil => .nil
  | _, _, n + 1, .cons _ t => Vals.drop n t
def RelO : Option V → Option Value → Prop
  | some v, some u => RelV v u
  | none, none => True
  | _, _ => False
def KV {κ : Type} : List (κ × V) → List (κ × Value) → Prop := Paired fun (p : κ × V) (q : κ × Value) => p.1 = q.1 ∧ RelV p.2 q.2
def kV : Key → V
  | .inl i => .int i
  | .inr x => .str x
inductive HO where
  /-- a list -/
  | lst (xs : List V)
  /-- a tuple (never changes) -/
  | tup (xs : List V)
  /-- a dict whose keys are ints and texts; one whose keys are tuples of ints and texts (the empty one is both) -/
  | dK (kvs : List (Key × V)) | dT (kvs : List (List Key × V))
  /-- a set of ints: its members, its size -/
  | set (S : Int → Bool) (n : Nat)
  /-- an instance of the class at C, its dict at dx, its attributes -/
  | ins (C dx : Addr) (fs : List (Str × V))
  /-- the dict of the instance at x -/
  | own (x : Addr)
  /-- the dict of an exception -/
  | xd (fs : List (Str × V))
  /-- a bound method, f of x -/
  | met (f x : Addr)
  /-- a range object lo, lo + 1, .. below hi -/
  | rng (lo hi : Int)
  /-- a thing that is known to the object (the script; a dict while a loop walks it): read, never written while it is so -/
  | frz (o : Obj) (u : HO)
  /-- a code object's table -/
  | tbl (ps : Array Value)
  /-- any other thing, by what is true of its one object (a def of one's own: SetO a S n := HO.ext fun h => ..) -/
  | ext (φ : Heap → Prop)
abbrev Hp := Addr → Option HO
def upd (H : Hp) (a : Addr) (o : HO) : Hp := fun b => if b = a then some o else H b
theorem upd_same {H : Hp} {a : Addr} {o : HO} : upd H a o a = some o := by unfold upd; rw [if_pos rfl]
theorem upd_ne {H : Hp} {a b : Addr} {o : HO} (h : b ≠ a) : upd H a o b = H b := by unfold upd; rw [if_neg h]
theorem upd_upd {H : Hp} {a : Addr} {o u : HO} : upd (upd H a o) a u = upd H a u := by
  funext b; unfold upd; split <;> rfl
theorem ne_of {H : Hp} {a b : Addr} {o u : HO} (h : H a = some o) (h' : H b = some u) (d : o ≠ u) : a ≠ b := by
  intro e; subst e; rw [h] at h'; exact d (Option.some.inj h')
theorem ne_of_none {H : Hp} {a b : Addr} {o : HO} (h : H a = some o) (h' : H b = none) : a ≠ b := by
  intro e; subst e; rw [h] at h'; cases h'
section
variable (P : Program) (w : World)
def ObjOk (H : Hp) (h : Heap) (a : Addr) : HO → Prop
  | .lst xs => xs.length ≤ sizeLine ∧ ∃ (its : List Value) (n : Nat), Vals xs its ∧ h.get? a = some { cls := .type "list", data := .seq its.toArray n }
  | .tup xs => xs.length ≤ sizeLine ∧ ∃ its : List Value, Vals xs its ∧ IsTup h a its.toArray
  | .dK kvs => kvs.length ≤ sizeLine ∧ (a == sysModules) = false ∧ ∃ vs, KV kvs vs ∧ h.DictOf (mixKind P w) a vs
  | .dT kvs => kvs.length ≤ sizeLine ∧ (a == sysModules) = false ∧ ∃ xs : List (List Key × Addr × Value),
      Paired (fun (p : List Key × V) (q : List Key × Addr × Value) => p.1 = q.1 ∧ H q.2.1 = some (.tup (p.1.map kV)) ∧ RelV p.2 q.2.2) kvs xs ∧
      ∃ o es ep, h.get? a = some o ∧ o.ExactDict ∧ o.data = .dict es ep ∧ es.toList = xs.map (entryOfKey (tupleKind (mixKind P w))) ∧ (xs.map (·.1)).Nodup
  | .set S n => h.SetOf (intKind P w) a S n
  | .ins C dx fs => H dx = some (.own a) ∧ fs.length ≤ 1000 ∧ dx ≠ a ∧ h.get? a = some (PySem.W.instObj C dx) ∧
      ∃ mA, h.Ns1 dx mA ∧ (∀ f, RelO (fs.lookup f) (mA f)) ∧ PySem.Within mA (fs.map (·.1))
  | .own _ => ∃ o, h.get? a = some o
  | .xd fs => ∃ mA, h.Ns1 a mA ∧ ∀ f, RelO (fs.lookup f) (mA f)
  | .rng lo hi => ∃ t u v, h.get? a = some { cls := .type "range", data := .fields #[.int lo t, .int hi u, .int 1 v] }
  | .frz o u => h.get? a = some o ∧ ObjOk H h a u
  | .tbl ps => h.get? a = some { cls := .none, data := .fields ps }
  | .met f x => h.get? a = some (PySem.W.methodObj (.ref f) (.ref x))
  | .ext φ => φ h ∧ (∃ o, h.get? a = some o) ∧ ∀ h1 h2 : Heap, φ h1 → (∀ o, h1.get? a = some o → h2.get? a = some o) → φ h2
def HOk (H : Hp) (h : Heap) : Prop := ∀ a o, H a = some o → ObjOk P w H h a o
end
section
variable {P : Program} {w : World} {H H' : Hp} {h h' : Heap} {a : Addr} {o : HO}
theorem ObjOk.lt (x : ObjOk P w H h a o) : a < h.objs.size := by
  cases o with
  | lst xs => obtain ⟨_, _, _, _, e⟩ := x; exact Heap.lt_size e
  | tup xs => obtain ⟨_, _, _, p⟩ := x; exact p.lt
  | dK kvs => obtain ⟨_, _, _, _, o, _, _, e, _⟩ := x; exact Heap.lt_size e
  | dT kvs => obtain ⟨_, _, _, _, o, _, _, e, _⟩ := x; exact Heap.lt_size e
  | set S n => obtain ⟨o, _, _, _, e, _⟩ := x; exact Heap.lt_size e
  | ins C dx fs => obtain ⟨_, _, _, e, _⟩ := x; exact Heap.lt_size e
  | own y => obtain ⟨_, e⟩ := x; exact Heap.lt_size e
  | xd fs => obtain ⟨_, ⟨_, _, _, e, _⟩, _⟩ := x; exact Heap.lt_size e
  | rng lo hi => obtain ⟨_, _, _, e⟩ := x; exact Heap.lt_size e
  | frz ob u => obtain ⟨e, _⟩ := x; exact Heap.lt_size e
  | tbl ps => exact Heap.lt_size (show h.get? a = some _ from x)
  | met f y => exact Heap.lt_size (show h.get? a = some _ from x)
  | ext φ => obtain ⟨_, ⟨_, e⟩, _⟩ := x; exact Heap.lt_size e
theorem Paired.mapP {α β : Type} {F G : α → β → Prop} : ∀ {l₁ : List α} {l₂ : List β}, Paired F l₁ l₂ → (∀ a b, F a b → G a b) → Paired G l₁ l₂
  | _, _, .nil, _ => .nil
  | _, _, .cons r t, f => .cons (f _ _ r) (Paired.mapP t f)
theorem ObjOk.stay (x : ObjOk P w H h a o) (k : ∀ b u, (b = a ∨ H b = some (.own a)) → h.get? b = some u → h'.get? b = some u)
    (ho : ∀ b, H b = some (.own a) → H' b = some (.own a)) (ht : ∀ b xs, H b = some (.tup xs) → H' b = some (.tup xs)) : ObjOk P w H' h' a o := by
  induction o with
  | lst xs => obtain ⟨z, its, n, r, e⟩ := x; exact ⟨z, its, n, r, k _ _ (.inl rfl) e⟩
  | tup xs => obtain ⟨z, its, r, ob, e, c⟩ := x; exact ⟨z, its, r, ob, k _ _ (.inl rfl) e, c⟩
  | dK kvs => obtain ⟨z, y, vs, r, ob, es, ep, e, c⟩ := x; exact ⟨z, y, vs, r, ob, es, ep, k _ _ (.inl rfl) e, c⟩
  | dT kvs =>
    obtain ⟨z, y, xs, r, ob, es, ep, e, c⟩ := x
    exact ⟨z, y, xs, Paired.mapP r fun p q z => ⟨z.1, ht _ _ z.2.1, z.2.2⟩, ob, es, ep, k _ _ (.inl rfl) e, c⟩
  | set S n => obtain ⟨ob, es, ep, t, e, c⟩ := x; exact ⟨ob, es, ep, t, k _ _ (.inl rfl) e, c⟩
  | ins C dx fs =>
    obtain ⟨d, z, ne, e, mA, ⟨od, es, ep, e2, c⟩, r⟩ := x
    exact ⟨ho _ d, z, ne, k _ _ (.inl rfl) e, mA, ⟨od, es, ep, k _ _ (.inr d) e2, c⟩, r⟩
  | own y => obtain ⟨ob, e⟩ := x; exact ⟨ob, k _ _ (.inl rfl) e⟩
  | xd fs => obtain ⟨mA, ⟨od, es, ep, e, c⟩, r⟩ := x; exact ⟨mA, ⟨od, es, ep, k _ _ (.inl rfl) e, c⟩, r⟩
  | rng lo hi => obtain ⟨t, u, v, e⟩ := x; exact ⟨t, u, v, k _ _ (.inl rfl) e⟩
  | frz ob u ih => obtain ⟨e, q⟩ := x; exact ⟨k _ _ (.inl rfl) e, ih q⟩
  | tbl ps =>
    have e : h.get? a = some { cls := .none, data := .fields ps } := x
    show h'.get? a = some { cls := .none, data := .fields ps }
    exact k a _ (.inl rfl) e
  | met f y =>
    have e : h.get? a = some (PySem.W.methodObj (.ref f) (.ref y)) := x
    show h'.get? a = some (PySem.W.methodObj (.ref f) (.ref y))
    exact k a _ (.inl rfl) e
  | ext φ => obtain ⟨p, ⟨o, e⟩, st⟩ := x; exact ⟨st _ _ p fun o q => k _ _ (.inl rfl) q, ⟨o, k _ _ (.inl rfl) e⟩, st⟩
theorem HOk.lt (x : HOk P w H h) (e : H a = some o) : a < h.objs.size := (x a o e).lt
theorem HOk.fresh (x : HOk P w H h) (e : h.objs.size ≤ a) : H a = none := by
  cases q : H a with
  | none => rfl
  | some u => exact absurd (Nat.lt_of_lt_of_le (x.lt q) e) (Nat.lt_irrefl _)
theorem HOk.kept (x : HOk P w H h) (k : ∀ b u, h.get? b = some u → h'.get? b = some u) : HOk P w H h' := fun a o e =>
  (x a o e).stay (fun b u _ q => k b u q) (fun _ q => q) fun _ _ q => q
theorem HOk.laid (x : HOk P w H h) (k : ∀ b u, h.get? b = some u → h'.get? b = some u) (hp : h.objs.size ≤ a) (new : ObjOk P w (upd H a o) h' a o) : HOk P w (upd H a o) h' := fun b u e => by
  have hn := x.fresh hp
  by_cases hb : b = a
  · subst hb; rw [upd_same] at e; cases e; exact new
  · rw [upd_ne hb] at e
    exact (x b u e).stay (fun c v _ q => k c v q) (fun c q => by rw [upd_ne (ne_of_none q hn)]; exact q) fun c xs q => by rw [upd_ne (ne_of_none q hn)]; exact q
end
def Rd (H : Hp) (a : Addr) (u : HO) : Prop := H a = some u ∨ ∃ o, H a = some (.frz o u)
theorem Rd.ok {P : Program} {w : World} {H : Hp} {h : Heap} {a : Addr} {u : HO} (r : Rd H a u) (x : HOk P w H h) : ObjOk P w H h a u := by
  rcases r with r | ⟨o, r⟩
  · exact x a u r
  · obtain ⟨_, q⟩ := x a _ r
    exact q
def Mut : Option HO → Prop
  | some (.lst _) => True
  | some (.dK _) => True
  | some (.dT _) => True
  | some (.set _ _) => True
  | some (.ins _ _ _) => True
  | some (.ext _) => True
  | _ => False
section
variable {P : Program} {w : World} {H : Hp} {h h' : Heap} {x e : Addr} {o' : HO}
theorem HOk.write (ok : HOk P w H h) (mu : Mut (H x)) (he : e = x ∨ H e = some (.own x)) (k : ∀ b u, b ≠ e → h.get? b = some u → h'.get? b = some u) (heo : ∃ u, h'.get? e = some u)
    (new : ObjOk P w (upd H x o') h' x o') : HOk P w (upd H x o') h' := fun b u q => by
  have nown : ∀ c y, H c = some (.own y) → c ≠ x := fun c y r z => by subst z; rw [r] at mu; exact mu
  have ntup : ∀ c xs, H c = some (.tup xs) → c ≠ x := fun c xs r z => by subst z; rw [r] at mu; exact mu
  by_cases hb : b = x
  · subst hb; rw [upd_same] at q; cases q; exact new
  · rw [upd_ne hb] at q
    by_cases hbe : b = e
    · have q' : H b = some (.own x) := by
        rcases he with z | z
        · exact absurd (hbe.trans z) hb
        · rw [hbe]; exact z
      rw [q] at q'; cases q'
      obtain ⟨v, hv⟩ := heo
      exact ⟨v, by rw [hbe]; exact hv⟩
    · refine (ok b u q).stay (fun c v hc r => k c v ?_ r) (fun c r => by rw [upd_ne (nown c b r)]; exact r) fun c xs r => by rw [upd_ne (ntup c xs r)]; exact r
      rcases hc with rfl | hc
      · exact hbe
      · rintro rfl
        rcases he with z | z
        · exact nown c b hc z
        · rw [hc] at z; cases z; exact hb rfl
end
structure Un (fs ex : List Addr) (H H' : Hp) (h h' : Heap) : Prop where
  keep : ∀ b o, h.get? b = some o → H b = none → b ∉ fs → b ∉ ex → h'.get? b = some o
  slot : ∀ b o, h.get? b = some o → H b = none → b ∈ fs → b ∉ ex → ∃ sl, h'.get? b = some { o with slots := sl }
  free : ∀ b o, h.get? b = some o → H b = none → b ∉ ex → H' b = none
  there : ∀ b o, h.get? b = some o → b ∉ ex → ∃ o', h'.get? b = some o'
  tups : ∀ b xs, H b = some (.tup xs) → H' b = some (.tup xs)
  frzs : ∀ b o u, H b = some (.frz o u) → H' b = some (.frz o u)
  tbls : ∀ b ps, H b = some (.tbl ps) → ∃ more, H' b = some (.tbl (ps ++ more))
section
variable {fs fs' ex ex' : List Addr} {H H1 H2 : Hp} {h h1 h2 h' : Heap} {a x e : Addr} {o : HO}
theorem Un.any (u : Un fs ex H H1 h h1) {b : Addr} {ob : Obj} (q : h.get? b = some ob) (n : H b = none) (hx : b ∉ ex) : ∃ sl, h1.get? b = some { ob with slots := sl } := by
  by_cases hb : b ∈ fs
  · exact u.slot b ob q n hb hx
  · exact ⟨ob.slots, u.keep b ob q n hb hx⟩
theorem Un.kept (k : ∀ b u, h.get? b = some u → h'.get? b = some u) : Un fs ex H H h h' :=
  ⟨fun b ob q _ _ _ => k b ob q, fun b ob q _ _ _ => ⟨ob.slots, k b ob q⟩, fun _ _ _ n _ => n, fun b ob q _ => ⟨ob, k b ob q⟩, fun _ _ q => q, fun _ _ _ q => q, fun _ ps q => ⟨#[], by rw [q]; simp⟩⟩
theorem Un.refl : Un fs ex H H h h := Un.kept fun _ _ q => q
theorem Un.laid (k : ∀ b u, h.get? b = some u → h'.get? b = some u) (hp : h.objs.size ≤ a) (hn : H a = none) : Un fs ex H (upd H a o) h h' where
  keep := fun b u q _ _ _ => k b u q
  slot := fun b u q _ _ _ => ⟨u.slots, k b u q⟩
  free := fun b u q n _ => by rw [upd_ne (Nat.ne_of_lt (Nat.lt_of_lt_of_le (Heap.lt_size q) hp))]; exact n
  there := fun b u q _ => ⟨u, k b u q⟩
  tups := fun b xs q => by rw [upd_ne (ne_of_none q hn)]; exact q
  frzs := fun b u xs q => by rw [upd_ne (ne_of_none q hn)]; exact q
  tbls := fun b ps q => ⟨#[], by rw [upd_ne (ne_of_none q hn), q]; simp⟩
theorem Un.write (mu : Mut (H x)) (he : e = x ∨ H e = some (.own x)) (k : ∀ b u, b ≠ e → h.get? b = some u → h'.get? b = some u) (heo : ∃ u, h'.get? e = some u) : Un fs ex H (upd H x o) h h' := by
  have hx : ∀ b, H b = none → b ≠ x := fun b n z => by subst z; rw [n] at mu; exact mu
  have hb : ∀ b, H b = none → b ≠ e := fun b n z => by
    subst z
    rcases he with r | r
    · exact hx b n r
    · rw [n] at r; cases r
  have hm : ∀ b u, H b = some u → ¬ Mut (some u) → b ≠ x := fun b u q nm z => by subst z; rw [q] at mu; exact nm mu
  refine ⟨fun b u q n _ _ => k b u (hb b n) q, fun b u q n _ _ => ⟨u.slots, k b u (hb b n) q⟩, fun b u q n _ => by rw [upd_ne (hx b n)]; exact n, fun b u q _ => ?_,
    fun b xs q => by rw [upd_ne (hm b _ q fun z => z)]; exact q, fun b u xs q => by rw [upd_ne (hm b _ q fun z => z)]; exact q, fun b ps q => ⟨#[], by rw [upd_ne (hm b _ q fun z => z), q]; simp⟩⟩
  by_cases hbe : b = e
  · subst hbe; exact heo
  · exact ⟨u, k b u hbe q⟩
end
def trk (h : Heap) (H : Hp) : List Addr := (List.range h.objs.size).filter fun a => (H a).isSome
def hidT (h : Heap) (H : Hp) : Heap := PySem.W.hideAll h (trk h H)
theorem hidT_size (h : Heap) (H : Hp) : (hidT h H).objs.size = h.objs.size := PySem.W.hideAll_size _ _
theorem hidT_get {h : Heap} {H : Hp} {b : Addr} {o : Obj} (e : h.get? b = some o) (n : H b = none) : (hidT h H).get? b = some o :=
  PySem.W.hideAll_get _ e fun hm => by
    have q : (H b).isSome = true := (List.mem_filter.mp hm).2
    rw [n] at q; simp at q
theorem of_hidT {h : Heap} {H : Hp} {b : Addr} {o : Obj} (e : (hidT h H).get? b = some o) : h.get? b = some o ∧ H b = none := by
  have e' : h.get? b = some o := PySem.W.of_hideAll (trk h H) e
  refine ⟨e', ?_⟩
  cases q : H b with
  | none => rfl
  | some x =>
    have hm : b ∈ trk h H := List.mem_filter.mpr ⟨List.mem_range.mpr (Heap.lt_size e'), by simp [q]⟩
    have z : (hidT h H).get? b = none := PySem.W.hideAll_none (trk h H) hm
    rw [z] at e; cases e
end L2
namespace L2
open PySem PySem.Spec PyProof.Rows
structure Mod (K : PySem.W.Frag) (mg : Str → Option Value) (base : Heap) : Prop where
  kin : K.In base
  glob : base.Ns mainGlobals mg
  blt : ∃ mb, base.Ns builtinsNs mb ∧ ∀ x : Str, x ≠ "__name__" → mb x = bootBuiltins x
  nolimit : base.NoLimit
structure Cx where
  prog : Program
  w : World
  K : PySem.W.Frag
  mg : Str → Option Value
  base : Heap
  A : Around
  N : List Str
  s_0 : Shared
  H_0 : Hp
  env : Env
  outer : List Env
  stack : List Env
  ex : List Addr
  fn : Str → Bool
  calm : Bool
  pn : List (Addr × Obj)
  xe : Value → Shared → Prop
def frs (l : List Env) : List Addr := l.filterMap (·.frame)
abbrev Cx.fs (X : Cx) : List Addr := frs X.outer
def Vis (sc : Scope) (x : Str) : Prop := sc.names.lookup x = some .local ∨ sc.names.lookup x = some .cell ∨ sc.names.lookup x = some .free
def Loc (sc : Scope) (x : Str) : Prop := sc.names.lookup x = some .local ∨ sc.names.lookup x = some .cell
def Look (env : Env) (h : Heap) (m : Str → Option Value) (x : Str) (u : Value) : Prop :=
  (env.kindOf x = some .local ∧ m x = some u) ∨ ((env.kindOf x = some .cell ∨ env.kindOf x = some .free) ∧ ∃ c, env.cells.lookup x = some c ∧ h.IsCell c (some u))
structure Cx.Ok (X : Cx) : Prop where
  mod : Mod X.K X.mg X.base
  kind : X.env.scope.kind = .function
  glob : X.env.globals = mainGlobals
  blt : X.env.builtins = builtinsNs
  above : X.s_0.heap.objs.size ≤ X.env.locals
  inj : ∀ x y c, X.env.cells.lookup x = some c → X.env.cells.lookup y = some c → x = y
  has : ∀ x, (X.env.kindOf x = some .cell ∨ X.env.kindOf x = some .free) → ∃ c, X.env.cells.lookup x = some c
  cab : ∀ x c, X.fn x = true → X.env.cells.lookup x = some c → X.s_0.heap.objs.size ≤ c
  hd : X.calm = true → X.A.handled = none
  frames : X.A.frames = some X.stack
  stk : X.stack = X.outer ∨ (X.stack = X.env :: X.outer ∧ X.env.frame = some X.env.locals)
  exf : ∀ b ∈ X.ex, b ≠ X.env.locals ∧ ∀ x c, X.env.cells.lookup x = some c → c ≠ b
  bs : ∀ b o, X.base.get? b = some o → X.s_0.heap.get? b = some o ∧ X.H_0 b = none
  bsz : X.base.objs.size ≤ X.s_0.heap.objs.size
  noex : ∀ b o, X.base.get? b = some o → b ∉ X.ex
  exfs : ∀ b ∈ X.ex, b ∉ X.fs
  funs : X.s_0.heap.FunFrames X.base X.outer
  frf : ∀ b ∈ X.fs, X.H_0 b = none
structure Inv (X : Cx) (pins : List (Addr × Obj)) (σ : List (Option V)) (H : Hp) (s : Shared) : Prop where
  ok : X.Ok
  os : s.os = X.s_0.os
  bare : AllBare s.gens
  base : Un X.fs X.ex X.H_0 H X.s_0.heap s.heap
  loc : ∃ m, s.heap.Ns X.env.locals m ∧ ∀ (i : Nat) (x : Str) (v : V), X.N[i]? = some x → σ[i]? = some (some v) → Vis X.env.scope x → ∃ u, RelV v u ∧ Look X.env s.heap m x u
  cell : ∀ x c, X.env.cells.lookup x = some c → ∃ v, s.heap.IsCell c v
  free : H X.env.locals = none
  freeC : ∀ x c, X.env.cells.lookup x = some c → H c = none
  pin : ∀ p ∈ X.pn ++ pins, s.heap.get? p.1 = some p.2 ∧ H p.1 = none ∧ p.1 ≠ X.env.locals ∧ p.1 ∉ X.fs ∧ ∀ v, p.2.data ≠ .cell v
  hok : HOk X.prog X.w H s.heap
  len : σ.length = X.N.length
section
variable {X : Cx} {pins : List (Addr × Obj)} {σ : List (Option V)} {H H' : Hp} {s : Shared} {h' : Heap}
theorem Cx.Ok.nofr (ok : X.Ok) {b : Addr} {o : Obj} (e : X.base.get? b = some o) : b ∉ X.fs := fun hb => by
  have := (ok.funs.mem hb).1
  rw [e] at this; cases this
theorem Inv.bs (I : Inv X pins σ H s) : ∀ b o, X.base.get? b = some o → s.heap.get? b = some o ∧ H b = none := fun b o e =>
  ⟨I.base.keep b o (I.ok.bs b o e).1 (I.ok.bs b o e).2 (I.ok.nofr e) (I.ok.noex b o e), I.base.free b o (I.ok.bs b o e).1 (I.ok.bs b o e).2 (I.ok.noex b o e)⟩
theorem Inv.bk (I : Inv X pins σ H s) : ∀ b o, X.base.get? b = some o → s.heap.get? b = some o := fun b o e => (I.bs b o e).1
theorem Inv.mod (I : Inv X pins σ H s) : Mod X.K X.mg X.base := I.ok.mod
theorem Inv.kIn (I : Inv X pins σ H s) : X.K.In s.heap := I.ok.mod.kin.keeps I.bk
theorem Inv.fr (I : Inv X pins σ H s) : ∃ m, Fr X.base X.env.locals s.heap m :=
  let ⟨m, hn, _⟩ := I.loc
  ⟨m, hn, I.bk, Nat.le_trans I.ok.bsz I.ok.above⟩
theorem Inv.lt (I : Inv X pins σ H s) : X.env.locals < s.heap.objs.size := let ⟨_, hn, _⟩ := I.loc; hn.lt
theorem Inv.sz (I : Inv X pins σ H s) : X.s_0.heap.objs.size ≤ s.heap.objs.size := Nat.le_trans I.ok.above (Nat.le_of_lt I.lt)
theorem Inv.nofs (I : Inv X pins σ H s) {a : Addr} (h : s.heap.objs.size ≤ a) : a ∉ X.fs := fun hb => by
  obtain ⟨_, o, ho, _⟩ := I.ok.funs.mem hb
  exact absurd (Nat.lt_of_lt_of_le (Heap.lt_size ho) (Nat.le_trans I.sz h)) (Nat.lt_irrefl _)
theorem Inv.cne (I : Inv X pins σ H s) : ∀ x c, X.env.cells.lookup x = some c → c ≠ X.env.locals := fun x c e z => by
  obtain ⟨v, o, ho, hd⟩ := I.cell x c e
  obtain ⟨m, ⟨o', es, ep, ho', hd', _⟩, _⟩ := I.loc
  rw [z, ho'] at ho; cases ho; rw [hd'] at hd; cases hd
theorem Inv.funs (I : Inv X pins σ H s) : s.heap.FunFrames X.base X.outer := by
  have all : ∀ (l : List Env), (∀ b ∈ frs l, b ∈ X.fs) → X.s_0.heap.FunFrames X.base l → s.heap.FunFrames X.base l := by
    intro l
    induction l with
    | nil => intro _ _; trivial
    | cons env r ih =>
      intro hs hl
      obtain ⟨hk, ⟨L, o, hf, hn, ho, hd⟩, hr⟩ := hl
      have hL : L ∈ X.fs := hs L (by unfold frs; rw [List.filterMap_cons, hf]; exact List.mem_cons_self)
      obtain ⟨sl, e⟩ := I.base.slot L o ho (I.ok.frf L hL) hL fun z => I.ok.exfs L z hL
      exact ⟨hk, ⟨L, _, hf, hn, e, hd⟩, ih (fun b hb => hs b (by unfold frs; rw [List.filterMap_cons, hf]; exact List.mem_cons_of_mem _ hb)) hr⟩
  exact all X.outer (fun _ hb => hb) I.ok.funs
theorem Inv.stack (I : Inv X pins σ H s) : s.heap.FunFrames X.base X.stack := by
  rcases I.ok.stk with e | ⟨e, hf⟩
  · rw [e]; exact I.funs
  · rw [e]
    obtain ⟨m, hn, _⟩ := I.loc
    refine .cons (by rw [I.ok.kind]; decide) hf hn ?_ I.funs
    exact Heap.get?_none_of_le (Nat.le_trans I.ok.bsz I.ok.above)
theorem Inv.stkSub (I : Inv X pins σ H s) : ∀ b ∈ frs X.stack, b ∈ X.env.locals :: X.fs := fun b hb => by
  rcases I.ok.stk with e | ⟨e, hf⟩
  · rw [e] at hb; exact List.mem_cons_of_mem _ hb
  · rw [e] at hb
    unfold frs at hb
    rw [List.filterMap_cons, hf] at hb
    exact hb
theorem Inv.stkFree (I : Inv X pins σ H s) : ∀ b ∈ frs X.stack, H b = none := fun b hb => by
  rcases List.mem_cons.mp (I.stkSub b hb) with e | hb
  · rw [e]; exact I.free
  · obtain ⟨_, o, ho, _⟩ := I.ok.funs.mem hb
    exact I.base.free b o ho (I.ok.frf b hb) fun z => I.ok.exfs b z hb
theorem Inv.step {g' : Array GenState} {t' : Nat} {d' : Drawn} {ch : List Addr} (I : Inv X pins σ H s)
    (hch : ∀ b ∈ ch, (b ∈ X.ex ∨ X.s_0.heap.objs.size ≤ b) ∧ b ≠ X.env.locals ∧ (∀ x c, X.env.cells.lookup x = some c → c ≠ b) ∧ ∀ p ∈ X.pn ++ pins, p.1 ≠ b)
    (keep : ∀ b o, b ≠ X.env.locals → b ∉ X.fs → b ∉ ch → s.heap.get? b = some o → H b = none → h'.get? b = some o)
    (slot : ∀ b o, b ≠ X.env.locals → b ∈ X.fs → b ∉ ch → s.heap.get? b = some o → H b = none → ∃ sl, h'.get? b = some { o with slots := sl }) (free : ∀ b o, b ∉ ch → s.heap.get? b = some o → H b = none → H' b = none)
    (there : ∀ b o, b ∉ ch → s.heap.get? b = some o → ∃ o', h'.get? b = some o')
    (tups : ∀ b xs, H b = some (.tup xs) → H' b = some (.tup xs)) (frzs : ∀ b o u, H b = some (.frz o u) → H' b = some (.frz o u)) (tbls : ∀ b ps, H b = some (.tbl ps) → ∃ more, H' b = some (.tbl (ps ++ more)))
    (ns : ∀ m, s.heap.Ns X.env.locals m → h'.Ns X.env.locals m) (hok : HOk X.prog X.w H' h') (hg : AllBare g') :
    Inv X pins σ H' { s with heap := h', gens := g', drawn := d', toks := t' } := by
  have neL : ∀ b o, X.s_0.heap.get? b = some o → b ≠ X.env.locals := fun b o e => Nat.ne_of_lt (Nat.lt_of_lt_of_le (Heap.lt_size e) I.ok.above)
  have neC : ∀ b o, X.s_0.heap.get? b = some o → b ∉ X.ex → b ∉ ch := fun b o e hx hb => by
    rcases (hch b hb).1 with z | z
    · exact hx z
    · exact absurd (Nat.lt_of_lt_of_le (Heap.lt_size e) z) (Nat.lt_irrefl _)
  have cellK : ∀ x c, X.env.cells.lookup x = some c → ∀ v, s.heap.IsCell c v → h'.IsCell c v := fun x c e v ⟨o, ho, hd⟩ => by
    have nch : c ∉ ch := fun z => (hch c z).2.2.1 x c e rfl
    by_cases hc : c ∈ X.fs
    · obtain ⟨sl, q⟩ := slot c o (I.cne x c e) hc nch ho (I.freeC x c e)
      exact ⟨_, q, hd⟩
    · exact ⟨o, keep c o (I.cne x c e) hc nch ho (I.freeC x c e), hd⟩
  refine ⟨I.ok, I.os, hg, ⟨fun b o e n hb hx => ?_, fun b o e n hb hx => ?_, fun b o e n hx => ?_, fun b o e hx => ?_, fun b xs e => tups b xs (I.base.tups b xs e), fun b o xs e => frzs b o xs (I.base.frzs b o xs e), fun b ps e => ?_⟩, ?_, fun x c e => ?_, ?_, fun x c e => ?_, fun p hp => ?_, hok, I.len⟩
  · exact keep b o (neL b o e) hb (neC b o e hx) (I.base.keep b o e n hb hx) (I.base.free b o e n hx)
  · obtain ⟨sl, e1⟩ := I.base.slot b o e n hb hx
    obtain ⟨sl', e2⟩ := slot b _ (neL b o e) hb (neC b o e hx) e1 (I.base.free b o e n hx)
    exact ⟨sl', e2⟩
  · obtain ⟨o', e1⟩ := I.base.there b o e hx
    exact free b o' (neC b o e hx) e1 (I.base.free b o e n hx)
  · obtain ⟨o', e1⟩ := I.base.there b o e hx
    exact there b o' (neC b o e hx) e1
  · obtain ⟨m1, e1⟩ := I.base.tbls b ps e
    obtain ⟨m2, e2⟩ := tbls b _ e1
    exact ⟨m1 ++ m2, by rw [e2, Array.append_assoc]⟩
  · obtain ⟨m, hn, hl⟩ := I.loc
    refine ⟨m, ns m hn, fun i x v e1 e2 e3 => ?_⟩
    obtain ⟨u, r, l⟩ := hl i x v e1 e2 e3
    refine ⟨u, r, ?_⟩
    rcases l with l | ⟨k, c, e, z⟩
    · exact .inl l
    · exact .inr ⟨k, c, e, cellK x c e _ z⟩
  · obtain ⟨v, z⟩ := I.cell x c e
    exact ⟨v, cellK x c e v z⟩
  · obtain ⟨m, ⟨o, _, _, ho, _⟩, _⟩ := I.loc
    exact free _ o (fun z => (hch _ z).2.1 rfl) ho I.free
  · obtain ⟨v, o, ho, hd⟩ := I.cell x c e
    exact free c o (fun z => (hch c z).2.2.1 x c e rfl) ho (I.freeC x c e)
  · obtain ⟨e, n, ne, nf, d⟩ := I.pin p hp
    have nch : p.1 ∉ ch := fun z => (hch p.1 z).2.2.2 p hp rfl
    exact ⟨keep p.1 p.2 ne nf nch e n, free p.1 p.2 nch e n, ne, nf, d⟩
theorem Inv.un {t' : Nat} (I : Inv X pins σ H s) (u : Un X.fs [] H H' s.heap h') (hok : HOk X.prog X.w H' h') : Inv X pins σ H' { s with heap := h', toks := t' } := by
  obtain ⟨m, ⟨o, es, ep, ho, r⟩, _⟩ := id I.loc
  obtain ⟨sl, hL⟩ := u.any ho I.free (by simp)
  exact I.step (g' := s.gens) (d' := s.drawn) (ch := []) (fun _ z => nomatch z) (fun b o _ hb _ e n => u.keep b o e n hb (by simp)) (fun b o _ hb _ e n => u.slot b o e n hb (by simp)) (fun b o _ e n => u.free b o e n (by simp)) (fun b o _ e => u.there b o e (by simp)) u.tups u.frzs u.tbls (fun m' hm => by
    obtain ⟨o', es', ep', ho', r'⟩ := hm
    rw [ho] at ho'; cases ho'
    exact ⟨_, es', ep', hL, r'⟩) hok I.bare
theorem Inv.call {g' : Array GenState} {t' : Nat} {d' : Drawn} {ch : List Addr} (I : Inv X pins σ H s) (u : Un (frs X.stack) ch H H' s.heap h') (hok : HOk X.prog X.w H' h') (hg : AllBare g')
    (hch : ∀ b ∈ ch, (b ∈ X.ex ∨ X.s_0.heap.objs.size ≤ b) ∧ b ≠ X.env.locals ∧ (∀ x c, X.env.cells.lookup x = some c → c ≠ b) ∧ ∀ p ∈ X.pn ++ pins, p.1 ≠ b) :
    Inv X pins σ H' { s with heap := h', gens := g', drawn := d', toks := t' } := by
  obtain ⟨m, ⟨o, es, ep, ho, r⟩, _⟩ := id I.loc
  obtain ⟨sl, hL⟩ := u.any ho I.free fun z => (hch _ z).2.1 rfl
  exact I.step (ch := ch) hch (fun b o hL hb hc e n => u.keep b o e n (fun z => (List.mem_cons.mp (I.stkSub b z)).elim hL hb) hc) (fun b o _ _ hc e n => u.any e n hc) (fun b o hc e n => u.free b o e n hc) (fun b o hc e => u.there b o e hc) u.tups u.frzs u.tbls (fun m' hm => by
    obtain ⟨o', es', ep', ho', r'⟩ := hm
    rw [ho] at ho'; cases ho'
    exact ⟨_, es', ep', hL, r'⟩) hok hg
theorem Inv.turned {t' : Nat} {it : Addr} (I : Inv X pins σ H s) (k : ∀ b o, b ≠ it → s.heap.get? b = some o → h'.get? b = some o) (hn : H it = none) (hL : it ≠ X.env.locals)
    (h1 : it ∈ X.ex ∨ X.s_0.heap.objs.size ≤ it) (h2 : ∀ x c, X.env.cells.lookup x = some c → c ≠ it) (h3 : ∀ p ∈ X.pn ++ pins, p.1 ≠ it) : Inv X pins σ H { s with heap := h', toks := t' } := by
  have nit : ∀ b u, H b = some u → b ≠ it := fun b u e z => by rw [z, hn] at e; cases e
  refine I.step (g' := s.gens) (d' := s.drawn) (ch := [it]) (fun b hb => ?_) (fun b o _ _ hc e _ => k b o (fun z => hc (by simp [z])) e) (fun b o _ _ hc e _ => ⟨o.slots, k b o (fun z => hc (by simp [z])) e⟩) (fun _ _ _ _ n => n)
    (fun b o hc e => ⟨o, k b o (fun z => hc (by simp [z])) e⟩) (fun _ _ e => e) (fun _ _ _ e => e) (fun b ps e => ⟨#[], by rw [e]; simp⟩) (fun m hm => ?_) (fun b u e => ?_) I.bare
  · have e : b = it := by simpa using hb
    subst e
    exact ⟨h1, hL, h2, h3⟩
  · obtain ⟨o, es, ep, ho, r⟩ := hm
    exact ⟨o, es, ep, k _ o (Ne.symm hL) ho, r⟩
  · refine (I.hok b u e).stay (fun c v hc q => k c v ?_ q) (fun _ q => q) fun _ _ q => q
    rcases hc with z | z
    · rw [z]; exact nit b u e
    · exact nit c _ z
theorem Inv.tok (I : Inv X pins σ H s) (t : Nat) : Inv X pins σ H { s with toks := t } := I.un (h' := s.heap) (t' := t) Un.refl I.hok
theorem Inv.kept {t' : Nat} (I : Inv X pins σ H s) (k : ∀ b u, s.heap.get? b = some u → h'.get? b = some u) : Inv X pins σ H { s with heap := h', toks := t' } := I.un (Un.kept k) (I.hok.kept k)
theorem Inv.laid {a : Addr} {o : HO} {t' : Nat} (I : Inv X pins σ H s) (k : ∀ b u, s.heap.get? b = some u → h'.get? b = some u) (hp : s.heap.objs.size ≤ a) (new : ObjOk X.prog X.w (upd H a o) h' a o) :
    Inv X pins σ (upd H a o) { s with heap := h', toks := t' } := I.un (Un.laid k hp (I.hok.fresh hp)) (I.hok.laid k hp new)
theorem Inv.write {x e : Addr} {o : HO} {t' : Nat} (I : Inv X pins σ H s) (mu : Mut (H x)) (he : e = x ∨ H e = some (.own x)) (k : ∀ b u, b ≠ e → s.heap.get? b = some u → h'.get? b = some u) (heo : ∃ u, h'.get? e = some u)
    (new : ObjOk X.prog X.w (upd H x o) h' x o) : Inv X pins σ (upd H x o) { s with heap := h', toks := t' } := I.un (Un.write mu he k heo) (I.hok.write mu he k heo new)
theorem Inv.weak {σ' : List (Option V)} (I : Inv X pins σ H s) (hl : σ'.length = σ.length) (w : ∀ (i : Nat) v, σ'[i]? = some (some v) → σ[i]? = some (some v)) : Inv X pins σ' H s :=
  ⟨I.ok, I.os, I.bare, I.base, let ⟨m, hn, hl'⟩ := I.loc; ⟨m, hn, fun i x v e1 e2 e3 => hl' i x v e1 (w i v e2) e3⟩, I.cell, I.free, I.freeC, I.pin, I.hok, hl.trans I.len⟩
theorem Inv.pins_of {pins' : List (Addr × Obj)} (I : Inv X pins σ H s) (h : ∀ p ∈ pins', s.heap.get? p.1 = some p.2 ∧ H p.1 = none ∧ p.1 ≠ X.env.locals ∧ p.1 ∉ X.fs ∧ ∀ v, p.2.data ≠ .cell v) : Inv X pins' σ H s :=
  ⟨I.ok, I.os, I.bare, I.base, I.loc, I.cell, I.free, I.freeC, fun p hp => (List.mem_append.mp hp).elim (fun z => I.pin p (List.mem_append_left _ z)) (h p), I.hok, I.len⟩
theorem nodup_ix {N : List Str} (hN : N.Nodup) {i j : Nat} {x : Str} (a : N[i]? = some x) (b : N[j]? = some x) : i = j := by
  obtain ⟨h1, e1⟩ := List.getElem?_eq_some_iff.mp a
  obtain ⟨h2, e2⟩ := List.getElem?_eq_some_iff.mp b
  exact (List.getElem_inj hN).mp (e1.trans e2.symm)
theorem store_ok2 {M : Model} {A : Around} {E : Value → Shared → Prop} {i : Nat} {x : Str} {v : V} {u : Value} {Q : Unit → Shared → Prop} (I : Inv X pins σ H s) (hN : X.N.Nodup) (hi : X.N[i]? = some x) (hx : Loc X.env.scope x) (r : RelV v u)
    (h : ∀ s', Inv X pins (σ.set i (some v)) H s' → (∃ a, Heap.SameBut a s.heap s'.heap ∧ (a = X.env.locals ∨ X.env.cells.lookup x = some a)) → Q () s') (hf : X.fn x = true ∨ X.env.scope.names.lookup x = some .local := by first | exact .inl rfl | exact .inr rfl | assumption) : wpAny M A (storeName X.env x u) Q E s := by
  obtain ⟨m, hn, hl⟩ := id I.loc
  have hcls : (X.env.scope.kind == .class || (X.env.scope.kind == .module && X.env.locals != X.env.globals)) = false := by rw [I.ok.kind]; rfl
  have hiσ : i < σ.length := by rw [I.len]; exact (List.getElem?_eq_some_iff.mp hi).1
  have cne := I.cne
  have tracked : ∀ {a : Addr} {h' : Heap}, (∃ o, s.heap.get? a = some o ∧ H a = none) → Heap.SameBut a s.heap h' → HOk X.prog X.w H h' := fun {a h'} ha hs b ob e => by
    obtain ⟨_, _, hfree⟩ := ha
    refine (I.hok b ob e).stay (fun c w' hc q => (hs.2 c ?_).trans q) (fun _ q => q) fun _ _ q => q
    rintro rfl
    rcases hc with rfl | hc
    · rw [hfree] at e; cases e
    · rw [hfree] at hc; cases hc
  rcases hx with hk | hk
  · refine wpAny_storeName_local hk hn (fun h' hn' hs => ?_) hcls
    obtain ⟨oL, _, _, hoL, _⟩ := id hn
    refine h _ ⟨I.ok, I.os, I.bare, ⟨fun b o e n hb hx => ?_, fun b o e n hb hx => ?_, I.base.free, fun b o e hx => ?_, I.base.tups, I.base.frzs, I.base.tbls⟩, ⟨_, hn', fun j y v' e1 e2 e3 => ?_⟩, fun y c e => ?_, I.free, I.freeC, fun p hp => ?_, tracked ⟨oL, hoL, I.free⟩ hs, by simpa using I.len⟩ ⟨_, hs, .inl rfl⟩
    · exact (hs.2 b (Nat.ne_of_lt (Nat.lt_of_lt_of_le (Heap.lt_size e) I.ok.above))).trans (I.base.keep b o e n hb hx)
    · obtain ⟨sl, e1⟩ := I.base.slot b o e n hb hx
      exact ⟨sl, (hs.2 b (Nat.ne_of_lt (Nat.lt_of_lt_of_le (Heap.lt_size e) I.ok.above))).trans e1⟩
    · obtain ⟨o', e1⟩ := I.base.there b o e hx
      exact ⟨o', (hs.2 b (Nat.ne_of_lt (Nat.lt_of_lt_of_le (Heap.lt_size e) I.ok.above))).trans e1⟩
    · by_cases hj : j = i
      · subst hj
        rw [hi] at e1; cases e1
        rw [List.getElem?_set_self hiσ] at e2
        cases e2
        exact ⟨u, r, .inl ⟨hk, by simp⟩⟩
      · rw [List.getElem?_set_ne (Ne.symm hj)] at e2
        obtain ⟨u', r', q⟩ := hl j y v' e1 e2 e3
        refine ⟨u', r', ?_⟩
        rcases q with ⟨k, e⟩ | ⟨k, c, e, z⟩
        · refine .inl ⟨k, ?_⟩
          have : y ≠ x := fun e => hj (nodup_ix hN e1 (e ▸ hi))
          simp [this, e]
        · exact .inr ⟨k, c, e, z.sameBut hs (cne y c e)⟩
    · obtain ⟨w', z⟩ := I.cell y c e
      exact ⟨w', z.sameBut hs (cne y c e)⟩
    · obtain ⟨e, n, ne, nf, d⟩ := I.pin p hp
      exact ⟨(hs.2 p.1 ne).trans e, n, ne, nf, d⟩
  · have hfn : X.fn x = true := by
      rcases hf with z | z
      · exact z
      · rw [z] at hk; cases hk
    obtain ⟨c, hc⟩ := I.ok.has x (.inl hk)
    obtain ⟨w', z⟩ := I.cell x c hc
    refine wpAny_storeName_cell I.ok.kind hk hc z (fun h' hc' hs => ?_)
    obtain ⟨oc, hoc, hocd⟩ := id z
    refine h { s with heap := h' } ⟨I.ok, I.os, I.bare, ⟨fun b o e n hb hx => ?_, fun b o e n hb hx => ?_, I.base.free, fun b o e hx => ?_, I.base.tups, I.base.frzs, I.base.tbls⟩, ⟨m, hn.sameBut hs (Ne.symm (cne x c hc)), fun j y v' e1 e2 e3 => ?_⟩, fun y c' e => ?_, I.free, I.freeC, fun p hp => ?_, tracked ⟨oc, hoc, I.freeC x c hc⟩ hs, by simpa using I.len⟩ ⟨c, hs, .inr hc⟩
    · exact (hs.2 b (Nat.ne_of_lt (Nat.lt_of_lt_of_le (Heap.lt_size e) (I.ok.cab x c hfn hc)))).trans (I.base.keep b o e n hb hx)
    · obtain ⟨sl, e1⟩ := I.base.slot b o e n hb hx
      exact ⟨sl, (hs.2 b (Nat.ne_of_lt (Nat.lt_of_lt_of_le (Heap.lt_size e) (I.ok.cab x c hfn hc)))).trans e1⟩
    · obtain ⟨o', e1⟩ := I.base.there b o e hx
      exact ⟨o', (hs.2 b (Nat.ne_of_lt (Nat.lt_of_lt_of_le (Heap.lt_size e) (I.ok.cab x c hfn hc)))).trans e1⟩
    · by_cases hj : j = i
      · subst hj
        rw [hi] at e1; cases e1
        rw [List.getElem?_set_self hiσ] at e2
        cases e2
        exact ⟨u, r, .inr ⟨.inl hk, c, hc, hc'⟩⟩
      · rw [List.getElem?_set_ne (Ne.symm hj)] at e2
        obtain ⟨u', r', q⟩ := hl j y v' e1 e2 e3
        refine ⟨u', r', ?_⟩
        rcases q with q | ⟨k, c', e, z'⟩
        · exact .inl q
        · refine .inr ⟨k, c', e, z'.sameBut hs ?_⟩
          rintro rfl
          exact hj (nodup_ix hN e1 (I.ok.inj _ _ _ e hc ▸ hi))
    · by_cases hcc : c' = c
      · subst hcc; exact ⟨_, hc'⟩
      · obtain ⟨w2, z2⟩ := I.cell y c' e
        exact ⟨w2, z2.sameBut hs hcc⟩
    · obtain ⟨e, n, ne, nf, d⟩ := I.pin p hp
      refine ⟨(hs.2 p.1 ?_).trans e, n, ne, nf, d⟩
      intro q
      rw [q, hoc] at e
      have q' : oc = p.2 := Option.some.inj e
      exact d w' (by rw [← q']; exact hocd)
theorem store_ok {M : Model} {A : Around} {E : Value → Shared → Prop} {i : Nat} {x : Str} {v : V} {u : Value} {Q : Unit → Shared → Prop} (I : Inv X pins σ H s) (hN : X.N.Nodup) (hi : X.N[i]? = some x) (hx : Loc X.env.scope x) (r : RelV v u)
    (h : ∀ s', Inv X pins (σ.set i (some v)) H s' → Q () s') (hf : X.fn x = true ∨ X.env.scope.names.lookup x = some .local := by first | exact .inl rfl | exact .inr rfl | assumption) : wpAny M A (storeName X.env x u) Q E s :=
  store_ok2 I hN hi hx r (fun s' I' _ => h s' I') hf
theorem Inv.call' {s' : Shared} {ch : List Addr} (I : Inv X pins σ H s) (ho : s'.os = s.os) (u : Un (frs X.stack) ch H H' s.heap s'.heap) (hok : HOk X.prog X.w H' s'.heap) (hg : AllBare s'.gens)
    (hch : ∀ b ∈ ch, (b ∈ X.ex ∨ X.s_0.heap.objs.size ≤ b) ∧ b ≠ X.env.locals ∧ (∀ x c, X.env.cells.lookup x = some c → c ≠ b) ∧ ∀ p ∈ X.pn ++ pins, p.1 ≠ b) : Inv X pins σ H' s' := by
  obtain ⟨h', g', d', t', o'⟩ := s'
  have e : o' = s.os := ho
  subst e
  exact I.call (g' := g') (t' := t') (d' := d') u hok hg hch
end
abbrev XK := Value → Option Addr → Hp → Prop
abbrev St := List (Option V)
abbrev VK := V → Hp → Prop
abbrev TE := St → Hp → VK → Prop
abbrev TT := St → Hp → (Bool → Hp → Prop) → Prop
abbrev TA := St → Hp → (List V → Hp → Prop) → Prop
structure Ends where
  nx : St → Hp → Prop
  rt : VK
  bk : St → Hp → Prop := fun _ _ => False
  ct : St → Hp → Prop := fun _ _ => False
abbrev TS := Ends → St → Hp → Prop
def EP (X : Cx) (pins : List (Addr × Obj)) (σ : St) (Q : VK) (u : Value) (s' : Shared) : Prop := ∃ v H', Inv X pins σ H' s' ∧ RelV v u ∧ Q v H'
def TP (X : Cx) (pins : List (Addr × Obj)) (σ : St) (Q : Bool → Hp → Prop) (b : Bool) (s' : Shared) : Prop := ∃ H', Inv X pins σ H' s' ∧ Q b H'
def AP (X : Cx) (pins : List (Addr × Obj)) (σ : St) (Q : List V → Hp → Prop) (us : List Value) (s' : Shared) : Prop := ∃ vs H', Inv X pins σ H' s' ∧ Vals vs us ∧ Q vs H'
def SP (X : Cx) (pins : List (Addr × Obj)) (D : Ends) (f : Flow) (s' : Shared) : Prop :=
  match f with
  | .next => ∃ σ' H', Inv X pins σ' H' s' ∧ D.nx σ' H'
  | .brk => ∃ σ' H', Inv X pins σ' H' s' ∧ D.bk σ' H'
  | .cont => ∃ σ' H', Inv X pins σ' H' s' ∧ D.ct σ' H'
  | .ret u => ∃ v σ' H', Inv X pins σ' H' s' ∧ RelV v u ∧ D.rt v H'
def PE (X : Cx) (e : Expr) (t : TE) : Prop :=
  ∀ (pins : List (Addr × Obj)) (s : Shared) (σ : St) (H : Hp) (Q : VK), Inv X pins σ H s → t σ H Q → wpAny (model X.prog X.w) X.A (eval e X.env) (EP X pins σ Q) X.xe s
def PT (X : Cx) (e : Expr) (t : TT) : Prop :=
  ∀ (pins : List (Addr × Obj)) (s : Shared) (σ : St) (H : Hp) (Q : Bool → Hp → Prop), Inv X pins σ H s → t σ H Q → wpAny (model X.prog X.w) X.A (isTrue e X.env (eval e X.env)) (TP X pins σ Q) X.xe s
def PW (X : Cx) (e : Expr) (t : TT) : Prop :=
  ∀ (whole : Sem Value) (pins : List (Addr × Obj)) (s : Shared) (σ : St) (H : Hp) (Q : Bool → Hp → Prop), Inv X pins σ H s → t σ H Q → wpAny (model X.prog X.w) X.A (isTrue e X.env whole) (TP X pins σ Q) X.xe s
theorem PW.pt {X : Cx} {e : Expr} {t : TT} (h : PW X e t) : PT X e t := h _
def PA (X : Cx) (es : List Expr) (t : TA) : Prop :=
  ∀ (pos : Pos) (pins : List (Addr × Obj)) (s : Shared) (σ : St) (H : Hp) (Q : List V → Hp → Prop), Inv X pins σ H s → t σ H Q → wpAny (model X.prog X.w) X.A (spliced (backTo pos (starEach es X.env))) (AP X pins σ Q) X.xe s
def PS (X : Cx) (st : Stmt) (t : TS) : Prop :=
  ∀ (pins : List (Addr × Obj)) (s : Shared) (σ : St) (H : Hp) (D : Ends), Inv X pins σ H s → t D σ H → wpAny (model X.prog X.w) X.A (exec st X.env) (SP X pins D) X.xe s
def PSs (X : Cx) (st : List Stmt) (t : TS) : Prop :=
  ∀ (pins : List (Addr × Obj)) (s : Shared) (σ : St) (H : Hp) (D : Ends), Inv X pins σ H s → t D σ H → wpAny (model X.prog X.w) X.A (execs st X.env) (SP X pins D) X.xe s
theorem thn {α : Type} {t : Sem α} {Q Q' : α → Shared → Prop} {M : Model} {A : Around} {E : Value → Shared → Prop} {s : Shared} (h : wpAny M A t Q E s) (hQ : ∀ a s, Q a s → Q' a s) : wpAny M A t Q' E s := wpAny_mono h hQ fun _ _ x => x
end L2
namespace L2
open PySem PySem.Spec PyProof.Rows
section
variable {X : Cx}
theorem bin {a b : Expr} {ta tb : TE} (ha : PE X a ta) (hb : PE X b tb) {pins : List (Addr × Obj)} {s : Shared} {σ : St} {H : Hp} {R : V → V → Hp → Prop} (I : Inv X pins σ H s) (h : ta σ H fun x H1 => tb σ H1 fun y H2 => R x y H2)
    {α : Type} {Q : α → Shared → Prop} {f : Value → Value → Sem α}
    (hf : ∀ v u s2 x y H2, Inv X pins σ H2 s2 → RelV x v → RelV y u → R x y H2 → wpAny (model X.prog X.w) X.A (f v u) Q X.xe s2) :
    wpAny (model X.prog X.w) X.A (eval a X.env) (fun v s₁ => wpAny (model X.prog X.w) X.A (eval b X.env) (fun u s₂ => wpAny (model X.prog X.w) X.A (f v u) Q X.xe s₂) X.xe s₁) X.xe s := by
  refine thn (ha pins s σ H _ I h) fun v s1 ⟨x, H1, I1, r1, q1⟩ => ?_
  refine thn (hb pins s1 σ H1 _ I1 q1) fun u s2 ⟨y, H2, I2, r2, q2⟩ => ?_
  exact hf v u s2 x y H2 I2 r1 r2 q2
def tVar (i : Nat) : TE := fun σ H Q => ∃ v, σ[i]? = some (some v) ∧ Q v H
def tC (v : V) : TE := fun _ H Q => Q v H
theorem pe_var {i : Nat} {x : Str} {pos : Pos} (hN : X.N[i]? = some x) (hv : Vis X.env.scope x) (hd : (x == ("__debug__" : Str)) = false := by decide) (hcd : (x == ("__classdict__" : Str)) = false := by decide) : PE X (.Name x pos) (tVar i) := by
  intro pins s σ H Q I h
  obtain ⟨v, e, h⟩ := h
  obtain ⟨m, hn, hl⟩ := I.loc
  obtain ⟨u, r, l⟩ := hl i x v hN e hv
  have fin : EP X pins σ Q u s := ⟨v, H, I, r, h⟩
  rcases l with ⟨hk, hm⟩ | ⟨hk, c, hc, hcell⟩
  · exact wpAny_Name (wpAny_loadName_local I.ok.kind hk hn hm fin) hd
  · rcases hk with hk | hk
    · exact wpAny_Name (wpAny_loadName_cell I.ok.kind hk hc hcell fin) hd
    · exact wpAny_Name (wpAny_loadName_free I.ok.kind hk hc hcell fin hcd) hd
theorem pe_int {i j pos} : PE X (.Constant (.int i) j pos) (tC (.int i)) := fun _ _ _ H _ I h => wpAny_Constant_int ⟨.int i, H, I.tok _, ⟨_, rfl⟩, h⟩
theorem pe_bl {b j pos} : PE X (.Constant (.bool b) j pos) (tC (.bl b)) := fun _ _ _ H _ I h => Constant_bool ⟨.bl b, H, I, rfl, h⟩
theorem pe_non {j pos} : PE X (.Constant .none j pos) (tC .non) := fun _ _ _ H _ I h => Constant_none ⟨.non, H, I, rfl, h⟩
def Gl (X : Cx) (x : Str) : Prop := X.env.kindOf x = some .globalImplicit
theorem ld_glob {E : Value → Shared → Prop} {pins : List (Addr × Obj)} {s : Shared} {σ : St} {H : Hp} {x : Str} {u : Value} {pos : Pos} {Q : Value → Shared → Prop} (I : Inv X pins σ H s) (hg : Gl X x) (hm : X.mg x = some u) (h : Q u s)
    (hd : (x == ("__debug__" : Str)) = false := by decide) : wpAny (model X.prog X.w) X.A (eval (.Name x pos) X.env) Q E s :=
  Calls.Name_function_global I.ok.kind hg (Calls.loadGlobal_global (by rw [I.ok.glob]; exact I.mod.glob.keeps I.bk) hm h) hd
theorem ld_blt {E : Value → Shared → Prop} {pins : List (Addr × Obj)} {s : Shared} {σ : St} {H : Hp} {x : Str} {u : Value} {pos : Pos} {Q : Value → Shared → Prop} (I : Inv X pins σ H s) (hg : Gl X x) (hm : X.mg x = none) (hv : bootBuiltins x = some u) (h : Q u s)
    (hn : x ≠ "__name__" := by decide) (hd : (x == ("__debug__" : Str)) = false := by decide) : wpAny (model X.prog X.w) X.A (eval (.Name x pos) X.env) Q E s := by
  obtain ⟨mb, h1, h2⟩ := I.mod.blt
  exact Calls.Name_function_global I.ok.kind hg (Calls.loadGlobal_builtin (by rw [I.ok.glob]; exact I.mod.glob.keeps I.bk) hm (by rw [I.ok.blt]; exact h1.keeps I.bk) ((h2 x hn).trans hv) h) hd
theorem pe_glob {x : Str} {v : V} {u : Value} {pos : Pos} (hg : Gl X x) (hm : X.mg x = some u) (r : RelV v u) (hd : (x == ("__debug__" : Str)) = false := by decide) : PE X (.Name x pos) (tC v) :=
  fun _ _ _ H _ I h => ld_glob I hg hm ⟨v, H, I, r, h⟩ hd
variable {a b : Expr} {ta tb : TE} {pos : Pos}
def PC (X : Cx) (op : CmpOp) (a b : Expr) (t : TE) : Prop :=
  ∀ (pins : List (Addr × Obj)) (s : Shared) (σ : St) (H : Hp) (Q : VK), Inv X pins σ H s → t σ H Q →
    wpAny (model X.prog X.w) X.A (eval a X.env) (fun v s₁ => wpAny (model X.prog X.w) X.A (eval b X.env) (fun u s₂ => wpAny (model X.prog X.w) X.A (compareOp op v u) (EP X pins σ Q) X.xe s₂) X.xe s₁) X.xe s
def tB (t : TE) : TT := fun σ H Q => t σ H fun x H1 => ∃ c, x = .bl c ∧ Q c H1
theorem pt_cmp {op : CmpOp} {t : TE} (h : PC X op a b t) (h1 : behindInMarks op b = false := by first | exact nobehind _ (by decide) (by decide) | rfl) : PT X (.Compare a [op] [b] pos) (tB t) := by
  intro pins s σ H Q I hw
  refine wpAny_isTrue_Compare1 (thn (h pins s σ H _ I hw) fun v s1 h1 => thn h1 fun u s2 h2 => thn h2 fun c s3 ⟨x, H1, I1, r1, q1⟩ => ?_) h1
  obtain ⟨d, rfl, q⟩ := q1
  cases r1
  exact wpAny_truthy_bool ⟨H1, I1, q⟩
theorem pt_val {e : Expr} {t : TE} (h : PE X e t) (he : ∀ whole, isTrue e X.env whole = (do let v ← whole; standAt e.pos; holding [v] (truthy v)) := by intro _; rfl) : PT X e (tB t) := by
  intro pins s σ H Q I hw
  refine isTrue_plain (thn (h pins s σ H _ I hw) fun v s1 ⟨x, H1, I1, r1, q1⟩ => ?_) (he _)
  obtain ⟨d, rfl, q⟩ := q1
  cases r1
  exact wpAny_truthy_bool ⟨H1, I1, q⟩
variable {tA tB' : TT} {rest : List Expr}
def tAnd (t u : TT) : TT := fun σ H Q => t σ H fun c H1 => if c = true then u σ H1 Q else Q false H1
def tOr (t u : TT) : TT := fun σ H Q => t σ H fun c H1 => if c = true then Q true H1 else u σ H1 Q
def tNot (t : TT) : TT := fun σ H Q => t σ H fun c H1 => Q (!c) H1
theorem pw_and1 (ha : PT X a tA) : PW X (.BoolOp .And [a] pos) tA := by
  intro wh pins s σ H Q I h
  refine isTrue_and (thn (ha pins s σ H Q I h) fun c s1 e => ?_)
  cases c with
  | true => exact isTrue_and_nil e
  | false => exact e
theorem pw_or1 (ha : PT X a tA) : PW X (.BoolOp .Or [a] pos) tA := by
  intro wh pins s σ H Q I h
  refine isTrue_or (thn (ha pins s σ H Q I h) fun c s1 e => ?_)
  cases c with
  | false => exact isTrue_or_nil e
  | true => exact e
theorem pw_and (ha : PT X a tA) (hb : PW X (.BoolOp .And (b :: rest) pos) tB') : PW X (.BoolOp .And (a :: b :: rest) pos) (tAnd tA tB') := by
  intro wh pins s σ H Q I h
  refine isTrue_and (thn (ha pins s σ H _ I h) fun c s1 ⟨H1, I1, q1⟩ => ?_)
  cases c with
  | true => exact hb wh pins s1 σ H1 Q I1 q1
  | false => exact ⟨H1, I1, q1⟩
theorem pw_or (ha : PT X a tA) (hb : PW X (.BoolOp .Or (b :: rest) pos) tB') : PW X (.BoolOp .Or (a :: b :: rest) pos) (tOr tA tB') := by
  intro wh pins s σ H Q I h
  refine isTrue_or (thn (ha pins s σ H _ I h) fun c s1 ⟨H1, I1, q1⟩ => ?_)
  cases c with
  | true => exact ⟨H1, I1, q1⟩
  | false => exact hb wh pins s1 σ H1 Q I1 q1
theorem pt_not (ha : PT X a tA) : PT X (.UnaryOp .Not a pos) (tNot tA) := by
  intro pins s σ H Q I h
  exact isTrue_not (ha pins s σ H (fun c H1 => Q (!c) H1) I h)
def tAndV (ta tb : TE) : TE := fun σ H Q => ta σ H fun x H1 => ∃ c, x = .bl c ∧ if c = true then tb σ H1 Q else Q (.bl false) H1
theorem pe_one {op} {t : TE} (h : PE X a t) : PE X (.BoolOp op [a] pos) t := fun pins s σ H Q I hw => BoolOp_one (h pins s σ H Q I hw)
theorem pe_and (ha : PE X a ta) (hb : PE X (.BoolOp .And (b :: rest) pos) tb) : PE X (.BoolOp .And (a :: b :: rest) pos) (tAndV ta tb) := by
  intro pins s σ H Q I h
  refine BoolOp_and (thn (ha pins s σ H _ I h) fun v s1 ⟨x, H1, I1, r1, q1⟩ => ?_)
  obtain ⟨c, rfl, q1⟩ := q1
  cases r1
  refine wpAny_truthy_bool ?_
  cases c with
  | true => exact hb pins s1 σ H1 Q I1 q1
  | false => exact ⟨.bl false, H1, I1, rfl, q1⟩
def tIf (t : TT) (ta tb : TE) : TE := fun σ H Q => t σ H fun c H1 => if c = true then ta σ H1 Q else tb σ H1 Q
theorem pe_ifExp {c : Expr} (hc : PT X c tA) (ha : PE X a ta) (hb : PE X b tb) : PE X (.IfExp c a b pos) (tIf tA ta tb) := by
  intro pins s σ H Q I h
  refine wpAny_IfExp (thn (hc pins s σ H _ I h) fun d s1 ⟨H1, I1, q1⟩ => ?_)
  cases d with
  | true => exact ha pins s1 σ H1 Q I1 q1
  | false => exact hb pins s1 σ H1 Q I1 q1
end
end L2
namespace L2
open PySem PySem.Spec PyProof.Rows
def SqL (K : PySem.W.Frag) (H : Hp) (a : Addr) (xs : List V) : Prop :=
  Rd H a (.lst xs) ∨
    ∃ (o : Obj) (its : Array Value) (n : Nat), K.lookup a = some o ∧ o.cls = .type "list" ∧ o.dict = none ∧ o.data = .seq its n ∧ its.size ≤ sizeLine ∧ Vals xs its.toList
def SqT (K : PySem.W.Frag) (H : Hp) (a : Addr) (xs : List V) : Prop :=
  Rd H a (.tup xs) ∨
    ∃ (o : Obj) (its : Array Value) (n : Nat), K.lookup a = some o ∧ o.cls = .type "tuple" ∧ o.data = .seq its n ∧ its.size ≤ sizeLine ∧ Vals xs its.toList
def absV : Value → Option V
  | .none => some .non
  | .bool b => some (.bl b)
  | .int i _ => some (.int i)
  | .str x _ => some (.str x)
  | .bytes b _ => some (.byt b)
  | .float b _ => some (.flt b)
  | .ref a => some (.ref a)
  | .type n => some (.ty n)
  | _ => none
theorem RelV.abs {x : V} {u : Value} (r : RelV x u) : absV u = some x := by
  cases x with
  | non => cases r; rfl
  | bl _ => cases r; rfl
  | int _ => obtain ⟨t, rfl⟩ := r; rfl
  | str _ => obtain ⟨t, rfl⟩ := r; rfl
  | byt _ => obtain ⟨t, rfl⟩ := r; rfl
  | flt _ => obtain ⟨t, rfl⟩ := r; rfl
  | ref _ => cases r; rfl
  | ty _ => cases r; rfl
theorem RelV.inj {x y : V} {u : Value} (r : RelV x u) (q : RelV y u) : x = y := Option.some.inj (r.abs.symm.trans q.abs)
theorem Vals.inj : ∀ {xs ys : List V} {us : List Value}, Vals xs us → Vals ys us → xs = ys
  | _, _, _, .nil, .nil => rfl
  | _, _, _, .cons r t, .cons r' t' => by rw [r.inj r', Vals.inj t t']
section
variable {X : Cx} {pins : List (Addr × Obj)} {σ : St} {H : Hp} {s : Shared} {a : Addr} {xs ys : List V}
theorem SqL.of {K : PySem.W.Frag} (h : H a = some (.lst xs)) : SqL K H a xs := .inl (.inl h)
theorem SqT.of {K : PySem.W.Frag} (h : H a = some (.tup xs)) : SqT K H a xs := .inl (.inl h)
theorem Inv.list (I : Inv X pins σ H s) (h : SqL X.K H a xs) : ∃ its : List Value, Vals xs its ∧ PlainL s.heap a its.toArray ∧ xs.length ≤ sizeLine := by
  rcases h with h | ⟨o, its, n, hk, hc, hd, hs, hz, r⟩
  · obtain ⟨z, its, n, r, e⟩ := h.ok I.hok
    exact ⟨its, r, ⟨_, n, e, rfl, rfl, rfl⟩, z⟩
  · refine ⟨its.toList, r, ⟨o, n, I.kIn a o hk, hc, hd, by simpa using hs⟩, ?_⟩
    have e := r.length
    simp only [Array.length_toList] at e
    omega
theorem Inv.tuple (I : Inv X pins σ H s) (h : SqT X.K H a xs) : ∃ its : List Value, Vals xs its ∧ IsTup s.heap a its.toArray ∧ xs.length ≤ sizeLine := by
  rcases h with h | ⟨o, its, n, hk, hc, hs, hz, r⟩
  · obtain ⟨z, its, r, p⟩ := h.ok I.hok
    exact ⟨its, r, p, z⟩
  · refine ⟨its.toList, r, ⟨o, I.kIn a o hk, hc, n, by simpa using hs⟩, ?_⟩
    have e := r.length
    simp only [Array.length_toList] at e
    omega
theorem Inv.list_inj (I : Inv X pins σ H s) (h : SqL X.K H a xs) (h' : SqL X.K H a ys) : xs = ys := by
  obtain ⟨its, r, ⟨o, n, e, _, _, d⟩, _⟩ := I.list h
  obtain ⟨its', r', ⟨o', n', e', _, _, d'⟩, _⟩ := I.list h'
  rw [e] at e'; cases e'
  rw [d] at d'
  injection d' with d1 _
  have : its = its' := by simpa using congrArg Array.toList d1
  subst this
  exact r.inj r'
end
abbrev Cx.wish (X : Cx) (E : Value → Shared → Prop) : Cx := { X with xe := E }
abbrev Cx.nox (X : Cx) : Cx := X.wish fun _ _ => False
theorem Cx.Ok.wish {X : Cx} (ok : X.Ok) (E : Value → Shared → Prop) : (X.wish E).Ok :=
  ⟨ok.mod, ok.kind, ok.glob, ok.blt, ok.above, ok.inj, ok.has, ok.cab, ok.hd, ok.frames, ok.stk, ok.exf, ok.bs, ok.bsz, ok.noex, ok.exfs, ok.funs, ok.frf⟩
theorem Cx.Ok.unwish {X : Cx} {E : Value → Shared → Prop} (ok : (X.wish E).Ok) : X.Ok :=
  ⟨ok.mod, ok.kind, ok.glob, ok.blt, ok.above, ok.inj, ok.has, ok.cab, ok.hd, ok.frames, ok.stk, ok.exf, ok.bs, ok.bsz, ok.noex, ok.exfs, ok.funs, ok.frf⟩
section
variable {X : Cx} {pins : List (Addr × Obj)} {σ : St} {H : Hp} {s : Shared} {E : Value → Shared → Prop}
theorem Inv.wish (I : Inv X pins σ H s) (E : Value → Shared → Prop) : Inv (X.wish E) pins σ H s := ⟨I.ok.wish E, I.os, I.bare, I.base, I.loc, I.cell, I.free, I.freeC, I.pin, I.hok, I.len⟩
theorem Inv.unwish (I : Inv (X.wish E) pins σ H s) : Inv X pins σ H s := ⟨I.ok.unwish, I.os, I.bare, I.base, I.loc, I.cell, I.free, I.freeC, I.pin, I.hok, I.len⟩
theorem SP.unwish {D : Ends} {f : Flow} {s' : Shared} (h : SP (X.wish E) pins D f s') : SP X pins D f s' := by
  cases f with
  | next => obtain ⟨σ', H', I, q⟩ := h; exact ⟨σ', H', I.unwish, q⟩
  | brk => obtain ⟨σ', H', I, q⟩ := h; exact ⟨σ', H', I.unwish, q⟩
  | cont => obtain ⟨σ', H', I, q⟩ := h; exact ⟨σ', H', I.unwish, q⟩
  | ret u => obtain ⟨v, σ', H', I, r, q⟩ := h; exact ⟨v, σ', H', I.unwish, r, q⟩
theorem PSs.nox {st : List Stmt} {t : TS} (h : PSs X.nox st t) : PSs X st t := fun pins s σ H D I hw =>
  wpAny_mono (h pins s σ H D (I.wish _) hw) (fun _ _ q => q.unwish) fun _ _ z => False.elim z
end
section
variable {X : Cx} {st : Stmt} {rest : List Stmt} {t u : TS} {e : Expr} {te : TE} {pos : Pos}
def tNext : TS := fun D σ H => D.nx σ H
def tSeq (t u : TS) : TS := fun D σ H => t { D with nx := u D } σ H
theorem pss_nil : PSs X [] tNext := fun _ _ σ H _ I h => wpAny_execs_nil ⟨σ, H, I, h⟩
theorem pss_cons (h1 : PS X st t) (h2 : PSs X rest u) : PSs X (st :: rest) (tSeq t u) := by
  intro pins s σ H D I h
  refine wpAny_execs_cons (thn (h1 pins s σ H { D with nx := u D } I h) fun f s1 q => ?_)
  cases f with
  | next =>
    obtain ⟨σ', H', I', q⟩ := q
    exact h2 pins s1 σ' H' D I' q
  | ret v => exact q
  | brk => exact q
  | cont => exact q
theorem pss_one (h1 : PS X st t) : PSs X [st] t := by
  intro pins s σ H D I h
  refine wpAny_execs_cons (thn (h1 pins s σ H D I h) fun f s1 q => ?_)
  cases f with
  | next => exact wpAny_execs_nil q
  | ret v => exact q
  | brk => exact q
  | cont => exact q
theorem Inv.quiet {pins : List (Addr × Obj)} {σ : St} {H : Hp} {s : Shared} (I : Inv X pins σ H s) : interactive X.env = false := by simp [interactive, I.ok.kind]
def tDrop (te : TE) : TS := fun D σ H => te σ H fun _ H1 => D.nx σ H1
theorem ps_expr (he : PE X e te) (hs : swapsWith e none pos.line X.env = pure false := by rfl) : PS X (.Expr e pos) (tDrop te) := by
  intro pins s σ H D I h
  exact wpAny_Expr_any (thn (he pins s σ H _ I h) fun v s1 ⟨x, H1, I1, r1, q1⟩ => ⟨σ, H1, I1, q1⟩) I.quiet hs
def tRet (te : TE) : TS := fun D σ H => te σ H D.rt
theorem ps_ret (he : PE X e te) : PS X (.Return (some e) pos) (tRet te) := by
  intro pins s σ H D I h
  exact wpAny_Return_some (thn (he pins s σ H _ I h) fun v s1 ⟨x, H1, I1, r1, q1⟩ => ⟨x, σ, H1, I1, r1, q1⟩)
def tIfS (c : TT) (t u : TS) : TS := fun D σ H => c σ H fun b H1 => if b = true then t D σ H1 else u D σ H1
theorem ps_if {c : Expr} {a b : List Stmt} {tc : TT} (hc : PT X c tc) (ha : PSs X a t) (hb : PSs X b u) : PS X (.If c a b pos) (tIfS tc t u) := by
  intro pins s σ H D I h
  refine wpAny_If (thn (hc pins s σ H _ I h) fun d s1 ⟨H1, I1, q1⟩ => ?_)
  cases d with
  | true => exact ha pins s1 σ H1 D I1 q1
  | false => exact hb pins s1 σ H1 D I1 q1
def tNever : TS := fun _ _ _ => False
theorem ps_never : PS X st tNever := fun _ _ _ _ _ _ h => h.elim
end
abbrev TG := V → St → Hp → (St → Hp → Prop) → Prop
abbrev TGs := List V → St → Hp → (St → Hp → Prop) → Prop
def PG (X : Cx) (target : Expr) (t : TG) : Prop :=
  ∀ (pins : List (Addr × Obj)) (s : Shared) (σ : St) (H : Hp) (v : V) (u : Value) (Q : St → Hp → Prop), Inv X pins σ H s → RelV v u → t v σ H Q →
    wpAny (model X.prog X.w) X.A (assign target X.env u) (fun _ s' => ∃ σ' H', Inv X pins σ' H' s' ∧ Q σ' H') X.xe s
def PGs (X : Cx) (ts : List Expr) (t : TGs) : Prop :=
  ∀ (pins : List (Addr × Obj)) (s : Shared) (σ : St) (H : Hp) (vs : List V) (us : List Value) (Q : St → Hp → Prop), Inv X pins σ H s → Vals vs us → t vs σ H Q →
    wpAny (model X.prog X.w) X.A (assignInOrder ((assignEach ts X.env).map (·.2)) us) (fun _ s' => ∃ σ' H', Inv X pins σ' H' s' ∧ Q σ' H') X.xe s
abbrev TSet := V → V → V → Hp → (Hp → Prop) → Prop
def PSet (X : Cx) (t : TSet) : Prop :=
  ∀ (pins : List (Addr × Obj)) (s : Shared) (σ : St) (H : Hp) (o i v : V) (ov iv u : Value) (Q : Hp → Prop), Inv X pins σ H s → RelV o ov → RelV i iv → RelV v u → t o i v H Q →
    wpAny (model X.prog X.w) X.A (setItem ov iv u) (fun _ s' => ∃ H', Inv X pins σ H' s' ∧ Q H') X.xe s
abbrev TIp := V → V → Hp → VK → Prop
def PIp (X : Cx) (op : Operator) (t : TIp) : Prop :=
  ∀ (pins : List (Addr × Obj)) (s : Shared) (σ : St) (H : Hp) (x y : V) (v u : Value) (Q : VK), Inv X pins σ H s → RelV x v → RelV y u → t x y H Q →
    wpAny (model X.prog X.w) X.A (inplaceOp op v u) (EP X pins σ Q) X.xe s
section
variable {X : Cx} {pos : Pos}
def gName (i : Nat) : TG := fun v σ H Q => Q (σ.set i (some v)) H
theorem pg_name {i : Nat} {x : Str} (hN : X.N.Nodup) (hi : X.N[i]? = some x) (hx : Loc X.env.scope x) (hf : X.fn x = true ∨ X.env.scope.names.lookup x = some .local := by first | exact .inl rfl | exact .inr rfl | assumption) : PG X (.Name x pos) (gName i) := by
  intro pins s σ H v u Q I r h
  exact wpAny_assign_Name (store_ok I hN hi hx r (fun s' I' => ⟨_, H, I', h⟩) hf)
def gNil : TGs := fun vs σ H Q => vs = [] ∧ Q σ H
def gCons (t : TG) (u : TGs) : TGs := fun vs σ H Q => ∃ v r, vs = v :: r ∧ t v σ H fun σ' H' => u r σ' H' Q
theorem pgs_nil : PGs X [] gNil := by
  intro pins s σ H vs us Q I r h
  obtain ⟨e, h⟩ := h
  subst e
  cases r
  exact assignInOrder_nil ⟨σ, H, I, h⟩
theorem pgs_cons {e : Expr} {es : List Expr} {t : TG} {u : TGs} (h1 : PG X e t) (h2 : PGs X es u)
    (hs : (assignEach (e :: es) X.env).map (·.2) = assign e X.env :: (assignEach es X.env).map (·.2) := by rfl) : PGs X (e :: es) (gCons t u) := by
  intro pins s σ H vs us Q I r h
  obtain ⟨v, vr, e1, h⟩ := h
  subst e1
  cases r with
  | cons r rr =>
    rw [hs]
    refine assignInOrder_cons (thn (h1 pins s σ H _ _ _ I r h) fun _ s1 ⟨σ1, H1, I1, q1⟩ => ?_)
    exact h2 pins s1 σ1 H1 _ _ Q I1 rr q1
def gTup (K : PySem.W.Frag) (n : Nat) (t : TGs) : TG := fun v σ H Q => ∃ a xs, v = .ref a ∧ SqT K H a xs ∧ xs.length = n ∧ t xs σ H Q
theorem pg_tup {es : List Expr} {k : Nat} {t : TGs} {n : Nat} (hc : X.calm = true) (h : PGs X es t)
    (hn : (assignEach es X.env).length = n := by rfl) (hst : (assignEach es X.env).findIdx? (·.1) = none := by rfl) : PG X (.Tuple es k pos) (gTup X.K n t) := by
  intro pins s σ H v u Q I r hw
  obtain ⟨a, xs, e1, hq, hl, hw⟩ := hw
  subst e1
  cases r
  obtain ⟨its, rv, ht, hz⟩ := I.tuple hq
  refine assign_Tuple_tuple (I.ok.hd hc) ht (by simp [hn, ← hl, rv.length]) hst fun h' hx => ?_
  have I1 : Inv X pins σ H { s with heap := h' } := I.kept (t' := s.toks) fun b o e => hx b o (Nat.ne_of_lt (Heap.lt_size e)) e
  exact h pins _ σ H xs _ Q I1 (by simpa using rv) hw
def gSub (to ti : TE) (t : TSet) : TG := fun v σ H Q => to σ H fun o H1 => ti σ H1 fun i H2 => t o i v H2 fun H3 => Q σ H3
theorem pg_sub {o i : Expr} {to ti : TE} {t : TSet} (ho : PE X o to) (hi : PE X i ti) (hs : PSet X t)
    (ha : ∀ v, assign (.Subscript o i pos) X.env v = (do
      let ov ← holding [v] (eval o X.env)
      let iv ← holding [v, ov] (eval i X.env)
      standAt pos
      holding [v, ov, iv] (setItem ov iv v)
      release [v, ov, iv] []) := by intro _; rfl) : PG X (.Subscript o i pos) (gSub to ti t) := by
  intro pins s σ H v u Q I r h
  rw [ha]
  refine wpAny_bind (wpAny_holding (thn (ho pins s σ H _ I h) fun ov s1 ⟨x, H1, I1, r1, q1⟩ => ?_))
  refine wpAny_bind (wpAny_holding (thn (hi pins s1 σ H1 _ I1 q1) fun iv s2 ⟨y, H2, I2, r2, q2⟩ => ?_))
  refine wpAny_bind (wpAny_standAt (wpAny_bind (wpAny_holding (thn (hs pins s2 σ H2 x y v ov iv u _ I2 r1 r2 r q2) fun _ s3 ⟨H3, I3, q3⟩ => ?_))))
  exact wpAny_release ⟨σ, H3, I3, q3⟩
def tAsg (te : TE) (g : TG) : TS := fun D σ H => te σ H fun x H1 => g x σ H1 D.nx
theorem ps_asg {tg e : Expr} {te : TE} {g : TG} (he : PE X e te) (hg : PG X tg g) (hs : swapsWithSole [tg] e pos.line X.env = pure false := by rfl) (hw : swappedStores [tg] e X.env = pure none := by rfl)
    (h1 : (assignEach [tg] X.env).map (·.2) = [assign tg X.env] := by rfl) : PS X (.Assign [tg] e pos) (tAsg te g) := by
  intro pins s σ H D I h
  refine wpAny_Assign_stores (thn (he pins s σ H _ I h) fun v s1 ⟨x, H1, I1, r1, q1⟩ => ?_) hs hw
  rw [h1]
  exact thn (hg pins s1 σ H1 x v _ I1 r1 q1) fun _ s2 q => q
theorem ps_set {i : Nat} {x : Str} {e : Expr} {te : TE} {pos' : Pos} (hN : X.N.Nodup) (hi : X.N[i]? = some x) (hx : Loc X.env.scope x) (he : PE X e te) (hs : swapsWith e (some (.Name x pos')) pos.line X.env = pure false := by rfl) (hf : X.fn x = true ∨ X.env.scope.names.lookup x = some .local := by first | exact .inl rfl | exact .inr rfl | assumption) :
    PS X (.Assign [.Name x pos'] e pos) (tAsg te (gName i)) := by
  intro pins s σ H D I h
  refine wpAny_Assign_Name (thn (he pins s σ H _ I h) fun v s1 ⟨y, H1, I1, r1, q1⟩ => ?_) hs
  exact store_ok I1 hN hi hx r1 (fun s2 I2 => ⟨_, H1, I2, q1⟩) hf
def tAug (i : Nat) (te : TE) (ti : TIp) : TS := fun D σ H => ∃ x, σ[i]? = some (some x) ∧ te σ H fun y H1 => ti x y H1 fun z H2 => D.nx (σ.set i (some z)) H2
theorem ps_aug {i : Nat} {x : Str} {e : Expr} {te : TE} {op : Operator} {ti : TIp} {pos' : Pos} (hN : X.N.Nodup) (hi : X.N[i]? = some x) (hx : Loc X.env.scope x) (he : PE X e te) (ho : PIp X op ti) (hf : X.fn x = true ∨ X.env.scope.names.lookup x = some .local := by first | exact .inl rfl | exact .inr rfl | assumption) :
    PS X (.AugAssign (.Name x pos') op e pos) (tAug i te ti) := by
  intro pins s σ H D I h
  obtain ⟨v, e1, h⟩ := h
  obtain ⟨m, hn, hl⟩ := I.loc
  have vis : Vis X.env.scope x := by rcases hx with k | k; exact .inl k; exact .inr (.inl k)
  obtain ⟨u, r, l⟩ := hl i x v hi e1 vis
  refine wpAny_AugAssign_Name ?_
  have go : wpAny (model X.prog X.w) X.A (eval e X.env) (fun w s₂ => wpAny (model X.prog X.w) X.A (inplaceOp op u w) (fun r s₃ => wpAny (model X.prog X.w) X.A (storeName X.env x r) (fun _ => SP X pins D .next) X.xe s₃) X.xe s₂) X.xe s := by
    refine thn (he pins s σ H _ I h) fun w s1 ⟨y, H1, I1, r1, q1⟩ => ?_
    refine thn (ho pins s1 σ H1 v y u w _ I1 r r1 q1) fun z s2 ⟨zv, H2, I2, r2, q2⟩ => ?_
    exact store_ok I2 hN hi hx r2 (fun s3 I3 => ⟨_, H2, I3, q2⟩) hf
  rcases l with ⟨hk, hm⟩ | ⟨hk, c, hc, hcell⟩
  · exact wpAny_loadName_local I.ok.kind hk hn hm go
  · rcases hk with hk | hk
    · exact wpAny_loadName_cell I.ok.kind hk hc hcell go
    · rcases hx with k | k
      · have : X.env.scope.names.lookup x = some .free := hk
        rw [k] at this; cases this
      · have : X.env.scope.names.lookup x = some .free := hk
        rw [k] at this; cases this
def ipI (f : Int → Int → Int) : TIp := fun x y H Q => ∃ i j, x = .int i ∧ y = .int j ∧ Q (.int (f i j)) H
theorem ip_add : PIp X .Add (ipI fun i j => i + j) := by
  intro pins s σ H x y v u Q I r1 r2 h
  obtain ⟨i, j, e1, e2, q⟩ := h
  subst e1; subst e2
  obtain ⟨t, rfl⟩ := r1
  obtain ⟨t', rfl⟩ := r2
  exact iadd_int ⟨.int _, H, I.tok _, ⟨_, rfl⟩, q⟩
end
section
variable {X : Cx} {pos : Pos}
def tWhile (c : TT) (tb : TS) : TS := fun D σ H => ∃ W : Nat → St → Hp → Prop, (∃ m, W m σ H) ∧ ∀ m σ H, W m σ H →
  c σ H fun b H1 => if b = true then ∃ N : St → Hp → Prop, (∀ σ' H', N σ' H' → ∃ m', m' < m ∧ W m' σ' H') ∧ tb { D with nx := N, ct := N, bk := D.nx } σ H1 else D.nx σ H1
theorem ps_while {c : Expr} {body : List Stmt} {tc : TT} {tb : TS} (hp : PassesOwn (model X.prog X.w) X.A X.env X.xe) (hc : PT X c tc) (hb : PSs X body tb) : PS X (.While c body [] pos) (tWhile tc tb) := by
  intro pins s σ H D I h
  obtain ⟨W, ⟨m0, w0⟩, turn⟩ := h
  refine wpAny_While (codeAny_whileLoop (fun n s' => ∃ σ' H', Inv X pins σ' H' s' ∧ W n σ' H') ?_ m0 ⟨σ, H, I, w0⟩)
  rintro n s1 ⟨σ1, H1, I1, w1⟩
  refine wpAny_passesOwn hp (thn (hc pins s1 σ1 H1 _ I1 (turn n σ1 H1 w1)) fun b s2 ⟨H2, I2, q2⟩ => ?_)
  cases b with
  | true =>
    obtain ⟨N, hN, q2⟩ := q2
    rw [if_pos rfl]
    refine wpAny_passesOwn hp (thn (hb pins s2 σ1 H2 _ I2 q2) fun f s3 q3 => ?_)
    cases f with
    | next =>
      obtain ⟨σ3, H3, I3, n3⟩ := q3
      obtain ⟨m', hm, w3⟩ := hN σ3 H3 n3
      exact ⟨m', hm, σ3, H3, I3, w3⟩
    | cont =>
      obtain ⟨σ3, H3, I3, n3⟩ := q3
      obtain ⟨m', hm, w3⟩ := hN σ3 H3 n3
      exact ⟨m', hm, σ3, H3, I3, w3⟩
    | brk => exact q3
    | ret v => exact q3
  | false =>
    rw [if_neg Bool.false_ne_true]
    exact wpAny_execs_nil ⟨σ1, H2, I2, q2⟩
end
structure It where
  go : Nat → Hp → Prop
  yld : Nat → Hp → V → Hp → Prop
  stop : Nat → Hp → Prop
def FpOk (X : Cx) (pins : List (Addr × Obj)) (H : Hp) (b : Addr) : Prop :=
  H b = none ∧ b ≠ X.env.locals ∧ b ∉ X.fs ∧ (b ∈ X.ex ∨ X.s_0.heap.objs.size ≤ b) ∧ (∀ x c, X.env.cells.lookup x = some c → c ≠ b) ∧ ∀ p ∈ X.pn ++ pins, p.1 ≠ b
theorem Inv.fpOk {X : Cx} {pins : List (Addr × Obj)} {σ : St} {H H' : Hp} {s : Shared} {b : Addr} (I : Inv X pins σ H s) (hb : s.heap.objs.size ≤ b) (hn : H' b = none) : FpOk X pins H' b := by
  refine ⟨hn, Nat.ne_of_gt (Nat.lt_of_lt_of_le I.lt hb), I.nofs hb, .inr (Nat.le_trans I.sz hb), fun x c e z => ?_, fun p hp z => ?_⟩
  · obtain ⟨v, q⟩ := I.cell x c e
    exact absurd (Nat.lt_of_lt_of_le q.lt (by rw [z]; exact hb)) (Nat.lt_irrefl _)
  · exact absurd (Nat.lt_of_lt_of_le (Heap.lt_size (I.pin p hp).1) (by rw [z]; exact hb)) (Nat.lt_irrefl _)
structure Turn (P : Program) (w : World) (K : PySem.W.Frag) (tg : Expr) (J : It) (fp : List Addr) (it : Addr) (tn : Nat → Heap → Prop) : Prop where
  mem : it ∈ fp
  obj : ∀ i h, tn i h → ∀ b ∈ fp, ∃ o, h.get? b = some o ∧ ∀ v, o.data ≠ .cell v
  keep : ∀ i h h', tn i h → (∀ b ∈ fp, ∀ o, h.get? b = some o → h'.get? b = some o) → tn i h'
  item : ∀ (X : Cx), X.prog = P → X.w = w → X.K = K → X.calm = true → ∀ (i : Nat) (pins : List (Addr × Obj)) (s : Shared) (σ : St) (H : Hp) (E : Value → Shared → Prop), Inv X pins σ H s → (∀ b ∈ fp, FpOk X pins H b) → tn i s.heap → J.go i H →
    wpAny (model P w) X.A (pyNext (.ref it)) (fun r s1 => ∃ u, r = some u ∧
      wpAny (model P w) X.A (letOwnedTupleGo tg (.ref it) u) (fun _ s2 => ∃ x H', Inv X pins σ H' s2 ∧ RelV x u ∧ J.yld i H x H' ∧ tn (i + 1) s2.heap ∧ ∀ b ∈ fp, H' b = none) E s1) E s
  done : ∀ (X : Cx), X.prog = P → X.w = w → X.K = K → X.calm = true → ∀ (i : Nat) (pins : List (Addr × Obj)) (s : Shared) (σ : St) (H : Hp) (E : Value → Shared → Prop), Inv X pins σ H s → (∀ b ∈ fp, FpOk X pins H b) → tn i s.heap → J.stop i H →
    wpAny (model P w) X.A (pyNext (.ref it)) (fun r s1 => r = none ∧ Inv X pins σ H s1) E s
  self : ∀ (A : Around) (i : Nat) (s : Shared) (Q : Value → Shared → Prop) (E : Value → Shared → Prop), tn i s.heap → Q (.ref it) s → wpAny (model P w) A (pyIter (.ref it)) Q E s
abbrev TI := St → Hp → (It → Hp → Prop) → Prop
def PIE (X : Cx) (pins : List (Addr × Obj)) (σ : St) (tg : Expr) (R : It → Hp → Prop) (itv : Value) (s2 : Shared) : Prop :=
  ∃ (it : Addr) (fp : List Addr) (tn : Nat → Heap → Prop) (J : It) (H' : Hp), itv = .ref it ∧ Inv X pins σ H' s2 ∧ Turn X.prog X.w X.K tg J fp it tn ∧ tn 0 s2.heap ∧ (∀ b ∈ fp, FpOk X pins H' b) ∧ R J H'
def PI (X : Cx) (tg iter : Expr) (wi : TI) : Prop :=
  ∀ (pins : List (Addr × Obj)) (s : Shared) (σ : St) (H : Hp) (R : It → Hp → Prop), Inv X pins σ H s → wi σ H R →
    wpAny (model X.prog X.w) X.A (eval iter X.env) (fun v s1 => wpAny (model X.prog X.w) X.A (pyIter v) (PIE X pins σ tg R) X.xe s1) X.xe s
theorem go_of {M : Model} {A : Around} {E : Value → Shared → Prop} {s : Shared} {tg : Expr} {it : Addr} {u : Value} {o : Obj} {n : String} {vs : Array Value} {Q : Unit → Shared → Prop} (ho : s.heap.get? it = some o) (hc : o.cls = .type n) (hd : o.data = .fields vs)
    (hn : ["enumerate", "zip", "dict_itemiterator", "dict_reverseitemiterator", "odict_iterator", "itertools.zip_longest", "itertools.pairwise"].contains n = false) (hQ : Q () s) : wpAny M A (letOwnedTupleGo tg (.ref it) u) Q E s := by
  unfold letOwnedTupleGo
  cases tg <;> first
    | exact wpAny_pure hQ
    | (cases u <;> first
        | exact wpAny_pure hQ
        | (refine wpAny_bind (wpAny_load ho ?_)
           rw [hc, hd]
           show wpAny M A (if (["enumerate", "zip", "dict_itemiterator", "dict_reverseitemiterator", "odict_iterator", "itertools.zip_longest", "itertools.pairwise"].contains n && vs[0]? == some (rawInt _)) = true then _ else _) Q E s
           rw [if_neg (by intro h; rw [hn, Bool.false_and] at h; cases h)]
           exact wpAny_pure hQ))
def Itl (K : PySem.W.Frag) (a : Addr) : It :=
  ⟨fun i H => ∃ xs x, SqL K H a xs ∧ xs[i]? = some x, fun i H x H' => H' = H ∧ ∀ xs, SqL K H a xs → xs[i]? = some x, fun i H => ∃ xs, SqL K H a xs ∧ xs.length ≤ i⟩
def Itr (lo : Int) (n : Nat) : It := ⟨fun i _ => i < n, fun i H x H' => H' = H ∧ x = .int (lo + i), fun i _ => n ≤ i⟩
theorem turn_list {P : Program} {w : World} {K : PySem.W.Frag} {tg : Expr} (a it : Addr) : Turn P w K tg (Itl K a) [it] it (fun i h => h.IsListIter it a i) where
  mem := by simp
  obj := fun i h st b hb => by
    have e : b = it := by simpa using hb
    subst e
    obtain ⟨o, e, c, d⟩ := st
    exact ⟨o, e, fun v z => by rw [d] at z; cases z⟩
  keep := fun i h h' st k => st.at fun o e => k it (by simp) o e
  item := by
    intro X hP hw hK hc i pins s σ H E I hf st hg
    subst hP hw hK
    obtain ⟨xs, x, hq, hx⟩ := hg
    obtain ⟨its, rv, p, hz⟩ := I.list hq
    obtain ⟨u, hu, ru⟩ := rv.get hx
    obtain ⟨f0, f1, f2, f3, f4, f5⟩ := hf it (by simp)
    refine wpAny_pyNext_list_item st p.isList (x := u) (by simpa using hu) fun h' st' sb => ?_
    have I1 : Inv X pins σ H { s with heap := h' } := I.turned (t' := s.toks) (fun b o hb e => (sb.2 b hb).trans e) f0 f1 f3 f4 f5
    obtain ⟨o, e, c, d⟩ := id st'
    exact ⟨u, rfl, go_of (s := { s with heap := h' }) e c d (by decide) ⟨x, H, I1, ru, ⟨rfl, fun ys hy => by rw [I.list_inj hy hq]; exact hx⟩, st', fun b hb => (hf b hb).1⟩⟩
  done := by
    intro X hP hw hK hc i pins s σ H E I hf st hg
    subst hP hw hK
    obtain ⟨xs, hq, hx⟩ := hg
    obtain ⟨its, rv, p, hz⟩ := I.list hq
    obtain ⟨f0, f1, f2, f3, f4, f5⟩ := hf it (by simp)
    have hl := rv.length
    exact wpAny_pyNext_list_end (I.ok.hd hc) st p.isList (by simp; omega) fun h' eb => ⟨rfl, I.turned (t' := s.toks) (fun b o hb e => eb b o hb e) f0 f1 f3 f4 f5⟩
  self := fun _ _ _ _ _ st h => wpAny_pyIter_listiter st h
theorem turn_range {P : Program} {w : World} {K : PySem.W.Frag} {tg : Expr} (it : Addr) (lo : Int) (n : Nat) : Turn P w K tg (Itr lo n) [it] it (fun i h => IsRangeIter h it (lo + (i : Nat) * 1) ((n : Int) - (i : Nat)) 1) where
  mem := by simp
  obj := fun i h st b hb => by
    have e : b = it := by simpa using hb
    subst e
    exact ⟨_, st, fun v z => by
      have z' : Data.fields _ = Data.cell v := z
      cases z'⟩
  keep := fun i h h' st k => k it (by simp) _ st
  item := by
    intro X hP hw hK hc i pins s σ H E I hf st hg
    subst hP hw hK
    obtain ⟨f0, f1, f2, f3, f4, f5⟩ := hf it (by simp)
    have W := Walks.range (prog := X.prog) (w := X.w) (I.ok.hd hc) it lo 1 n
    refine W.item i s _ _ hg st fun v h' tk hv st' kk => ?_
    obtain ⟨t, rfl⟩ := hv
    have I1 : Inv X pins σ H { s with heap := h', toks := tk } := I.turned (fun b o hb e => kk b o (by simpa using hb) e) f0 f1 f3 f4 f5
    refine ⟨_, rfl, go_of (s := { s with heap := h', toks := tk }) (n := "range_iterator") st' rfl rfl (by decide) ⟨.int (lo + i), H, I1, ⟨t, ?_⟩, ⟨rfl, rfl⟩, st', fun b hb => (hf b hb).1⟩⟩
    rw [Int.mul_one]
  done := by
    intro X hP hw hK hc i pins s σ H E I hf st hg
    subst hP hw hK
    obtain ⟨f0, f1, f2, f3, f4, f5⟩ := hf it (by simp)
    exact wpAny_pyNext_range_end (I.ok.hd hc) st (by have : n ≤ i := hg; omega) fun h' eb => ⟨rfl, I.turned (t' := s.toks) (fun b o hb e => eb b o hb e) f0 f1 f3 f4 f5⟩
  self := fun _ _ _ _ _ st h => wpAny_pyIter_rangeiter st h
end L2
namespace L2
open PySem PySem.Spec PyProof.Rows
section
variable {X : Cx} {tg : Expr}
def iList (K : PySem.W.Frag) (tl : TE) : TI := fun σ H R => tl σ H fun x H1 => ∃ a, x = .ref a ∧ (∃ xs, SqL K H1 a xs) ∧ R (Itl K a) H1
theorem pi_list {l : Expr} {tl : TE} (hl : PE X l tl) : PI X tg l (iList X.K tl) := by
  intro pins s σ H R I h
  refine thn (hl pins s σ H _ I h) fun v s1 ⟨x, H1, I1, r1, q1⟩ => ?_
  obtain ⟨a, e, ⟨xs, hq⟩, q⟩ := q1
  subst e
  cases r1
  obtain ⟨its, rv, p, hz⟩ := I1.list hq
  refine wpAny_pyIter_list p.isList ?_
  refine ⟨s1.heap.objs.size, [s1.heap.objs.size], _, _, H1, rfl, I1.kept (t' := s1.toks) fun b o e => Heap.get?_push_of_some _ e, turn_list a _, ⟨_, Heap.get?_push_size _ rfl, rfl, rfl⟩, fun b hb => ?_, q⟩
  have e : b = s1.heap.objs.size := by simpa using hb
  subst e
  exact I1.fpOk (Nat.le_refl _) (I1.hok.fresh (Nat.le_refl _))
theorem range_it {pins : List (Addr × Obj)} {σ : St} {H : Hp} {s : Shared} {R : It → Hp → Prop} {E : Value → Shared → Prop} {lo hi : Int} {t u v : Tok} {tk : Nat} (I : Inv X pins σ H s) (h1 : -(2 ^ 62) ≤ lo) (h2 : lo < 2 ^ 62) (h3 : -(2 ^ 62) ≤ hi) (h4 : hi < 2 ^ 62)
    (q : R (Itr lo (hi - lo).toNat) H) : wpAny (model X.prog X.w) X.A (pyIter (.ref s.heap.objs.size)) (PIE X pins σ tg R) E { s with heap := s.heap.push { cls := .type "range", data := .fields #[.int lo t, .int hi u, .int 1 v] }, toks := tk } := by
  refine wpAny_pyIter_range (IsRange.new ..) (small_one h1 h2 h3 h4) ?_
  have I1 : Inv X pins σ H { s with heap := s.heap.push { cls := .type "range", data := .fields #[.int lo t, .int hi u, .int 1 v] }, toks := tk } := I.kept fun b o e => Heap.get?_push_of_some _ e
  refine ⟨(s.heap.push { cls := .type "range", data := .fields #[.int lo t, .int hi u, .int 1 v] }).objs.size, [(s.heap.push { cls := .type "range", data := .fields #[.int lo t, .int hi u, .int 1 v] }).objs.size], _, _, H, rfl,
    I1.kept (t' := tk) fun b o e => Heap.get?_push_of_some _ e, turn_range _ lo (hi - lo).toNat, ?_, fun b hb => ?_, q⟩
  · have e1 : lo + ((0 : Nat) : Int) * 1 = lo := by simp
    have e2 : (((hi - lo).toNat : Nat) : Int) - ((0 : Nat) : Int) = Builtin.Range.rangeSize lo hi 1 := by rw [rangeSize_one]; split <;> omega
    show IsRangeIter _ _ (lo + ((0 : Nat) : Int) * 1) ((((hi - lo).toNat : Nat) : Int) - ((0 : Nat) : Int)) 1
    rw [e1, e2]
    exact Heap.get?_push_size _ rfl
  · have e : b = (s.heap.push { cls := .type "range", data := .fields #[.int lo t, .int hi u, .int 1 v] }).objs.size := by simpa using hb
    subst e
    exact I1.fpOk (Nat.le_refl _) (I1.hok.fresh (Nat.le_refl _))
def iRng1 (ta : TA) : TI := fun σ H R => ta σ H fun vs H1 => ∃ j : Int, vs = [.int j] ∧ -(2 ^ 62) ≤ j ∧ j < 2 ^ 62 ∧ R (Itr 0 j.toNat) H1
theorem pi_range1 {a : Expr} {ta : TA} {p pos : Pos} (hg : Gl X "range") (hm : X.mg "range" = none) (ha : PA X [a] ta) (hs : starEach [a] X.env = [(false, eval a X.env)] := by rfl) : PI X tg (.Call (.Name "range" p) [a] [] pos) (iRng1 ta) := by
  intro pins s σ H R I h
  refine Call_ (ld_blt I hg hm boot_range (PyProof.Rows.callWith_type1 (thn (ha pos pins s σ H _ I h) fun us s1 ⟨vs, H1, I1, r1, q1⟩ => ?_) hs rfl))
  obtain ⟨j, e, q1, q2, q⟩ := q1
  subst e
  cases r1 with
  | cons r rr =>
    cases rr
    obtain ⟨t, rfl⟩ := r
    exact call_range_1 (range_it I1 (by omega) (by omega) q1 q2 (by simpa using q))
def tFor (wi : TI) (g : TG) (tb : TS) : TS := fun D σ H => wi σ H fun J H1 => ∃ W : Nat → Nat → St → Hp → Prop, (∃ m, W 0 m σ H1) ∧ ∀ i m σ H, W i m σ H →
  (J.stop i H ∧ D.nx σ H) ∨ (J.go i H ∧ ∃ N : St → Hp → Prop, (∀ σ' H', N σ' H' → ∃ m', m' < m ∧ W (i + 1) m' σ' H') ∧ ∀ x H', J.yld i H x H' → g x σ H' fun σ2 H2 => tb { D with nx := N, ct := N, bk := D.nx } σ2 H2)
def pinsAt (fp : List Addr) (h : Heap) : List (Addr × Obj) := fp.filterMap fun b => (h.get? b).map fun o => (b, o)
theorem mem_pinsAt {fp : List Addr} {h : Heap} {b : Addr} {o : Obj} (hb : b ∈ fp) (e : h.get? b = some o) : (b, o) ∈ pinsAt fp h := List.mem_filterMap.mpr ⟨b, hb, by rw [e]; rfl⟩
theorem of_pinsAt {fp : List Addr} {h : Heap} {p : Addr × Obj} (hp : p ∈ pinsAt fp h) : p.1 ∈ fp ∧ h.get? p.1 = some p.2 := by
  obtain ⟨b, hb, e⟩ := List.mem_filterMap.mp hp
  cases q : h.get? b with
  | none => rw [q] at e; cases e
  | some o =>
    rw [q] at e
    have e' : (b, o) = p := Option.some.inj e
    subst e'
    exact ⟨hb, q⟩
theorem Inv.pinned {pins : List (Addr × Obj)} {σ : St} {H : Hp} {s : Shared} {fp : List Addr} (I : Inv X pins σ H s) (hf : ∀ b ∈ fp, FpOk X pins H b) (ho : ∀ b ∈ fp, ∃ o, s.heap.get? b = some o ∧ ∀ v, o.data ≠ .cell v) : Inv X (pins ++ pinsAt fp s.heap) σ H s :=
  I.pins_of fun p hp => (List.mem_append.mp hp).elim (fun z => I.pin p (List.mem_append_right _ z)) fun z => by
    obtain ⟨hb, e⟩ := of_pinsAt z
    obtain ⟨f0, f1, f2, _⟩ := hf p.1 hb
    obtain ⟨o, e', d⟩ := ho p.1 hb
    rw [e] at e'; cases e'
    exact ⟨e, f0, f1, f2, d⟩
theorem Inv.unpinned {pins pl : List (Addr × Obj)} {σ : St} {H : Hp} {s : Shared} (I : Inv X (pins ++ pl) σ H s) : Inv X pins σ H s := I.pins_of fun p hp => I.pin p (List.mem_append_right _ (List.mem_append_left _ hp))
theorem ps_for {iter : Expr} {body : List Stmt} {wi : TI} {g : TG} {tb : TS} {pos : Pos} (hp : PassesOwn (model X.prog X.w) X.A X.env X.xe) (hc : X.calm = true) (hi : PI X tg iter wi) (hg : PG X tg g) (hb : PSs X body tb)
    (hs : ∀ x, foldedSetIterable iter X.env x = pure x := by intro _; rfl) : PS X (.For tg iter body [] pos) (tFor wi g tb) := by
  intro pins s σ H D I h
  refine wpAny_For (thn (hi pins s σ H _ I h) fun v s1 h1 => thn h1 fun itv s2 h2 => ?_) hs
  obtain ⟨it, fp, tn, J, H2, e, I2, T, st2, f2, W, ⟨m0, w0⟩, turn⟩ := h2
  subst e
  -- what stays true of the iterator's objects through the loop
  have stat : ∀ {H' : Hp}, (∀ b ∈ fp, H' b = none) → ∀ b ∈ fp, FpOk X pins H' b := fun hn b hb => ⟨hn b hb, (f2 b hb).2⟩
  refine codeAny_forLoop_any (fun n s' => ∃ i σ' H', Inv X pins σ' H' s' ∧ tn i s'.heap ∧ (∀ b ∈ fp, H' b = none) ∧ W i n σ' H') ?_ m0 ⟨0, σ, H2, I2, st2, fun b hb => (f2 b hb).1, w0⟩
  rintro n s3 ⟨i, σ3, H3, I3, st3, fr3, w3⟩
  rcases turn i n σ3 H3 w3 with ⟨stop, qn⟩ | ⟨go, N, hN, step⟩
  · refine wpAny_passesOwn hp (thn (T.done X rfl rfl rfl hc i pins s3 σ3 H3 X.xe I3 (stat fr3) st3 stop) fun r s4 ⟨hr, I4⟩ => ?_)
    subst hr
    exact wpAny_execs_nil ⟨σ3, H3, I4, qn⟩
  · refine wpAny_passesOwn hp (thn (T.item X rfl rfl rfl hc i pins s3 σ3 H3 X.xe I3 (stat fr3) st3 go) fun r s4 ⟨u, hr, h4⟩ => ?_)
    subst hr
    refine wpAny_passesOwn hp (thn h4 fun _ s5 ⟨x, H5, I5, r5, y5, st5, fr5⟩ => ?_)
    have I5' := I5.pinned (stat fr5) (T.obj _ _ st5)
    refine wpAny_passesOwn hp (thn (hg _ s5 σ3 H5 x u _ I5' r5 (step x H5 y5)) fun _ s6 ⟨σ6, H6, I6, q6⟩ => ?_)
    refine wpAny_passesOwn hp (thn (hb _ s6 σ6 H6 _ I6 q6) fun f s7 q7 => ?_)
    have again : ∀ {σ7 : St} {H7 : Hp}, Inv X (pins ++ pinsAt fp s5.heap) σ7 H7 s7 → N σ7 H7 → ∃ m, m < n ∧ ∃ i σ' H', Inv X pins σ' H' s7 ∧ tn i s7.heap ∧ (∀ b ∈ fp, H' b = none) ∧ W i m σ' H' := fun {σ7 H7} I7 n7 => by
      obtain ⟨m', hm, w7⟩ := hN σ7 H7 n7
      refine ⟨m', hm, i + 1, σ7, H7, I7.unpinned, T.keep _ _ _ st5 fun b hb o e => (I7.pin (b, o) (List.mem_append_right _ (List.mem_append_right _ (mem_pinsAt hb e)))).1, fun b hb => ?_, w7⟩
      obtain ⟨o, e, d⟩ := T.obj _ _ st5 b hb
      exact (I7.pin (b, o) (List.mem_append_right _ (List.mem_append_right _ (mem_pinsAt hb e)))).2.1
    cases f with
    | next => obtain ⟨σ7, H7, I7, n7⟩ := q7; exact again I7 n7
    | cont => obtain ⟨σ7, H7, I7, n7⟩ := q7; exact again I7 n7
    | brk => obtain ⟨σ7, H7, I7, q7⟩ := q7; exact ⟨σ7, H7, I7.unpinned, q7⟩
    | ret v => obtain ⟨x7, σ7, H7, I7, r7, q7⟩ := q7; exact ⟨x7, σ7, H7, I7.unpinned, r7, q7⟩
end
theorem for_list {K : PySem.W.Frag} {a : Addr} {xs : List V} {g : TG} {tb : TS} {D : Ends} {σ : St} {H : Hp} (Pv : Nat → St → Hp → Prop) (h0 : Pv 0 σ H) (hl : ∀ i σ H, i ≤ xs.length → Pv i σ H → SqL K H a xs)
    (hs : ∀ i x σ H, xs[i]? = some x → Pv i σ H → g x σ H fun σ2 H2 => tb { D with nx := Pv (i + 1), ct := Pv (i + 1), bk := D.nx } σ2 H2) (hd : ∀ σ H, Pv xs.length σ H → D.nx σ H) :
    ∃ W : Nat → Nat → St → Hp → Prop, (∃ m, W 0 m σ H) ∧ ∀ i m σ H, W i m σ H →
      ((Itl K a).stop i H ∧ D.nx σ H) ∨ ((Itl K a).go i H ∧ ∃ N : St → Hp → Prop, (∀ σ' H', N σ' H' → ∃ m', m' < m ∧ W (i + 1) m' σ' H') ∧ ∀ x H', (Itl K a).yld i H x H' → g x σ H' fun σ2 H2 => tb { D with nx := N, ct := N, bk := D.nx } σ2 H2) := by
  refine ⟨fun i m σ H => m = xs.length - i ∧ i ≤ xs.length ∧ Pv i σ H, ⟨xs.length, by simp, Nat.zero_le _, h0⟩, ?_⟩
  rintro i m σ H ⟨rfl, hi, p⟩
  have q := hl i σ H hi p
  by_cases hlt : i < xs.length
  · refine .inr ⟨⟨xs, xs[i], q, by simp [hlt]⟩, Pv (i + 1), fun σ' H' p' => ⟨xs.length - (i + 1), by omega, rfl, hlt, p'⟩, fun x H' y => ?_⟩
    obtain ⟨e, y⟩ := y
    subst e
    exact hs i x σ _ (y xs q) p
  · have e : i = xs.length := by omega
    subst e
    exact .inl ⟨⟨xs, q, Nat.le_refl _⟩, hd σ H p⟩
theorem for_range {lo : Int} {n : Nat} {g : TG} {tb : TS} {D : Ends} {σ : St} {H : Hp} (Pv : Nat → St → Hp → Prop) (h0 : Pv 0 σ H)
    (hs : ∀ i σ H, i < n → Pv i σ H → g (.int (lo + i)) σ H fun σ2 H2 => tb { D with nx := Pv (i + 1), ct := Pv (i + 1), bk := D.nx } σ2 H2) (hd : ∀ σ H, Pv n σ H → D.nx σ H) :
    ∃ W : Nat → Nat → St → Hp → Prop, (∃ m, W 0 m σ H) ∧ ∀ i m σ H, W i m σ H →
      ((Itr lo n).stop i H ∧ D.nx σ H) ∨ ((Itr lo n).go i H ∧ ∃ N : St → Hp → Prop, (∀ σ' H', N σ' H' → ∃ m', m' < m ∧ W (i + 1) m' σ' H') ∧ ∀ x H', (Itr lo n).yld i H x H' → g x σ H' fun σ2 H2 => tb { D with nx := N, ct := N, bk := D.nx } σ2 H2) := by
  refine ⟨fun i m σ H => m = n - i ∧ i ≤ n ∧ Pv i σ H, ⟨n, by simp, Nat.zero_le _, h0⟩, ?_⟩
  rintro i m σ H ⟨rfl, hi, p⟩
  by_cases hlt : i < n
  · refine .inr ⟨hlt, Pv (i + 1), fun σ' H' p' => ⟨n - (i + 1), by omega, rfl, hlt, p'⟩, fun x H' y => ?_⟩
    obtain ⟨e, y⟩ := y
    subst e y
    exact hs i σ _ hlt p
  · have e : i = n := by omega
    subst e
    exact .inl ⟨Nat.le_refl _, hd σ H p⟩
end L2
namespace L2
open PySem PySem.Spec PyProof.Rows
abbrev R2 := V → V → Hp → VK → Prop
def OpR (X : Cx) (f : Value → Value → Sem Value) (r : R2) : Prop :=
  ∀ (pins : List (Addr × Obj)) (s : Shared) (σ : St) (H : Hp) (x y : V) (v u : Value) (Q : VK), Inv X pins σ H s → RelV x v → RelV y u → r x y H Q →
    wpAny (model X.prog X.w) X.A (f v u) (EP X pins σ Q) X.xe s
def UnR (X : Cx) (f : Value → Sem Value) (r : V → Hp → VK → Prop) : Prop :=
  ∀ (pins : List (Addr × Obj)) (s : Shared) (σ : St) (H : Hp) (x : V) (v : Value) (Q : VK), Inv X pins σ H s → RelV x v → r x H Q →
    wpAny (model X.prog X.w) X.A (f v) (EP X pins σ Q) X.xe s
def CallR (X : Cx) (f : Value) (r : List V → Hp → VK → Prop) : Prop :=
  ∀ (pins : List (Addr × Obj)) (s : Shared) (σ : St) (H : Hp) (xs : List V) (us : List Value) (Q : VK), Inv X pins σ H s → Vals xs us → r xs H Q →
    wpAny (model X.prog X.w) X.A (call f us) (EP X pins σ Q) X.xe s
def TruR (X : Cx) (r : V → Hp → (Bool → Hp → Prop) → Prop) : Prop :=
  ∀ (pins : List (Addr × Obj)) (s : Shared) (σ : St) (H : Hp) (x : V) (v : Value) (Q : Bool → Hp → Prop), Inv X pins σ H s → RelV x v → r x H Q →
    wpAny (model X.prog X.w) X.A (truthy v) (TP X pins σ Q) X.xe s
def tOp (r : R2) (ta tb : TE) : TE := fun σ H Q => ta σ H fun x H1 => tb σ H1 fun y H2 => r x y H2 Q
def tUn (r : V → Hp → VK → Prop) (ta : TE) : TE := fun σ H Q => ta σ H fun x H1 => r x H1 Q
def rI (C : Int → Int → Prop) (g : Int → Int → V) : R2 := fun x y H Q => ∃ i j, x = .int i ∧ y = .int j ∧ C i j ∧ Q (g i j) H
def rI0 (g : Int → Int → V) : R2 := fun x y H Q => ∃ i j, x = .int i ∧ y = .int j ∧ Q (g i j) H
def rU (g : Int → V) : V → Hp → VK → Prop := fun x H Q => ∃ i, x = .int i ∧ Q (g i) H
section
variable {X : Cx} {a b c : Expr} {ta tb tc : TE} {pos : Pos}
theorem binT (ha : PE X a ta) (hb : PE X b tb) {pins : List (Addr × Obj)} {s : Shared} {σ : St} {H : Hp} {R : V → V → Hp → Prop} (I : Inv X pins σ H s)
    (h : ta σ H fun x H1 => tb σ H1 fun y H2 => R x y H2) {Q : Value → Shared → Prop} {f : Value → Value → Sem Value}
    (hf : ∀ v u s2 x y H2, Inv X pins σ H2 s2 → RelV x v → RelV y u → R x y H2 → wpAny (model X.prog X.w) X.A (f v u) Q X.xe s2) :
    wpAny (model X.prog X.w) X.A (eval a X.env) (fun v s₁ => wpAny (model X.prog X.w) X.A (eval b X.env) (fun u s₂ => wpAny (model X.prog X.w) X.A (f v u) Q X.xe s₂) X.xe s₁) X.xe s := by
  refine thn (ha pins s σ H _ I h) fun v s1 ⟨x, H1, I1, r1, q1⟩ => ?_
  refine thn (hb pins s1 σ H1 _ I1 q1) fun u s2 ⟨y, H2, I2, r2, q2⟩ => ?_
  exact hf v u s2 x y H2 I2 r1 r2 q2
theorem pe_op {op : Operator} {r : R2} (ho : OpR X (binaryOp op) r) (ha : PE X a ta) (hb : PE X b tb) : PE X (.BinOp a op b pos) (tOp r ta tb) := by
  intro pins s σ H Q I h
  exact wpAny_BinOp (binT ha hb I h fun v u s2 x y H2 I2 rx ry q => ho pins s2 σ H2 x y v u Q I2 rx ry q)
theorem pe_un {op : UnaryOp} {r : V → Hp → VK → Prop} (ho : UnR X (unaryOp op) r) (ha : PE X a ta) : PE X (.UnaryOp op a pos) (tUn r ta) := by
  intro pins s σ H Q I h
  exact UnaryOp_ (thn (ha pins s σ H _ I h) fun v s1 ⟨x, H1, I1, r1, q1⟩ => ho pins s1 σ H1 x v Q I1 r1 q1)
theorem opI {f : Value → Value → Sem Value} {C : Int → Int → Prop} {g : Int → Int → Int}
    (rule : ∀ (i j : Int) (t u : Tok) (s : Shared) (Q : Value → Shared → Prop) (E : Value → Shared → Prop), C i j → Q (.int (g i j) s.toks) { s with toks := s.toks + 1 } → wpAny (model X.prog X.w) X.A (f (.int i t) (.int j u)) Q E s) :
    OpR X f (rI C fun i j => .int (g i j)) := by
  intro pins s σ H x y v u Q I rx ry h
  obtain ⟨i, j, rfl, rfl, hc, q⟩ := h
  obtain ⟨t, rfl⟩ := rx
  obtain ⟨t', rfl⟩ := ry
  exact rule i j t t' s _ _ hc ⟨.int (g i j), H, I.tok _, ⟨_, rfl⟩, q⟩
theorem opI0 {f : Value → Value → Sem Value} {g : Int → Int → Int}
    (rule : ∀ (i j : Int) (t u : Tok) (s : Shared) (Q : Value → Shared → Prop) (E : Value → Shared → Prop), Q (.int (g i j) s.toks) { s with toks := s.toks + 1 } → wpAny (model X.prog X.w) X.A (f (.int i t) (.int j u)) Q E s) :
    OpR X f (rI0 fun i j => .int (g i j)) := by
  intro pins s σ H x y v u Q I rx ry h
  obtain ⟨i, j, rfl, rfl, q⟩ := h
  obtain ⟨t, rfl⟩ := rx
  obtain ⟨t', rfl⟩ := ry
  exact rule i j t t' s _ _ ⟨.int (g i j), H, I.tok _, ⟨_, rfl⟩, q⟩
theorem opB0 {f : Value → Value → Sem Value} {g : Int → Int → Bool}
    (rule : ∀ (i j : Int) (t u : Tok) (s : Shared) (Q : Value → Shared → Prop) (E : Value → Shared → Prop), Q (.bool (g i j)) s → wpAny (model X.prog X.w) X.A (f (.int i t) (.int j u)) Q E s) :
    OpR X f (rI0 fun i j => .bl (g i j)) := by
  intro pins s σ H x y v u Q I rx ry h
  obtain ⟨i, j, rfl, rfl, q⟩ := h
  obtain ⟨t, rfl⟩ := rx
  obtain ⟨t', rfl⟩ := ry
  exact rule i j t t' s _ _ ⟨.bl (g i j), H, I, rfl, q⟩
def CMul (i j : Int) : Prop := (-(2 ^ 64) < i ∧ i < 2 ^ 64) ∨ (-(2 ^ 64) < j ∧ j < 2 ^ 64)
theorem CMul.ok {i j : Int} (h : CMul i j) : IntMulOk i j := by
  rcases h with ⟨h1, h2⟩ | ⟨h1, h2⟩
  · exact .of_left (intBits_le_64 h1 h2)
  · exact .of_right (intBits_le_64 h1 h2)
theorem op_add : OpR X (binaryOp .Add) (rI0 fun i j => .int (i + j)) := opI0 fun _ _ _ _ _ _ _ q => add_int q
theorem op_sub : OpR X (binaryOp .Sub) (rI0 fun i j => .int (i - j)) := opI0 fun _ _ _ _ _ _ _ q => sub_int q
theorem op_mul : OpR X (binaryOp .Mult) (rI CMul fun i j => .int (i * j)) := opI fun _ _ _ _ _ _ _ hc q => mul_int q hc.ok
theorem unI {f : Value → Sem Value} {g : Int → Int}
    (rule : ∀ (i : Int) (t : Tok) (s : Shared) (Q : Value → Shared → Prop) (E : Value → Shared → Prop), Q (.int (g i) s.toks) { s with toks := s.toks + 1 } → wpAny (model X.prog X.w) X.A (f (.int i t)) Q E s) :
    UnR X f (rU fun i => .int (g i)) := by
  intro pins s σ H x v Q I rx h
  obtain ⟨i, rfl, q⟩ := h
  obtain ⟨t, rfl⟩ := rx
  exact rule i t s _ _ ⟨.int (g i), H, I.tok _, ⟨_, rfl⟩, q⟩
theorem un_neg : UnR X (unaryOp .USub) (rU fun i => .int (-i)) := unI fun _ _ _ _ _ q => neg_int q
end
def scal : V → V → Bool
  | .non, .non => true | .non, .int _ => true | .int _, .non => true | .non, .bl _ => true | .bl _, .non => true | .non, .str _ => true | .str _, .non => true
  | .int _, .int _ => true | .bl _, .bl _ => true | .str _, .str _ => true | .byt _, .byt _ => true
  | .int _, .str _ => true | .str _, .int _ => true | .bl _, .str _ => true | .str _, .bl _ => true
  | _, _ => false
def rEq : R2 := fun x y H Q => scal x y = true ∧ Q (.bl (decide (x = y))) H
theorem dec_int {i j : Int} : decide (V.int i = V.int j) = (i == j) := by
  rw [Bool.eq_iff_iff]
  simp
theorem dec_bl {i j : Bool} : decide (V.bl i = V.bl j) = (i == j) := by
  rw [Bool.eq_iff_iff]
  simp
theorem dec_str {i j : Str} : decide (V.str i = V.str j) = (i == j) := by
  rw [Bool.eq_iff_iff]
  simp
theorem dec_byt {i j : Array UInt8} : decide (V.byt i = V.byt j) = (i.toList == j.toList) := by
  rw [Bool.eq_iff_iff]
  cases i
  cases j
  simp
section
variable {X : Cx} {a b c : Expr} {ta tb tc : TE} {pos : Pos}
theorem fin_bl {pins : List (Addr × Obj)} {σ : St} {H : Hp} {s : Shared} {Q : VK} {k k' : Bool} (I : Inv X pins σ H s) (q : Q (.bl k) H) (e : k = k') : EP X pins σ Q (.bool k') s := by
  subst e
  exact ⟨.bl k, H, I, rfl, q⟩
theorem op_eq : OpR X (compareOp .Eq) rEq := by
  intro pins s σ H x y v u Q I rx ry h
  obtain ⟨hs, q⟩ := h
  cases x with
  | non =>
    cases rx
    cases y with
    | non => cases ry; exact PySem.EqNone.eq_none_none (fin_bl I q (by simp))
    | bl j => cases ry; exact PySem.EqNone.eq_none_bool (fin_bl I q (by simp))
    | int j => obtain ⟨t', rfl⟩ := ry; exact PySem.EqNone.eq_none_int (fin_bl I q (by simp))
    | str j => obtain ⟨t', rfl⟩ := ry; exact PySem.EqNone.eq_none_str (fin_bl I q (by simp))
    | _ => exact absurd (show false = true from hs) Bool.false_ne_true
  | bl i =>
    cases rx
    cases y with
    | non => cases ry; exact PySem.EqNone.eq_bool_none (fin_bl I q (by simp))
    | bl j => cases ry; exact eq_bool (fin_bl I q dec_bl)
    | str j => obtain ⟨t', rfl⟩ := ry; exact PySem.EqMixed.eq_bool_str (fin_bl I q (by simp))
    | _ => exact absurd (show false = true from hs) Bool.false_ne_true
  | int i =>
    obtain ⟨t, rfl⟩ := rx
    cases y with
    | non => cases ry; exact PySem.EqNone.eq_int_none (fin_bl I q (by simp))
    | int j => obtain ⟨t', rfl⟩ := ry; exact eq_int (fin_bl I q dec_int)
    | str j => obtain ⟨t', rfl⟩ := ry; exact PySem.EqMixed.eq_int_str (fin_bl I q (by simp))
    | _ => exact absurd (show false = true from hs) Bool.false_ne_true
  | str i =>
    obtain ⟨t, rfl⟩ := rx
    cases y with
    | non => cases ry; exact PySem.EqNone.eq_str_none (fin_bl I q (by simp))
    | bl j => cases ry; exact PySem.EqMixed.eq_str_bool (fin_bl I q (by simp))
    | int j => obtain ⟨t', rfl⟩ := ry; exact PySem.EqMixed.eq_str_int (fin_bl I q (by simp))
    | str j => obtain ⟨t', rfl⟩ := ry; exact eq_str (fin_bl I q dec_str)
    | _ => exact absurd (show false = true from hs) Bool.false_ne_true
  | byt i =>
    obtain ⟨t, rfl⟩ := rx
    cases y with
    | byt j => obtain ⟨t', rfl⟩ := ry; exact PySem.W.eq_bytes (fin_bl I q dec_byt)
    | _ => exact absurd (show false = true from hs) Bool.false_ne_true
  | _ => cases y <;> exact absurd (show false = true from hs) Bool.false_ne_true
theorem op_lt : OpR X (compareOp .Lt) (rI0 fun i j => .bl (decide (i < j))) := opB0 fun _ _ _ _ _ _ _ q => lt_int q
theorem op_le : OpR X (compareOp .LtE) (rI0 fun i j => .bl (decide (i ≤ j))) := opB0 fun _ _ _ _ _ _ _ q => le_int q
theorem op_gt : OpR X (compareOp .Gt) (rI0 fun i j => .bl (decide (j < i))) := opB0 fun _ _ _ _ _ _ _ q => gt_int q
theorem op_ge : OpR X (compareOp .GtE) (rI0 fun i j => .bl (decide (j ≤ i))) := opB0 fun _ _ _ _ _ _ _ q => ge_int q
theorem op_notN : OpR X (compareOp .IsNot) (fun x y H Q => y = .non ∧ Q (.bl (!decide (x = .non))) H) := by
  intro pins s σ H x y v u Q I rx ry h
  obtain ⟨rfl, q⟩ := h
  cases ry
  refine isnot_none_gen (fin_bl I q ?_)
  cases x <;> first
    | (cases rx; rfl)
    | (obtain ⟨t, rfl⟩ := rx; rfl)
theorem nomark (b : Expr) {op : CmpOp} (h : op ≠ .In := by decide) (h2 : op ≠ .NotIn := by decide) : behindInMarks op b = false := by
  have e1 : (op == CmpOp.In) = false := by cases op <;> first | rfl | exact absurd rfl h
  have e2 : (op == CmpOp.NotIn) = false := by cases op <;> first | rfl | exact absurd rfl h2
  cases b <;> simp [behindInMarks, e1, e2]
theorem pe_cmpR {op : CmpOp} {r : R2} (ho : OpR X (compareOp op) r) (ha : PE X a ta) (hb : PE X b tb) (hm : behindInMarks op b = false) : PE X (.Compare a [op] [b] pos) (tOp r ta tb) := by
  intro pins s σ H Q I h
  exact wpAny_Compare1 (binT ha hb I h fun v u s2 x y H2 I2 rx ry q => ho pins s2 σ H2 x y v u Q I2 rx ry q) hm
def tTest (t : TE) : TT := fun σ H Q => t σ H fun x H' => ∃ k, x = .bl k ∧ Q k H'
theorem pt_cmpR {op : CmpOp} {r : R2} (ho : OpR X (compareOp op) r) (ha : PE X a ta) (hb : PE X b tb) (hm : behindInMarks op b = false) : PT X (.Compare a [op] [b] pos) (tTest (tOp r ta tb)) := by
  intro pins s σ H Q I h
  refine wpAny_isTrue_Compare1 (thn (ha pins s σ H _ I h) fun v s1 ⟨x, H1, I1, r1, q1⟩ => thn (hb pins s1 σ H1 _ I1 q1) fun u s2 ⟨y, H2, I2, r2, q2⟩ =>
    thn (ho pins s2 σ H2 x y v u _ I2 r1 r2 q2) fun c s3 ⟨z, H3, I3, r3, k, e, q3⟩ => ?_) hm
  subst e
  cases r3
  exact wpAny_truthy_bool ⟨H3, I3, q3⟩
def tChain (r r' : R2) (ta tb tc : TE) : TE := fun σ H Q => ta σ H fun x H1 => tb σ H1 fun y H2 => r x y H2 fun z H3 => ∃ k, z = .bl k ∧
  (if k = true then tc σ H3 fun w' H4 => r' y w' H4 Q else Q (.bl false) H3)
theorem pt_chain {op op' : CmpOp} {r r' : R2} (ho : OpR X (compareOp op) r) (ho' : OpR X (compareOp op') r') (ha : PE X a ta) (hb : PE X b tb) (hc : PE X c tc)
    (hm : lastMarks [op, op'] [b, c] = false := by with_unfolding_all rfl) : PT X (.Compare a [op, op'] [b, c] pos) (tTest (tChain r r' ta tb tc)) := by
  intro pins s σ H Q I h
  refine isTrue_chain (thn (ha pins s σ H _ I h) fun v s1 ⟨x, H1, I1, r1, q1⟩ => test_link (thn (hb pins s1 σ H1 _ I1 q1) fun u s2 ⟨y, H2, I2, r2, q2⟩ =>
    thn (ho pins s2 σ H2 x y v u _ I2 r1 r2 q2) fun d s3 ⟨z, H3, I3, r3, k, e, q3⟩ => ?_)) hm
  subst e
  cases r3
  refine wpAny_truthy_bool ?_
  cases k with
  | false =>
    obtain ⟨k', e', q'⟩ := q3
    cases e'
    exact ite_ff ⟨H3, I3, q'⟩
  | true =>
    refine ite_tt (test_last (thn (hc pins s3 σ H3 _ I3 q3) fun w' s4 ⟨z', H4, I4, r4, q4⟩ => thn (ho' pins s4 σ H4 y z' u w' _ I4 r2 r4 q4) fun d' s5 ⟨z2, H5, I5, r5, k2, e2, q5⟩ => ?_))
    subst e2
    cases r5
    exact wpAny_truthy_bool ⟨H5, I5, q5⟩
def TruV (K : PySem.W.Frag) (x : V) (H : Hp) (k : Bool) : Prop :=
  match x with
  | .non => k = false
  | .bl b => k = b
  | .int i => k = (i != 0)
  | .str y => y.length ≤ sizeLine ∧ k = ((y.length : Int) != 0)
  | .byt y => y.size ≤ sizeLine ∧ k = ((y.size : Int) != 0)
  | .ref p => (∃ xs, SqL K H p xs ∧ k = !xs.isEmpty) ∨ (∃ xs, SqT K H p xs ∧ k = !xs.isEmpty) ∨ ∃ kvs, H p = some (.dK kvs) ∧ k = !kvs.isEmpty
  | _ => False
theorem isEmpty_kv {κ : Type} {kvs : List (κ × V)} {vs : List (κ × Value)} (r : KV kvs vs) : (!vs.isEmpty) = !kvs.isEmpty := by
  cases r <;> rfl
theorem isEmpty_of {xs : List V} {its : List Value} (r : Vals xs its) : (!its.toArray.isEmpty) = !xs.isEmpty := by
  cases r <;> simp
theorem line63 : (sizeLine : Nat) < 2 ^ 63 := by rw [sizeLine_eq]; decide
theorem tru_ok : TruR X (fun x H Q => ∃ k, TruV X.K x H k ∧ Q k H) := by
  intro pins s σ H x v Q I rx h
  obtain ⟨k, e, q⟩ := h
  have hl := line63
  have hs : sizeLine = 16777216 := sizeLine_eq
  cases x with
  | non =>
    cases rx
    have e' : k = false := e
    subst e'
    exact truthy_none ⟨H, I, q⟩
  | bl b =>
    cases rx
    have e' : k = b := e
    subst e'
    exact wpAny_truthy_bool ⟨H, I, q⟩
  | int i =>
    obtain ⟨t, rfl⟩ := rx
    have e' : k = (i != 0) := e
    subst e'
    exact PySem.P.truthy_int ⟨H, I, q⟩
  | str y =>
    obtain ⟨t, rfl⟩ := rx
    obtain ⟨hy, e'⟩ : y.length ≤ sizeLine ∧ k = ((y.length : Int) != 0) := e
    subst e'
    exact PySem.P.truthy_str (by omega) ⟨H, I.tok _, q⟩
  | byt y =>
    obtain ⟨t, rfl⟩ := rx
    obtain ⟨hy, e'⟩ : y.size ≤ sizeLine ∧ k = ((y.size : Int) != 0) := e
    subst e'
    exact PySem.W.truthy_bytes (by omega) ⟨H, I.tok _, q⟩
  | ref p =>
    cases rx
    have e' : (∃ xs, SqL X.K H p xs ∧ k = !xs.isEmpty) ∨ (∃ xs, SqT X.K H p xs ∧ k = !xs.isEmpty) ∨ ∃ kvs, H p = some (.dK kvs) ∧ k = !kvs.isEmpty := e
    rcases e' with ⟨xs, hx, e'⟩ | ⟨xs, hx, e'⟩ | ⟨kvs, hx, e'⟩
    · subst e'
      obtain ⟨its, r, pl, hz⟩ := I.list hx
      have hlen := r.length
      exact wpAny_truthy_list pl.isList (by simp only [List.size_toArray]; omega) ⟨H, I.tok _, by rw [isEmpty_of r]; exact q⟩
    · subst e'
      obtain ⟨its, r, pl, hz⟩ := I.tuple hx
      have hlen := r.length
      exact truthy_tuple pl (by simp only [List.size_toArray]; omega) ⟨H, I.tok _, by rw [isEmpty_of r]; exact q⟩
    · subst e'
      obtain ⟨hz, hS, vs, r, m⟩ : kvs.length ≤ sizeLine ∧ (p == sysModules) = false ∧ ∃ vs, KV kvs vs ∧ s.heap.DictOf (mixKind X.prog X.w) p vs := I.hok p _ hx
      have hlen : kvs.length = vs.length := Paired.length r
      exact wpAny_truthy_dict hS m (by omega) ⟨H, I.tok _, by rw [isEmpty_kv r]; exact q⟩
  | _ => exact (show False from e).elim
theorem pt_truth (ha : PE X a ta) (he : ∀ whole, isTrue a X.env whole = (do let v ← whole; standAt a.pos; holding [v] (truthy v))) :
    PT X a (fun σ H Q => ta σ H fun x H' => ∃ k, TruV X.K x H' k ∧ Q k H') := by
  intro pins s σ H Q I h
  exact isTrue_plain (thn (ha pins s σ H _ I h) fun v s1 ⟨x, H1, I1, r1, q1⟩ => tru_ok pins s1 σ H1 x v Q I1 r1 q1) (he _)
theorem vals1 {x : V} {us : List Value} (r : Vals [x] us) : ∃ u, us = [u] ∧ RelV x u := by
  cases r with
  | cons r1 r2 => cases r2; exact ⟨_, rfl, r1⟩
theorem vals2 {x y : V} {us : List Value} (r : Vals [x, y] us) : ∃ u w', us = [u, w'] ∧ RelV x u ∧ RelV y w' := by
  cases r with
  | cons r1 r2 =>
    cases r2 with
    | cons r3 r4 => cases r4; exact ⟨_, _, rfl, r1, r3⟩
theorem call_max2 (hc : X.calm = true) : CallR X (.builtin "max") (fun xs H Q => ∃ i j, xs = [.int i, .int j] ∧ Q (.int (if j > i then j else i)) H) := by
  intro pins s σ H xs us Q I r h
  obtain ⟨i, j, rfl, q⟩ := h
  obtain ⟨u, w', rfl, ⟨t, rfl⟩, ⟨t', rfl⟩⟩ := vals2 r
  refine max_two_ints (I.ok.hd hc) fun h' tk k => ⟨_, H, I.kept k, ?_, q⟩
  by_cases hj : j > i
  · rw [if_pos hj, if_pos hj]; exact ⟨_, rfl⟩
  · rw [if_neg hj, if_neg hj]; exact ⟨_, rfl⟩
theorem call_min2 (hc : X.calm = true) : CallR X (.builtin "min") (fun xs H Q => ∃ i j, xs = [.int i, .int j] ∧ Q (.int (if j < i then j else i)) H) := by
  intro pins s σ H xs us Q I r h
  obtain ⟨i, j, rfl, q⟩ := h
  obtain ⟨u, w', rfl, ⟨t, rfl⟩, ⟨t', rfl⟩⟩ := vals2 r
  refine min_two_ints (I.ok.hd hc) fun h' tk k => ⟨_, H, I.kept k, ?_, q⟩
  by_cases hj : j < i
  · rw [if_pos hj, if_pos hj]; exact ⟨_, rfl⟩
  · rw [if_neg hj, if_neg hj]; exact ⟨_, rfl⟩
end
end L2
namespace L2
open PySem PySem.Spec PyProof.Rows
structure ObjM (h : Heap) (x dx C : Addr) (mA : Str → Option Value) : Prop where
  obj : h.get? x = some (PySem.W.instObj C dx)
  ns : h.Ns1 dx mA
  ne : dx ≠ x
theorem lookIn_ns {h : Heap} {dx : Addr} {mA : Str → Option Value} (n : h.Ns1 dx mA) : ∃ od, h.get? dx = some od ∧ ∀ name, PySem.W.lookIn name od = some (mA name) := by
  obtain ⟨o, es, ep, ho, hd, hk, _, hm⟩ := n
  refine ⟨o, ho, fun name => ?_⟩
  have e := hm name
  unfold nsFind findBy at e
  rw [← Array.find?_toList] at e
  unfold PySem.W.lookIn
  rw [hd]
  dsimp only
  split
  · rename_i y q
    rw [q] at e
    exact congrArg some e
  · rename_i q
    rw [q] at e
    have a : es.toList.any (·.refKey) = false := by
      rw [List.any_eq_false]
      intro y hy
      obtain ⟨z, t, hkey⟩ := hk y (Array.mem_toList_iff.mp hy)
      simp [DictEntry.refKey, hkey]
    have a' : ¬ es.toList.any (·.refKey) = true := by rw [a]; exact Bool.false_ne_true
    rw [if_neg a']
    exact congrArg some e
theorem ObjM.look {h : Heap} {x dx C : Addr} {mA : Str → Option Value} (I : ObjM h x dx C mA) : ∃ od, PySem.W.InstAt h x (PySem.W.instObj C dx) C (some od) ∧ ∀ name, PySem.W.lookIn name od = some (mA name) :=
  let ⟨od, ho, hl⟩ := lookIn_ns I.ns
  ⟨od, ⟨I.obj, rfl, rfl, ho⟩, hl⟩
section
variable {prog : Program} {w : World} {A : Around} {E : Value → Shared → Prop} {s : Shared} {K : PySem.W.Frag} {x dx C f : Addr} {mA : Str → Option Value} {name : Str} {v : Value}
theorem get_map {expr : Bool} {Q : Value → Shared → Prop} (X : K.In s.heap) (I : ObjM s.heap x dx C mA) (hg : PySem.W.plainGet K C name = true) (hh : PySem.W.hasDictIn K C = true)
    (ha : PySem.W.findIn K (.ref C) name = some none) (hv : mA name = some v) (hv' : PySem.W.handedIn v = true) (h : Q v { s with toks := s.toks + 1 }) :
    wpAny (model prog w) A (getAttr (.ref x) name expr) Q E s := by
  obtain ⟨od, J, hl⟩ := I.look
  exact PySem.W.get_value X J (PySem.W.plainGet_of hg).1 (PySem.W.findObj_own hh ha rfl (by rw [hl, hv])) hv' h
theorem get_meth {pl : Sem Bool} {Q : Value × List Value → Shared → Prop} (X : K.In s.heap) (I : ObjM s.heap x dx C mA) (hg : PySem.W.plainGet K C name = true)
    (hf : PySem.W.findIn K (.ref C) name = some (some (.ref f))) (ht : PySem.W.isFn K (.ref f) = true) (hv : mA name = none) (h : Q (.ref f, [.ref x]) s) :
    wpAny (model prog w) A (getMethod (.ref x) name pl) Q E s := by
  obtain ⟨od, J, hl⟩ := I.look
  exact PySem.W.method_fn X J (PySem.W.plainGet_of hg).1 (PySem.W.plainGet_of hg).2 hf (beq_iff_eq.mp ht) (by show (PySem.W.lookIn name od).map (·.isSome) = some false; rw [hl, hv]; rfl) h
theorem set_map {ns : List Str} {Q : Unit → Shared → Prop} (X : K.In s.heap) (I : ObjM s.heap x dx C mA)
    (hs : PySem.W.findIn K (.ref C) "__setattr__" = some (some (.builtin "object.__setattr__"))) (hp : PySem.W.plainOver K C = true) (ht : PySem.W.takerIn K C name = some none) (hh : PySem.W.hasDictIn K C = true)
    (hw : PySem.Within mA ns) (hsz : ns.length ≤ sizeLine)
    (h : ∀ h', ObjM h' x dx C (fun y => if y = name then some v else mA y) → Heap.SameBut dx s.heap h' → Q () { s with heap := h', toks := s.toks + 2 }) :
    wpAny (model prog w) A (setAttr (.ref x) name v) Q E s := by
  obtain ⟨od, J, hl⟩ := I.look
  refine PySem.W.set_plain X J hs (PySem.W.osa_open (s := { s with toks := s.toks + 1 }) (r := none) X J hp ht fun b => ?_)
  obtain ⟨cd, hc, hd'⟩ := PySem.W.any_some hh
  have hx : s.heap.get? x = some ⟨.ref C, some dx, .plain, #[]⟩ := I.obj
  refine wpAny_bind (wpAny_pure (wpAny_bind (wpAny_bind (wpAny_loadPart hx (wpAny_bind (PySem.W.Looks.here (s := { s with toks := s.toks + 1 }) (PySem.W.looks_clsIn X hc) ?_))))))
  rw [hd']
  refine wpAny_pure (a := some dx) (wpAny_bind (wpAny_pure (wpAny_bind ?_)))
  refine wpAny_nsSet1 (s := { s with toks := s.toks + 1 }) I.ns fun h' hn2 hs2 => ?_
  obtain ⟨oD, esD, epD, hoD, hdD, hcD⟩ := hn2.count (PySem.Within.cons name v hw)
  refine wpAny_bind (wpAny_lookBehind hoD (by rw [hdD]; exact pastItsLine_dict (Nat.le_trans hcD (by rw [List.length_cons]; omega))) ?_)
  exact wpAny_pure (h _ ⟨(hs2.2 _ (Ne.symm I.ne)).trans I.obj, hn2, I.ne⟩ hs2)
theorem make_map {R : Result → Shared → Prop} {vs : List Value} {kw : List (Str × Value)} (X : K.In s.heap) (hm : PySem.W.makesIn K C = true)
    (hi : PySem.W.findIn K (.ref C) "__init__" = some (some (.ref f))) (hf : PySem.W.typeIn K (.ref f) = some (.type "function"))
    (h : codeAny (model prog w) (A.under (.builtin "type.__call__" ⟨.ref C :: vs, kw⟩)) (.call (.ref f) ⟨.ref (s.heap.objs.size + 1) :: vs, kw⟩) (PySem.W.InitBack (s.heap.objs.size + 1) R)
      { s with heap := (s.heap.push PySem.W.emptyDict).push (PySem.W.instObj C s.heap.objs.size) }) :
    codeAny (model prog w) A (.call (.ref C) ⟨vs, kw⟩) R s := by
  obtain ⟨hh, g, d, t, os⟩ := s
  exact PySem.W.make_core (PySem.W.makes_of X hm) (PySem.W.looks_findIn X hi) (fun self => PySem.W.bind_fn X self hf) (.inl rfl) h
end
def putF (f : Str) (v : V) : List (Str × V) → List (Str × V)
  | [] => [(f, v)]
  | (g, x) :: r => if g = f then (g, v) :: r else (g, x) :: putF f v r
theorem lookup_putF (f g : Str) (v : V) : ∀ fs : List (Str × V), (putF f v fs).lookup g = if g = f then some v else fs.lookup g
  | [] => by
    show List.lookup g [(f, v)] = _
    by_cases h : g = f
    · have hb : (g == f) = true := beq_iff_eq.mpr h
      simp only [List.lookup, hb, if_pos h]
    · have hb : (g == f) = false := beq_eq_false_iff_ne.mpr h
      simp only [List.lookup, hb, if_neg h]
  | (k, x) :: r => by
    have ih := lookup_putF f g v r
    rw [show putF f v ((k, x) :: r) = (if k = f then (k, v) :: r else (k, x) :: putF f v r) from rfl]
    by_cases hk : k = f
    · rw [if_pos hk]
      by_cases h : g = k
      · have hb : (g == k) = true := beq_iff_eq.mpr h
        simp only [List.lookup, hb, if_pos (h.trans hk)]
      · have hb : (g == k) = false := beq_eq_false_iff_ne.mpr h
        simp only [List.lookup, hb, if_neg (fun e : g = f => h (e.trans hk.symm))]
    · rw [if_neg hk]
      by_cases h : g = k
      · have hb : (g == k) = true := beq_iff_eq.mpr h
        simp only [List.lookup, hb, if_neg (fun e : g = f => hk (h.symm.trans e))]
      · have hb : (g == k) = false := beq_eq_false_iff_ne.mpr h
        simp only [List.lookup, hb]
        exact ih
theorem keys_putF (f : Str) (v : V) : ∀ fs : List (Str × V), f ∈ (putF f v fs).map (·.1) ∧ ∀ g, g ∈ fs.map (·.1) → g ∈ (putF f v fs).map (·.1)
  | [] => ⟨by simp [putF], fun g h => by simp at h⟩
  | (k, x) :: r => by
    obtain ⟨i1, i2⟩ := keys_putF f v r
    rw [show putF f v ((k, x) :: r) = (if k = f then (k, v) :: r else (k, x) :: putF f v r) from rfl]
    by_cases hk : k = f
    · rw [if_pos hk]
      subst hk
      exact ⟨by simp, fun g h => by simpa using h⟩
    · rw [if_neg hk]
      refine ⟨?_, fun g h => ?_⟩
      · rw [List.map_cons]
        exact List.mem_cons_of_mem _ i1
      · rw [List.map_cons] at h ⊢
        rcases List.mem_cons.mp h with e | e
        · exact List.mem_cons.mpr (.inl e)
        · exact List.mem_cons_of_mem _ (i2 g e)
theorem length_putF (f : Str) (v : V) : ∀ fs : List (Str × V), (putF f v fs).length ≤ fs.length + 1
  | [] => by simp [putF]
  | (k, x) :: r => by
    have ih := length_putF f v r
    rw [show putF f v ((k, x) :: r) = (if k = f then (k, v) :: r else (k, x) :: putF f v r) from rfl]
    by_cases hk : k = f
    · rw [if_pos hk, List.length_cons, List.length_cons]; omega
    · rw [if_neg hk, List.length_cons, List.length_cons]; omega
theorem RelO.some_of {v : V} {o : Option Value} (r : RelO (some v) o) : ∃ u, o = some u ∧ RelV v u := by
  cases o with
  | none => exact (show False from r).elim
  | some u => exact ⟨u, rfl, r⟩
theorem RelO.none_of {o : Option Value} (r : RelO none o) : o = none := by
  cases o with
  | none => rfl
  | some u => exact (show False from r).elim
theorem handed_of {v : V} {u : Value} (r : RelV v u) : PySem.W.handedIn u = true := by
  cases v with
  | non => cases (show u = Value.none from r); rfl
  | bl b => cases (show u = Value.bool b from r); rfl
  | int i => obtain ⟨t, e⟩ := (show ∃ t, u = Value.int i t from r); cases e; rfl
  | str x => obtain ⟨t, e⟩ := (show ∃ t, u = Value.str x t from r); cases e; rfl
  | byt b => obtain ⟨t, e⟩ := (show ∃ t, u = Value.bytes b t from r); cases e; rfl
  | flt b => obtain ⟨t, e⟩ := (show ∃ t, u = Value.float b t from r); cases e; rfl
  | ref a => cases (show u = Value.ref a from r); rfl
  | ty n => cases (show u = Value.type n from r); rfl
section
variable {P : Program} {w : World} {H H' : Hp} {h h' : Heap} {a C dx : Addr} {fs fs' : List (Str × V)}
theorem ins_get (hok : HOk P w H h) (e : H a = some (.ins C dx fs)) : ∃ mA, ObjM h a dx C mA ∧ (∀ f, RelO (fs.lookup f) (mA f)) ∧ PySem.Within mA (fs.map (·.1)) ∧ fs.length ≤ 1000 ∧ H dx = some (.own a) := by
  obtain ⟨d, z, ne, ob, mA, n, r, q⟩ := (show ObjOk P w H h a (.ins C dx fs) from hok a _ e)
  exact ⟨mA, ⟨ob, n, ne⟩, r, q, z, d⟩
end
structure Cls (K : PySem.W.Frag) (C : Addr) : Prop where
  pg : PySem.W.plainGet K C Str.empty = true
  hd : PySem.W.hasDictIn K C = true
  po : PySem.W.plainOver K C = true
  sa : PySem.W.findIn K (.ref C) "__setattr__" = some (some (.builtin "object.__setattr__"))
theorem Cls.get {K : PySem.W.Frag} {C : Addr} (c : Cls K C) (f : Str) : PySem.W.plainGet K C f = true := c.pg
def NoAttr (K : PySem.W.Frag) (C : Addr) (f : Str) : Prop := PySem.W.findIn K (.ref C) f = some none
theorem NoAttr.taker {K : PySem.W.Frag} {C : Addr} {f : Str} (n : NoAttr K C f) : PySem.W.takerIn K C f = some none := by
  unfold PySem.W.takerIn
  rw [show PySem.W.findIn K (.ref C) f = some none from n]
  rfl
structure Meth (K : PySem.W.Frag) (C : Addr) (m : Str) (f : Addr) : Prop where
  at_ : PySem.W.findIn K (.ref C) m = some (some (.ref f))
  fn : PySem.W.isFn K (.ref f) = true
  kp : PySem.W.keepIn K (.ref f) = true
section
variable {X : Cx} {pins : List (Addr × Obj)} {σ : St} {H : Hp} {s : Shared} {a C dx : Addr} {fs : List (Str × V)} {f : Str} {v : V} {A : Around} {E : Value → Shared → Prop}
theorem getattr_ok {b : Bool} {Q : Value → Shared → Prop} (I : Inv X pins σ H s) (e : H a = some (.ins C dx fs)) (c : Cls X.K C) (n : NoAttr X.K C f) (l : fs.lookup f = some v)
    (h : ∀ u s', Inv X pins σ H s' → RelV v u → Q u s') : wpAny (model X.prog X.w) A (getAttr (.ref a) f b) Q E s := by
  obtain ⟨mA, O, r, _, _, _⟩ := ins_get I.hok e
  obtain ⟨u, hu, ru⟩ := RelO.some_of (v := v) (o := mA f) (by rw [← l]; exact r f)
  exact get_map I.kIn O (c.get f) c.hd n hu (handed_of ru) (h u _ (I.tok _) ru)
theorem getmeth_ok {m : Str} {g : Addr} {pl : Sem Bool} {Q : Value × List Value → Shared → Prop} (I : Inv X pins σ H s) (e : H a = some (.ins C dx fs)) (c : Cls X.K C) (k : Meth X.K C m g) (l : fs.lookup m = none)
    (h : Q (.ref g, [.ref a]) s) : wpAny (model X.prog X.w) A (getMethod (.ref a) m pl) Q E s := by
  obtain ⟨mA, O, r, _, _, _⟩ := ins_get I.hok e
  have hn : mA m = none := RelO.none_of (by rw [← l]; exact r m)
  exact get_meth I.kIn O (c.get m) k.at_ k.fn hn h
theorem setattr_ok {y : V} {u : Value} {Q : Unit → Shared → Prop} (I : Inv X pins σ H s) (e : H a = some (.ins C dx fs)) (c : Cls X.K C) (n : NoAttr X.K C f) (hl : fs.length < 1000) (ry : RelV y u)
    (h : ∀ s', Inv X pins σ (upd H a (.ins C dx (putF f y fs))) s' → Q () s') : wpAny (model X.prog X.w) A (setAttr (.ref a) f u) Q E s := by
  obtain ⟨mA, O, r, wi, _, ho⟩ := ins_get I.hok e
  have hz : (fs.map (·.1)).length ≤ sizeLine := by rw [List.length_map, sizeLine_eq]; omega
  refine set_map I.kIn O c.sa c.po n.taker c.hd wi hz fun h' O' sb => h _ ?_
  have hd : ∃ o, h'.get? dx = some o := let ⟨o, _, _, e', _⟩ := O'.ns; ⟨o, e'⟩
  refine I.write (x := a) (e := dx) (by rw [e]; exact True.intro) (.inr ho) (fun b q hb z => (sb.2 b hb).trans z) hd ?_
  refine ⟨by rw [upd_ne O.ne]; exact ho, ?_, O.ne, O'.obj, _, O'.ns, fun g => ?_, fun g hg => ?_⟩
  · have := length_putF f y fs; omega
  · show RelO ((putF f y fs).lookup g) (if g = f then some u else mA g)
    rw [lookup_putF]
    by_cases q : g = f
    · rw [if_pos q, if_pos q]; exact ry
    · rw [if_neg q, if_neg q]; exact r g
  · by_cases q : g = f
    · rw [q]; exact (keys_putF f y fs).1
    · refine (keys_putF f y fs).2 g (wi g fun z => hg ?_)
      show (if g = f then some u else mA g) = none
      rw [if_neg q]; exact z
theorem Inv.made (I : Inv X pins σ H s) : Inv X pins σ (upd (upd H s.heap.objs.size (.own (s.heap.objs.size + 1))) (s.heap.objs.size + 1) (.ins C s.heap.objs.size []))
    { s with heap := (s.heap.push PySem.W.emptyDict).push (PySem.W.instObj C s.heap.objs.size) } := by
  have e1 : (s.heap.push PySem.W.emptyDict).get? s.heap.objs.size = some PySem.W.emptyDict := Heap.get?_push_size s.heap rfl
  have e2 : ((s.heap.push PySem.W.emptyDict).push (PySem.W.instObj C s.heap.objs.size)).get? (s.heap.objs.size + 1) = some (PySem.W.instObj C s.heap.objs.size) := by
    have := Heap.get?_push_size (s.heap.push PySem.W.emptyDict) (o := PySem.W.instObj C s.heap.objs.size) rfl
    rwa [Heap.size_push] at this
  have e3 : (s.heap.push PySem.W.emptyDict).Ns s.heap.objs.size (fun _ => none) := ⟨PySem.W.emptyDict, #[], _, e1, rfl, (fun e he => absurd he (by simp)), fun _ => rfl⟩
  have I1 := I.laid (a := s.heap.objs.size) (o := .own (s.heap.objs.size + 1)) (h' := s.heap.push PySem.W.emptyDict) (t' := s.toks) (fun b u q => Heap.get?_push_of_some _ q) (Nat.le_refl _) ⟨_, e1⟩
  refine I1.laid (a := s.heap.objs.size + 1) (o := .ins C s.heap.objs.size []) (t' := s.toks) (fun b u q => Heap.get?_push_of_some _ q) (Nat.le_of_eq (Heap.size_push _ _)) ?_
  have ne : s.heap.objs.size ≠ s.heap.objs.size + 1 := Nat.ne_of_lt (Nat.lt_succ_self _)
  refine ⟨by rw [upd_ne ne, upd_same], Nat.zero_le _, ne, e2, fun _ => none, (Heap.Ns1.of_empty e3).at fun o q => Heap.get?_push_of_some _ q, fun _ => True.intro, fun y hy => absurd rfl hy⟩
theorem attr_of {prog : Program} {w : World} {env : Env} {e : Expr} {f : Str} {pos : Pos} {s : Shared} {Q : Value → Shared → Prop} (hb : attributeBase e f env (eval e env) = eval e env)
    (h : wpAny (model prog w) A (eval e env) (fun o s₁ => wpAny (model prog w) A (getAttr o f true) Q E s₁) E s) : wpAny (model prog w) A (eval (.Attribute e f pos) env) Q E s :=
  Attribute_any_ h (by rw [arm_eval_Attribute, hb])
end
def tFld (K : PySem.W.Frag) (ta : TE) (f : Str) : TE := fun σ H Q => ta σ H fun x H1 => ∃ a C dx fs v, x = .ref a ∧ H1 a = some (.ins C dx fs) ∧ Cls K C ∧ NoAttr K C f ∧ fs.lookup f = some v ∧ Q v H1
def sFld (K : PySem.W.Frag) (ta tv : TE) (f : Str) : TS := fun D σ H => tv σ H fun y H1 => ta σ H1 fun x H2 => ∃ a C dx fs, x = .ref a ∧ H2 a = some (.ins C dx fs) ∧ Cls K C ∧ NoAttr K C f ∧ fs.length < 1000 ∧
  D.nx σ (upd H2 a (.ins C dx (putF f y fs)))
def InOp (X : Cx) (op : Operator) (rd : V → V → Hp → VK → Prop) : Prop :=
  ∀ (pins : List (Addr × Obj)) (s : Shared) (σ : St) (H : Hp) (x y : V) (u v : Value) (Q : VK), Inv X pins σ H s → RelV x u → RelV y v → rd x y H Q → wpAny (model X.prog X.w) X.A (inplaceOp op u v) (EP X pins σ Q) X.xe s
def sFldAug (K : PySem.W.Frag) (ta tv : TE) (rd : V → V → Hp → VK → Prop) (f : Str) : TS := fun D σ H => ta σ H fun x H1 => ∃ a C dx fs v, x = .ref a ∧ H1 a = some (.ins C dx fs) ∧ Cls K C ∧ NoAttr K C f ∧ fs.lookup f = some v ∧
  tv σ H1 fun y H2 => rd v y H2 fun z H3 => ∃ dx' fs', H3 a = some (.ins C dx' fs') ∧ fs'.length < 1000 ∧ D.nx σ (upd H3 a (.ins C dx' (putF f z fs')))
section
variable {X : Cx} {o e value : Expr} {f : Str} {pos pos' tpos : Pos} {ta tv : TE}
theorem pe_fld (he : PE X e ta) (hb : attributeBase e f X.env (eval e X.env) = eval e X.env) : PE X (.Attribute e f pos) (tFld X.K ta f) := by
  intro pins s σ H Q I h
  refine attr_of hb (thn (he pins s σ H _ I h) fun u s1 ⟨x, H1, I1, rx, a, C, dx, fs, v, ex, ea, c, n, l, q⟩ => ?_)
  subst ex
  obtain rfl : u = Value.ref a := rx
  exact getattr_ok I1 ea c n l fun u' s2 I2 ru => ⟨v, H1, I2, ru, q⟩
theorem ps_fld (ha : PE X o ta) (hv : PE X value tv) (hs : swapsWith value (some (.Attribute o f pos')) pos.line X.env = pure false) : PS X (.Assign [.Attribute o f pos'] value pos) (sFld X.K ta tv f) := by
  intro pins s σ H D I h
  refine plainObj_wpAny_Assign_Attribute (thn (hv pins s σ H _ I h) fun u s1 ⟨y, H1, I1, ry, q⟩ => thn (ha pins s1 σ H1 _ I1 q) fun ov s2 ⟨x, H2, I2, rx, a, C, dx, fs, ex, ea, c, n, l, q2⟩ => ?_) hs
  subst ex
  obtain rfl : ov = Value.ref a := rx
  exact setattr_ok I2 ea c n l ry fun s3 I3 => ⟨σ, _, I3, q2⟩
theorem ps_fldaug {op : Operator} {rd : V → V → Hp → VK → Prop} (ha : PE X o ta) (hv : PE X value tv) (hop : InOp X op rd) : PS X (.AugAssign (.Attribute o f tpos) op value pos) (sFldAug X.K ta tv rd f) := by
  intro pins s σ H D I h
  refine wpAny_AugAssign_AttributeAny (thn (ha pins s σ H _ I h) fun ov s1 ⟨x, H1, I1, rx, a, C, dx, fs, v, ex, ea, c, n, l, q⟩ => ?_)
  subst ex
  obtain rfl : ov = Value.ref a := rx
  refine getattr_ok I1 ea c n l fun u s2 I2 ru => thn (hv pins s2 σ H1 _ I2 q) fun w3 s3 ⟨y, H2, I3, ry, q3⟩ => thn (hop pins s3 σ H2 v y u w3 _ I3 ru ry q3) fun w4 s4 ⟨z, H3, I4, rz, dx', fs', ea', l', q4⟩ => ?_
  exact setattr_ok I4 ea' c n l' rz fun s5 I5 => ⟨σ, _, I5, q4⟩
def rAdd : V → V → Hp → VK → Prop := fun x y H Q => ∃ i j, x = .int i ∧ y = .int j ∧ Q (.int (i + j)) H
theorem in_add : InOp X .Add rAdd := by
  rintro pins s σ H x y u v Q I rx ry ⟨i, j, rfl, rfl, q⟩
  obtain ⟨t, rfl⟩ := (show ∃ t, u = Value.int i t from rx)
  obtain ⟨t', rfl⟩ := (show ∃ t', v = Value.int j t' from ry)
  exact PyProof.Rows.iadd_int ⟨.int (i + j), H, I.tok _, ⟨_, rfl⟩, q⟩
theorem methcall_of {pl : Sem Bool} {m : Str} {apos : Pos} {args : List Expr} {pins : List (Addr × Obj)} {s : Shared} {σ : St} {H : Hp} {Q : Value → Shared → Prop} {te : TE} (he : PE X e te) (I : Inv X pins σ H s)
    (h : te σ H fun x H1 => ∃ a C dx fs g, x = .ref a ∧ H1 a = some (.ins C dx fs) ∧ Cls X.K C ∧ Meth X.K C m g ∧ fs.lookup m = none ∧
      ∀ s1, Inv X pins σ H1 s1 → wpAny (model X.prog X.w) X.A (callWith pos (.ref g) [.ref a] (backTo pos (starEach args X.env)) (backToKw pos (keywordEach [] X.env))) Q X.xe s1)
    (ht : eval (.Call (.Attribute e m apos) args [] pos) X.env = (do
      let ov ← eval e X.env
      standAt apos.atName
      let (f, first) ← holding [ov] (getMethod ov m pl)
      callWith pos f first (backTo pos (starEach args X.env)) (backToKw pos (keywordEach [] X.env)))) :
    wpAny (model X.prog X.w) X.A (eval (.Call (.Attribute e m apos) args [] pos) X.env) Q X.xe s := by
  refine PySem.W.methodCall_KW (pl := pl) (thn (he pins s σ H _ I h) fun u s1 ⟨x, H1, I1, rx, a, C, dx, fs, g, ex, ea, c, k, l, q⟩ => ?_) ht
  subst ex
  obtain rfl : u = Value.ref a := rx
  exact getmeth_ok I1 ea c k l (q s1 I1)
end
section
variable {X : Cx} {pins : List (Addr × Obj)} {σ : St} {H : Hp} {s : Shared} {A : Around} {E : Value → Shared → Prop} {Q : Value → Shared → Prop} {c : Value} {b : Bool}
end
end L2
namespace L2
open PySem PySem.Spec PyProof.Rows
structure Room (k : Nat) (A : Around) : Prop where
  hd : A.handled = none
  dp : A.depth + 3 * k + 5 < recursionLimit
  un : A.units + 16 * k + 200 < cLine
theorem Room.mono {j k : Nat} {A : Around} (r : Room k A) (h : j ≤ k) : Room j A := ⟨r.hd, by have := r.dp; omega, by have := r.un; omega⟩
theorem Room.deeper {k : Nat} {A : Around} (r : Room (k + 1) A) (env : Env) : Room k (A.deeper env) :=
  ⟨r.hd, by have := r.dp; show A.depth + 1 + 3 * k + 5 < _; omega, by have := r.un; show A.units + 3 + 16 * k + 200 < _; omega⟩
theorem make_depth {A : Around} {C : Addr} {us : List Value} {kw : List (Str × Value)} : (A.under (.builtin "type.__call__" ⟨.ref C :: us, kw⟩)).depth = A.depth + 1 := by
  first | rfl | simp [Around.under, Code.weight, Code.isCreation, Code.isGuard, Code.isCaller, Code.frames, Code.isFrame, guardIds]
theorem make_units {A : Around} {C : Addr} {us : List Value} {kw : List (Str × Value)} : (A.under (.builtin "type.__call__" ⟨.ref C :: us, kw⟩)).units = A.units + 1 := by
  first | rfl | simp [Around.under, Code.cUnits, Code.frames, Code.isFrame]
theorem Room.make {k : Nat} {A : Around} (r : Room (k + 1) A) (C : Addr) (us : List Value) (kw : List (Str × Value)) : Room k (A.under (.builtin "type.__call__" ⟨.ref C :: us, kw⟩)) :=
  ⟨r.hd, by have := r.dp; rw [make_depth]; omega, by have := r.un; rw [make_units]; omega⟩
theorem Room.depth {k : Nat} {A : Around} (r : Room k A) : A.depth < recursionLimit := by have := r.dp; omega
def tNil : TA := fun _ H Q => Q [] H
def tCons (ta : TE) (tr : TA) : TA := fun σ H Q => ta σ H fun x H1 => tr σ H1 fun xs H2 => Q (x :: xs) H2
section
variable {X : Cx} {e : Expr} {es : List Expr} {te : TE} {t : TA} {pos : Pos}
theorem pa_nil : PA X [] tNil := fun _ _ _ _ H Q I h => Calls.spliced_nil ⟨[], H, I, .nil, h⟩
theorem pa_cons (ha : PE X e te) (hr : PA X es t) (hs : starEach (e :: es) X.env = (false, eval e X.env) :: starEach es X.env := by rfl) : PA X (e :: es) (tCons te t) := by
  intro pos pins s σ H Q I h
  rw [hs]
  show wpAny _ _ (spliced ((false, eval e X.env) :: backTo pos (starEach es X.env))) _ _ s
  refine Calls.spliced_cons (thn (ha pins s σ H _ I h) fun u s1 ⟨x, H1, I1, r1, q1⟩ => ?_)
  exact thn (hr pos pins s1 σ H1 _ I1 q1) fun us s2 ⟨xs, H2, I2, r2, q2⟩ => ⟨x :: xs, H2, I2, .cons r1 r2, q2⟩
def tTup (t : TA) : TE := fun σ H Q => t σ H fun xs H1 => xs.length ≤ sizeLine ∧ ∀ p, H1 p = none → Q (.ref p) (upd H1 p (.tup xs))
def tLst (t : TA) : TE := fun σ H Q => t σ H fun xs H1 => xs.length ≤ sizeLine ∧ ∀ p, H1 p = none → Q (.ref p) (upd H1 p (.lst xs))
theorem pe_tup {x1} (h : PA X es t) : PE X (.Tuple es x1 pos) (tTup t) := by
  intro pins s σ H Q I hq
  refine wpAny_Tuple_spliced (thn (h pos pins s σ H _ I hq) fun us s1 ⟨xs, H1, I1, r, z, q⟩ => ⟨by rw [← r.length]; exact z, ?_⟩)
  have hf : H1 s1.heap.objs.size = none := I1.hok.fresh (Nat.le_refl _)
  refine ⟨.ref s1.heap.objs.size, upd H1 s1.heap.objs.size (.tup xs), I1.laid (t' := s1.toks) (fun b u e => Heap.get?_push_of_some _ e) (Nat.le_refl _) ?_, rfl, q _ hf⟩
  exact ⟨z, us, r, ⟨_, Heap.get?_push_size _ rfl, rfl, _, rfl⟩⟩
theorem pe_lst (h : PA X es t) : PE X (.List es pos) (tLst t) := by
  intro pins s σ H Q I hq
  refine wpAny_List_spliced (thn (h pos pins s σ H _ I hq) fun us s1 ⟨xs, H1, I1, r, z, q⟩ => ⟨by rw [← r.length]; exact z, ?_⟩)
  have hf : H1 s1.heap.objs.size = none := I1.hok.fresh (Nat.le_refl _)
  refine ⟨.ref s1.heap.objs.size, upd H1 s1.heap.objs.size (.lst xs), I1.laid (t' := s1.toks) (fun b u e => Heap.get?_push_of_some _ e) (Nat.le_refl _) ?_, rfl, q _ hf⟩
  exact ⟨z, us, 0, r, Heap.get?_push_size _ rfl⟩
end
abbrev Sp := List V → Hp → VK → XK → Prop
abbrev CXT := List Env → Hp → Shared → XK → Value → Shared → Prop
structure Env0 (P : Program) (w : World) (K : PySem.W.Frag) (mg : Str → Option Value) (base : Heap) (A : Around) (outer : List Env) (s : Shared) (H : Hp) : Prop where
  frames : A.frames = some outer
  mod : Mod K mg base
  bs : ∀ b o, base.get? b = some o → s.heap.get? b = some o ∧ H b = none
  bsz : base.objs.size ≤ s.heap.objs.size
  funs : s.heap.FunFrames base outer
  frf : ∀ b ∈ frs outer, H b = none
  hok : HOk P w H s.heap
  bare : AllBare s.gens
def CE (outer : List Env) (P : Program) (w : World) (H : Hp) (s : Shared) (Q : VK) (u : Value) (s' : Shared) : Prop :=
  ∃ v H', s'.os = s.os ∧ AllBare s'.gens ∧ Un (frs outer) [] H H' s.heap s'.heap ∧ HOk P w H' s'.heap ∧ RelV v u ∧ Q v H'
def CR (CX : CXT) (outer : List Env) (P : Program) (w : World) (H : Hp) (s : Shared) (Q : VK) (E : XK) (r : Result) (s' : Shared) : Prop :=
  match r with
  | .ok (.ret u) => CE outer P w H s Q u s'
  | .ok _ => False
  | .error e => CX outer H s E e s'
structure FnOk (P : Program) (w : World) (K : PySem.W.Frag) (mg : Str → Option Value) (base : Heap) (CX : CXT) (k : Nat) (f : Addr) (fd : FuncData) (ps : List Str) (sp : Sp) : Prop where
  len : ∀ vs H Q E, sp vs H Q E → vs.length = ps.length
  run : ∀ (A : Around) (outer : List Env) (s : Shared) (H : Hp) (args : Args) (us : List Value) (vs : List V) (Q : VK) (E : XK), Room k A → Env0 P w K mg base A outer s H → BindsTo s fd args (ps.zip us) → Vals vs us → sp vs H Q E →
    codeAny (model P w) A (.call (.ref f) args) (CR CX outer P w H s Q E) s
theorem Env0.make {P : Program} {w : World} {K : PySem.W.Frag} {mg : Str → Option Value} {base : Heap} {A : Around} {outer : List Env} {s : Shared} {H : Hp} (e : Env0 P w K mg base A outer s H) (C : Addr) (us : List Value) (kw : List (Str × Value)) :
    Env0 P w K mg base (A.under (.builtin "type.__call__" ⟨.ref C :: us, kw⟩)) outer s H := ⟨by first | exact e.frames | (simpa [Around.under, Code.envs, Code.isFrame, pushEnvs] using e.frames), e.mod, e.bs, e.bsz, e.funs, e.frf, e.hok, e.bare⟩
section
variable {X : Cx} {pins : List (Addr × Obj)} {σ : St} {H : Hp} {s s' : Shared}
theorem Inv.env0 (I : Inv X pins σ H s) : Env0 X.prog X.w X.K X.mg X.base X.A X.stack s H :=
  ⟨I.ok.frames, I.ok.mod, I.bs, Nat.le_trans I.ok.bsz I.sz, I.stack, I.stkFree, I.hok, I.bare⟩
theorem Inv.after {Q : VK} {u : Value} (I : Inv X pins σ H s) (h : CE X.stack X.prog X.w H s Q u s') : EP X pins σ Q u s' := by
  obtain ⟨v, H', os, bare, un, hok, r, q⟩ := h
  obtain ⟨hh, g, d, t, os'⟩ := s'
  obtain rfl : os' = s.os := os
  exact ⟨v, H', I.call (h' := hh) (g' := g) (d' := d) (t' := t) (ch := []) un hok bare (fun b z => absurd z (by simp)), r, q⟩
end
def tCall (sp : Sp) (dvs : List V) (E : XK) (t : TA) : TE := fun σ H Q => t σ H fun vs H1 => sp (vs ++ dvs) H1 Q E
def tMeth (C : Addr) (m : Str) (sp : Sp) (dvs : List V) (E : XK) (ta : TE) (t : TA) : TE := fun σ H Q => ta σ H fun x H1 => ∃ a dx fs, x = .ref a ∧ H1 a = some (.ins C dx fs) ∧ fs.lookup m = none ∧
  t σ H1 fun vs H2 => sp (x :: (vs ++ dvs)) H2 Q E
def tMake (C : Addr) (sp : Sp) (dvs : List V) (E : XK) (t : TA) : TE := fun σ H Q => t σ H fun vs H1 => ∀ x dx, H1 x = none → H1 dx = none → dx ≠ x →
  sp (.ref x :: (vs ++ dvs)) (upd (upd H1 dx (.own x)) x (.ins C dx [])) (fun v H2 => v = .non ∧ Q (.ref x) H2) E
def Binds (K : PySem.W.Frag) (fd : FuncData) (ps : List Str) (ds : List Value) : Prop :=
  ∀ (s : Shared) (us : List Value), K.In s.heap → (us ++ ds).length = ps.length → BindsTo s fd ⟨us, []⟩ (ps.zip (us ++ ds))
theorem Binds.all {K : PySem.W.Frag} {fd : FuncData} {ps : List Str} (h : ∀ us : List Value, us.length = ps.length → bindArgs fd ⟨us, []⟩ = pure (ps.zip us)) : Binds K fd ps [] := fun s us _ hl => by
  rw [List.append_nil] at hl ⊢
  exact .of_eq (h us hl)
def Passes (CX : CXT) (X : Cx) (E : XK) : Prop := ∀ (pins : List (Addr × Obj)) (σ : St) (H : Hp) (s : Shared) (e : Value) (s' : Shared), Inv X pins σ H s → CX X.stack H s E e s' → X.xe e s'
section
variable {X : Cx} {CX : CXT} {k : Nat} {f C : Addr} {fd : FuncData} {ps : List Str} {sp : Sp} {dvs : List V} {ds : List Value} {E : XK} {x m : Str} {p pos apos : Pos} {e o : Expr} {es : List Expr} {ta : TE} {t : TA}
theorem run_fn {pins : List (Addr × Obj)} {σ : St} {H : Hp} {s : Shared} {Q : VK} {us : List Value} {vs : List V} (F : FnOk X.prog X.w X.K X.mg X.base CX k f fd ps sp) (hr : Room k X.A) (hb : Binds X.K fd ps ds) (hd : Vals dvs ds) (hx : Passes CX X E)
    (I : Inv X pins σ H s) (r : Vals vs us) (h : sp (vs ++ dvs) H Q E) : wpAny (model X.prog X.w) X.A (call (.ref f) us) (EP X pins σ Q) X.xe s := by
  have r2 : Vals (vs ++ dvs) (us ++ ds) := r.append hd
  have hl : (us ++ ds).length = ps.length := by rw [← r2.length]; exact F.len _ _ _ _ h
  refine wpAny_call (codeAny_mono (F.run X.A X.stack s H ⟨us, []⟩ (us ++ ds) (vs ++ dvs) Q E hr I.env0 (hb s us I.kIn hl) r2 h) fun r s' hq => ?_)
  cases r with
  | error e => exact hx pins σ H s e s' I hq
  | ok fl =>
    cases fl with
    | ret u => exact I.after hq
    | next => exact False.elim hq
    | brk => exact False.elim hq
    | cont => exact False.elim hq
theorem pe_call (F : FnOk X.prog X.w X.K X.mg X.base CX k f fd ps sp) (hr : Room k X.A) (hg : Gl X x) (hm : X.mg x = some (.ref f)) (hk : PySem.W.keepIn X.K (.ref f) = true) (hb : Binds X.K fd ps ds) (hd : Vals dvs ds) (hx : Passes CX X E)
    (ha : PA X (e :: es) t) (hdb : (x == ("__debug__" : Str)) = false := by decide) (he : starEach (e :: es) X.env = (false, eval e X.env) :: starEach es X.env := by rfl) (hpl : (backTo pos (starEach es X.env)).any (·.1) = false := by rfl) :
    PE X (.Call (.Name x p) (e :: es) [] pos) (tCall sp dvs E t) := by
  intro pins s σ H Q I h
  refine wpAny_Call_Name_kw (ld_glob I hg hm ?_ hdb)
  refine PySem.W.callWith_K (h₀ := X.base) I.ok.mod.kin hk (thn (ha pos pins s σ H _ I h) fun us s1 ⟨vs, H1, I1, r, q⟩ => ⟨I1.kIn, ?_⟩) he hpl
  exact run_fn F hr hb hd hx I1 r q
theorem pe_meth {pl : Sem Bool} (he : PE X o ta) (c : Cls X.K C) (hm : Meth X.K C m f) (F : FnOk X.prog X.w X.K X.mg X.base CX k f fd ps sp) (hr : Room k X.A) (hb : Binds X.K fd ps ds) (hd : Vals dvs ds) (hx : Passes CX X E) (ha : PA X (e :: es) t)
    (hst : starEach (e :: es) X.env = (false, eval e X.env) :: starEach es X.env := by rfl) (hpl : (backTo pos (starEach es X.env)).any (·.1) = false := by rfl)
    (ht : eval (.Call (.Attribute o m apos) (e :: es) [] pos) X.env = (do
      let ov ← eval o X.env
      standAt apos.atName
      let (f, first) ← holding [ov] (getMethod ov m pl)
      callWith pos f first (backTo pos (starEach (e :: es) X.env)) (backToKw pos (keywordEach [] X.env))) := by rfl) :
    PE X (.Call (.Attribute o m apos) (e :: es) [] pos) (tMeth C m sp dvs E ta t) := by
  intro pins s σ H Q I h
  refine PySem.W.methodCall_KW (pl := pl) (thn (he pins s σ H _ I h) fun u s1 ⟨x, H1, I1, rx, a, dx, fs, ex, ea, l, q⟩ => ?_) ht
  subst ex
  obtain rfl : u = Value.ref a := rx
  refine getmeth_ok I1 ea c hm l ?_
  refine PySem.W.callWith_K (first := [.ref a]) (h₀ := X.base) I.ok.mod.kin hm.kp (thn (ha pos pins s1 σ H1 _ I1 q) fun us s2 ⟨vs, H2, I2, r, q2⟩ => ⟨I2.kIn, ?_⟩) hst hpl
  exact run_fn (us := .ref a :: us) (vs := .ref a :: vs) F hr hb hd hx I2 (.cons rfl r) q2
theorem pe_meth0 {pl : Sem Bool} (he : PE X o ta) (c : Cls X.K C) (hm : Meth X.K C m f) (F : FnOk X.prog X.w X.K X.mg X.base CX k f fd ps sp) (hr : Room k X.A) (hb : Binds X.K fd ps ds) (hd : Vals dvs ds) (hx : Passes CX X E)
    (ht : eval (.Call (.Attribute o m apos) [] [] pos) X.env = (do
      let ov ← eval o X.env
      standAt apos.atName
      let (f, first) ← holding [ov] (getMethod ov m pl)
      callWith pos f first (backTo pos (starEach [] X.env)) (backToKw pos (keywordEach [] X.env))) := by rfl) :
    PE X (.Call (.Attribute o m apos) [] [] pos) (tMeth C m sp dvs E ta tNil) := by
  intro pins s σ H Q I h
  refine PySem.W.methodCall_KW (pl := pl) (thn (he pins s σ H _ I h) fun u s1 ⟨x, H1, I1, rx, a, dx, fs, ex, ea, l, q⟩ => ?_) ht
  subst ex
  obtain rfl : u = Value.ref a := rx
  refine getmeth_ok I1 ea c hm l ?_
  exact PySem.W.callWith_K0 (first := [.ref a]) I1.kIn hm.kp (run_fn (us := [.ref a]) (vs := [.ref a]) F hr hb hd hx I1 (.cons rfl .nil) q)
structure Mk (K : PySem.W.Frag) (C f : Addr) : Prop where
  makes : PySem.W.makesIn K C = true
  init : PySem.W.findIn K (.ref C) "__init__" = some (some (.ref f))
  fn : PySem.W.isFn K (.ref f) = true
  kp : PySem.W.keepIn K (.ref C) = true
theorem run_make {pins : List (Addr × Obj)} {σ : St} {H : Hp} {s : Shared} {Q : VK} {us : List Value} {vs : List V} (M : Mk X.K C f) (F : FnOk X.prog X.w X.K X.mg X.base CX k f fd ps sp) (hr : Room (k + 1) X.A) (hb : Binds X.K fd ps ds) (hd : Vals dvs ds)
    (hx : Passes CX X E) (I : Inv X pins σ H s) (r : Vals vs us)
    (h : ∀ x dx, H x = none → H dx = none → dx ≠ x → sp (.ref x :: (vs ++ dvs)) (upd (upd H dx (.own x)) x (.ins C dx [])) (fun v H2 => v = .non ∧ Q (.ref x) H2) E) :
    wpAny (model X.prog X.w) X.A (call (.ref C) us) (EP X pins σ Q) X.xe s := by
  have hq := h (s.heap.objs.size + 1) s.heap.objs.size (I.hok.fresh (Nat.le_succ _)) (I.hok.fresh (Nat.le_refl _)) (Nat.ne_of_lt (Nat.lt_succ_self _))
  have I2 := Inv.made (C := C) I
  have r2 : Vals (V.ref (s.heap.objs.size + 1) :: (vs ++ dvs)) (Value.ref (s.heap.objs.size + 1) :: (us ++ ds)) := .cons rfl (r.append hd)
  have hl : (Value.ref (s.heap.objs.size + 1) :: us ++ ds).length = ps.length := by
    have e := r2.length
    rw [F.len _ _ _ _ hq] at e
    exact e.symm
  refine wpAny_call (make_map (f := f) I.kIn M.makes M.init (beq_iff_eq.mp M.fn) (codeAny_mono (F.run _ X.stack _ _ ⟨Value.ref (s.heap.objs.size + 1) :: us, []⟩ (Value.ref (s.heap.objs.size + 1) :: (us ++ ds)) _ _ E (hr.make C us [])
    (I2.env0.make C us []) (hb _ (Value.ref (s.heap.objs.size + 1) :: us) I2.kIn hl) r2 hq) fun r s' hq' => ?_))
  cases r with
  | error e => exact hx pins σ _ _ e s' I2 hq'
  | ok fl =>
    cases fl with
    | ret u =>
      obtain ⟨v, H', I3, rv, ev, q3⟩ := I2.after hq'
      subst ev
      exact ⟨rv, ⟨V.ref (s.heap.objs.size + 1), H', I3, rfl, q3⟩⟩
    | next => exact False.elim hq'
    | brk => exact False.elim hq'
    | cont => exact False.elim hq'
theorem pe_make (M : Mk X.K C f) (F : FnOk X.prog X.w X.K X.mg X.base CX k f fd ps sp) (hr : Room (k + 1) X.A) (hg : Gl X x) (hm : X.mg x = some (.ref C)) (hb : Binds X.K fd ps ds) (hd : Vals dvs ds) (hx : Passes CX X E)
    (ha : PA X (e :: es) t) (hdb : (x == ("__debug__" : Str)) = false := by decide) (he : starEach (e :: es) X.env = (false, eval e X.env) :: starEach es X.env := by rfl) (hpl : (backTo pos (starEach es X.env)).any (·.1) = false := by rfl) :
    PE X (.Call (.Name x p) (e :: es) [] pos) (tMake C sp dvs E t) := by
  intro pins s σ H Q I h
  refine wpAny_Call_Name_kw (ld_glob I hg hm ?_ hdb)
  refine PySem.W.callWith_K (h₀ := X.base) I.ok.mod.kin M.kp (thn (ha pos pins s σ H _ I h) fun us s1 ⟨vs, H1, I1, r, q⟩ => ⟨I1.kIn, ?_⟩) he hpl
  exact run_make M F hr hb hd hx I1 r q
theorem pe_make0 (M : Mk X.K C f) (F : FnOk X.prog X.w X.K X.mg X.base CX k f fd ps sp) (hr : Room (k + 1) X.A) (hg : Gl X x) (hm : X.mg x = some (.ref C)) (hb : Binds X.K fd ps ds) (hd : Vals dvs ds) (hx : Passes CX X E)
    (hdb : (x == ("__debug__" : Str)) = false := by decide) : PE X (.Call (.Name x p) [] [] pos) (tMake C sp dvs E tNil) := by
  intro pins s σ H Q I h
  refine wpAny_Call_Name_kw (ld_glob I hg hm ?_ hdb)
  exact PySem.W.callWith_K0 I.kIn M.kp (run_make (us := []) M F hr hb hd hx I .nil h)
end
section
variable {X : Cx} {CX : CXT} {k : Nat} {f C : Addr} {fd : FuncData} {ps ks : List Str} {sp : Sp} {E : XK} {x m : Str} {p pos apos kpos : Pos} {e o : Expr} {es : List Expr} {kws : List Keyword} {te ta : TE} {t tk : TA} {nm : Option Str}
variable {g : List Value → List Value → List Value} {gV : List V → List V → List V}
end
structure FnScope (N P : List Str) (sc : Scope) : Prop where
  kind : sc.kind = .function
  co : sc.isCoroutine = false
  gen : sc.isGenerator = false
  nd : N.Nodup
  pre : N.take P.length = P
  par : ∀ x ∈ P, sc.names.lookup x = some .local ∨ sc.names.lookup x = some .cell
  nofree : ∀ y ∈ sc.names, y.2 ≠ .free
theorem bindL_out {kindOf : Str → Option NameKind} {x : Str} : ∀ {binds : List (Str × Value)} {m : Str → Option Value}, (∀ v, (x, v) ∉ binds) → bindL kindOf binds m x = m x
  | [], _, _ => rfl
  | (n, v) :: r, m, h => by
    unfold bindL
    rw [bindL_out fun w hw => h w (List.mem_cons_of_mem _ hw)]
    split
    · have : x ≠ n := by rintro rfl; exact h v List.mem_cons_self
      simp [this]
    · rfl
theorem bindC_out {kindOf : Str → Option NameKind} {x : Str} : ∀ {binds : List (Str × Value)} {m : Str → Option Value}, (∀ v, (x, v) ∉ binds) → bindC kindOf binds m x = m x
  | [], _, _ => rfl
  | (n, v) :: r, m, h => by
    unfold bindC
    rw [bindC_out fun w hw => h w (List.mem_cons_of_mem _ hw)]
    split
    · rfl
    · have : x ≠ n := by rintro rfl; exact h v List.mem_cons_self
      simp [this]
theorem bindL_get {kindOf : Str → Option NameKind} {x : Str} {v : Value} : ∀ {P : List Str} {vs : List Value} {i : Nat} {m : Str → Option Value}, P.Nodup → P[i]? = some x → vs[i]? = some v → kindOf x = some .local →
    bindL kindOf (P.zip vs) m x = some v
  | [], _, _, _, _, h, _, _ => by simp at h
  | _ :: _, [], _, _, _, _, h, _ => by simp at h
  | p :: P, w :: vs, 0, m, nd, h1, h2, hk => by
    simp at h1 h2; subst h1; subst h2
    show bindL kindOf ((p, w) :: P.zip vs) m p = _
    unfold bindL
    rw [bindL_out fun v hv => (List.nodup_cons.mp nd).1 (List.of_mem_zip hv).1, if_pos hk]
    simp
  | p :: P, w :: vs, i + 1, m, nd, h1, h2, hk => by
    show bindL kindOf ((p, w) :: P.zip vs) m x = _
    unfold bindL
    exact bindL_get (i := i) (List.nodup_cons.mp nd).2 (by simpa using h1) (by simpa using h2) hk
theorem bindC_get {kindOf : Str → Option NameKind} {x : Str} {v : Value} : ∀ {P : List Str} {vs : List Value} {i : Nat} {m : Str → Option Value}, P.Nodup → P[i]? = some x → vs[i]? = some v → kindOf x ≠ some .local →
    bindC kindOf (P.zip vs) m x = some v
  | [], _, _, _, _, h, _, _ => by simp at h
  | _ :: _, [], _, _, _, _, h, _ => by simp at h
  | p :: P, w :: vs, 0, m, nd, h1, h2, hk => by
    simp at h1 h2; subst h1; subst h2
    show bindC kindOf ((p, w) :: P.zip vs) m p = _
    unfold bindC
    rw [bindC_out fun v hv => (List.nodup_cons.mp nd).1 (List.of_mem_zip hv).1, if_neg hk]
    simp
  | p :: P, w :: vs, i + 1, m, nd, h1, h2, hk => by
    show bindC kindOf ((p, w) :: P.zip vs) m x = _
    unfold bindC
    exact bindC_get (i := i) (List.nodup_cons.mp nd).2 (by simpa using h1) (by simpa using h2) hk
def start (N : List Str) (vs : List V) : St := vs.map some ++ List.replicate (N.length - vs.length) none
def cxOf (CX : CXT) (P : Program) (w : World) (K : PySem.W.Frag) (mg : Str → Option Value) (base : Heap) (N : List Str) (qual : Str) (scope : Scope) (f : Addr) (cd : Value) (A : Around) (outer : List Env) (s : Shared) (H : Hp) (E : XK) : Cx where
  prog := P
  w := w
  K := K
  mg := mg
  base := base
  A := A.deeper (envOfC qual scope s.heap.objs.size f cd)
  N := N
  s_0 := s
  H_0 := H
  env := envOfC qual scope s.heap.objs.size f cd
  outer := outer
  stack := envOfC qual scope s.heap.objs.size f cd :: outer
  ex := []
  calm := true
  fn := fun _ => true
  pn := []
  xe := fun e s' => wpAny (model P w) (A.deeper (envOfC qual scope s.heap.objs.size f cd)) (leaving (envOfC qual scope s.heap.objs.size f cd) e) (fun _ s'' => CX outer H s E e s'') (fun e' s'' => CX outer H s E e' s'') s'
theorem cell_has {sc : Scope} {n : Nat} {x : Str} (h : sc.names.lookup x = some .cell) : ∃ c, (cellsFrom n sc.names []).lookup x = some c := by
  have q := PySem.W.cellsFrom_some sc.names n [] (.inl h)
  exact Option.isSome_iff_exists.mp q
theorem inv_start {CX : CXT} {P : Program} {w : World} {K : PySem.W.Frag} {mg : Str → Option Value} {base : Heap} {N ps : List Str} {qual : Str} {scope : Scope} {f : Addr} {cd : Value} {A : Around} {outer : List Env} {s s1 : Shared} {H : Hp} {E : XK} {us : List Value} {vs : List V}
    (S : FnScope N ps scope) (hd : A.handled = none) (e0 : Env0 P w K mg base A outer s H) (hl : vs.length = ps.length) (r : Vals vs us)
    (x : InCallC s s.heap.objs.size (bindL (envOfC qual scope s.heap.objs.size f cd).kindOf (ps.zip us) fun _ => none) (cellsFrom (s.heap.objs.size + 1) scope.names []) (bindC (envOfC qual scope s.heap.objs.size f cd).kindOf (ps.zip us) fun _ => none) s1) :
    Inv (cxOf CX P w K mg base N qual scope f cd A outer s H E) [] (start N vs) H s1 := by
  have hpl : ps.length ≤ N.length := by have := congrArg List.length S.pre; rw [List.length_take] at this; omega
  obtain ⟨h1, tk, rfl, hk⟩ := x.done
  have noA : ∀ b : Addr, b ∉ (cxOf CX P w K mg base N qual scope f cd A outer s H E).ex := fun b z => absurd (show b ∈ ([] : List Addr) from z) (by simp)
  refine ⟨⟨e0.mod, S.kind, rfl, rfl, Nat.le_refl _, fun y z c h1 h2 => ?_, fun y hy => ?_, fun y c _ h => ?_, fun _ => hd, Around.frames_deeper e0.frames, .inr ⟨rfl, rfl⟩, fun b z => absurd z (noA b), e0.bs, e0.bsz, fun b _ _ => noA b, fun b z => absurd z (noA b), e0.funs, e0.frf⟩,
    rfl, e0.bare, Un.kept hk, ⟨_, x.toInCall.ns, fun i y v h1 h2 h3 => ?_⟩, fun y c h => ⟨_, x.cell y c h⟩, e0.hok.fresh (Nat.le_refl _), fun y c h => ?_, fun p hp => absurd (show p ∈ ([] : List (Addr × Obj)) from hp) (by simp), e0.hok.kept hk, ?_⟩
  · exact name_of_addr x.apart (PySem.mem_of_lookup h1) (PySem.mem_of_lookup h2)
  · have hy : scope.names.lookup y = some .cell ∨ scope.names.lookup y = some .free := hy
    rcases hy with hy | hy
    · exact cell_has hy
    · exact absurd rfl (S.nofree _ (PySem.mem_of_lookup hy))
  · exact Nat.le_of_lt (x.above y c (PySem.mem_of_lookup h))
  · have hi : i < vs.length := by
      unfold start at h2
      by_cases hi : i < vs.length
      · exact hi
      · rw [List.getElem?_append_right (by simpa using hi)] at h2
        rw [List.getElem?_replicate] at h2
        split at h2 <;> cases h2
    have ha : vs[i]? = some v := by
      unfold start at h2
      rw [List.getElem?_append_left (by simpa using hi), List.getElem?_map] at h2
      cases e : vs[i]? with
      | none => rw [e] at h2; cases h2
      | some a => rw [e] at h2; cases h2; rfl
    obtain ⟨u, hu, rv⟩ := r.get ha
    have hp : ps[i]? = some y := by
      rw [← S.pre, List.getElem?_take_of_lt (by omega)]; exact h1
    have ndP : ps.Nodup := by rw [← S.pre]; exact S.nd.sublist (List.take_sublist _ _)
    refine ⟨u, rv, ?_⟩
    rcases S.par y (List.mem_of_getElem? hp) with k | k
    · exact .inl ⟨k, bindL_get ndP hp hu k⟩
    · obtain ⟨c, e⟩ := cell_has (n := s.heap.objs.size + 1) k
      refine .inr ⟨.inl k, c, e, ?_⟩
      have q := x.cell y c e
      rw [bindC_get ndP hp hu (by show scope.names.lookup y ≠ _; rw [k]; decide)] at q
      exact q
  · exact e0.hok.fresh (Nat.le_of_lt (x.above y c (PySem.mem_of_lookup h)))
  · unfold start
    show _ = N.length
    rw [List.length_append, List.length_map, List.length_replicate]
    omega
theorem fn_of {CX : CXT} {P : Program} {w : World} {K : PySem.W.Frag} {mg : Str → Option Value} {base : Heap} {k : Nat} {f : Addr} {name qual : Str} {params : Arguments} {body : List Stmt} {scope : Scope} {dV kV doc pm cdv ct oc : Value} {an od : Option Addr}
    {osl : Array (Option Value)} {N ps : List Str} {sp : Sp} (lk : K.lookup f = some ⟨oc, od, .func (PySem.W.fnOf name qual params body scope dV kV doc pm an cdv ct), osl⟩) (hcd : PySem.W.codeIn K cdv qual = true) (S : FnScope N ps scope)
    (len : ∀ vs H Q E, sp vs H Q E → vs.length = ps.length)
    (hbody : ∀ (A : Around) (outer : List Env) (s : Shared) (H : Hp) (vs : List V) (Q : VK) (E : XK), Room k (A.deeper (envOfC qual scope s.heap.objs.size f cdv)) → sp vs H Q E →
      ∃ t, PSs (cxOf CX P w K mg base N qual scope f cdv A outer s H E) body t ∧ t { nx := fun _ H' => Q .non H', rt := Q } (start N vs) H) :
    FnOk P w K mg base CX (k + 1) f (PySem.W.fnOf name qual params body scope dV kV doc pm an cdv ct) ps sp := by
  refine ⟨len, fun A outer s H args us vs Q E hr e0 hb r hsp => ?_⟩
  have hl := len _ _ _ _ hsp
  have KX : K.In s.heap := e0.mod.kin.keeps fun b o e => (e0.bs b o e).1
  have lim : s.heap.NoLimit := e0.mod.nolimit.keeps fun b o e => (e0.bs b o e).1
  have hkind : ∀ y ∈ ps.zip us, scope.names.lookup y.1 = some .local ∨ (scope.names.lookup y.1 = some .cell ∧ ((cellsFrom (s.heap.objs.size + 1) scope.names []).lookup y.1).isSome = true) := fun ⟨n, v⟩ hy => by
    rcases S.par n (List.of_mem_zip hy).1 with q | q
    · exact .inl q
    · exact .inr ⟨q, PySem.W.cellsFrom_some _ _ _ (.inl q)⟩
  refine codeAny_call_function hr.depth (KX _ _ lk) rfl S.co S.gen rfl (PySem.W.codeRec_of KX hcd) (hb _ _ _ _ ?_)
  refine wpAny_newFunctionEnv_cells S.kind hkind fun env he s1 x => ?_
  subst he
  refine ⟨lim.keeps x.toInCall.keep, codeAny_func ?_⟩
  obtain ⟨t, ht, hq⟩ := hbody A outer s H vs Q E (hr.deeper _) hsp
  have I : Inv (cxOf CX P w K mg base N qual scope f cdv A outer s H E) [] (start N vs) H s1 := inv_start S hr.hd e0 hl r x
  refine wpAny_mono (ht [] s1 (start N vs) H _ I hq) (fun fl s' hs => ?_) fun e s' hs => hs
  have fin : ∀ {σ' : St} {H' : Hp} {v : V} {u : Value}, Inv (cxOf CX P w K mg base N qual scope f cdv A outer s H E) [] σ' H' s' → RelV v u → Q v H' → CE outer P w H s Q u s' :=
    fun {σ' H' v u} J rv q => ⟨v, H', J.os, J.bare, J.base, J.hok, rv, q⟩
  cases fl with
  | ret u =>
    obtain ⟨v, σ', H', J, rv, q⟩ := hs
    exact fin J rv q
  | next =>
    obtain ⟨σ', H', J, q⟩ := hs
    exact fin (v := V.non) (u := Value.none) J rfl q
  | brk =>
    obtain ⟨_, _, _, q⟩ := hs
    exact False.elim q
  | cont =>
    obtain ⟨_, _, _, q⟩ := hs
    exact False.elim q
end L2
namespace L2
open PySem PySem.Spec PyProof.Rows
section
variable {X : Cx} {x : Str} {p pos : Pos} {e : Expr} {es : List Expr} {t : TA} {id T : String} {r : List V → Hp → VK → Prop}
def tCB (r : List V → Hp → VK → Prop) (t : TA) : TE := fun σ H Q => t σ H fun vs H1 => r vs H1 Q
theorem pe_callB (hc : CallR X (.builtin id) r) (hg : Gl X x) (hm : X.mg x = none) (hv : bootBuiltins x = some (.builtin id)) (ha : PA X (e :: es) t) (hn : x ≠ "__name__" := by decide) (hdb : (x == ("__debug__" : Str)) = false := by decide)
    (he : starEach (e :: es) X.env = (false, eval e X.env) :: starEach es X.env := by rfl) (hpl : (backTo pos (starEach es X.env)).any (·.1) = false := by rfl) : PE X (.Call (.Name x p) (e :: es) [] pos) (tCB r t) := by
  intro pins s σ H Q I h
  refine wpAny_Call_Name_kw (ld_blt I hg hm hv ?_ hn hdb)
  exact PyProof.Rows.callWith_builtin1 (thn (ha pos pins s σ H _ I h) fun us s1 ⟨vs, H1, I1, r1, q1⟩ => hc pins s1 σ H1 vs us Q I1 r1 q1) he hpl
theorem pe_callTy (hc : CallR X (.type T) r) (hg : Gl X x) (hm : X.mg x = none) (hv : bootBuiltins x = some (.type T)) (ha : PA X (e :: es) t) (hn : x ≠ "__name__" := by decide) (hdb : (x == ("__debug__" : Str)) = false := by decide)
    (he : starEach (e :: es) X.env = (false, eval e X.env) :: starEach es X.env := by rfl) (hpl : (backTo pos (starEach es X.env)).any (·.1) = false := by rfl) : PE X (.Call (.Name x p) (e :: es) [] pos) (tCB r t) := by
  intro pins s σ H Q I h
  refine wpAny_Call_Name_kw (ld_blt I hg hm hv ?_ hn hdb)
  exact PyProof.Rows.callWith_type1 (thn (ha pos pins s σ H _ I h) fun us s1 ⟨vs, H1, I1, r1, q1⟩ => hc pins s1 σ H1 vs us Q I1 r1 q1) he hpl
end
end L2
namespace HT
open PySem PyProof.Rows
section
open PySem.SeqAt
open PySem.AutoSeq1 (wpAny_loadPart')
open PySem.MeetsSeq PySem.MeetsSeq2 PySem.MeetsSeq3
end
section
variable {prog : Program} {w : World} {A : Around} {E : Value → Shared → Prop} {s : Shared}
def sIx (n d : Nat) : Option Int → Nat
  | none => d
  | some v => if v < 0 then (v + (n : Int)).toNat else min v.toNat n
theorem sIx_none (n d : Nat) : sIx n d none = d := rfl
theorem sIx_nat (n d k : Nat) : sIx n d (some (k : Int)) = min k n := by
  show (if (k : Int) < 0 then ((k : Int) + (n : Int)).toNat else min (k : Int).toNat n) = min k n
  rw [if_neg (by omega), Int.toNat_natCast]
end
end HT
namespace L2
open PySem PySem.Spec PyProof.Rows
abbrev TO := St → Hp → (Option Int → Hp → Prop) → Prop
def PO (X : Cx) (e : Option Expr) (t : TO) : Prop :=
  ∀ (pins : List (Addr × Obj)) (s : Shared) (σ : St) (H : Hp) (Q : Option Int → Hp → Prop), Inv X pins σ H s → t σ H Q →
    wpAny (model X.prog X.w) X.A (evalPart e X.env) (fun u s' => ∃ o H', Inv X pins σ H' s' ∧ IsPart u o ∧ Q o H') X.xe s
def tNoPart : TO := fun _ H Q => Q none H
def tPart (t : TE) : TO := fun σ H Q => t σ H fun x H1 => ∃ i, x = .int i ∧ Q (some i) H1
section
variable {X : Cx} {e : Expr} {te : TE} {lo hi : Option Expr} {tl th : TO} {pos p2 : Pos}
theorem po_none : PO X none tNoPart := by
  intro pins s σ H Q I h
  rw [evalPart_none]
  exact wpAny_pure ⟨none, H, I, .none, h⟩
theorem po_some (h : PE X e te) : PO X (some e) (tPart te) := by
  intro pins s σ H Q I hw
  rw [evalPart_some]
  refine thn (h pins s σ H _ I hw) fun u s1 ⟨x, H1, I1, r1, q1⟩ => ?_
  obtain ⟨i, rfl, q⟩ := q1
  obtain ⟨t, rfl⟩ := r1
  exact ⟨some i, H1, I1, .int i t, q⟩
def SlR (X : Cx) (r : V → Option Int → Option Int → Hp → VK → Prop) : Prop :=
  ∀ (pins : List (Addr × Obj)) (s : Shared) (σ : St) (H : Hp) (x : V) (v vl vu : Value) (lo hi : Option Int) (sl : Addr) (Q : VK), Inv X pins σ H s → RelV x v → s.heap.IsSliceOf sl vl vu .none → IsPart vl lo → IsPart vu hi → r x lo hi H Q →
    ∃ T id, typeLookup (.type T) "__getitem__" = pure (some (.builtin id)) ∧ s.TypeIs v T ∧ wpAny (model X.prog X.w) X.A (getItem v (.ref sl)) (EP X pins σ Q) X.xe s
def tSl (r : V → Option Int → Option Int → Hp → VK → Prop) (te : TE) (tl th : TO) : TE := fun σ H Q => te σ H fun x H1 => tl σ H1 fun l H2 => th σ H2 fun u H3 => r x l u H3 Q
theorem pe_slice {r : V → Option Int → Option Int → Hp → VK → Prop} (hr : SlR X r) (he : PE X e te) (hl : PO X lo tl) (hu : PO X hi th) : PE X (.Subscript e (.Slice lo hi none p2) pos) (tSl r te tl th) := by
  intro pins s σ H Q I h
  refine Subscript_ (thn (he pins s σ H _ I h) fun v s1 ⟨x, H1, I1, r1, q1⟩ => ?_)
  refine wpAny_Slice (thn (hl pins s1 σ H1 _ I1 q1) fun vl s2 ⟨l, H2, I2, pl, q2⟩ => thn (hu pins s2 σ H2 _ I2 q2) fun vu s3 ⟨u, H3, I3, pu, q3⟩ => ?_)
  rw [evalPart_none]
  refine wpAny_pure ?_
  have I4 : Inv X pins σ H3 { s3 with heap := s3.heap.push { cls := .type "slice", data := .fields #[vl, vu, .none] } } := I3.kept (t' := s3.toks) fun b ob q => Heap.get?_push_of_some _ q
  obtain ⟨T, id, hT, ht, hg⟩ := hr pins { s3 with heap := s3.heap.push { cls := .type "slice", data := .fields #[vl, vu, .none] } } σ H3 x v vl vu l u s3.heap.objs.size Q I4 r1 (Heap.IsSliceOf.new ..) pl pu q3
  show wpAny (model X.prog X.w) X.A (subscriptTail e (.Slice lo hi none p2) v (.ref s3.heap.objs.size)) (EP X pins σ Q) X.xe { s3 with heap := s3.heap.push { cls := .type "slice", data := .fields #[vl, vu, .none] } }
  exact tail_any (ops := [.ref s3.heap.objs.size, v]) ht hT hg (by with_unfolding_all rfl)
def cutV (xs : List V) (lo hi : Option Int) : List V := (xs.drop (HT.sIx xs.length 0 lo)).take (HT.sIx xs.length xs.length hi - HT.sIx xs.length 0 lo)
theorem cutV_length (xs : List V) (lo hi : Option Int) : (cutV xs lo hi).length ≤ xs.length := by
  unfold cutV
  rw [List.length_take, List.length_drop]
  omega
end
end L2
namespace L2
open PySem PySem.Spec PyProof.Rows
def ixN (n : Nat) (i : Int) : Option Nat := if 0 ≤ i then (if i < n then some i.toNat else none) else if -(n : Int) ≤ i then some (i + n).toNat else none
def atI {α : Type} (xs : List α) (i : Int) : Option α := (ixN xs.length i).bind fun j => xs[j]?
theorem ixN_seq {n : Nat} {i : Int} {j : Nat} (h : ixN n i = some j) : seqIndex? i n = some j ∧ j < n ∧ -(n : Int) ≤ i ∧ i < n := by
  unfold ixN at h
  by_cases h0 : 0 ≤ i
  · rw [if_pos h0] at h
    by_cases h1 : i < n
    · rw [if_pos h1] at h
      have e : i.toNat = j := Option.some.inj h
      exact ⟨by rw [seqIndex_of h0 h1, e], by omega, by omega, h1⟩
    · rw [if_neg h1] at h; cases h
  · rw [if_neg h0] at h
    by_cases h1 : -(n : Int) ≤ i
    · rw [if_pos h1] at h
      have e : (i + n).toNat = j := Option.some.inj h
      exact ⟨by rw [seqIndex_neg (by omega) h1, e], by omega, h1, by omega⟩
    · rw [if_neg h1] at h; cases h
theorem atI_get {α : Type} {xs : List α} {i : Int} {v : α} (h : atI xs i = some v) : ∃ j, seqIndex? i xs.length = some j ∧ xs[j]? = some v ∧ j < xs.length ∧ -(xs.length : Int) ≤ i ∧ i < xs.length := by
  unfold atI at h
  cases e : ixN xs.length i with
  | none => rw [e] at h; cases h
  | some j =>
    rw [e] at h
    obtain ⟨h1, h2, h3, h4⟩ := ixN_seq e
    exact ⟨j, h1, h, h2, h3, h4⟩
theorem atI_nat {α : Type} {xs : List α} {j : Nat} {v : α} (h : xs[j]? = some v) : atI xs (j : Int) = some v := by
  have hj : j < xs.length := (List.getElem?_eq_some_iff.mp h).1
  have e : ixN xs.length (j : Int) = some j := by
    unfold ixN
    rw [if_pos (by omega), if_pos (by omega)]; simp
  unfold atI; rw [e]; exact h
theorem atI_last {α : Type} (xs : List α) (v : α) : atI (xs ++ [v]) (-1) = some v := by
  have hl : (xs ++ [v]).length = xs.length + 1 := by simp
  have e : ixN (xs ++ [v]).length (-1) = some xs.length := by
    unfold ixN
    rw [hl, if_neg (by decide), if_pos (by omega)]
    congr 1
    omega
  unfold atI
  rw [e]
  show (xs ++ [v])[xs.length]? = some v
  simp
def PlainIx (b : Expr) : Prop := ∀ o i, subscripted b false o i = operate [o, i] (getItem o i)
def IxR (X : Cx) (r : R2) : Prop :=
  ∀ (value slice : Expr) (pins : List (Addr × Obj)) (s : Shared) (σ : St) (H : Hp) (x y : V) (v u : Value) (Q : VK), Inv X pins σ H s → RelV x v → RelV y u → r x y H Q →
    subscripted slice false v u = operate [v, u] (getItem v u) → wpAny (model X.prog X.w) X.A (subscriptTail value slice v u) (EP X pins σ Q) X.xe s
def MtR (X : Cx) (id : String) (r : V → List V → Hp → VK → Prop) : Prop :=
  ∀ (pins : List (Addr × Obj)) (s : Shared) (σ : St) (H : Hp) (x : V) (xs : List V) (v : Value) (us : List Value) (Q : VK), Inv X pins σ H s → RelV x v → Vals xs us → r x xs H Q →
    wpAny (model X.prog X.w) X.A (call (.builtin id) (v :: us)) (EP X pins σ Q) X.xe s
section
variable {X : Cx} {a b : Expr} {ta tb : TE} {pos : Pos}
theorem pe_ix {r : R2} (hr : IxR X r) (ha : PE X a ta) (hb : PE X b tb) (hs : PlainIx b) : PE X (.Subscript a b pos) (tOp r ta tb) := by
  intro pins s σ H Q I h
  exact Subscript_ (binT ha hb I h fun v u s2 x y H2 I2 rx ry q => hr a b pins s2 σ H2 x y v u Q I2 rx ry q (hs _ _))
def rIxL (K : PySem.W.Frag) : R2 := fun x y H Q => ∃ p xs i v, x = .ref p ∧ y = .int i ∧ SqL K H p xs ∧ atI xs i = some v ∧ Q v H
def rIxT (K : PySem.W.Frag) : R2 := fun x y H Q => ∃ p xs i v, x = .ref p ∧ y = .int i ∧ SqT K H p xs ∧ atI xs i = some v ∧ Q v H
theorem ix_list : IxR X (rIxL X.K) := by
  intro value slice pins s σ H x y v u Q I rx ry h hs
  obtain ⟨p, xs, i, z, rfl, rfl, hq, he, q⟩ := h
  cases rx
  obtain ⟨t, rfl⟩ := ry
  obtain ⟨its, r, pl, hz⟩ := I.list hq
  obtain ⟨j, h1, h2, h3, h4, h5⟩ := atI_get he
  obtain ⟨w, ew, rw'⟩ := r.get h2
  have hl := r.length
  have hn := line63
  have fin : EP X pins σ Q w s := ⟨z, H, I, rw', q⟩
  by_cases h0 : 0 ≤ i
  · have hj : i.toNat = j := by
      rw [seqIndex_of h0 h5] at h1
      exact Option.some.inj h1
    exact item_listR pl.isList h0 (by omega) (by rw [hj]; simpa using ew) fin hs
  · have hj : (i + (its.toArray.size : Int)).toNat = j := by
      rw [seqIndex_neg (by omega) h4] at h1
      rw [List.size_toArray, ← hl]
      exact Option.some.inj h1
    exact subscriptTail_builtinR (x := w) pl.isList.typeIs slot_list_getitem.lookup
      (wpAny_getItem_list_neg (Q := fun r s' => r = w ∧ EP X pins σ Q r s') pl.isList (by omega) (by rw [List.size_toArray] <;> omega) (by omega) (by rw [hj]; simpa using ew) ⟨rfl, fin⟩) hs
theorem ix_tup : IxR X (rIxT X.K) := by
  intro value slice pins s σ H x y v u Q I rx ry h hs
  obtain ⟨p, xs, i, z, rfl, rfl, hq, he, q⟩ := h
  cases rx
  obtain ⟨t, rfl⟩ := ry
  obtain ⟨its, r, pl, hz⟩ := I.tuple hq
  obtain ⟨j, h1, h2, h3, h4, h5⟩ := atI_get he
  obtain ⟨w, ew, rw'⟩ := r.get h2
  have hl := r.length
  have hn := line63
  have fin : EP X pins σ Q w s := ⟨z, H, I, rw', q⟩
  exact subscriptTail_builtinR (x := w) pl.typeIs slot_tuple_getitem.lookup
    (getItem_tuple (j := j) (Q := fun r s' => r = w ∧ EP X pins σ Q r s') pl (by omega) (by omega) (by rw [List.size_toArray, ← hl]; exact h1) (by simpa using ew) ⟨rfl, fin⟩) hs
theorem mapSeq_set (its : List Value) (n j : Nat) (u : Value) : Obj.mapSeq (·.setIfInBounds j u) { cls := .type "list", data := .seq its.toArray n } = { cls := .type "list", data := .seq (its.set j u).toArray n } := by
  simp [Obj.mapSeq]
theorem Inv.lst {pins : List (Addr × Obj)} {σ : St} {H : Hp} {s : Shared} {p : Addr} {xs : List V} (I : Inv X pins σ H s) (h : H p = some (.lst xs)) :
    ∃ (its : List Value) (n : Nat), Vals xs its ∧ s.heap.get? p = some { cls := .type "list", data := .seq its.toArray n } ∧ xs.length ≤ sizeLine := by
  obtain ⟨z, its, n, r, e⟩ := I.hok p _ h
  exact ⟨its, n, r, e, z⟩
theorem Inv.lstUpd {pins : List (Addr × Obj)} {σ : St} {H : Hp} {s : Shared} {p : Addr} {xs ys : List V} {its its' : List Value} {n n' : Nat} {f : Obj → Obj} (I : Inv X pins σ H s) (h : H p = some (.lst xs))
    (ho : s.heap.get? p = some { cls := .type "list", data := .seq its.toArray n }) (hf : f { cls := .type "list", data := .seq its.toArray n } = { cls := .type "list", data := .seq its'.toArray n' }) (r : Vals ys its') (hz : ys.length ≤ sizeLine) (t : Nat) :
    Inv X pins σ (upd H p (.lst ys)) { s with heap := s.heap.update p f, toks := t } := by
  have e : (s.heap.update p f).get? p = some { cls := .type "list", data := .seq its'.toArray n' } := by
    rw [Heap.get?_update_self f ho (by rw [hf] <;> rfl), hf]
  refine I.write (x := p) (e := p) (by rw [h]; trivial) (.inl rfl) (fun b u hb q => (Heap.get?_update_other _ _ (Ne.symm hb)).trans q) ⟨_, e⟩ ?_
  exact ⟨hz, its', n', r, e⟩
def rSetL : V → V → V → Hp → (Hp → Prop) → Prop := fun o i v H Q => ∃ p xs k j, o = .ref p ∧ i = .int k ∧ H p = some (.lst xs) ∧ ixN xs.length k = some j ∧ Q (upd H p (.lst (xs.set j v)))
theorem set_list : PSet X rSetL := by
  intro pins s σ H o i v ov iv u Q I ro ri rv h
  obtain ⟨p, xs, k, j, rfl, rfl, hp, hj, q⟩ := h
  cases ro
  obtain ⟨t, rfl⟩ := ri
  obtain ⟨its, n, r, ho, hz⟩ := I.lst hp
  obtain ⟨h1, h2, h3, h4⟩ := ixN_seq hj
  have hl := r.length
  have hn := line63
  have I' : Inv X pins σ (upd H p (.lst (xs.set j v))) { s with heap := s.heap.update p (Obj.mapSeq (·.setIfInBounds j u)) } :=
    I.lstUpd hp ho (mapSeq_set its n j u) (r.set rv j) (by rw [List.length_set]; exact hz) s.toks
  by_cases h0 : 0 ≤ k
  · have hk : k.toNat = j := by
      rw [seqIndex_of h0 h4] at h1
      exact Option.some.inj h1
    exact PySem.W.ki_setAt ho h0 (by omega) (by rw [List.size_toArray, ← hl]; exact h4) (by rw [hk]; exact ⟨_, I', q⟩)
  · have hk : (k + (its.toArray.size : Int)).toNat = j := by
      rw [seqIndex_neg (by omega) h3] at h1
      rw [List.size_toArray, ← hl]
      exact Option.some.inj h1
    exact PySem.W.ki_setBack ho (by omega) (by rw [List.size_toArray, ← hl]; exact h3) (by omega) (by rw [hk]; exact ⟨_, I', q⟩)
theorem slice_bounds (lo hi : Option Int) (n : Nat) : (sliceBounds lo hi none n).1 = ((HT.sIx n 0 lo : Nat) : Int) ∧ (sliceBounds lo hi none n).2.1 = ((HT.sIx n n hi : Nat) : Int) ∧ (sliceBounds lo hi none n).2.2 = 1 := by
  refine ⟨?_, ?_, rfl⟩
  · cases lo with
    | none => simp [sliceBounds, HT.sIx]
    | some i =>
      simp only [sliceBounds, HT.sIx, Option.getD_none, show (1 : Int) > 0 by decide, if_true]
      by_cases h : i < 0
      · simp only [h, if_true] <;> omega
      · simp only [h, if_false] <;> omega
  · cases hi with
    | none => simp [sliceBounds, HT.sIx]
    | some i =>
      simp only [sliceBounds, HT.sIx, Option.getD_none, show (1 : Int) > 0 by decide, if_true]
      by_cases h : i < 0
      · simp only [h, if_true] <;> omega
      · simp only [h, if_false] <;> omega
theorem slicePick_cut (its : List Value) (lo hi : Option Int) : slicePick its.toArray lo hi none = ((its.drop (HT.sIx its.length 0 lo)).take (HT.sIx its.length its.length hi - HT.sIx its.length 0 lo)).toArray := by
  obtain ⟨h1, h2, h3⟩ := slice_bounds lo hi its.toArray.size
  unfold slicePick
  rw [h1, h2, h3]
  simp only [sliceRange_one, pick_run, List.size_toArray] <;> rfl
def rSlL (K : PySem.W.Frag) : V → Option Int → Option Int → Hp → VK → Prop := fun x lo hi H Q => ∃ a xs, x = .ref a ∧ SqL K H a xs ∧ ∀ p, H p = none → Q (.ref p) (upd H p (.lst (cutV xs lo hi)))
theorem sl_list : SlR X (rSlL X.K) := by
  intro pins s σ H x v vl vu lo hi sl Q I rx hs pl pu h
  obtain ⟨a, xs, rfl, hx, q⟩ := h
  cases rx
  obtain ⟨its, r, ht, hz⟩ := I.list hx
  have hlen := r.length
  refine ⟨"list", _, slot_list_getitem.lookup, ht.isList.typeIs, ?_⟩
  refine wpAny_getItem_list_slice ht.isList hs pl pu .none (by simp) ?_ (by rw [List.size_toArray] <;> omega)
  rw [slicePick_cut, ← hlen]
  refine ⟨.ref s.heap.objs.size, _, I.laid (t' := s.toks) (o := .lst (cutV xs lo hi)) (fun b ob q => Heap.get?_push_of_some _ q) (Nat.le_refl _) ?_, rfl, q _ (I.hok.fresh (Nat.le_refl _))⟩
  exact ⟨Nat.le_trans (cutV_length xs lo hi) hz, _, 0, (r.drop (HT.sIx xs.length 0 lo)).take (HT.sIx xs.length xs.length hi - HT.sIx xs.length 0 lo), Heap.get?_push_size _ rfl⟩
def flatV : V → Bool
  | .non => true
  | .bl _ => true
  | .int _ => true
  | .str _ => true
  | _ => false
def eqV : V → V → Bool
  | .non, .non => true
  | .bl a, .bl b => a == b
  | .bl a, .int b => (if a then 1 else 0) == b
  | .int a, .bl b => a == (if b then 1 else 0)
  | .int a, .int b => a == b
  | .str a, .str b => a == b
  | _, _ => false
theorem eqAt_V {A : Around} {s : Shared} {y x : V} {u v : Value} (ry : RelV y u) (rx : RelV x v) (fy : flatV y = true) (fx : flatV x = true) : SeqAt.EqAt A s u v (eqV y x) := by
  cases y with
  | non =>
    cases ry
    cases x with
    | non => cases rx; exact SeqAt.EqAt.same _
    | bl b => cases rx; exact SeqAt.EqAt.none_bool b
    | int b => obtain ⟨t, rfl⟩ := rx; exact SeqAt.EqAt.none_int b t
    | str b => obtain ⟨t, rfl⟩ := rx; exact SeqAt.EqAt.none_str b t
    | _ => exact absurd (show false = true from fx) Bool.false_ne_true
  | bl a =>
    cases ry
    cases x with
    | non => cases rx; exact SeqAt.EqAt.bool_none a
    | bl b => cases rx; exact SeqAt.EqAt.bool_bool a b
    | int b => obtain ⟨t, rfl⟩ := rx; exact SeqAt.EqAt.bool_int a b t
    | str b => obtain ⟨t, rfl⟩ := rx; exact SeqAt.EqAt.bool_str a b t
    | _ => exact absurd (show false = true from fx) Bool.false_ne_true
  | int a =>
    obtain ⟨t', rfl⟩ := ry
    cases x with
    | non => cases rx; exact SeqAt.EqAt.int_none a t'
    | bl b => cases rx; exact SeqAt.EqAt.int_bool a t' b
    | int b => obtain ⟨t, rfl⟩ := rx; exact SeqAt.EqAt.int_int a t' b t
    | str b => obtain ⟨t, rfl⟩ := rx; exact SeqAt.EqAt.int_str a t' b t
    | _ => exact absurd (show false = true from fx) Bool.false_ne_true
  | str a =>
    obtain ⟨t', rfl⟩ := ry
    cases x with
    | non => cases rx; exact SeqAt.EqAt.str_none a t'
    | bl b => cases rx; exact SeqAt.EqAt.str_bool a t' b
    | int b => obtain ⟨t, rfl⟩ := rx; exact SeqAt.EqAt.str_int a t' b t
    | str b => obtain ⟨t, rfl⟩ := rx; exact SeqAt.EqAt.str_str a t' b t
    | _ => exact absurd (show false = true from fx) Bool.false_ne_true
  | _ => exact absurd (show false = true from fy) Bool.false_ne_true
def eqU (x : V) (u : Value) : Bool := match u with
  | .none => eqV .non x
  | .bool b => eqV (.bl b) x
  | .int i _ => eqV (.int i) x
  | .str z _ => eqV (.str z) x
  | _ => false
theorem eqU_of {x y : V} {u : Value} (r : RelV y u) (f : flatV y = true) : eqU x u = eqV y x := by
  cases y with
  | non => cases r; rfl
  | bl b => cases r; rfl
  | int i => obtain ⟨t, rfl⟩ := r; rfl
  | str z => obtain ⟨t, rfl⟩ := r; rfl
  | _ => exact absurd (show false = true from f) Bool.false_ne_true
theorem any_eqU {x : V} : ∀ {xs : List V} {us : List Value}, Vals xs us → xs.all flatV = true → us.any (eqU x) = xs.any fun y => eqV y x
  | _, _, .nil, _ => rfl
  | y :: xs, u :: us, .cons r t, f => by
    rw [List.all_cons, Bool.and_eq_true] at f
    rw [List.any_cons, List.any_cons, eqU_of r f.1, any_eqU t f.2]
theorem mem_eqAt {A : Around} {s : Shared} {x : V} {v : Value} (rx : RelV x v) (fx : flatV x = true) : ∀ {xs : List V} {us : List Value}, Vals xs us → xs.all flatV = true → ∀ u ∈ us, SeqAt.EqAt A s u v (eqU x u)
  | _, _, .nil, _ => fun u hu => by cases hu
  | y :: xs, u :: us, .cons r t, f => fun u' hu => by
    rw [List.all_cons, Bool.and_eq_true] at f
    rcases List.mem_cons.mp hu with rfl | hu
    · rw [eqU_of r f.1]; exact eqAt_V r rx f.1 fx
    · exact mem_eqAt rx fx t f.2 u' hu
def inV (x : V) (xs : List V) : Bool := xs.any fun y => eqV y x
def rIn (K : PySem.W.Frag) (neg : Bool) : R2 := fun x y H Q => ∃ p xs, y = .ref p ∧ (SqL K H p xs ∨ SqT K H p xs) ∧ flatV x = true ∧ xs.all flatV = true ∧ Q (.bl (if neg then !inV x xs else inV x xs)) H
theorem op_notIn_seq : OpR X (compareOp .NotIn) (rIn X.K true) := by
  intro pins s σ H x y v u Q I rx ry h
  obtain ⟨p, xs, rfl, hq, fx, fs, q⟩ := h
  cases ry
  rcases hq with hq | hq
  · obtain ⟨its, r, pl, hz⟩ := I.list hq
    refine SeqAt.notIn_listAt (eqU x) pl.isList (fun w hw => mem_eqAt rx fx r fs w (by simpa using hw)) ⟨.bl _, H, I, rfl, ?_⟩
    rw [show its.toArray.any (eqU x) = its.any (eqU x) by simp, any_eqU r fs]
    exact q
  · obtain ⟨its, r, pl, hz⟩ := I.tuple hq
    refine SeqAt.notIn_tupleAt (eqU x) pl (fun w hw => mem_eqAt rx fx r fs w (by simpa using hw)) ⟨.bl _, H, I, rfl, ?_⟩
    rw [show its.toArray.any (eqU x) = its.any (eqU x) by simp, any_eqU r fs]
    exact q
theorem call_len_seq : CallR X (.builtin "len") (fun xs H Q => ∃ p ys, xs = [.ref p] ∧ (SqL X.K H p ys ∨ SqT X.K H p ys) ∧ Q (.int ys.length) H) := by
  intro pins s σ H xs us Q I r h
  obtain ⟨p, ys, rfl, hq, q⟩ := h
  obtain ⟨u, rfl, rx⟩ := vals1 r
  cases rx
  have hn := line63
  rcases hq with hq | hq
  · obtain ⟨its, r', pl, hz⟩ := I.list hq
    have hlen := r'.length
    exact Calls.call_len_list pl.isList (by simp only [List.size_toArray] <;> omega) ⟨.int ys.length, H, I.tok _, ⟨s.toks + 1, by rw [List.size_toArray, hlen]⟩, q⟩
  · obtain ⟨its, r', pl, hz⟩ := I.tuple hq
    have hlen := r'.length
    exact len_tuple pl (by simp only [List.size_toArray] <;> omega) ⟨.int ys.length, H, I.tok _, ⟨s.toks + 1, by rw [List.size_toArray, hlen]⟩, q⟩
def tyV (K : PySem.W.Frag) (T : String) (x : V) (H : Hp) : Prop := match x with
  | .str _ => T = "str"
  | .int _ => T = "int"
  | .ref p => (T = "list" ∧ ∃ xs, SqL K H p xs) ∨ (T = "tuple" ∧ ∃ o, K.lookup p = some o ∧ o.cls = .type "tuple" ∧ o.dict = none) ∨
      (T = "dict" ∧ ((∃ kvs, H p = some (.dK kvs)) ∨ ∃ kvs, H p = some (.dT kvs))) ∨ (T = "set" ∧ ∃ S n, H p = some (.set S n))
  | _ => False
theorem tyV_is {pins : List (Addr × Obj)} {σ : St} {H : Hp} {s : Shared} {T : String} {x : V} {v : Value} (I : Inv X pins σ H s) (r : RelV x v) (ty : tyV X.K T x H) :
    s.TypeIs v T ∧ ∀ a, v = .ref a → ∃ ob, s.heap.get? a = some ob ∧ ob.dict = none := by
  cases x with
  | str z =>
    obtain ⟨t, rfl⟩ := r
    cases (show T = "str" from ty)
    exact ⟨typeIs_str s z t, fun _ e => nomatch e⟩
  | int i =>
    obtain ⟨t, rfl⟩ := r
    cases (show T = "int" from ty)
    exact ⟨typeIs_int s i t, fun _ e => nomatch e⟩
  | ref p =>
    cases r
    rcases ty with ⟨rfl, xs, hq⟩ | ⟨rfl, o, hk, hc, hd⟩ | ⟨rfl, hk⟩ | ⟨rfl, S, n, hk⟩
    · obtain ⟨its, _, pl, _⟩ := I.list hq
      refine ⟨pl.isList.typeIs, fun a e => ?_⟩
      cases e
      obtain ⟨o, n, e, c, hd, _⟩ := pl
      exact ⟨o, e, hd⟩
    · refine ⟨⟨o, I.kIn p o hk, hc⟩, fun a e => ?_⟩
      cases e
      exact ⟨o, I.kIn _ o hk, hd⟩
    · have z : ∃ o, s.heap.get? p = some o ∧ o.ExactDict := by
        rcases hk with ⟨kvs, hk⟩ | ⟨kvs, hk⟩
        · obtain ⟨_, _, _, _, o, _, _, e, ex, _⟩ := I.hok p _ hk
          exact ⟨o, e, ex⟩
        · obtain ⟨_, _, _, _, o, _, _, e, ex, _⟩ := I.hok p _ hk
          exact ⟨o, e, ex⟩
      obtain ⟨o, e, ex⟩ := z
      refine ⟨⟨o, e, ex.1⟩, fun a e2 => ?_⟩
      cases e2
      exact ⟨o, e, ex.2.1⟩
    · obtain ⟨o, _, _, _, e, ex, _⟩ := I.hok p _ hk
      refine ⟨⟨o, e, ex.1⟩, fun a e2 => ?_⟩
      cases e2
      exact ⟨o, e, ex.2.1⟩
  | _ => exact False.elim ty
def tBM0 (K : PySem.W.Frag) (T : String) (r : V → List V → Hp → VK → Prop) (to : TE) : TE := fun σ H Q => to σ H fun x H1 => tyV K T x H1 ∧ r x [] H1 Q
def tBM (K : PySem.W.Frag) (T : String) (r : V → List V → Hp → VK → Prop) (to : TE) (t : TA) : TE := fun σ H Q => to σ H fun x H1 => tyV K T x H1 ∧ t σ H1 fun xs H2 => r x xs H2 Q
variable {o e : Expr} {es : List Expr} {to : TE} {t : TA} {name : Str} {apos cpos : Pos} {T id : String} {r : V → List V → Hp → VK → Prop}
theorem pe_bm0 (pa : PlainAttrs T) (slot : Slot T name id) (hty : typeOf (.builtin id) = pure (.type "method_descriptor")) (hm : MtR X id r) (ho : PE X o to)
    (hbase : attributeBase o name X.env (eval o X.env) = eval o X.env := by rfl) (hline : (apos.endLine == cpos.line) = true := by rfl) : PE X (.Call (.Attribute o name apos) [] [] cpos) (tBM0 X.K T r to) := by
  intro pins s σ H Q I h
  refine wpAny_Call_method0_late hbase hline (thn (ho pins s σ H _ I h) fun v s1 ⟨x, H1, I1, r1, ty, q1⟩ => ?_)
  obtain ⟨h1, h2⟩ := tyV_is I1 r1 ty
  exact ⟨T, id, pa, slot, hty, h1, h2, Calls.callWith_builtin rfl (PySem.evalArgs_none (hm pins s1 σ H1 x [] v [] Q I1 r1 .nil q1))⟩
theorem pe_bm (pa : PlainAttrs T) (slot : Slot T name id) (hty : typeOf (.builtin id) = pure (.type "method_descriptor")) (hm : MtR X id r) (ho : PE X o to) (ha : PA X (e :: es) t)
    (hbase : attributeBase o name X.env (eval o X.env) = eval o X.env := by rfl)
    (hfew : ((backTo cpos (starEach (e :: es) X.env)).all (fun x => !x.1) && (backToKw cpos (keywordEach [] X.env)).all (fun x => x.1.isSome)
      && decide ((e :: es).length + ([] : List Keyword).length + (if ([] : List Keyword).isEmpty then 0 else 1) < 30)) = true := by rfl)
    (hline : (apos.endLine == cpos.line) = true := by rfl) (hs : starEach (e :: es) X.env = (false, eval e X.env) :: starEach es X.env := by rfl) (hplain : (backTo cpos (starEach es X.env)).any (·.1) = false := by rfl) :
    PE X (.Call (.Attribute o name apos) (e :: es) [] cpos) (tBM X.K T r to t) := by
  intro pins s σ H Q I h
  refine wpAny_Call_method_late hbase hfew hline rfl (thn (ho pins s σ H _ I h) fun v s1 ⟨x, H1, I1, r1, ty, q1⟩ => ?_)
  obtain ⟨h1, h2⟩ := tyV_is I1 r1 ty
  refine ⟨T, id, pa, slot, hty, h1, h2, ?_⟩
  have hA := ha cpos pins s1 σ H1 _ I1 q1
  rw [hs] at hA ⊢
  refine Calls.callWith_builtin (by show (false || (backTo cpos (starEach es X.env)).any (·.1)) = false; rw [hplain] <;> rfl) (Calls.evalArgs_plain ?_)
  exact thn hA fun us s2 ⟨vs, H2, I2, r2, q2⟩ => hm pins s2 σ H2 x vs v us Q I2 r1 r2 q2
end
end L2
namespace L2
open PySem PySem.Spec PyProof.Rows
def MtM (X : Cx) (id : String) (r : V → List V → Hp → VK → Prop) : Prop :=
  ∀ (pins : List (Addr × Obj)) (s : Shared) (σ : St) (H : Hp) (x : V) (xs : List V) (v : Value) (us : List Value) (Q : VK), Inv X pins σ H s → RelV x v → Vals xs us → r x xs H Q →
    wpAny (model X.prog X.w) X.A (call (.builtin id) (v :: us)) (EP X pins σ Q) X.xe s
theorem Vals.one : ∀ {x : V} {us : List Value}, Vals [x] us → ∃ u, us = [u] ∧ RelV x u
  | _, _, .cons r .nil => ⟨_, rfl, r⟩
theorem Vals.zero : ∀ {us : List Value}, Vals [] us → us = []
  | _, .nil => rfl
theorem Vals.dropLast {xs : List V} {us : List Value} (h : Vals xs us) : Vals xs.dropLast us.dropLast := by
  induction h with
  | nil => exact .nil
  | cons r t ih =>
    cases t with
    | nil => exact .nil
    | cons q t' => exact .cons r ih
theorem Vals.reverse {xs : List V} {us : List Value} (h : Vals xs us) : Vals xs.reverse us.reverse := by
  induction h with
  | nil => exact .nil
  | cons r t ih => rw [List.reverse_cons, List.reverse_cons]; exact Vals.append ih (.cons r .nil)
theorem Vals.rep {xs : List V} {us : List Value} (h : Vals xs us) : ∀ k : Nat, Vals (List.replicate k xs).flatten (List.replicate k us).flatten
  | 0 => .nil
  | k + 1 => by
    rw [List.replicate_succ, List.replicate_succ, List.flatten_cons, List.flatten_cons]
    exact Vals.append h (Vals.rep h k)
theorem erase_last {α : Type} (l : List α) : l.eraseIdx (l.length - 1) = l.dropLast := by
  induction l with
  | nil => rfl
  | cons a r ih =>
    cases r with
    | nil => rfl
    | cons b r =>
      have e : (a :: b :: r).length - 1 = ((b :: r).length - 1) + 1 := by
        have h1 : (a :: b :: r).length = r.length + 2 := rfl
        have h2 : (b :: r).length = r.length + 1 := rfl
        omega
      rw [e, List.eraseIdx_cons_succ, ih]
      all_goals rfl
theorem foldl_rep (its : List Value) : ∀ (k : Nat) (acc : List Value),
    List.foldl (fun x1 x2 => x1 ++ x2) acc.toArray (List.replicate k its.toArray) = (acc ++ (List.replicate k its).flatten).toArray
  | 0, acc => by simp
  | k + 1, acc => by
    have e : acc.toArray ++ its.toArray = (acc ++ its).toArray := by simp
    have e2 : (acc ++ its) ++ (List.replicate k its).flatten = acc ++ (List.replicate (k + 1) its).flatten := by
      rw [List.replicate_succ, List.flatten_cons, List.append_assoc]
    rw [← e2, ← foldl_rep its k (acc ++ its), ← e, List.replicate_succ, List.foldl_cons]
section
variable {X : Cx} {pins : List (Addr × Obj)} {σ : St} {H : Hp} {s : Shared} {l b : Addr} {xs ys zs : List V}
theorem Inv.lset {its its' : List Value} {n : Nat} {f : Array Value → Array Value} {t' : Nat} (I : Inv X pins σ H s) (hH : H l = some (.lst xs))
    (e : s.heap.get? l = some { cls := .type "list", data := .seq its.toArray n }) (hf : f its.toArray = its'.toArray) (hv : Vals ys its') (hz : ys.length ≤ sizeLine) :
    Inv X pins σ (upd H l (.lst ys)) { s with heap := s.heap.update l (Obj.mapSeq f), toks := t' } := by
  have q := PySem.IsL.update e f
  rw [hf] at q
  refine I.write (x := l) (e := l) (by rw [hH]; exact trivial) (.inl rfl) (fun b' u hb hu => (Heap.get?_update_other s.heap (Obj.mapSeq f) (Ne.symm hb)).trans hu) ⟨_, q⟩ ?_
  exact ⟨hz, its', _, hv, q⟩
theorem Inv.lnew {its : List Value} {t' : Nat} (I : Inv X pins σ H s) (hv : Vals ys its) (hz : ys.length ≤ sizeLine) :
    Inv X pins σ (upd H s.heap.objs.size (.lst ys)) { s with heap := s.heap.push { cls := .type "list", data := .seq its.toArray }, toks := t' } :=
  I.laid (fun _ _ q => Heap.get?_push_of_some _ q) (Nat.le_refl _) ⟨hz, its, 0, hv, Heap.get?_push_size _ rfl⟩
theorem Inv.fresh (I : Inv X pins σ H s) : H s.heap.objs.size = none := I.hok.fresh (Nat.le_refl _)
theorem Inv.lstM (I : Inv X pins σ H s) (hH : H l = some (.lst xs)) : xs.length ≤ sizeLine ∧ ∃ (its : List Value) (n : Nat), Vals xs its ∧ xs.length = its.length ∧ s.heap.get? l = some { cls := .type "list", data := .seq its.toArray n } := by
  obtain ⟨z, its, n, r, e⟩ := I.hok l _ hH
  exact ⟨z, its, n, r, r.length, e⟩
theorem notLongL {n : Nat} (h : n ≤ sizeLine) : Builtin.List.listTooLong n = false := by
  unfold Builtin.List.listTooLong
  exact decide_eq_false (by omega)
end
section
variable {X : Cx}
def rAppend : V → List V → Hp → VK → Prop := fun x vs H Q => ∃ l xs y, x = .ref l ∧ vs = [y] ∧ H l = some (.lst xs) ∧ xs.length < sizeLine ∧ Q .non (upd H l (.lst (xs ++ [y])))
theorem mt_append : MtM X "list.append" rAppend := by
  intro pins s σ H x vs v us Q I rx rv h
  obtain ⟨l, xs, y, rfl, rfl, hH, hz, q⟩ := h
  cases rx
  obtain ⟨u, rfl, ru⟩ := rv.one
  obtain ⟨z, its, n, r, hl, e⟩ := I.lstM hH
  refine call_meets F.slot_list_append ⟨_, e, rfl⟩ F.entry_list_append (F.args_list_append_2 _ _) (PySem.list_append l its.toArray n u (by rw [List.size_toArray]; omega)) ⟨e, ?_⟩
  refine ⟨.non, _, I.lset (its' := its ++ [u]) hH e (by simp) (r.append (.cons ru .nil)) ?_, rfl, q⟩
  rw [List.length_append, List.length_singleton]
  omega
def rExtend : V → List V → Hp → VK → Prop := fun x vs H Q => ∃ l b xs zs, x = .ref l ∧ vs = [.ref b] ∧ H l = some (.lst xs) ∧ H b = some (.lst zs) ∧ xs.length + zs.length ≤ sizeLine ∧ Q .non (upd H l (.lst (xs ++ zs)))
theorem mt_extend : MtM X "list.extend" rExtend := by
  intro pins s σ H x vs v us Q I rx rv h
  obtain ⟨l, b, xs, zs, rfl, rfl, hH, hB, hz, q⟩ := h
  cases rx
  obtain ⟨u, rfl, ru⟩ := rv.one
  cases ru
  obtain ⟨z, its, n, r, hl, e⟩ := I.lstM hH
  obtain ⟨z2, its2, n2, r2, hl2, e2⟩ := I.lstM hB
  have hsz : its.toArray.size + its2.toArray.size ≤ sizeLine := by rw [List.size_toArray, List.size_toArray]; omega
  have hlong : ¬ (!its.toArray.isEmpty && Builtin.List.listTooLong (its.toArray.size + its2.toArray.size)) = true := by
    rw [notLongL hsz, Bool.and_false]
    exact Bool.false_ne_true
  refine call_meets F.slot_list_extend ⟨_, e, rfl⟩ F.entry_list_extend (F.args_list_extend_2 _ _)
    (AutoSeq1.list_extend_list_list_0 l its.toArray n b its2.toArray n2 hlong (by rw [List.size_toArray]; omega) (by omega)) ⟨e, e2, ?_⟩
  refine ⟨.non, _, I.lset (its' := its ++ its2) hH e (by simp) (r.append r2) ?_, rfl, q⟩
  rw [List.length_append]
  omega
def rPop : V → List V → Hp → VK → Prop := fun x vs H Q => ∃ l xs y, x = .ref l ∧ vs = [] ∧ H l = some (.lst xs) ∧ xs[xs.length - 1]? = some y ∧ Q y (upd H l (.lst xs.dropLast))
theorem mt_pop : MtM X "list.pop" rPop := by
  intro pins s σ H x vs v us Q I rx rv h
  obtain ⟨l, xs, y, rfl, rfl, hH, hy, q⟩ := h
  cases rx
  have hus := rv.zero
  subst hus
  obtain ⟨z, its, n, r, hl, e⟩ := I.lstM hH
  obtain ⟨u, hu, ru⟩ := r.get hy
  have hy' : its.toArray[its.toArray.size - 1]? = some u := by
    show its.toArray[its.length - 1]? = some u
    rw [← Array.getElem?_toList, ← hl]
    exact hu
  refine call_meets F.slot_list_pop ⟨_, e, rfl⟩ F.entry_list_pop (F.args_list_pop_1 _) (MeetsSeq.list_pop_last l its.toArray n u hy' (by rw [List.size_toArray]; omega)) ⟨e, ?_⟩
  refine ⟨y, _, I.lset (its' := its.dropLast) hH e ?_ r.dropLast ?_, ru, q⟩
  · show its.toArray.eraseIdxIfInBounds (its.toArray.size - 1) = its.dropLast.toArray
    rw [List.size_toArray, List.eraseIdxIfInBounds_toArray, erase_last]
  · rw [List.length_dropLast]
    omega
def rReverse : V → List V → Hp → VK → Prop := fun x vs H Q => ∃ l xs, x = .ref l ∧ vs = [] ∧ H l = some (.lst xs) ∧ Q .non (upd H l (.lst xs.reverse))
theorem mt_reverse : MtM X "list.reverse" rReverse := by
  intro pins s σ H x vs v us Q I rx rv h
  obtain ⟨l, xs, rfl, rfl, hH, q⟩ := h
  cases rx
  have hus := rv.zero
  subst hus
  obtain ⟨z, its, n, r, hl, e⟩ := I.lstM hH
  refine call_meets F.slot_list_reverse ⟨_, e, rfl⟩ F.entry_list_reverse (F.args_list_reverse_1 _) (AutoSeq1.list_reverse_list_0 l its.toArray n (by rw [List.size_toArray]; omega)) ⟨e, ?_⟩
  refine ⟨.non, _, I.lset (its' := its.reverse) hH e (by simp) r.reverse ?_, rfl, q⟩
  rw [List.length_reverse]
  omega
def rCat : R2 := fun x y H Q => ∃ l b xs zs, x = .ref l ∧ y = .ref b ∧ H l = some (.lst xs) ∧ H b = some (.lst zs) ∧ xs.length + zs.length ≤ sizeLine ∧ ∀ p, H p = none → Q (.ref p) (upd H p (.lst (xs ++ zs)))
theorem op_cat : OpR X (binaryOp .Add) rCat := by
  intro pins s σ H x y v u Q I rx ry h
  obtain ⟨l, b, xs, zs, rfl, rfl, hH, hB, hz, q⟩ := h
  cases rx
  cases ry
  obtain ⟨z, its, n, r, hl, e⟩ := I.lstM hH
  obtain ⟨z2, its2, n2, r2, hl2, e2⟩ := I.lstM hB
  refine PySem.P.add_list e e2 ?_ (by rw [List.size_toArray, List.size_toArray]; omega)
  have ea : its.toArray ++ its2.toArray = (its ++ its2).toArray := by simp
  rw [ea]
  exact ⟨.ref _, _, I.lnew (t' := s.toks) (r.append r2) (by rw [List.length_append]; omega), rfl, q _ I.fresh⟩
def rRep : R2 := fun x y H Q => ∃ l k xs, x = .ref l ∧ y = .int k ∧ H l = some (.lst xs) ∧ -(2 ^ 63) ≤ k ∧ k < 2 ^ 63 ∧ xs.length * k.toNat ≤ sizeLine ∧
  ∀ p, H p = none → Q (.ref p) (upd H p (.lst (List.replicate k.toNat xs).flatten))
theorem len_rep {α : Type} (xs : List α) (k : Nat) : (List.replicate k xs).flatten.length = k * xs.length := by
  induction k with
  | zero => simp
  | succ k ih => rw [List.replicate_succ, List.flatten_cons, List.length_append, ih, Nat.succ_mul, Nat.add_comm]
theorem op_rep : OpR X (binaryOp .Mult) rRep := by
  intro pins s σ H x y v u Q I rx ry h
  obtain ⟨l, k, xs, rfl, rfl, hH, h1, h2, hz, q⟩ := h
  cases rx
  obtain ⟨t, rfl⟩ := ry
  obtain ⟨z, its, n, r, hl, e⟩ := I.lstM hH
  have hlen : its.toArray.size * k.toNat ≤ sizeLine := by rw [List.size_toArray, ← hl]; exact hz
  have hcap : ¬ its.toArray.size * k.toNat > (2 ^ 63 - 1) / 8 := by
    have : (sizeLine : Nat) ≤ (2 ^ 63 - 1) / 8 := by decide
    omega
  have hfit : ¬ (!Builtin.List.listFitsIndex k) = true := by
    rw [fitsIndex_both h1 h2]
    exact Bool.false_ne_true
  have hlong : ¬ Builtin.List.listTooLong (its.toArray.size * k.toNat) = true := by
    rw [notLongL hlen]
    exact Bool.false_ne_true
  have hnew : List.foldl (fun x1 x2 => x1 ++ x2) #[] (List.replicate (if its.toArray.isEmpty = true then 0 else k.toNat) its.toArray) = (List.replicate k.toNat its).flatten.toArray := by
    have f0 : ∀ m : Nat, List.foldl (fun x1 x2 => x1 ++ x2) #[] (List.replicate m its.toArray) = (List.replicate m its).flatten.toArray := fun m => by
      have := foldl_rep its m []
      rw [List.nil_append] at this
      exact this
    rw [f0]
    cases its with
    | nil => simp
    | cons a r' => rw [if_neg (by simp)]
  refine wpAny_binaryOp_repeat_ref (T := "list") (U := "int") (by decide) ⟨_, e, rfl⟩ (fun s' => typeIs_int s' k t) noFill_list_mul F.fills_int_mul F.slot_int_rmul repeat_list F.slot_int_index.lookup
    (call_meets F.slot_int_rmul (typeIs_int s k t) F.entry_int_rmul (F.args_int_rmul_2 _ _) (int___rmul___int_list k t l its.toArray n)
      ⟨e, rfl, ⟨_, e, rfl⟩, call_meets F.slot_list_mul ⟨_, e, rfl⟩ F.entry_list_mul (F.args_list_mul_2 _ _) (AutoListH.list___mul___list_int_3 l its.toArray n k t hfit hcap hlong) ⟨e, ?_⟩⟩)
  rw [hnew]
  exact ⟨.ref _, _, I.lnew (t' := s.toks) (r.rep k.toNat) (by rw [len_rep, Nat.mul_comm]; exact hz), rfl, q _ I.fresh⟩
end
section
variable {prog : Program} {w : World} {A : Around} {E : Value → Shared → Prop} {s : Shared}
end
section
variable {X : Cx}
end
end L2
namespace L2
open PySem PySem.Spec PyProof.Rows
theorem Vals.ints : ∀ {ns : List Int} {us : List Value}, Vals (ns.map V.int) us → IntsAre us ns
  | [], us, h => by
    rw [List.map_nil] at h
    cases h
    exact IntsAre.nil
  | n :: ns, us, h => by
    rw [List.map_cons] at h
    cases h with
    | cons r t =>
      obtain ⟨k, rfl⟩ := r
      exact IntsAre.cons n k (Vals.ints t)
theorem vals_of_ints : ∀ {us : List Value} {ns : List Int}, IntsAre us ns → Vals (ns.map V.int) us
  | _, _, .nil => by rw [List.map_nil]; exact Paired.nil
  | _, _, .cons n t h => by rw [List.map_cons]; exact Paired.cons (show RelV (V.int n) (Value.int n t) from ⟨t, rfl⟩) (vals_of_ints h)
theorem Vals.ref1 {a : Addr} {us : List Value} (r : Vals [V.ref a] us) : us = [Value.ref a] := by
  cases r with
  | cons r t =>
    cases t
    cases r
    rfl
section
variable {prog : Program} {w : World} {A : Around} {E : Value → Shared → Prop} {s : Shared} {l : Addr} {its : List Value} {ns : List Int} {Q : Value → Shared → Prop}
theorem sum_raw (hh : A.handled = none) (hl : s.heap.IsList l its.toArray) (hi : IntsAre its ns)
    (h : ∀ h' tk t', (∀ b o, s.heap.get? b = some o → h'.get? b = some o) → Q (.int ns.sum t') { s with heap := h', toks := tk }) : wpAny (model prog w) A (call (.builtin "sum") [.ref l]) Q E s := by
  obtain ⟨xs, e⟩ := hi.allInts.items
  have hn : numsOf (intItems xs).toList = ns := by rw [← e]; exact hi.numsOf
  rw [nums_intItems] at hn
  rw [e] at hl
  refine PySem.sum_intListG hh hl fun h' tk t' hk => ?_
  have := h h' tk t' hk
  rw [preSum_eq, List.take_of_length_le (by simp), hn]; exact this
theorem max_raw (hh : A.handled = none) (hl : s.heap.IsList l its.toArray) (hi : IntsAre its ns) (hne : 0 < ns.length)
    (h : ∀ h' tk M t', (∀ b o, s.heap.get? b = some o → h'.get? b = some o) → M ∈ ns → (∀ a, a ∈ ns → a ≤ M) → Q (.int M t') { s with heap := h', toks := tk }) : wpAny (model prog w) A (call (.builtin "max") [.ref l]) Q E s := by
  obtain ⟨xs, e⟩ := hi.allInts.items
  have hn : numsOf (intItems xs).toList = ns := by rw [← e]; exact hi.numsOf
  rw [nums_intItems] at hn
  subst hn
  rw [e] at hl
  have hsz : 0 < xs.size := by simpa using hne
  refine PySem.max_intList hh hl hsz fun v h' tk hv hk => ?_
  obtain ⟨t, rfl⟩ := intItems_at hv
  obtain ⟨h1, h2⟩ := argBest_gt (numAt xs) (xs.size - 1)
  refine h h' tk _ t hk ?_ fun a ha => ?_
  · rw [numAt_eq]; exact PySem.getD_mem (by rw [List.length_map, Array.length_toList]; omega)
  · obtain ⟨j, hj, rfl⟩ := mem_getD ha
    rw [List.length_map, Array.length_toList] at hj
    rw [← numAt_eq]; exact h2 j (by omega)
theorem min_raw (hh : A.handled = none) (hl : s.heap.IsList l its.toArray) (hi : IntsAre its ns) (hne : 0 < ns.length)
    (h : ∀ h' tk M t', (∀ b o, s.heap.get? b = some o → h'.get? b = some o) → M ∈ ns → (∀ a, a ∈ ns → M ≤ a) → Q (.int M t') { s with heap := h', toks := tk }) : wpAny (model prog w) A (call (.builtin "min") [.ref l]) Q E s := by
  obtain ⟨xs, e⟩ := hi.allInts.items
  have hn : numsOf (intItems xs).toList = ns := by rw [← e]; exact hi.numsOf
  rw [nums_intItems] at hn
  subst hn
  rw [e] at hl
  have hsz : 0 < xs.size := by simpa using hne
  refine PySem.min_intList hh hl hsz fun v h' tk hv hk => ?_
  obtain ⟨t, rfl⟩ := intItems_at hv
  obtain ⟨h1, h2⟩ := argBest_lt (numAt xs) (xs.size - 1)
  refine h h' tk _ t hk ?_ fun a ha => ?_
  · rw [numAt_eq]; exact PySem.getD_mem (by rw [List.length_map, Array.length_toList]; omega)
  · obtain ⟨j, hj, rfl⟩ := mem_getD ha
    rw [List.length_map, Array.length_toList] at hj
    rw [← numAt_eq]; exact h2 j (by omega)
end
section
variable {X : Cx}
def rSum (K : PySem.W.Frag) : List V → Hp → VK → Prop := fun vs H Q => ∃ (a : Addr) (ns : List Int), vs = [V.ref a] ∧ SqL K H a (ns.map V.int) ∧ Q (.int ns.sum) H
def rMax (K : PySem.W.Frag) : List V → Hp → VK → Prop := fun vs H Q => ∃ (a : Addr) (ns : List Int), vs = [V.ref a] ∧ SqL K H a (ns.map V.int) ∧ 0 < ns.length ∧ ∀ m, m ∈ ns → (∀ y, y ∈ ns → y ≤ m) → Q (.int m) H
def rMin (K : PySem.W.Frag) : List V → Hp → VK → Prop := fun vs H Q => ∃ (a : Addr) (ns : List Int), vs = [V.ref a] ∧ SqL K H a (ns.map V.int) ∧ 0 < ns.length ∧ ∀ m, m ∈ ns → (∀ y, y ∈ ns → m ≤ y) → Q (.int m) H
theorem cr_sum (hc : X.calm = true) : CallR X (.builtin "sum") (rSum X.K) := by
  intro pins s σ H vs us Q I r h
  obtain ⟨a, ns, rfl, hs, q⟩ := h
  obtain ⟨its, rv, hl, _⟩ := I.list hs
  rw [Vals.ref1 r]
  exact sum_raw (I.ok.hd hc) hl.isList rv.ints fun h' tk t' hk => ⟨.int _, H, I.kept hk, ⟨_, rfl⟩, q⟩
theorem cr_max (hc : X.calm = true) : CallR X (.builtin "max") (rMax X.K) := by
  intro pins s σ H vs us Q I r h
  obtain ⟨a, ns, rfl, hs, hne, q⟩ := h
  obtain ⟨its, rv, hl, _⟩ := I.list hs
  rw [Vals.ref1 r]
  exact max_raw (I.ok.hd hc) hl.isList rv.ints hne fun h' tk m t' hk h1 h2 => ⟨.int _, H, I.kept hk, ⟨_, rfl⟩, q m h1 h2⟩
theorem cr_min (hc : X.calm = true) : CallR X (.builtin "min") (rMin X.K) := by
  intro pins s σ H vs us Q I r h
  obtain ⟨a, ns, rfl, hs, hne, q⟩ := h
  obtain ⟨its, rv, hl, _⟩ := I.list hs
  rw [Vals.ref1 r]
  exact min_raw (I.ok.hd hc) hl.isList rv.ints hne fun h' tk m t' hk h1 h2 => ⟨.int _, H, I.kept hk, ⟨_, rfl⟩, q m h1 h2⟩
end
section
variable {X : Cx}
end
section
variable {X : Cx}
end
section
variable {X : Cx}
end
section
variable {X : Cx} {pins : List (Addr × Obj)} {σ : St} {H : Hp} {s : Shared}
end
section
variable {X : Cx}
end
end L2
namespace L2
open PySem PySem.Spec PyProof.Rows
abbrev CellAt (h : Heap) (c : Addr) (v : Option Value) : Prop := h.IsCell c v
def relS (scope sc : Scope) : Scope :=
  { scope with names := scope.names.map fun (n, k) => if (k == .free && sc.kind == .function && sc.names.lookup n == some .cell) then (n, .cell) else (n, k) }
def cloFrom (cells : List (Str × Addr)) : List (Str × NameKind) → List (Str × Addr) → List (Str × Addr)
  | [], acc => acc
  | (n, k) :: r, acc => if k == .free then cloFrom cells r ((n, (cells.lookup n).getD 0) :: acc) else cloFrom cells r acc
theorem closure_loop (env : Env) (f : Str × NameKind → List (Str × Addr) → Sem (ForInStep (List (Str × Addr))))
    (hf : ∀ n k c, f (n, k) c = if k == .free then (do let a ← cellOf env n; pure (.yield ((n, a) :: c))) else pure (.yield c)) :
    ∀ (names : List (Str × NameKind)) (acc : List (Str × Addr)), (∀ y ∈ names, y.2 = .free → ∃ c, env.cells.lookup y.1 = some c) → forIn names acc f = pure (cloFrom env.cells names acc)
  | [], acc, _ => by rw [List.forIn_nil]; rfl
  | (n, k) :: r, acc, h => by
    rw [List.forIn_cons, hf]
    have ih := fun acc => closure_loop env f hf r acc fun y hy => h y (List.mem_cons_of_mem _ hy)
    unfold cloFrom
    by_cases hk : (k == NameKind.free) = true
    · rw [if_pos hk, if_pos hk]
      obtain ⟨c, hc⟩ := h (n, k) List.mem_cons_self (by simpa using hk)
      have e : cellOf env n = pure c := by unfold cellOf; rw [hc]
      rw [e]
      have e2 : (env.cells.lookup n).getD 0 = c := by rw [hc]; rfl
      rw [e2]
      exact ih _
    · rw [if_neg hk, if_neg hk]
      exact ih _
theorem closure_ok {scope : Scope} {env : Env} (h : ∀ y ∈ scope.names, y.2 = .free → ∃ c, env.cells.lookup y.1 = some c) : closureFor scope env = pure (cloFrom env.cells scope.names []) := by
  simp only [closureFor]
  rw [closure_loop env _ (fun n k c => rfl) scope.names [] h]
  rfl
theorem mem_lookup {α : Type} : ∀ {l : List (Str × α)} {n : Str} {c : α}, (n, c) ∈ l → ∃ c', l.lookup n = some c'
  | (k, v) :: r, n, c, h => by
    rw [List.lookup_cons]
    cases hb : n == k with
    | true => exact ⟨_, rfl⟩
    | false =>
      rcases List.mem_cons.mp h with e | h
      · cases e; simp at hb
      · exact mem_lookup h
theorem cloFrom_mem {cells : List (Str × Addr)} : ∀ {names : List (Str × NameKind)} {acc : List (Str × Addr)} {n : Str} {c : Addr}, (n, c) ∈ cloFrom cells names acc → (n, c) ∈ acc ∨ ((n, .free) ∈ names ∧ c = (cells.lookup n).getD 0)
  | [], _, _, _, h => .inl h
  | (m, k) :: r, acc, n, c, h => by
    unfold cloFrom at h
    split at h
    · rename_i hk
      have hk : k = .free := by simpa using hk
      rcases cloFrom_mem h with h | ⟨h1, h2⟩
      · rcases List.mem_cons.mp h with e | h
        · cases e; exact .inr ⟨hk ▸ List.mem_cons_self, rfl⟩
        · exact .inl h
      · exact .inr ⟨List.mem_cons_of_mem _ h1, h2⟩
    · rcases cloFrom_mem h with h | ⟨h1, h2⟩
      · exact .inl h
      · exact .inr ⟨List.mem_cons_of_mem _ h1, h2⟩
theorem cloFrom_acc {cells : List (Str × Addr)} : ∀ {names : List (Str × NameKind)} {acc : List (Str × Addr)} {p : Str × Addr}, p ∈ acc → p ∈ cloFrom cells names acc
  | [], _, _, h => h
  | (m, k) :: r, acc, p, h => by
    unfold cloFrom
    split
    · exact cloFrom_acc (List.mem_cons_of_mem _ h)
    · exact cloFrom_acc h
theorem cloFrom_has {cells : List (Str × Addr)} : ∀ {names : List (Str × NameKind)} {acc : List (Str × Addr)} {n : Str}, (n, .free) ∈ names → (n, (cells.lookup n).getD 0) ∈ cloFrom cells names acc
  | (m, k) :: r, acc, n, h => by
    unfold cloFrom
    rcases List.mem_cons.mp h with e | h
    · cases e
      exact cloFrom_acc List.mem_cons_self
    · split
      · exact cloFrom_has h
      · exact cloFrom_has h
theorem cells_mem : ∀ {names : List (Str × NameKind)} {h : Heap} {acc : List (Str × Addr)} {x : Str} {c : Addr}, (x, c) ∈ cellsFrom h.objs.size names acc →
    (x, c) ∈ acc ∨ ((x, .cell) ∈ names ∧ h.objs.size ≤ c ∧ CellAt (pushCells h names) c none)
  | [], _, _, _, _, h => .inl h
  | (n, k) :: r, h, acc, x, c, hm => by
    unfold cellsFrom at hm
    unfold pushCells
    split at hm
    · rename_i hk
      rw [if_pos hk]
      have hk : k = .cell := by simpa using hk
      rw [← Heap.size_push h { cls := .type "cell", data := .cell none }] at hm
      rcases cells_mem hm with hm | ⟨h1, h2, h3⟩
      · rcases List.mem_cons.mp hm with e | hm
        · cases e
          exact .inr ⟨hk ▸ List.mem_cons_self, Nat.le_refl _, _, pushCells_keeps r _ _ _ (Heap.get?_push_size _ rfl), rfl⟩
        · exact .inl hm
      · rw [Heap.size_push] at h2
        exact .inr ⟨List.mem_cons_of_mem _ h1, Nat.le_of_succ_le h2, h3⟩
    · rename_i hk
      rw [if_neg hk]
      rcases cells_mem hm with hm | ⟨h1, h2, h3⟩
      · exact .inl hm
      · exact .inr ⟨List.mem_cons_of_mem _ h1, h2, h3⟩
theorem cells_acc : ∀ {names : List (Str × NameKind)} {n : Nat} {acc : List (Str × Addr)} {p : Str × Addr}, p ∈ acc → p ∈ cellsFrom n names acc
  | [], _, _, _, h => h
  | (m, k) :: r, n, acc, p, h => by
    unfold cellsFrom
    split
    · exact cells_acc (List.mem_cons_of_mem _ h)
    · exact cells_acc h
theorem cells_has : ∀ {names : List (Str × NameKind)} {n : Nat} {acc : List (Str × Addr)} {x : Str}, (x, .cell) ∈ names → ∃ c, (x, c) ∈ cellsFrom n names acc
  | (m, k) :: r, n, acc, x, h => by
    unfold cellsFrom
    rcases List.mem_cons.mp h with e | h
    · cases e
      exact ⟨n, cells_acc List.mem_cons_self⟩
    · split
      · exact cells_has h
      · exact cells_has h
theorem cells_inj : ∀ {names : List (Str × NameKind)} {h : Heap} {acc : List (Str × Addr)} {x y : Str} {c : Addr}, (∀ p ∈ acc, p.2 < h.objs.size) → (∀ x y c, (x, c) ∈ acc → (y, c) ∈ acc → x = y) →
    (x, c) ∈ cellsFrom h.objs.size names acc → (y, c) ∈ cellsFrom h.objs.size names acc → x = y
  | [], _, _, _, _, _, _, hi, h1, h2 => hi _ _ _ h1 h2
  | (n, k) :: r, h, acc, x, y, c, hl, hi, h1, h2 => by
    unfold cellsFrom at h1 h2
    split at h1
    · rename_i hk
      rw [if_pos hk] at h2
      rw [← Heap.size_push h { cls := .type "cell", data := .cell none }] at h1 h2
      refine cells_inj (h := h.push _) (fun p hp => ?_) (fun x y c a b => ?_) h1 h2
      · rw [Heap.size_push]
        rcases List.mem_cons.mp hp with rfl | hp
        · exact Nat.lt_succ_self _
        · exact Nat.lt_succ_of_lt (hl p hp)
      · rcases List.mem_cons.mp a with e | a <;> rcases List.mem_cons.mp b with e' | b
        · cases e; cases e'; rfl
        · cases e; exact absurd (hl _ b) (Nat.lt_irrefl _)
        · cases e'; exact absurd (hl _ a) (Nat.lt_irrefl _)
        · exact hi _ _ _ a b
    · rename_i hk
      rw [if_neg hk] at h2
      exact cells_inj hl hi h1 h2
theorem newEnv_comp {M : Model} {A : Around} {E : Value → Shared → Prop} {s : Shared} {scope : Scope} {globals : Addr} {closure : List (Str × Addr)} {qual : Str} {func : Option Addr} {code : Value} {around : Env} {builtins : Addr} {Q : Env → Shared → Prop}
    (h : Q (newEnv scope s.heap.objs.size globals (cellsFrom (s.heap.objs.size + 1) scope.names closure) qual func code (some around) builtins)
      { s with heap := pushCells (s.heap.push { cls := .type "dict", data := .dict #[] }) scope.names }) :
    wpAny M A (newFunctionEnv scope globals closure [] qual func code (some around) builtins) Q E s := by
  simp only [newFunctionEnv, Option.isSome_some, if_true]
  refine wpAny_bind (wpAny_alloc ?_)
  refine wpAny_bind (wpAny_layCells _ (fun n k c => rfl) scope.names closure _ _ ?_)
  rw [show ({ s with heap := s.heap.push { cls := .type "dict", data := .dict #[] } } : Shared).heap.objs.size = s.heap.objs.size + 1 from Heap.size_push ..]
  rw [List.forIn_nil]
  exact wpAny_bind (wpAny_pure (wpAny_pure h))
theorem lookup_relS {sc : Scope} : ∀ {names : List (Str × NameKind)} {x : Str} {k : NameKind},
    (names.map fun (n, k) => if (k == NameKind.free && sc.kind == .function && sc.names.lookup n == some .cell) then (n, NameKind.cell) else (n, k)).lookup x = some k →
    ∃ k', names.lookup x = some k' ∧ (k = k' ∨ (k' = .free ∧ k = .cell))
  | [], _, _, h => by simp at h
  | (n, k₀) :: r, x, k, h => by
    have ih := @lookup_relS sc r x k
    have h' : List.lookup x ((if (k₀ == NameKind.free && sc.kind == .function && sc.names.lookup n == some .cell) = true then (n, NameKind.cell) else (n, k₀)) :: (r.map _)) = some k := h
    cases hx : x == n with
    | true =>
      simp only [List.lookup_cons, hx]
      by_cases hc : (k₀ == NameKind.free && sc.kind == .function && sc.names.lookup n == some .cell) = true
      · rw [if_pos hc] at h'
        simp only [List.lookup_cons, hx] at h'
        cases h'
        simp only [Bool.and_eq_true, beq_iff_eq] at hc
        exact ⟨k₀, rfl, .inr ⟨hc.1.1, rfl⟩⟩
      · rw [if_neg hc] at h'
        simp only [List.lookup_cons, hx] at h'
        cases h'
        exact ⟨_, rfl, .inl rfl⟩
    | false =>
      simp only [List.lookup_cons, hx]
      by_cases hc : (k₀ == NameKind.free && sc.kind == .function && sc.names.lookup n == some .cell) = true
      · rw [if_pos hc] at h'
        simp only [List.lookup_cons, hx] at h'
        exact ih h'
      · rw [if_neg hc] at h'
        simp only [List.lookup_cons, hx] at h'
        exact ih h'
structure BlkOk (N : List Str) (sc scope : Scope) (own : List (Str × Nat)) : Prop where
  kind : scope.kind = .function
  uniq : ∀ y ∈ scope.names, scope.names.lookup y.1 = some y.2
  ix : ∀ p ∈ own, N[p.2]? = some p.1
  free : ∀ y ∈ scope.names, y.2 = .free → sc.names.lookup y.1 = some .cell ∨ sc.names.lookup y.1 = some .free
  own : ∀ y ∈ scope.names, y.2 = .local ∨ y.2 = .cell → y.1 ∈ own.map (·.1) ∨ y.1 ∉ N
def wipe (σ : St) : List Nat → St
  | [] => σ
  | v :: vs => (wipe σ vs).set v none
theorem wipe_length (σ : St) : ∀ vs : List Nat, (wipe σ vs).length = σ.length
  | [] => rfl
  | v :: vs => by unfold wipe; rw [List.length_set, wipe_length σ vs]
theorem wipe_some {σ : St} {i : Nat} {x : V} : ∀ {vs : List Nat}, (wipe σ vs)[i]? = some (some x) → σ[i]? = some (some x) ∧ i ∉ vs
  | [], h => ⟨h, by simp⟩
  | v :: vs, h => by
    unfold wipe at h
    by_cases hi : v = i
    · subst hi
      by_cases hv : v < (wipe σ vs).length
      · rw [List.getElem?_set_self hv] at h; cases h
      · rw [List.getElem?_eq_none (by simpa using hv)] at h; cases h
    · rw [List.getElem?_set_ne hi] at h
      obtain ⟨h1, h2⟩ := wipe_some h
      exact ⟨h1, by simp only [List.mem_cons, not_or]; exact ⟨fun e => hi e.symm, h2⟩⟩
abbrev Cx.blk (X : Cx) (s : Shared) (H : Hp) (scope : Scope) (cenv : Env) (fp : List Addr) : Cx := { X with s_0 := s, H_0 := H, env := cenv, outer := X.stack, ex := fp, fn := fun x => scope.names.lookup x == some .cell, pn := [], xe := fun _ _ => False }
section
variable {X : Cx} {pins : List (Addr × Obj)} {σ : St} {H : Hp} {s : Shared}
theorem block_start {scope : Scope} {own : List (Str × Nat)} {fp : List Addr} (I : Inv X pins σ H s) (ok : BlkOk X.N X.env.scope scope own) (hN : X.N.Nodup) (hfp : ∀ b ∈ fp, FpOk X pins H b ∧ b < s.heap.objs.size) :
    Inv (X.blk s H scope (compEnvC scope (cellsFrom (s.heap.objs.size + 1) scope.names (cloFrom X.env.cells scope.names [])) s.heap.objs.size X.env) fp) [] (wipe σ (own.map (·.2))) H { s with heap := pushCells (s.heap.push { cls := .type "dict", data := .dict #[] }) scope.names } := by
  have hfree : ∀ y ∈ scope.names, y.2 = .free → ∃ c, X.env.cells.lookup y.1 = some c := fun y hy e => by
    rcases ok.free y hy e with k | k
    · exact I.ok.has _ (.inl k)
    · exact I.ok.has _ (.inr k)
  generalize hcenv : compEnvC scope (cellsFrom (s.heap.objs.size + 1) scope.names (cloFrom X.env.cells scope.names [])) s.heap.objs.size X.env = cenv
  have kp : ∀ b o, s.heap.get? b = some o → (pushCells (s.heap.push { cls := .type "dict", data := .dict #[] }) scope.names).get? b = some o := fun b o e => pushCells_keeps _ _ _ _ (Heap.get?_push_of_some _ e)
  have hL : cenv.locals = s.heap.objs.size := by rw [← hcenv]; rfl
  have hcl : cenv.cells = cellsFrom (s.heap.objs.size + 1) scope.names (cloFrom X.env.cells scope.names []) := by rw [← hcenv]; rfl
  have hsc : cenv.scope = relS scope X.env.scope := by rw [← hcenv]; rfl
  rw [← Heap.size_push s.heap { cls := .type "dict", data := .dict #[] }] at hcl
  have cm : ∀ {y c}, (y, c) ∈ cloFrom X.env.cells scope.names [] → X.env.cells.lookup y = some c ∧ c < s.heap.objs.size := fun {y c} hm => by
    rcases cloFrom_mem hm with hm | ⟨h1, rfl⟩
    · cases hm
    · obtain ⟨c, hc⟩ := hfree _ h1 rfl
      rw [hc]
      obtain ⟨w, z⟩ := I.cell _ _ hc
      exact ⟨rfl, z.lt⟩
  have mem : ∀ {y c}, cenv.cells.lookup y = some c → (X.env.cells.lookup y = some c ∧ c < s.heap.objs.size) ∨ (s.heap.objs.size + 1 ≤ c ∧ CellAt (pushCells (s.heap.push { cls := .type "dict", data := .dict #[] }) scope.names) c none) := fun {y c} e => by
    rw [hcl] at e
    rcases cells_mem (PySem.mem_of_lookup e) with hm | ⟨_, h2, h3⟩
    · exact .inl (cm hm)
    · rw [Heap.size_push] at h2; exact .inr ⟨h2, h3⟩
  have look : ∀ {y}, scope.names.lookup y = some .free → ∃ c, cenv.cells.lookup y = some c ∧ X.env.cells.lookup y = some c := fun {y} hl => by
    have hy : (y, NameKind.free) ∈ scope.names := PySem.mem_of_lookup hl
    obtain ⟨c', e'⟩ := mem_lookup (cells_acc (names := scope.names) (n := (s.heap.push { cls := .type "dict", data := .dict #[] }).objs.size) (cloFrom_has (cells := X.env.cells) (acc := []) hy))
    rw [← hcl] at e'
    refine ⟨c', e', ?_⟩
    rw [hcl] at e'
    rcases cells_mem (PySem.mem_of_lookup e') with hm | ⟨h1, _, _⟩
    · exact (cm hm).1
    · have := ok.uniq _ h1
      rw [hl] at this; cases this
  have okB : (X.blk s H scope cenv fp).Ok := by
    refine ⟨I.ok.mod, by show cenv.scope.kind = _; rw [hsc]; exact ok.kind, by show cenv.globals = _; rw [← hcenv]; exact I.ok.glob, by show cenv.builtins = _; rw [← hcenv]; exact I.ok.blt, by show s.heap.objs.size ≤ cenv.locals; rw [hL]; exact Nat.le_refl _,
      fun y z c e1 e2 => ?_, fun y hy => ?_, fun y c z e => ?_, I.ok.hd, I.ok.frames, .inl rfl, fun b hb => ⟨?_, fun y c e z => ?_⟩, I.bs, Nat.le_trans I.ok.bsz I.sz, fun b o e hb => ?_, fun b hb z => ?_, I.stack, I.stkFree⟩
    · have e1 : cenv.cells.lookup y = some c := e1
      have e2 : cenv.cells.lookup z = some c := e2
      rw [hcl] at e1 e2
      refine cells_inj (fun p hp => ?_) (fun y z c a b => I.ok.inj y z c (cm a).1 (cm b).1) (PySem.mem_of_lookup e1) (PySem.mem_of_lookup e2)
      rw [Heap.size_push]
      exact Nat.lt_succ_of_lt (cm (y := p.1) (c := p.2) hp).2
    · show ∃ c, cenv.cells.lookup y = some c
      have key : ∀ k, cenv.kindOf y = some k → (k = .cell ∨ k = .free) → ∃ c, cenv.cells.lookup y = some c := fun k hk hk' => by
        unfold Env.kindOf at hk
        rw [hsc] at hk
        obtain ⟨k', e, r⟩ := lookup_relS hk
        have : k' = .cell ∨ k' = .free := by
          rcases r with rfl | ⟨rfl, _⟩
          · exact hk'
          · exact .inr rfl
        rcases this with rfl | rfl
        · obtain ⟨c, hm⟩ := cells_has (n := (s.heap.push { cls := .type "dict", data := .dict #[] }).objs.size) (acc := cloFrom X.env.cells scope.names []) (PySem.mem_of_lookup e)
          obtain ⟨c', e'⟩ := mem_lookup hm
          exact ⟨c', by rw [hcl]; exact e'⟩
        · obtain ⟨c, h1, _⟩ := look e
          exact ⟨c, h1⟩
      rcases hy with hy | hy
      · exact key _ hy (.inl rfl)
      · exact key _ hy (.inr rfl)
    · have z : (scope.names.lookup y == some NameKind.cell) = true := z
      have z : scope.names.lookup y = some .cell := by simpa using z
      have e : cenv.cells.lookup y = some c := e
      rw [hcl] at e
      rcases cells_mem (PySem.mem_of_lookup e) with hm | ⟨_, h2, _⟩
      · rcases cloFrom_mem hm with hm | ⟨h1, _⟩
        · cases hm
        · have q := ok.uniq _ h1
          rw [z] at q; cases q
      · rw [Heap.size_push] at h2
        exact Nat.le_of_succ_le h2
    · show b ≠ cenv.locals
      rw [hL]; exact Nat.ne_of_lt (hfp b hb).2
    · have e : cenv.cells.lookup y = some c := e
      rcases mem e with ⟨h1, _⟩ | ⟨h1, _⟩
      · exact (hfp b hb).1.2.2.2.2.1 y c h1 z
      · have h2 : s.heap.objs.size + 1 ≤ b := by rw [← z]; exact h1
        exact absurd (Nat.lt_of_lt_of_le (hfp b hb).2 (Nat.le_of_succ_le h2)) (Nat.lt_irrefl _)
    · rcases (hfp b hb).1.2.2.2.1 with z | z
      · exact I.ok.noex b o e z
      · exact absurd (Nat.lt_of_lt_of_le (Heap.lt_size e) (Nat.le_trans I.ok.bsz z)) (Nat.lt_irrefl _)
    · rcases List.mem_cons.mp (I.stkSub b z) with z | z
      · exact (hfp b hb).1.2.1 z
      · exact (hfp b hb).1.2.2.1 z
  refine ⟨okB, rfl, I.bare, Un.kept kp, ⟨fun _ => none, ?_, fun i y av e1 e2 e3 => ?_⟩, fun y c e => ?_, ?_, fun y c e => ?_, fun p hp => ?_, I.hok.kept kp, by rw [wipe_length]; exact I.len⟩
  · show Heap.Ns _ cenv.locals _
    rw [hL]
    exact Heap.Ns.keeps (Heap.Ns.new ..) fun b o e => pushCells_keeps _ _ _ _ e
  · obtain ⟨e2, hne⟩ := wipe_some e2
    have hfr : scope.names.lookup y = some .free ∧ (cenv.kindOf y = some .cell ∨ cenv.kindOf y = some .free) := by
      have key : ∀ k, cenv.scope.names.lookup y = some k → k = .local ∨ k = .cell ∨ k = .free → scope.names.lookup y = some .free ∧ (cenv.kindOf y = some .cell ∨ cenv.kindOf y = some .free) := fun k hk hk' => by
        have hk0 := hk
        rw [hsc] at hk
        obtain ⟨k', e, r⟩ := lookup_relS hk
        have no : ¬ (k' = .local ∨ k' = .cell) := fun hh => by
          rcases ok.own _ (PySem.mem_of_lookup e) hh with e' | e'
          · obtain ⟨p, hp, hpy⟩ := List.mem_map.mp e'
            have e3 := ok.ix p hp
            have : p.1 = y := hpy
            rw [this] at e3
            exact hne (List.mem_map.mpr ⟨p, hp, nodup_ix hN e3 e1⟩)
          · exact e' (List.mem_of_getElem? e1)
        rcases r with rfl | ⟨rfl, rfl⟩
        · rcases hk' with rfl | rfl | rfl
          · exact absurd (.inl rfl) no
          · exact absurd (.inr rfl) no
          · exact ⟨e, .inr hk0⟩
        · exact ⟨e, .inl hk0⟩
      have e3 : Vis cenv.scope y := e3
      rcases e3 with e3 | e3 | e3
      · exact key _ e3 (.inl rfl)
      · exact key _ e3 (.inr (.inl rfl))
      · exact key _ e3 (.inr (.inr rfl))
    obtain ⟨m, hn, hl⟩ := I.loc
    have hvis : Vis X.env.scope y := (ok.free _ (PySem.mem_of_lookup hfr.1) rfl).elim (fun k => .inr (.inl k)) (fun k => .inr (.inr k))
    obtain ⟨w, r, q⟩ := hl i y av e1 e2 hvis
    refine ⟨w, r, .inr ⟨hfr.2, ?_⟩⟩
    obtain ⟨c, h1, h2⟩ := look hfr.1
    rcases q with ⟨k, _⟩ | ⟨_, c', e', z⟩
    · have k : X.env.scope.names.lookup y = some .local := k
      rcases ok.free _ (PySem.mem_of_lookup hfr.1) rfl with k' | k' <;> rw [show X.env.scope.names.lookup y = _ from k'] at k <;> cases k
    · rw [h2] at e'; cases e'
      exact ⟨c, h1, z.keeps kp⟩
  · have e : cenv.cells.lookup y = some c := e
    rcases mem e with ⟨h1, _⟩ | ⟨_, z⟩
    · obtain ⟨w, z⟩ := I.cell y c h1
      exact ⟨w, z.keeps kp⟩
    · exact ⟨_, z⟩
  · show H cenv.locals = none
    rw [hL]; exact I.hok.fresh (Nat.le_refl _)
  · have e : cenv.cells.lookup y = some c := e
    rcases mem e with ⟨h1, _⟩ | ⟨h1, _⟩
    · exact I.freeC y c h1
    · exact I.hok.fresh (Nat.le_of_succ_le h1)
  · exact absurd (show p ∈ ([] : List (Addr × Obj)) ++ [] from hp) (by simp)
theorem app_ok {E : Value → Shared → Prop} {D : Addr} {xs : List V} {y : V} {v : Value} {Q : Value → Shared → Prop} (I : Inv X pins σ H s) (hD : H D = some (.lst xs)) (hz : xs.length < sizeLine) (r : RelV y v)
    (h : ∀ s', Inv X pins σ (upd H D (.lst (xs ++ [y]))) s' → Q .none s') : wpAny (model X.prog X.w) X.A (call (.builtin "list.append") [.ref D, v]) Q E s := by
  obtain ⟨hz', its, n, ri, e⟩ := I.hok D _ hD
  have hl := ri.length
  refine append_at (hsz := by rw [List.size_toArray]; omega) e fun h' sb ho' => ?_
  refine h { s with heap := h' } (I.write (t' := s.toks) (by rw [hD]; trivial) (.inl rfl) (fun b u hb q => (sb.2 b hb).trans q) ⟨_, ho'⟩ ⟨by rw [List.length_append]; exact hz, its ++ [v], n + 1, ri.append (.cons r .nil), ?_⟩)
  rw [ho']
  simp
def PTs (X : Cx) (ifs : List Expr) (t : TT) : Prop :=
  ∀ (pins : List (Addr × Obj)) (s : Shared) (σ : St) (H : Hp) (Q : Bool → Hp → Prop), Inv X pins σ H s → t σ H Q →
    wpAny (model X.prog X.w) X.A (forIn ifs true fun c r => if r = true then do let ok ← isTrue c X.env (eval c X.env); pure (ForInStep.yield ok) else pure (ForInStep.yield r)) (TP X pins σ Q) X.xe s
def tYes : TT := fun _ H Q => Q true H
theorem pts_nil : PTs X [] tYes := fun _ _ _ H _ I h => wpAny_tests_nil ⟨H, I, h⟩
theorem pts_one {c : Expr} {t : TT} (h : PT X c t) : PTs X [c] t := fun pins s σ H Q I hw => wpAny_tests_one (h pins s σ H Q I hw)
end
theorem thnF {α : Type} {t : Sem α} {Q Q' : α → Shared → Prop} {M : Model} {A : Around} {E : Value → Shared → Prop} {s : Shared} (h : wpAny M A t Q (fun _ _ => False) s) (hQ : ∀ a s, Q a s → Q' a s) : wpAny M A t Q' E s := wpAny_mono h hQ fun _ _ z => False.elim z
theorem compLoop_any {prog : Program} {w : World} {A : Around} {R : Result → Shared → Prop} {s : Shared} {elt target iter : Expr} {ifs : List Expr} {scope : Scope} {pos : Pos} {it acc : Value} {env : Env} (I : Nat → Shared → Prop)
    (turn : ∀ n s, I n s → wpAny (model prog w) A (pyNext it) (fun r s₁ => match r with
      | none => R (.ok .next) s₁
      | some v => wpAny (model prog w) A (letOwnedTupleGo target it v) (fun _ s₁' => wpAny (model prog w) A (assign target env v) (fun _ s₂ =>
          wpAny (model prog w) A (forIn ifs true fun c r => if r = true then do let ok ← isTrue c env (eval c env); pure (ForInStep.yield ok) else pure (ForInStep.yield r)) (fun ok s₃ =>
            if ok = true then wpAny (model prog w) A (eval elt env) (fun x s₄ =>
              wpAny (model prog w) A (call (.builtin "list.append") [acc, x]) (fun _ s₅ => ∃ m, m < n ∧ I m s₅) (notedBy (model prog w) A env fun e s' => R (.error e) s') s₄) (notedBy (model prog w) A env fun e s' => R (.error e) s') s₃
            else ∃ m, m < n ∧ I m s₃) (notedBy (model prog w) A env fun e s' => R (.error e) s') s₂) (notedBy (model prog w) A env fun e s' => R (.error e) s') s₁') (notedBy (model prog w) A env fun e s' => R (.error e) s') s₁) (notedBy (model prog w) A env fun e s' => R (.error e) s') s)
    (n : Nat) (h : I n s) :
    codeAny (model prog w) A (.compLoop (.ListComp elt [⟨target, iter, ifs, 0⟩] scope pos) 0 it acc env) R s := by
  refine codeAny_loop rfl I (fun n s hI => ?_) n h
  show wpAny _ A ((compTurn (.ListComp elt [⟨target, iter, ifs, 0⟩] scope pos) 0 it acc env).onRaise (fun x => do noteFrame x env; theTreesLotGoes x)) _ _ s
  refine wpAny_noted ?_
  rw [compTurn_list]
  refine wpAny_bind (wpAny_standAt (wpAny_bind (wpAny_mono (turn n s hI) (fun r s₁ h₁ => ?_) fun _ _ h' => h')))
  cases r with
  | none => exact wpAny_pure h₁
  | some v =>
    refine wpAny_bind (wpAny_mono h₁ (fun _ s₁' h₁' => ?_) fun _ _ h' => h')
    refine wpAny_bind (wpAny_mono h₁' (fun _ s₂ h₂ => wpAny_bind (wpAny_mono h₂ (fun ok s₃ h₃ => ?_) fun _ _ h' => h')) fun _ _ h' => h')
    cases ok with
    | false => exact wpAny_pure ⟨rfl, h₃⟩
    | true =>
      exact wpAny_bind (wpAny_bind (wpAny_mono h₃ (fun x s₄ h₄ => wpAny_bind (wpAny_mono h₄ (fun _ s₅ h₅ => wpAny_pure (wpAny_pure ⟨rfl, h₅⟩)) fun _ _ h' => h')) fun _ _ h' => h'))
section
variable {X : Cx}
def tLc (wi : TI) (g : TG) (tt : TT) (te : TE) (vs : List Nat) : TE := fun σ H Q => wi σ H fun J H1 => ∀ D, H1 D = none → ∃ W : Nat → Nat → Hp → Prop, (∃ m, W 0 m (upd H1 D (.lst []))) ∧ ∀ i m H, W i m H →
  (J.stop i H ∧ Q (.ref D) H) ∨ (J.go i H ∧ ∃ Nx : Hp → Prop, (∀ H', Nx H' → ∃ m', m' < m ∧ W (i + 1) m' H') ∧ ∀ x H', J.yld i H x H' → g x (wipe σ vs) H' fun σ2 H2 => wipe σ2 vs = wipe σ vs ∧ tt σ2 H2 fun b H3 =>
    if b = true then te σ2 H3 fun y H4 => ∃ acc, H4 D = some (.lst acc) ∧ acc.length < sizeLine ∧ Nx (upd H4 D (.lst (acc ++ [y]))) else Nx H3)
theorem lc_core {pins : List (Addr × Obj)} {s : Shared} {σ : St} {H : Hp} {Q : VK} {elt tg iter : Expr} {ifs : List Expr} {scope : Scope} {own : List (Str × Nat)} {pos pos' : Pos} {wi : TI} {g : TG} {tt : TT} {te : TE} {use : Option (Value → Sem Unit)} {Qf : Value → Shared → Prop}
    (hc : X.calm = true) (hN : X.N.Nodup) (I : Inv X pins σ H s) (hi : PI X tg iter wi) (ok : BlkOk X.N X.env.scope scope own)
    (hg : ∀ (s : Shared) (H : Hp) (C : Addr) (cl : List (Str × Addr)) (fp : List Addr), PG (X.blk s H scope (compEnvC scope cl C X.env) fp) tg g) (ht : ∀ (s : Shared) (H : Hp) (C : Addr) (cl : List (Str × Addr)) (fp : List Addr), PTs (X.blk s H scope (compEnvC scope cl C X.env) fp) ifs tt)
    (he : ∀ (s : Shared) (H : Hp) (C : Addr) (cl : List (Str × Addr)) (fp : List Addr), PE (X.blk s H scope (compEnvC scope cl C X.env) fp) elt te) (hs : ∀ x, foldedSetIterable iter X.env x = pure x)
    (h : tLc wi g tt te (own.map (·.2)) σ H Q)
    (hRR : ∀ D C s' m H', Inv X pins σ H' s' → Q (.ref D) H' → s'.heap.Ns C m → FpOk X pins H' C → compPost (model X.prog X.w) X.A X.xe use Qf (.ref D) C (.ok .next) s') :
    wpAny (model X.prog X.w) X.A (comprehension (.ListComp elt [⟨tg, iter, ifs, 0⟩] scope pos) scope X.env pos' (newList []) false (eval iter X.env) use) Qf X.xe s := by
  have hfree : ∀ y ∈ scope.names, y.2 = .free → ∃ c, X.env.cells.lookup y.1 = some c := fun y hy e => by
    rcases ok.free y hy e with k | k
    · exact I.ok.has _ (.inl k)
    · exact I.ok.has _ (.inr k)
  refine wpAny_comprehension_free (use := use) rfl hs (closure_ok hfree) ok.kind (fun y hy e => by rw [ok.uniq y hy, e])
    (thn (hi pins s σ H _ I h) fun xv s1 hx => thn hx fun itv s2 h2 => ?_)
  obtain ⟨it, fp, tn, J, H2, e, I2, T, st2, f2, q⟩ := h2
  subst e
  refine wpAny_newObj_type (newEnv_comp ?_) (by show 0 ≤ sizeLine; decide)
  generalize hD : s2.heap.objs.size = D
  have hDn : H2 D = none := I2.hok.fresh (Nat.le_of_eq hD)
  obtain ⟨W, ⟨m0, w0⟩, turn⟩ := q D hDn
  -- the new list
  generalize hs3 : ({ s2 with heap := s2.heap.push { cls := .type "list", data := .seq ([] : List Value).toArray } } : Shared) = s3
  have I3 : Inv X pins σ (upd H2 D (.lst [])) s3 := by
    rw [← hs3]
    refine I2.laid (t' := s2.toks) (fun b o e => Heap.get?_push_of_some _ e) (Nat.le_of_eq hD) ⟨Nat.zero_le _, [], 0, .nil, ?_⟩
    rw [← hD]
    exact Heap.get?_push_size _ rfl
  have h3 : s3.heap = s2.heap.push { cls := .type "list", data := .seq ([] : List Value).toArray } := by rw [← hs3]
  have sz : ∀ b ∈ fp, b < s2.heap.objs.size := fun b hb => by
    obtain ⟨o, e, _⟩ := T.obj _ _ st2 b hb
    exact Heap.lt_size e
  have f3 : ∀ b ∈ fp, FpOk X pins (upd H2 D (.lst [])) b ∧ b < s3.heap.objs.size := fun b hb => by
    have hlt := sz b hb
    refine ⟨⟨?_, (f2 b hb).2⟩, by rw [h3, Heap.size_push]; exact Nat.lt_succ_of_lt hlt⟩
    rw [upd_ne (by rw [← hD]; exact Nat.ne_of_lt hlt)]
    exact (f2 b hb).1
  have st3 : tn 0 s3.heap := T.keep _ _ _ st2 fun b _ o e => by rw [h3]; exact Heap.get?_push_of_some _ e
  have I4 := block_start I3 ok hN f3
  have pg := hg s3 (upd H2 D (.lst [])) s3.heap.objs.size (cellsFrom (s3.heap.objs.size + 1) scope.names (cloFrom X.env.cells scope.names [])) fp
  have pt := ht s3 (upd H2 D (.lst [])) s3.heap.objs.size (cellsFrom (s3.heap.objs.size + 1) scope.names (cloFrom X.env.cells scope.names [])) fp
  have pe := he s3 (upd H2 D (.lst [])) s3.heap.objs.size (cellsFrom (s3.heap.objs.size + 1) scope.names (cloFrom X.env.cells scope.names [])) fp
  show codeAny _ _ (.compStart (.ListComp elt [⟨tg, iter, ifs, 0⟩] scope pos) 0 (.ref it) (.ref D) (compEnvC scope (cellsFrom (s3.heap.objs.size + 1) scope.names (cloFrom X.env.cells scope.names [])) s3.heap.objs.size X.env)) (compPost (model X.prog X.w) X.A X.xe use Qf (.ref D) s3.heap.objs.size) { s3 with heap := pushCells (s3.heap.push { cls := .type "dict", data := .dict #[] }) scope.names }
  have nfp : ∀ b ∈ fp, (upd H2 D (.lst [])) b = none := fun b hb => (f3 b hb).1.1
  generalize hce : compEnvC scope (cellsFrom (s3.heap.objs.size + 1) scope.names (cloFrom X.env.cells scope.names [])) s3.heap.objs.size X.env = ce at I4 pg pt pe ⊢
  have cL : ce.locals = s3.heap.objs.size := by subst hce; rfl
  generalize hH3 : upd H2 D (.lst []) = H3 at I3 I4 pg pt pe w0 nfp f3
  generalize hs4 : ({ s3 with heap := pushCells (s3.heap.push { cls := .type "dict", data := .dict #[] }) scope.names } : Shared) = s4 at I4 ⊢
  have st4 : tn 0 s4.heap := T.keep _ _ _ st3 fun b _ o e => by rw [← hs4]; exact pushCells_keeps _ _ _ _ (Heap.get?_push_of_some _ e)
  have stat : ∀ {σ' : St} {H' : Hp} {s' : Shared}, Inv (X.blk s3 H3 scope ce fp) [] σ' H' s' → (∀ b ∈ fp, H' b = none) → ∀ b ∈ fp, FpOk (X.blk s3 H3 scope ce fp) [] H' b := fun {σ' H' s'} I' hn b hb =>
    ⟨hn b hb, (I'.ok.exf b hb).1, I'.ok.exfs b hb, .inl hb, fun x c e => (I'.ok.exf b hb).2 x c e, fun p hp => absurd (show p ∈ ([] : List (Addr × Obj)) ++ [] from hp) (by simp)⟩
  have loop : codeAny (model X.prog X.w) X.A (.compLoop (.ListComp elt [⟨tg, iter, ifs, 0⟩] scope pos) 0 (.ref it) (.ref D) ce) (compPost (model X.prog X.w) X.A X.xe use Qf (.ref D) s3.heap.objs.size) s4 := by
    refine compLoop_any (fun n s' => ∃ i H', Inv (X.blk s3 H3 scope ce fp) [] (wipe σ (own.map (·.2))) H' s' ∧ tn i s'.heap ∧ (∀ b ∈ fp, H' b = none) ∧ W i n H') ?_ m0 ⟨0, H3, I4, st4, nfp, w0⟩
    rintro n s5 ⟨i, H5, I5, st5, n5, w5⟩
    rcases turn i n H5 w5 with ⟨stop, qq⟩ | ⟨go, Nx, hNx, step⟩
    · have td := T.done (X.blk s3 H3 scope ce fp) rfl rfl rfl hc i [] s5 _ H5 (fun _ _ => False) I5 (stat I5 n5) st5 stop
      refine thnF td fun r s6 ⟨hr, I6⟩ => ?_
      subst hr
      -- back in the def's context
      have I7 : Inv X pins σ H5 s6 := I3.call' (ch := fp) I6.os I6.base I6.hok I6.bare fun b hb => ⟨(f3 b hb).1.2.2.2.1, (f3 b hb).1.2.1, (f3 b hb).1.2.2.2.2.1, (f3 b hb).1.2.2.2.2.2⟩
      have nC : H5 s3.heap.objs.size = none := by
        have z : H5 ce.locals = none := I6.free
        rw [cL] at z
        exact z
      obtain ⟨m, hn, _⟩ := I6.loc
      have hn : s6.heap.Ns ce.locals m := hn
      rw [cL] at hn
      exact hRR D s3.heap.objs.size s6 m H5 I7 qq hn (I3.fpOk (Nat.le_refl _) nC)
    · have ti := T.item (X.blk s3 H3 scope ce fp) rfl rfl rfl hc i [] s5 _ H5 (fun _ _ => False) I5 (stat I5 n5) st5 go
      refine thnF ti fun r s6 ⟨u, hr, h6⟩ => ?_
      subst hr
      refine thnF h6 fun _ s7 ⟨x, H7, I7, r7, y7, st7, n7⟩ => ?_
      have I7' := I7.pinned (stat I7 n7) (T.obj _ _ st7)
      refine thnF (pg _ s7 _ H7 x u _ I7' r7 (step x H7 y7)) fun _ s8 ⟨σ8, H8, I8, hw8, q8⟩ => ?_
      refine thnF (pt _ s8 σ8 H8 _ I8 q8) fun b s9 ⟨H9, I9, q9⟩ => ?_
      -- the turn's end
      have fin : ∀ {s' : Shared} {H' : Hp}, Inv (X.blk s3 H3 scope ce fp) ([] ++ pinsAt fp s7.heap) σ8 H' s' → Nx H' → ∃ m, m < n ∧ ∃ i H', Inv (X.blk s3 H3 scope ce fp) [] (wipe σ (own.map (·.2))) H' s' ∧ tn i s'.heap ∧ (∀ b ∈ fp, H' b = none) ∧ W i m H' := fun {s' H'} I' nx => by
        obtain ⟨m', hm, w'⟩ := hNx H' nx
        have pin' : ∀ b ∈ fp, ∀ o, s7.heap.get? b = some o → s'.heap.get? b = some o ∧ H' b = none := fun b hb o e =>
          let z := I'.pin (b, o) (List.mem_append_right _ (List.mem_append_right _ (mem_pinsAt hb e)))
          ⟨z.1, z.2.1⟩
        have hl : (wipe σ (own.map (·.2))).length = σ8.length := by rw [← hw8, wipe_length]
        refine ⟨m', hm, i + 1, H', (I'.unpinned (pins := [])).weak hl (fun j v e => ?_), T.keep _ _ _ st7 fun b hb o e => (pin' b hb o e).1, fun b hb => ?_, w'⟩
        · rw [← hw8] at e
          exact (wipe_some e).1
        · obtain ⟨o, e, _⟩ := T.obj _ _ st7 b hb
          exact (pin' b hb o e).2
      cases b with
      | false =>
        simp only [Bool.false_eq_true, if_false] at q9 ⊢
        exact fin I9 q9
      | true =>
        simp only [if_true] at q9 ⊢
        refine thnF (pe _ s9 σ8 H9 _ I9 q9) fun z s10 ⟨yv, H10, I10, r10, acc, hD10, hz10, nx⟩ => ?_
        exact app_ok (X := X.blk s3 H3 scope ce fp) I10 hD10 hz10 r10 fun s11 I11 => fin I11 nx
  exact codeAny_compStart_list loop (T.self X.A 0 _ _ _ st4 loop)
theorem pe_lc {elt tg iter : Expr} {ifs : List Expr} {scope : Scope} {own : List (Str × Nat)} {pos : Pos} {wi : TI} {g : TG} {tt : TT} {te : TE} (hc : X.calm = true) (hN : X.N.Nodup) (hi : PI X tg iter wi) (ok : BlkOk X.N X.env.scope scope own)
    (hg : ∀ (s : Shared) (H : Hp) (C : Addr) (cl : List (Str × Addr)) (fp : List Addr), PG (X.blk s H scope (compEnvC scope cl C X.env) fp) tg g) (ht : ∀ (s : Shared) (H : Hp) (C : Addr) (cl : List (Str × Addr)) (fp : List Addr), PTs (X.blk s H scope (compEnvC scope cl C X.env) fp) ifs tt)
    (he : ∀ (s : Shared) (H : Hp) (C : Addr) (cl : List (Str × Addr)) (fp : List Addr), PE (X.blk s H scope (compEnvC scope cl C X.env) fp) elt te) (hs : ∀ x, foldedSetIterable iter X.env x = pure x := by intro _; rfl) :
    PE X (.ListComp elt [⟨tg, iter, ifs, 0⟩] scope pos) (tLc wi g tt te (own.map (·.2))) := by
  intro pins s σ H Q I h
  rw [eval_ListComp]
  refine lc_core hc hN I hi ok hg ht he hs h fun D C s' m H' I' q hn f => ⟨m, hn, fun h'' sb => ?_⟩
  obtain ⟨f0, f1, f2, f3, f4, f5⟩ := f
  exact ⟨.ref D, H', I'.turned (t' := s'.toks) (fun b o hb e => (sb.2 b hb).trans e) f0 f1 f3 f4 f5, rfl, q⟩
theorem ps_setLc {i : Nat} {y : Str} {py : Pos} {elt tg iter : Expr} {ifs : List Expr} {scope : Scope} {own : List (Str × Nat)} {pos spos : Pos} {wi : TI} {g : TG} {tt : TT} {te : TE} (hc : X.calm = true) (hN : X.N.Nodup) (hy : X.N[i]? = some y) (hyl : X.env.scope.names.lookup y = some .local)
    (hsw : swapsWith (.ListComp elt [⟨tg, iter, ifs, 0⟩] scope pos) (some (.Name y py)) spos.line X.env = pure true) (hi : PI X tg iter wi) (ok : BlkOk X.N X.env.scope scope own)
    (hg : ∀ (s : Shared) (H : Hp) (C : Addr) (cl : List (Str × Addr)) (fp : List Addr), PG (X.blk s H scope (compEnvC scope cl C X.env) fp) tg g) (ht : ∀ (s : Shared) (H : Hp) (C : Addr) (cl : List (Str × Addr)) (fp : List Addr), PTs (X.blk s H scope (compEnvC scope cl C X.env) fp) ifs tt)
    (he : ∀ (s : Shared) (H : Hp) (C : Addr) (cl : List (Str × Addr)) (fp : List Addr), PE (X.blk s H scope (compEnvC scope cl C X.env) fp) elt te) (hs : ∀ x, foldedSetIterable iter X.env x = pure x := by intro _; rfl) :
    PS X (.Assign [.Name y py] (.ListComp elt [⟨tg, iter, ifs, 0⟩] scope pos) spos) (tAsg (tLc wi g tt te (own.map (·.2))) (gName i)) := by
  intro pins s σ H D I h
  rw [exec_Assign_Name_used _ _ _ _ hsw]
  refine wpAny_bind (wpAny_standAt (wpAny_bind ?_))
  show wpAny _ X.A (do let _ ← comprehension (.ListComp elt [⟨tg, iter, ifs, 0⟩] scope pos) scope X.env (firstIterPos [⟨tg, iter, ifs, 0⟩] pos) (newList []) false (eval iter X.env) (some (assign (.Name y py) X.env))) _ _ s
  have h : tLc wi g tt te (own.map (·.2)) σ H (fun x H1 => gName i x σ H1 D.nx) := h
  refine wpAny_bind (thn (lc_core (Qf := fun _ s' => SP X pins D .next s') hc hN I hi ok hg ht he hs h fun L C s' m H' I' q hn f => ?_) fun _ s' hq => wpAny_pure (wpAny_pure hq))
  show wpAny _ _ (assign (.Name y py) X.env (.ref L)) _ _ _
  refine wpAny_assign_Name (store_ok2 (v := V.ref L) I' hN hy (.inl hyl) rfl (fun s2 I2 ⟨a, sb, ha⟩ => ?_) (.inr hyl))
  obtain ⟨f0, f1, f2, f3, f4, f5⟩ := f
  have haC : C ≠ a := by
    rcases ha with z | z
    · rw [z]; exact f1
    · exact fun e => f4 y a z e.symm
  refine ⟨m, hn.sameBut sb haC, fun h3 sb3 => ?_⟩
  exact ⟨_, H', I2.turned (t' := s2.toks) (fun b o hb e => (sb3.2 b hb).trans e) f0 f1 f3 f4 f5, q⟩
theorem sw_true {elt : Expr} {gs : List Comprehension} {scope : Scope} {pos py : Pos} {y : Str} {l : Nat} {env : Env} (hk : env.scope.kind = .function) (hy : env.scope.names.lookup y = some .local) (hl : (py.line == pos.line) = true)
    (ha : (scope.names.any fun (n, k) => n == y && (k == .local || k == .cell)) = false) : swapsWith (.ListComp elt gs scope pos) (some (.Name y py)) l env = pure true := by
  have ky : env.kindOf y = some .local := hy
  have hb : env.blockKind = .function := by unfold Env.blockKind; rw [hk]; rfl
  unfold swapsWith
  simp only [hb, ky, ha, Expr.pos, hl]
  rfl
end
theorem lc_range {lo : Int} {n : Nat} {g : TG} {tt : TT} {te : TE} {vs : List Nat} {σ : St} {H1 : Hp} {D : Addr} {Qd : Hp → Prop} (Pv : Nat → Hp → Prop) (h0 : Pv 0 (upd H1 D (.lst [])))
    (hs : ∀ i H, i < n → Pv i H → g (.int (lo + i)) (wipe σ vs) H fun σ2 H2 => wipe σ2 vs = wipe σ vs ∧ tt σ2 H2 fun b H3 =>
      if b = true then te σ2 H3 fun y H4 => ∃ acc, H4 D = some (.lst acc) ∧ acc.length < sizeLine ∧ Pv (i + 1) (upd H4 D (.lst (acc ++ [y]))) else Pv (i + 1) H3) (hd : ∀ H, Pv n H → Qd H) :
    ∃ W : Nat → Nat → Hp → Prop, (∃ m, W 0 m (upd H1 D (.lst []))) ∧ ∀ i m H, W i m H →
      ((Itr lo n).stop i H ∧ Qd H) ∨ ((Itr lo n).go i H ∧ ∃ Nx : Hp → Prop, (∀ H', Nx H' → ∃ m', m' < m ∧ W (i + 1) m' H') ∧ ∀ x H', (Itr lo n).yld i H x H' → g x (wipe σ vs) H' fun σ2 H2 => wipe σ2 vs = wipe σ vs ∧ tt σ2 H2 fun b H3 =>
        if b = true then te σ2 H3 fun y H4 => ∃ acc, H4 D = some (.lst acc) ∧ acc.length < sizeLine ∧ Nx (upd H4 D (.lst (acc ++ [y]))) else Nx H3) := by
  refine ⟨fun i m H => m = n - i ∧ i ≤ n ∧ Pv i H, ⟨n, by simp, Nat.zero_le _, h0⟩, ?_⟩
  rintro i m H ⟨rfl, hi, p⟩
  by_cases hlt : i < n
  · refine .inr ⟨hlt, Pv (i + 1), fun H' p' => ⟨n - (i + 1), by omega, rfl, hlt, p'⟩, fun x H' y => ?_⟩
    obtain ⟨e, y⟩ := y
    subst e y
    exact hs i _ hlt p
  · have e : i = n := by omega
    subst e
    exact .inl ⟨Nat.le_refl _, hd H p⟩
theorem lc_list {K : PySem.W.Frag} {a : Addr} {xs : List V} {g : TG} {tt : TT} {te : TE} {vs : List Nat} {σ : St} {H1 : Hp} {D : Addr} {Qd : Hp → Prop} (Pv : Nat → Hp → Prop) (h0 : Pv 0 (upd H1 D (.lst []))) (hl : ∀ i H, i ≤ xs.length → Pv i H → SqL K H a xs)
    (hs : ∀ i x H, xs[i]? = some x → Pv i H → g x (wipe σ vs) H fun σ2 H2 => wipe σ2 vs = wipe σ vs ∧ tt σ2 H2 fun b H3 =>
      if b = true then te σ2 H3 fun y H4 => ∃ acc, H4 D = some (.lst acc) ∧ acc.length < sizeLine ∧ Pv (i + 1) (upd H4 D (.lst (acc ++ [y]))) else Pv (i + 1) H3) (hd : ∀ H, Pv xs.length H → Qd H) :
    ∃ W : Nat → Nat → Hp → Prop, (∃ m, W 0 m (upd H1 D (.lst []))) ∧ ∀ i m H, W i m H →
      ((Itl K a).stop i H ∧ Qd H) ∨ ((Itl K a).go i H ∧ ∃ Nx : Hp → Prop, (∀ H', Nx H' → ∃ m', m' < m ∧ W (i + 1) m' H') ∧ ∀ x H', (Itl K a).yld i H x H' → g x (wipe σ vs) H' fun σ2 H2 => wipe σ2 vs = wipe σ vs ∧ tt σ2 H2 fun b H3 =>
        if b = true then te σ2 H3 fun y H4 => ∃ acc, H4 D = some (.lst acc) ∧ acc.length < sizeLine ∧ Nx (upd H4 D (.lst (acc ++ [y]))) else Nx H3) := by
  refine ⟨fun i m H => m = xs.length - i ∧ i ≤ xs.length ∧ Pv i H, ⟨xs.length, by simp, Nat.zero_le _, h0⟩, ?_⟩
  rintro i m H ⟨rfl, hi, p⟩
  have q := hl i H hi p
  by_cases hlt : i < xs.length
  · refine .inr ⟨⟨xs, xs[i], q, by simp [hlt]⟩, Pv (i + 1), fun H' p' => ⟨xs.length - (i + 1), by omega, rfl, hlt, p'⟩, fun x H' y => ?_⟩
    obtain ⟨e, y⟩ := y
    subst e
    exact hs i x _ (y xs q) p
  · have e : i = xs.length := by omega
    subst e
    exact .inl ⟨⟨xs, q, Nat.le_refl _⟩, hd H p⟩
def blkC (N : List Str) (sc scope : Scope) (own : List (Str × Nat)) : Bool :=
  (match scope.kind with | .function => true | _ => false) && (scope.names.all fun y => decide (scope.names.lookup y.1 = some y.2)) && (own.all fun p => decide (N[p.2]? = some p.1)) &&
    (scope.names.all fun y => match y.2 with
      | .free => (match sc.names.lookup y.1 with | some .cell => true | some .free => true | _ => false)
      | .local => decide (y.1 ∈ own.map (·.1)) || decide (y.1 ∉ N)
      | .cell => decide (y.1 ∈ own.map (·.1)) || decide (y.1 ∉ N)
      | _ => true)
theorem blkOk_by {N : List Str} {sc scope : Scope} {own : List (Str × Nat)} (h : blkC N sc scope own = true) : BlkOk N sc scope own := by
  unfold blkC at h
  simp only [Bool.and_eq_true, List.all_eq_true, decide_eq_true_eq] at h
  obtain ⟨⟨⟨h1, h2⟩, h3⟩, h4⟩ := h
  refine ⟨?_, h2, h3, fun y hy e => ?_, fun y hy e => ?_⟩
  · split at h1
    · assumption
    · cases h1
  · have q := h4 y hy
    simp only [e] at q
    split at q <;> first | exact .inl (by assumption) | exact .inr (by assumption) | cases q
  · have q := h4 y hy
    rcases e with e | e <;> (simp only [e, Bool.or_eq_true, decide_eq_true_eq] at q; exact q)
end L2
namespace L2
open PySem PySem.Spec PyProof.Rows
section
variable {prog : Program} {w : World} {A : Around} {R : Result → Shared → Prop} {s : Shared} {elt t0 i0 t1 i1 : Expr} {ifs0 ifs1 : List Expr} {scope : Scope} {pos : Pos} {it acc : Value} {env : Env}
end
section
variable {X : Cx}
end
end L2
namespace L2
open PySem PySem.Spec PyProof.Rows
section
variable {κ : Type} [DecidableEq κ]
end
section
variable {P : Program} {w : World} {H : Hp} {h : Heap} {a : Addr}
end
section
variable {X : Cx} {pins : List (Addr × Obj)} {σ : St} {H : Hp} {s : Shared} {a : Addr} {y v : V} {u r : Value} {o : Option V} {A : Around} {E : Value → Shared → Prop}
end
section
variable {X : Cx} {pins : List (Addr × Obj)} {σ : St} {H : Hp} {s : Shared} {a : Addr} {kvs : List (Key × V)} {k : Key} {u : Value} {A : Around} {E : Value → Shared → Prop}
end
section
variable {X : Cx} {o i e value : Expr} {pos pos' tpos : Pos} {td ty tv : TE}
end
section
variable {X : Cx} {pos : Pos}
end
section
variable {X : Cx} {pins : List (Addr × Obj)} {σ : St} {H : Hp} {s : Shared} {a : Addr} {y d : V} {u r : Value} {o : Option V} {A : Around} {E : Value → Shared → Prop}
end
section
variable {X : Cx} {o e f : Expr} {apos cpos : Pos} {td ty tx : TE}
end
section
variable {X : Cx} {pins : List (Addr × Obj)} {σ : St} {H : Hp} {s : Shared} {a : Addr} {kvs : List (Key × V)} {A : Around} {E : Value → Shared → Prop}
end
section
variable {X : Cx} {pins : List (Addr × Obj)} {σ : St} {H : Hp} {s : Shared} {a : Addr} {y : V} {u : Value} {A : Around} {E : Value → Shared → Prop}
end
end L2
namespace L2
open PySem PySem.Spec PyProof.Rows
section
variable {prog : Program} {w : World} {A : Around} {E : Value → Shared → Prop}
end
section
variable {X : Cx}
end
end L2
namespace L2
open PySem PySem.Spec PyProof.Rows
section
variable {X : Cx} {pins : List (Addr × Obj)} {σ : St} {H : Hp} {s : Shared} {h' : Heap}
theorem Inv.turnedL {t' : Nat} {ch : List Addr} (I : Inv X pins σ H s) (k : ∀ b o, b ∉ ch → s.heap.get? b = some o → h'.get? b = some o) (hf : ∀ b ∈ ch, FpOk X pins H b) : Inv X pins σ H { s with heap := h', toks := t' } := by
  have nit : ∀ b u, H b = some u → b ∉ ch := fun b u e z => by
    have q := (hf b z).1
    rw [q] at e; cases e
  refine I.step (g' := s.gens) (d' := s.drawn) (ch := ch) (fun b hb => ⟨(hf b hb).2.2.2.1, (hf b hb).2.1, (hf b hb).2.2.2.2.1, (hf b hb).2.2.2.2.2⟩) (fun b o _ _ hc e _ => k b o hc e) (fun b o _ _ hc e _ => ⟨o.slots, k b o hc e⟩)
    (fun _ _ _ _ n => n) (fun b o hc e => ⟨o, k b o hc e⟩) (fun _ _ e => e) (fun _ _ _ e => e) (fun b ps e => ⟨#[], by rw [e]; simp⟩) (fun m hm => ?_) (fun b u e => ?_) I.bare
  · obtain ⟨o, es, ep, ho, r⟩ := hm
    exact ⟨o, es, ep, k _ o (fun z => (hf _ z).2.1 rfl) ho, r⟩
  · refine (I.hok b u e).stay (fun c v hc q => k c v ?_ q) (fun _ q => q) fun _ _ q => q
    rcases hc with z | z
    · rw [z]; exact nit b u e
    · exact nit c _ z
theorem Inv.turnedNew {t' : Nat} {ch : List Addr} {T : Addr} {ob : HO} (I : Inv X pins σ H s) (k : ∀ b o, b ∉ ch → s.heap.get? b = some o → h'.get? b = some o) (hf : ∀ b ∈ ch, FpOk X pins H b) (hT : s.heap.objs.size ≤ T)
    (new : ObjOk X.prog X.w (upd H T ob) h' T ob) : Inv X pins σ (upd H T ob) { s with heap := h', toks := t' } := by
  have hn : H T = none := I.hok.fresh hT
  have nit : ∀ b u, H b = some u → b ∉ ch := fun b u e z => by
    have q := (hf b z).1
    rw [q] at e; cases e
  refine I.step (g' := s.gens) (d' := s.drawn) (ch := ch) (fun b hb => ⟨(hf b hb).2.2.2.1, (hf b hb).2.1, (hf b hb).2.2.2.2.1, (hf b hb).2.2.2.2.2⟩) (fun b o _ _ hc e _ => k b o hc e) (fun b o _ _ hc e _ => ⟨o.slots, k b o hc e⟩)
    (fun b o _ e n => ?_) (fun b o hc e => ⟨o, k b o hc e⟩) (fun b xs e => ?_) (fun b o u e => ?_) (fun b ps e => ⟨#[], ?_⟩) (fun m hm => ?_) (fun b u e => ?_) I.bare
  · rw [upd_ne (Nat.ne_of_lt (Nat.lt_of_lt_of_le (Heap.lt_size e) hT))]; exact n
  · rw [upd_ne (ne_of_none e hn)]; exact e
  · rw [upd_ne (ne_of_none e hn)]; exact e
  · rw [upd_ne (ne_of_none e hn), e]; simp
  · obtain ⟨o, es, ep, ho, r⟩ := hm
    exact ⟨o, es, ep, k _ o (fun z => (hf _ z).2.1 rfl) ho, r⟩
  · by_cases hb : b = T
    · subst hb
      rw [upd_same] at e
      cases e
      exact new
    · rw [upd_ne hb] at e
      refine (I.hok b u e).stay (fun c v hc q => k c v ?_ q) (fun c q => by rw [upd_ne (ne_of_none q hn)]; exact q) fun c xs q => by rw [upd_ne (ne_of_none q hn)]; exact q
      rcases hc with z | z
      · rw [z]; exact nit b u e
      · exact nit c _ z
end
section
variable {X : Cx}
theorem pi_one {tg : Expr} {pins : List (Addr × Obj)} {σ : St} {H : Hp} {s : Shared} {R : It → Hp → Prop} {J : It} {tn : Nat → Heap → Prop} {tk : Nat} (I : Inv X pins σ H s) (o : Obj)
    (T : Turn X.prog X.w X.K tg J [s.heap.objs.size] s.heap.objs.size tn) (st : tn 0 (s.heap.push o)) (q : R J H) : PIE X pins σ tg R (.ref s.heap.objs.size) { s with heap := s.heap.push o, toks := tk } := by
  refine ⟨s.heap.objs.size, [s.heap.objs.size], tn, J, H, rfl, I.kept fun b ob e => Heap.get?_push_of_some _ e, T, st, fun b hb => ?_, q⟩
  have e : b = s.heap.objs.size := by simpa using hb
  subst e
  exact I.fpOk (Nat.le_refl _) (I.hok.fresh (Nat.le_refl _))
end
def Itc (lo c : Int) (n : Nat) : It := ⟨fun i _ => i < n, fun i H x H' => H' = H ∧ x = .int (lo + (i : Nat) * c), fun i _ => n ≤ i⟩
theorem turn_rangeC {P : Program} {w : World} {K : PySem.W.Frag} {tg : Expr} (it : Addr) (lo c : Int) (n : Nat) : Turn P w K tg (Itc lo c n) [it] it (fun i h => IsRangeIter h it (lo + (i : Nat) * c) ((n : Int) - (i : Nat)) c) where
  mem := by simp
  obj := fun i h st b hb => by
    have e : b = it := by simpa using hb
    subst e
    exact ⟨_, st, fun v z => nomatch z⟩
  keep := fun i h h' st k => k it (by simp) _ st
  item := by
    intro X hP hw hK hc i pins s σ H E I hf st hg
    subst hP hw hK
    obtain ⟨f0, f1, f2, f3, f4, f5⟩ := hf it (by simp)
    have W := Walks.range (prog := X.prog) (w := X.w) (I.ok.hd hc) it lo c n
    refine W.item i s _ _ hg st fun v h' tk hv st' kk => ?_
    obtain ⟨t, rfl⟩ := hv
    have I1 : Inv X pins σ H { s with heap := h', toks := tk } := I.turned (fun b o hb e => kk b o (by simpa using hb) e) f0 f1 f3 f4 f5
    exact ⟨_, rfl, go_of (s := { s with heap := h', toks := tk }) (n := "range_iterator") st' rfl rfl (by decide) ⟨.int (lo + (i : Nat) * c), H, I1, ⟨t, rfl⟩, ⟨rfl, rfl⟩, st', fun b hb => (hf b hb).1⟩⟩
  done := by
    intro X hP hw hK hc i pins s σ H E I hf st hg
    subst hP hw hK
    obtain ⟨f0, f1, f2, f3, f4, f5⟩ := hf it (by simp)
    exact wpAny_pyNext_range_end (I.ok.hd hc) st (by have : n ≤ i := hg; omega) fun h' eb => ⟨rfl, I.turned (t' := s.toks) (fun b o hb e => eb b o hb e) f0 f1 f3 f4 f5⟩
  self := fun A i s Q E st h => wpAny_pyIter_rangeiter st h
def RgC (i j c : Int) (n : Nat) : Prop := c ≠ 0 ∧ c.natAbs < 1073741824 ∧ Builtin.Range.small i j c = true ∧ Builtin.Range.rangeSize i j c = n
theorem RgC.neg {i j : Int} (ha : -(2 ^ 62) ≤ i) (ha' : i < 2 ^ 62) (hb : -(2 ^ 62) ≤ j) (hb' : j < 2 ^ 62) : RgC i j (-1) (i - j).toNat :=
  ⟨by decide, by decide, PySem.W.small_down ha ha' hb hb', PySem.W.rangeSize_downNat i j⟩
def iRng3 (ta : TA) : TI := fun σ H R => ta σ H fun vs H1 => ∃ (i j c : Int) (n : Nat), vs = [.int i, .int j, .int c] ∧ RgC i j c n ∧ R (Itc i c n) H1
section
variable {X : Cx} {tg : Expr}
theorem pi_range3 {a b c : Expr} {ta : TA} {p pos : Pos} (hg : Gl X "range") (hm : X.mg "range" = none) (ha : PA X [a, b, c] ta)
    (hs : starEach [a, b, c] X.env = (false, eval a X.env) :: starEach [b, c] X.env := by rfl) (hpl : (backTo pos (starEach [b, c] X.env)).any (·.1) = false := by rfl) :
    PI X tg (.Call (.Name "range" p) [a, b, c] [] pos) (iRng3 ta) := by
  intro pins s σ H R I h
  refine Call_ (ld_blt I hg hm boot_range (PyProof.Rows.callWith_type1 (thn (ha pos pins s σ H _ I h) fun us s1 ⟨vs, H1, I1, r1, q1⟩ => ?_) hs hpl))
  obtain ⟨i, j, k, n, e, ⟨c0, c1, c2, c3⟩, q⟩ := q1
  subst e
  cases r1 with
  | cons r rr =>
    cases rr with
    | cons r' rr =>
      cases rr with
      | cons r'' rr =>
        cases rr
        obtain ⟨t, rfl⟩ := r
        obtain ⟨t', rfl⟩ := r'
        obtain ⟨t'', rfl⟩ := r''
        refine call_range_3 c0 ?_ (.inl (PyProof.noPylong_small c1))
        refine wpAny_pyIter_range (IsRange.new ..) c2 ?_
        have I2 : Inv X pins σ H1 { s1 with heap := s1.heap.push { cls := .type "range", data := .fields #[.int i t, .int j t', .int k t''] } } := I1.kept (t' := s1.toks) fun b o e => Heap.get?_push_of_some _ e
        refine pi_one (tk := s1.toks) I2 _ (turn_rangeC _ i k n) ?_ q
        have e1 : i + ((0 : Nat) : Int) * k = i := by simp
        have e2 : (n : Int) - ((0 : Nat) : Int) = Builtin.Range.rangeSize i j k := by rw [c3]; simp
        show IsRangeIter _ _ (i + ((0 : Nat) : Int) * k) ((n : Int) - ((0 : Nat) : Int)) k
        rw [e1, e2]
        exact Heap.get?_push_size _ rfl
end
theorem for_rangeC {lo c : Int} {n : Nat} {g : TG} {tb : TS} {D : Ends} {σ : St} {H : Hp} (Pv : Nat → St → Hp → Prop) (h0 : Pv 0 σ H)
    (hs : ∀ i σ H, i < n → Pv i σ H → g (.int (lo + (i : Nat) * c)) σ H fun σ2 H2 => tb { D with nx := Pv (i + 1), ct := Pv (i + 1), bk := D.nx } σ2 H2) (hd : ∀ σ H, Pv n σ H → D.nx σ H) :
    ∃ W : Nat → Nat → St → Hp → Prop, (∃ m, W 0 m σ H) ∧ ∀ i m σ H, W i m σ H →
      ((Itc lo c n).stop i H ∧ D.nx σ H) ∨ ((Itc lo c n).go i H ∧ ∃ N : St → Hp → Prop, (∀ σ' H', N σ' H' → ∃ m', m' < m ∧ W (i + 1) m' σ' H') ∧ ∀ x H', (Itc lo c n).yld i H x H' → g x σ H' fun σ2 H2 => tb { D with nx := N, ct := N, bk := D.nx } σ2 H2) := by
  refine ⟨fun i m σ H => m = n - i ∧ i ≤ n ∧ Pv i σ H, ⟨n, by simp, Nat.zero_le _, h0⟩, ?_⟩
  rintro i m σ H ⟨rfl, hi, p⟩
  by_cases hlt : i < n
  · refine .inr ⟨hlt, Pv (i + 1), fun σ' H' p' => ⟨n - (i + 1), by omega, rfl, hlt, p'⟩, fun x H' y => ?_⟩
    obtain ⟨e, y⟩ := y
    subst e y
    exact hs i σ _ hlt p
  · have e : i = n := by omega
    subst e
    exact .inl ⟨Nat.le_refl _, hd σ H p⟩
section
variable {X : Cx} {tg : Expr}
end
section
variable {prog : Program} {w : World} {A : Around} {E : Value → Shared → Prop} {s : Shared}
end
section
variable {X : Cx} {pins : List (Addr × Obj)} {σ : St} {H : Hp} {s : Shared} {d : Addr} {o : Obj}
end
section
variable {P : Program} {w : World} {K : PySem.W.Frag} {tg : Expr} {d : Addr} {o : Obj} {es : Array DictEntry} {ep : Nat}
end
section
variable {X : Cx} {tg e : Expr} {td : TE} {apos cpos : Pos}
end
theorem boot_zip5 : bootBuiltins "zip" = some (.type "zip") := by decide +kernel
def Itz (K : PySem.W.Frag) (a b : Addr) : It :=
  ⟨fun i H => ∃ (xs ys : List V) (x y : V), SqL K H a xs ∧ SqL K H b ys ∧ xs[i]? = some x ∧ ys[i]? = some y,
    fun i H v H' => ∃ T x y, v = .ref T ∧ H T = none ∧ H' = upd H T (.tup [x, y]) ∧ (∀ xs, SqL K H a xs → xs[i]? = some x) ∧ ∀ ys, SqL K H b ys → ys[i]? = some y,
    fun i H => ∃ xs ys : List V, SqL K H a xs ∧ SqL K H b ys ∧ (xs.length ≤ i ∨ ys.length ≤ i)⟩
theorem turn_zip {P : Program} {w : World} {K : PySem.W.Frag} {elts : List Expr} {kk : Nat} {tpos : Pos} {a b z TI TO i1 i2 : Addr} (D : ZipApart z TI TO i1 i2 a b) :
    Turn P w K (.Tuple elts kk tpos) (Itz K a b) [z, TI, TO, i1, i2] z (fun i h => IsZip h z TI TO .none ∧ IsPair h TI (.ref i1) (.ref i2) ∧ (∃ x y, IsPair h TO x y) ∧ h.IsListIter i1 a i ∧ h.IsListIter i2 b i) where
  mem := by simp
  obj := fun i h st c hc => by
    obtain ⟨hz, hTI, ⟨x, y, hTO⟩, ⟨o1, e1, _, d1⟩, ⟨o2, e2, _, d2⟩⟩ := st
    have e' : c = z ∨ c = TI ∨ c = TO ∨ c = i1 ∨ c = i2 := by simpa using hc
    rcases e' with q | q | q | q | q
    · rw [q]; exact ⟨_, hz, fun v q => nomatch q⟩
    · rw [q]; exact ⟨_, hTI, fun v q => nomatch q⟩
    · rw [q]; exact ⟨_, hTO, fun v q => nomatch q⟩
    · rw [q]; exact ⟨o1, e1, fun v q => by rw [d1] at q; cases q⟩
    · rw [q]; exact ⟨o2, e2, fun v q => by rw [d2] at q; cases q⟩
  keep := fun i h h' st k => by
    obtain ⟨hz, hTI, ⟨x, y, hTO⟩, h1, h2⟩ := st
    exact ⟨k z (by simp) _ hz, k TI (by simp) _ hTI, ⟨x, y, k TO (by simp) _ hTO⟩, h1.at fun o q => k i1 (by simp) o q, h2.at fun o q => k i2 (by simp) o q⟩
  item := by
    intro X hP hw hK hc i pins s σ H E I hf st hg
    subst hP hw hK
    obtain ⟨hz, hTI, ⟨x0, y0, hTO⟩, h1, h2⟩ := st
    obtain ⟨xs, ys, x, y, hqx, hqy, hx, hy⟩ := hg
    obtain ⟨its, rv, p, _⟩ := I.list hqx
    obtain ⟨its2, rv2, p2, _⟩ := I.list hqy
    obtain ⟨u, hu, ru⟩ := rv.get hx
    obtain ⟨u2, hu2, ru2⟩ := rv2.get hy
    have hzl : z < s.heap.objs.size := Heap.lt_size hz
    refine wpAny_pyNext_zip_item D hz hTI hTO h1 h2 p.isList p2.isList (x := u) (y := u2) (by simpa using hu) (by simpa using hu2) fun h' z' TO' h1' h2' hT hsz hk => ?_
    refine ⟨_, rfl, wpAny_letOwnedTupleGo_zip (s := { s with heap := h' }) z' fun h'' z'' sb => ?_⟩
    have hT2 : h''.get? s.heap.objs.size = some { cls := .type "tuple", data := .seq #[u, u2] } := (sb.2 _ (Nat.ne_of_gt hzl)).trans hT
    have new : ObjOk X.prog X.w (upd H s.heap.objs.size (.tup [x, y])) h'' s.heap.objs.size (.tup [x, y]) :=
      ⟨by show 2 ≤ sizeLine; decide, [u, u2], .cons ru (.cons ru2 .nil), ⟨_, hT2, rfl, _, rfl⟩⟩
    have I1 : Inv X pins σ (upd H s.heap.objs.size (.tup [x, y])) { s with heap := h'' } :=
      I.turnedNew (t' := s.toks) (ch := [z, TI, TO, i1, i2]) (fun c o hb q => (sb.2 c (fun q' => hb (by simp [q']))).trans (hk c o (fun q' => hb (by simp [q'])) (fun q' => hb (by simp [q'])) (fun q' => hb (by simp [q'])) (fun q' => hb (by simp [q'])) q)) hf (Nat.le_refl _) new
    refine ⟨.ref s.heap.objs.size, _, I1, rfl, ⟨_, x, y, rfl, I.hok.fresh (Nat.le_refl _), rfl, fun l hl => by rw [I.list_inj hl hqx]; exact hx, fun l hl => by rw [I.list_inj hl hqy]; exact hy⟩, ⟨z'', ?_, ⟨u, u2, ?_⟩, ?_, ?_⟩, fun c hcm => ?_⟩
    · exact (sb.2 _ D.TIz).trans (hk _ _ D.TIz D.TITO D.TIi1 D.TIi2 hTI)
    · exact (sb.2 _ D.TOz).trans TO'
    · exact h1'.at fun o q => (sb.2 _ D.i1z).trans q
    · exact h2'.at fun o q => (sb.2 _ D.i2z).trans q
    · have hlt : c < s.heap.objs.size := by
        have e' : c = z ∨ c = TI ∨ c = TO ∨ c = i1 ∨ c = i2 := by simpa using hcm
        rcases e' with q | q | q | q | q
        · rw [q]; exact hzl
        · rw [q]; exact Heap.lt_size hTI
        · rw [q]; exact Heap.lt_size hTO
        · rw [q]; obtain ⟨_, e1, _⟩ := h1; exact Heap.lt_size e1
        · rw [q]; obtain ⟨_, e2, _⟩ := h2; exact Heap.lt_size e2
      rw [upd_ne (Nat.ne_of_lt hlt)]
      exact (hf c hcm).1
  done := by
    intro X hP hw hK hc i pins s σ H E I hf st hg
    subst hP hw hK
    obtain ⟨hz, hTI, ⟨x0, y0, hTO⟩, h1, h2⟩ := st
    obtain ⟨xs, ys, hqx, hqy, hend⟩ := hg
    obtain ⟨its, rv, p, _⟩ := I.list hqx
    obtain ⟨its2, rv2, p2, _⟩ := I.list hqy
    have l1 := rv.length
    have l2 := rv2.length
    have he : its.toArray[i]? = none ∨ its2.toArray[i]? = none := by
      rcases hend with q | q
      · exact .inl (by simp; omega)
      · exact .inr (by simp; omega)
    exact wpAny_pyNext_zip_end (I.ok.hd hc) D hz hTI hTO h1 h2 p.isList p2.isList he fun h' hk => ⟨rfl, I.turnedL (t' := s.toks) (ch := [z, TI, TO, i1, i2]) (fun c o hb q =>
      hk c o (fun q' => hb (by simp [q'])) (fun q' => hb (by simp [q'])) (fun q' => hb (by simp [q'])) (fun q' => hb (by simp [q'])) q) hf⟩
  self := fun A i s Q E st h => wpAny_pyIter_zip st.1 h
def iZip (K : PySem.W.Frag) (ta : TA) : TI := fun σ H R => ta σ H fun vs H1 => ∃ a b xs ys, vs = [.ref a, .ref b] ∧ SqL K H1 a xs ∧ SqL K H1 b ys ∧ R (Itz K a b) H1
theorem pi_zip {X : Cx} {e e2 : Expr} {ta : TA} {p pos tpos : Pos} {elts : List Expr} {kk : Nat} (hg : Gl X "zip") (hm : X.mg "zip" = none) (ha : PA X [e, e2] ta)
    (hs : starEach [e, e2] X.env = (false, eval e X.env) :: starEach [e2] X.env := by rfl) (hpl : (backTo pos (starEach [e2] X.env)).any (·.1) = false := by rfl) :
    PI X (.Tuple elts kk tpos) (.Call (.Name "zip" p) [e, e2] [] pos) (iZip X.K ta) := by
  intro pins s σ H R I h
  refine Call_ (ld_blt I hg hm boot_zip5 (PyProof.Rows.callWith_type1 (thn (ha pos pins s σ H _ I h) fun us s1 ⟨vs, H1, I1, r1, q1⟩ => ?_) hs hpl))
  obtain ⟨a, b, xs, ys, ex, hqx, hqy, q⟩ := q1
  subst ex
  cases r1 with
  | cons r rr =>
    cases rr with
    | cons r' rr =>
      cases rr
      cases r
      cases r'
      obtain ⟨its, rv, p1, _⟩ := I1.list hqx
      obtain ⟨its2, rv2, p2, _⟩ := I1.list hqy
      have la : a < s1.heap.objs.size := p1.lt
      have lb : b < s1.heap.objs.size := p2.lt
      refine call_zip_2 p1.isList p2.isList fun h' hz hTI hTO h1 h2 hsz hk => wpAny_pyIter_zip hz ?_
      have I2 : Inv X pins σ H1 { s1 with heap := h' } := I1.kept (t' := s1.toks) hk
      refine ⟨s1.heap.objs.size + 4, [s1.heap.objs.size + 4, s1.heap.objs.size + 2, s1.heap.objs.size + 3, s1.heap.objs.size, s1.heap.objs.size + 1], _, _, H1, rfl, I2, turn_zip (PySem.W.ktu_apart s1.heap.objs.size a b la lb), ⟨hz, hTI, ⟨_, _, hTO⟩, h1, h2⟩, fun c hcm => ?_, q⟩
      have e' : c = s1.heap.objs.size + 4 ∨ c = s1.heap.objs.size + 2 ∨ c = s1.heap.objs.size + 3 ∨ c = s1.heap.objs.size ∨ c = s1.heap.objs.size + 1 := by simpa using hcm
      have hle : s1.heap.objs.size ≤ c := by
        rcases e' with z | z | z | z | z
        · rw [z]; exact Nat.le_add_right _ _
        · rw [z]; exact Nat.le_add_right _ _
        · rw [z]; exact Nat.le_add_right _ _
        · rw [z]; exact Nat.le_refl _
        · rw [z]; exact Nat.le_add_right _ _
      exact I1.fpOk hle (I1.hok.fresh hle)
end L2
section 
namespace Bits
open PySem PyProof.Rows
end Bits
end 
section 
namespace TL
open PySem PySem.Builtin PySem.Builtin.Str PySem.StrLaws
end TL
end 
namespace L2
open PySem PySem.Spec PyProof.Rows
section
variable {X : Cx} {pins : List (Addr × Obj)} {σ : St} {H : Hp} {s : Shared} {Q : VK}
end
section
variable {X : Cx}
end
section
variable {X : Cx} {o e : Expr} {to te : TE}
end
end L2
namespace L2
open PySem PySem.Spec PyProof.Rows
section
variable {X : Cx}
end
end L2
namespace Att
open PySem PySem.W PySem.Calls PyProof.Rows
section
variable {prog : Program} {w : World} {A : Around} {E : Value → Shared → Prop} {s : Shared} {K : Frag}
end
end Att
namespace L2
open PySem PySem.Spec PyProof.Rows
theorem vals_ints : ∀ {vs : List Value} {ns : List Int}, IntsAre vs ns → Vals (ns.map V.int) vs
  | _, _, .nil => .nil
  | _, _, .cons n t h => .cons ⟨t, rfl⟩ (vals_ints h)
def Only (H : Hp) : Prop := ∀ b, H b = none ∨ ∃ o xs, H b = some (.frz o (.lst xs))
theorem law_call {P : Program} {w : World} {K : PySem.W.Frag} {mg mb : Str → Option Value} {CX : CXT} {k : Nat} {fa a : Addr} {fd : FuncData} {x : Str} {sp : Sp} {s₁ : Shared} {vs : List Value} {ns : List Int}
    (KX : K.In s₁.heap) (hns : s₁.heap.Ns mainGlobals mg) (hb : s₁.heap.Ns builtinsNs mb) (hbb : ∀ x : Str, x ≠ "__name__" → mb x = bootBuiltins x) (hlim : s₁.heap.NoLimit) (hg : s₁.gens = #[])
    (ha : s₁.heap.get? a = some { cls := .type "list", data := .seq vs.toArray }) (hi : IntsAre vs ns) (hl : ns.length ≤ sizeLine) (hr : Room k callerA)
    (F : ∀ base : Heap, K.In base → base.Ns mainGlobals mg → FnOk P w K mg base CX k fa fd [x] sp) (hbind : ∀ (s : Shared) (u : Value), BindsTo s fd ⟨[u], []⟩ [(x, u)])
    (hsp : ∀ H : Hp, Only H → SqL K H a (ns.map V.int) → sp [.ref a] H (fun v _ => v = .bl true) fun _ _ _ => False)
    (hCX : ∀ H e s', CX [] H s₁ (fun _ _ _ => False) e s' → False) :
    codeAny (model P w) callerA (.call (.ref fa) ⟨[.ref a], []⟩) (fun r s' => r = .ok (.ret (.bool true)) ∧ OldK s₁.heap s'.heap ∧ s'.os = s₁.os ∧ AllBare s'.gens) s₁ := by
  have rv := vals_ints hi
  have lenV := hi.length
  -- from an abstract heap in which nothing but the script may be tracked
  have core : ∀ H : Hp, Only H → SqL K H a (ns.map V.int) → HOk P w H s₁.heap → (∀ b, H b ≠ none → b = a) → (H a ≠ none → K.lookup a = none) →
      codeAny (model P w) callerA (.call (.ref fa) ⟨[.ref a], []⟩) (fun r s' => r = .ok (.ret (.bool true)) ∧ OldK s₁.heap s'.heap ∧ s'.os = s₁.os ∧ AllBare s'.gens) s₁ := by
    intro H hO hS hok hA hK
    have base_of : ∀ {b : Addr} {o : Obj}, s₁.heap.get? b = some o → H b = none → (hidT s₁.heap H).get? b = some o := fun e n => hidT_get e n
    have noA : ∀ {b : Addr} {o : Obj} {es : Array DictEntry} {ep : Nat}, s₁.heap.get? b = some o → o.data = .dict es ep → H b = none := fun {b o es ep} e d => by
      cases q : H b with
      | none => rfl
      | some u =>
        have e' : b = a := hA b (by rw [q]; simp)
        subst e'
        rw [ha] at e; cases e
        have d' : Data.seq vs.toArray _ = Data.dict es ep := d
        cases d'
    have nsK : ∀ {b : Addr} {m : Str → Option Value}, s₁.heap.Ns b m → (hidT s₁.heap H).Ns b m := fun {b m} ⟨o, es, ep, e, d, r⟩ => ⟨o, es, ep, base_of e (noA e d), d, r⟩
    have hKb : K.In (hidT s₁.heap H) := fun b o e => base_of (KX b o e) (by
      cases q : H b with
      | none => rfl
      | some u =>
        have e' : b = a := hA b (by rw [q]; simp)
        subst e'
        rw [hK (by rw [q]; simp)] at e; cases e)
    have hM : Mod K mg (hidT s₁.heap H) := ⟨hKb, nsK hns, ⟨mb, nsK hb, hbb⟩, let ⟨mc, h1, h2⟩ := hlim; ⟨mc, nsK h1, h2⟩⟩
    have e0 : Env0 P w K mg (hidT s₁.heap H) callerA [] s₁ H := ⟨rfl, hM, fun b o e => of_hidT e, Nat.le_of_eq (hidT_size _ _), trivial, fun b hb => absurd (show b ∈ ([] : List Addr) from hb) (by simp), hok, .of_eq hg⟩
    refine codeAny_mono ((F _ hKb (nsK hns)).run callerA [] s₁ H ⟨[.ref a], []⟩ [.ref a] [.ref a] _ _ hr e0 (hbind s₁ (.ref a)) (.cons rfl .nil) (hsp H hO hS)) fun r s' h => ?_
    cases r with
    | error e => exact (hCX H e s' h).elim
    | ok fl =>
      cases fl with
      | next => exact False.elim h
      | brk => exact False.elim h
      | cont => exact False.elim h
      | ret u =>
        obtain ⟨v, H', os, bare, un, hok', r', q⟩ := h
        have q' : v = .bl true := q
        subst q'
        obtain rfl : u = Value.bool true := r'
        refine ⟨rfl, OldK.of_keep fun b o e => ?_, os, bare⟩
        cases q : H b with
        | none => exact un.keep b o e q (by intro z; exact absurd (show b ∈ ([] : List Addr) from z) (by simp)) (by simp)
        | some u =>
          rcases hO b with z | ⟨ob, xs, z⟩
          · rw [q] at z; cases z
          · have z2 := un.frzs b ob _ z
            obtain ⟨e1, _⟩ := hok b _ z
            obtain ⟨e2, _⟩ := hok' b _ z2
            rw [e] at e1; cases e1
            exact e2
  cases hk : K.lookup a with
  | some o =>
    -- the script is one of the module's own objects
    have e := KX a o hk
    rw [ha] at e
    cases e
    refine core (fun _ => none) (fun _ => .inl rfl) (.inr ⟨_, vs.toArray, _, hk, rfl, rfl, rfl, by rw [List.size_toArray, lenV]; exact hl, by simpa using rv⟩) (fun b u z => by have z' : (none : Option HO) = some u := z; cases z') (fun b z => absurd rfl z) fun z => absurd rfl z
  | none =>
    refine core (fun b => if b = a then some (.frz { cls := .type "list", data := .seq vs.toArray } (.lst (ns.map V.int))) else none) (fun b => ?_) (.inl (.inr ⟨{ cls := .type "list", data := .seq vs.toArray }, if_pos rfl⟩)) (fun b u z => ?_) (fun b z => ?_) fun _ => hk
    · by_cases hb : b = a
      · exact .inr ⟨_, _, if_pos hb⟩
      · exact .inl (if_neg hb)
    · by_cases hb : b = a
      · have z' := (if_pos hb).symm.trans z
        cases z'
        subst hb
        exact ⟨ha, by rw [List.length_map]; exact hl, vs, _, rv, ha⟩
      · have z' := (if_neg hb).symm.trans z
        cases z'
    · by_cases hb : b = a
      · exact hb
      · exact absurd (if_neg hb) z
end L2
namespace L2
open PySem PySem.Spec PyProof.Rows
end L2
namespace L2
open PySem PySem.Spec PyProof.Rows
def inClass (s : Stmt) (j : Nat) : Stmt := match s with
  | .ClassDef _ _ _ body _ _ _ _ _ _ _ => body.getD j (.Pass ⟨0, 0, 0, 0⟩)
  | _ => .Pass ⟨0, 0, 0, 0⟩
def defArgs (s : Stmt) : Arguments := match s with
  | .FunctionDef _ a _ _ _ _ _ _ _ _ => a
  | _ => { posonlyargs := [], args := [], vararg := none, kwonlyargs := [], kw_defaults := [], kwarg := none, defaults := [] }
def defBody (s : Stmt) : List Stmt := match s with
  | .FunctionDef _ _ b _ _ _ _ _ _ _ => b
  | _ => []
def defScope (s : Stmt) : Scope := match s with
  | .FunctionDef _ _ _ _ _ _ sc _ _ _ => sc
  | _ => { kind := .function, names := [], isGenerator := false, isCoroutine := false }
abbrev CX0 : CXT := fun _ _ _ _ _ _ => False
abbrev E0 : XK := fun _ _ _ => False
theorem pass0 {X : Cx} : Passes CX0 X E0 := fun _ _ _ _ _ _ _ h => h.elim
structure Fun (K : PySem.W.Frag) (x qual : Str) (st : Stmt) (f : Addr) (fd : FuncData) : Prop where
  ex : ∃ (oc : Value) (od : Option Addr) (kV doc pm : Value) (an : Option Addr) (cdv ct : Value) (osl : Array (Option Value)),
    fd = PySem.W.fnOf x qual (defArgs st) (defBody st) (defScope st) .none kV doc pm an cdv ct ∧ K.lookup f = some ⟨oc, od, .func fd, osl⟩ ∧ PySem.W.codeIn K cdv qual = true
  kp : PySem.W.keepIn K (.ref f) = true
section
variable {P : Program} {w : World} {K : PySem.W.Frag} {mg : Str → Option Value} {base : Heap}
theorem Fun.ok {x qual : Str} {st : Stmt} {f : Addr} {fd : FuncData} {N ps : List Str} {k : Nat} {sp : Sp} (F : Fun K x qual st f fd) (S : FnScope N ps (defScope st)) (len : ∀ vs H Q E, sp vs H Q E → vs.length = ps.length)
    (hbody : ∀ (cdv : Value) (A : Around) (outer : List Env) (s : Shared) (H : Hp) (vs : List V) (Q : VK) (E : XK), Room k (A.deeper (envOfC qual (defScope st) s.heap.objs.size f cdv)) → sp vs H Q E →
      ∃ t, PSs (cxOf CX0 P w K mg base N qual (defScope st) f cdv A outer s H E).nox (defBody st) t ∧ t { nx := fun _ H' => Q .non H', rt := Q } (start N vs) H) : FnOk P w K mg base CX0 (k + 1) f fd ps sp := by
  obtain ⟨oc, od, kV, doc, pm, an, cdv, ct, osl, rfl, lk, hcd⟩ := F.ex
  refine fn_of lk hcd S len fun A outer s H vs Q E hr hsp => ?_
  obtain ⟨t, h, q⟩ := hbody cdv A outer s H vs Q E hr hsp
  exact ⟨t, h.nox, q⟩
theorem Fun.binds {x qual : Str} {st : Stmt} {f : Addr} {fd : FuncData} {ps : List Str} (F : Fun K x qual st f fd)
    (h : ∀ (kV doc pm : Value) (an : Option Addr) (cdv ct : Value) (us : List Value), us.length = ps.length → bindArgs (PySem.W.fnOf x qual (defArgs st) (defBody st) (defScope st) .none kV doc pm an cdv ct) ⟨us, []⟩ = pure (ps.zip us)) : Binds K fd ps [] := by
  obtain ⟨oc, od, kV, doc, pm, an, cdv, ct, osl, rfl, lk, hcd⟩ := F.ex
  exact .all (h kV doc pm an cdv ct)
theorem fun_mk {x qual : Str} {st : Stmt} {f : Addr} {oc : Value} {od an : Option Addr} {osl : Array (Option Value)} {kV doc pm cdv ct : Value} (l : K.lookup f = some ⟨oc, od, .func (PySem.W.fnOf x qual (defArgs st) (defBody st) (defScope st) .none kV doc pm an cdv ct), osl⟩)
    (c : PySem.W.codeIn K cdv qual = true) (k : PySem.W.keepIn K (.ref f) = true) : Fun K x qual st f (PySem.W.fnOf x qual (defArgs st) (defBody st) (defScope st) .none kV doc pm an cdv ct) := ⟨⟨oc, od, kV, doc, pm, an, cdv, ct, osl, rfl, l, c⟩, k⟩
end
theorem small1000 {n : Nat} (h : n ≤ 1000) : n < sizeLine := Nat.lt_of_le_of_lt h (by decide)
section
variable {X : Cx}
theorem pv (i : Nat) {x : Str} {pos : Pos} (hN : X.N[i]? = some x := by rfl) (hv : Vis X.env.scope x := by first | exact Or.inl rfl | exact Or.inr (Or.inl rfl) | exact Or.inr (Or.inr rfl)) (hd : (x == ("__debug__" : Str)) = false := by decide)
    (hcd : (x == ("__classdict__" : Str)) = false := by decide) : PE X (.Name x pos) (tVar i) := pe_var hN hv hd hcd
end
theorem iteF {A B : Prop} (h : B) : if false = true then A else B := by
  rw [if_neg Bool.false_ne_true]
  exact h
theorem iteT {A B : Prop} (h : A) : if true = true then A else B := by
  rw [if_pos rfl]
  exact h
theorem ite2 {c A B : Prop} [Decidable c] (h1 : c → A) (h2 : ¬ c → B) : if c then A else B := by
  by_cases h : c
  · rw [if_pos h]
    exact h1 h
  · rw [if_neg h]
    exact h2 h
def Same (H H' : Hp) : Prop := ∀ b o, H b = some o → H' b = some o
theorem Same.refl (H : Hp) : Same H H := fun _ _ h => h
theorem Same.trans {H H1 H2 : Hp} (a : Same H H1) (b : Same H1 H2) : Same H H2 := fun c o h => b c o (a c o h)
theorem Same.free {H H' : Hp} (e : Same H H') {l : Addr} (h : H' l = Option.none) : H l = Option.none := by
  cases q : H l with
  | none => rfl
  | some o =>
    rw [e l o q] at h
    cases h
theorem Same.seq {K : PySem.W.Frag} {H H' : Hp} {a : Addr} {xs : List V} (e : Same H H') (h : SqL K H a xs) : SqL K H' a xs := by
  rcases h with (h | ⟨o, h⟩) | h
  · exact .inl (.inl (e _ _ h))
  · exact .inl (.inr ⟨o, e _ _ h⟩)
  · exact .inr h
section
variable {κ : Type} [DecidableEq κ]
theorem nd_snoc : ∀ {l : List κ} {k : κ}, l.Nodup → ¬ k ∈ l → (l ++ [k]).Nodup
  | [], k, _, _ => by simp
  | a :: r, k, h, hk => by
    obtain ⟨h1, h2⟩ := List.nodup_cons.mp h
    show (a :: (r ++ [k])).Nodup
    refine List.nodup_cons.mpr ⟨fun m => ?_, nd_snoc h2 fun m => hk (List.mem_cons.mpr (Or.inr m))⟩
    rcases List.mem_append.mp m with q | q
    · exact h1 q
    · exact hk (List.mem_cons.mpr (Or.inl (List.mem_singleton.mp q).symm))
end
theorem at_of {xs : List V} {z : Int} {j : Nat} {v : V} (e : z = (j : Int)) (h : xs[j]? = some v) : atI xs z = some v := by
  rw [e]
  exact atI_nat h
theorem nd_ix {α : Type} {l : List α} (hN : l.Nodup) {i j : Nat} {x : α} (a : l[i]? = some x) (b : l[j]? = some x) : i = j := by
  obtain ⟨h1, e1⟩ := List.getElem?_eq_some_iff.mp a
  obtain ⟨h2, e2⟩ := List.getElem?_eq_some_iff.mp b
  exact (List.getElem_inj hN).mp (e1.trans e2.symm)
theorem Same.made {H H1 : Hp} {x dx C : Addr} (nx : H x = Option.none) (nd : H dx = Option.none) (k : ∀ b o, (upd (upd H dx (.own x)) x (.ins C dx [])) b = some o → b ≠ x → H1 b = some o) : Same H H1 := fun b o e =>
  k b o (by rw [upd_ne (ne_of_none e nx), upd_ne (ne_of_none e nd)]; exact e) (ne_of_none e nx)
end L2
end
section
set_option Elab.async false
set_option linter.all false
set_option maxRecDepth 100000
set_option maxHeartbeats 2000000
namespace L2
open PySem PySem.Spec PyProof.Rows
open PySem.W (WData Codec OpenSpec Well WellAll ReadsW ReadsAllW)
mutual
/-- x stands for the datum d, lists and tuples all the way -/
inductive Dw (K : PySem.W.Frag) (H : Hp) : V → WData → Prop
  | non : Dw K H .non .none
  | bl (b : Bool) : Dw K H (.bl b) (.bool b)
  | int (i : Int) : Dw K H (.int i) (.int i)
  | str (x : Str) : Dw K H (.str x) (.str x)
  | byt (b : Array UInt8) : Dw K H (.byt b) (.bytes b.toList)
  | lst {a : Addr} {xs : List V} {ds : List WData} : SqL K H a xs → DwAll K H xs ds → Dw K H (.ref a) (.list ds)
  | tup {a : Addr} {xs : List V} {ds : List WData} : SqT K H a xs → DwAll K H xs ds → Dw K H (.ref a) (.tuple ds)
inductive DwAll (K : PySem.W.Frag) (H : Hp) : List V → List WData → Prop
  | nil : DwAll K H [] []
  | cons {v : V} {vs : List V} {d : WData} {ds : List WData} : Dw K H v d → DwAll K H vs ds → DwAll K H (v :: vs) (d :: ds)
end
theorem dw_ints {K : PySem.W.Frag} {H : Hp} : ∀ ns : List Int, DwAll K H (ns.map V.int) (ns.map WData.int)
  | [] => .nil
  | n :: r => .cons (.int n) (dw_ints r)
theorem ints_dw {K : PySem.W.Frag} {H : Hp} : ∀ (ns : List Int) (xs : List V), DwAll K H xs (ns.map WData.int) → xs = ns.map V.int
  | [], xs, h => by
    cases h
    rfl
  | n :: r, xs, h => by
    cases h with
    | cons h1 h2 =>
      cases h1
      rw [ints_dw r _ h2] <;> rfl
section
variable {P : Program} {w : World} {K : PySem.W.Frag} {H : Hp} {h : Heap} {R : PySem.W.WRecords} {cl : Str → Option Addr}
theorem sqL_at {a : Addr} {xs : List V} (hok : HOk P w H h) (KX : K.In h) (q : SqL K H a xs) : ∃ (its : List Value) (o : Obj) (n : Nat), Vals xs its ∧ h.get? a = some o ∧ o.cls = .type "list" ∧ o.data = .seq its.toArray n := by
  rcases q with q | ⟨o, its, n, e, hc, _, hd, _, hv⟩
  · obtain ⟨_, its, n, hv, e⟩ := (show ObjOk P w H h a (.lst xs) from q.ok hok)
    exact ⟨its, _, n, hv, e, rfl, rfl⟩
  · exact ⟨its.toList, o, n, hv, KX _ _ e, hc, by simp [hd]⟩
theorem sqT_at {a : Addr} {xs : List V} (hok : HOk P w H h) (KX : K.In h) (q : SqT K H a xs) : ∃ (its : List Value) (o : Obj) (n : Nat), Vals xs its ∧ h.get? a = some o ∧ o.cls = .type "tuple" ∧ o.data = .seq its.toArray n := by
  rcases q with q | ⟨o, its, n, e, hc, hd, _, hv⟩
  · obtain ⟨_, its, hv, o, e, hc, n, hd⟩ := (show ObjOk P w H h a (.tup xs) from q.ok hok)
    exact ⟨its, o, n, hv, e, hc, hd⟩
  · exact ⟨its.toList, o, n, hv, KX _ _ e, hc, by simp [hd]⟩
mutual
theorem Dw.reads (hok : HOk P w H h) (KX : K.In h) : ∀ (d : WData) (v : V) (u : Value), Dw K H v d → RelV v u → ∃ as, ReadsW R cl h u d as
  | .none, _, _, x, r => by
    cases x
    cases r
    exact ⟨_, ReadsW.none⟩
  | .bool b, _, _, x, r => by
    cases x
    cases r
    exact ⟨_, ReadsW.bool b⟩
  | .int i, _, _, x, r => by
    cases x
    obtain ⟨t, rfl⟩ := r
    exact ⟨_, ReadsW.int i t⟩
  | .str s, _, _, x, r => by
    cases x
    obtain ⟨t, rfl⟩ := r
    exact ⟨_, ReadsW.str s t⟩
  | .bytes b, _, _, x, r => by
    cases x
    obtain ⟨t, rfl⟩ := r
    exact ⟨_, ReadsW.bytes _ t⟩
  | .list ds, _, _, x, r => by
    cases x with
    | lst hs ha =>
      cases r
      obtain ⟨its, o, n, rv, ho, hc, hd⟩ := sqL_at hok KX hs
      obtain ⟨as, hr⟩ := Dw.readsAll hok KX ds _ its ha rv
      exact ⟨_, ReadsW.list ho hc hd hr⟩
  | .tuple ds, _, _, x, r => by
    cases x with
    | tup hs ha =>
      cases r
      obtain ⟨its, o, n, rv, ho, hc, hd⟩ := sqT_at hok KX hs
      obtain ⟨as, hr⟩ := Dw.readsAll hok KX ds _ its ha rv
      exact ⟨_, ReadsW.tuple ho hc hd hr⟩
  | .float _, _, _, x, _ => by cases x
  | .dict _, _, _, x, _ => by cases x
  | .bytearray _, _, _, x, _ => by cases x
  | .set _, _, _, x, _ => by cases x
  | .frozenset _, _, _, x, _ => by cases x
  | .obj _ _, _, _, x, _ => by cases x
theorem Dw.readsAll (hok : HOk P w H h) (KX : K.In h) : ∀ (ds : List WData) (vs : List V) (us : List Value), DwAll K H vs ds → Vals vs us → ∃ as, ReadsAllW R cl h us ds as
  | [], _, _, x, r => by
    cases x
    cases r
    exact ⟨_, ReadsAllW.nil⟩
  | d :: ds, _, _, x, r => by
    cases x with
    | cons h1 h2 =>
      cases r with
      | cons r1 r2 =>
        obtain ⟨as, q1⟩ := Dw.reads hok KX d _ _ h1 r1
        obtain ⟨bs, q2⟩ := Dw.readsAll hok KX ds _ _ h2 r2
        exact ⟨_, ReadsAllW.cons q1 q2⟩
end
end
mutual
/-- data that a codec tells -/
def plW : WData → Bool
  | .none => true
  | .bool _ => true
  | .int _ => true
  | .str _ => true
  | .bytes _ => true
  | .list xs => plWs xs
  | .tuple xs => plWs xs
  | _ => false
def plWs : List WData → Bool
  | [] => true
  | x :: r => plW x && plWs r
end
theorem plWs_map {α : Type} {f : α → WData} (h : ∀ a, plW (f a) = true) : ∀ l : List α, plWs (l.map f) = true
  | [] => rfl
  | x :: r => by
    show (plW (f x) && plWs (r.map f)) = true
    rw [h x, plWs_map h r] <;> rfl
theorem pl_enc : ∀ (c : Codec) (a : c.denote), plW (c.enc a) = true
  | .unit, _ => rfl
  | .bool, _ => rfl
  | .int _ _, _ => rfl
  | .nat _ _, _ => rfl
  | .u8, _ => rfl
  | .bytes _ _, _ => rfl
  | .text _ _ _ _, _ => rfl
  | .list _ _ c, a => plWs_map (fun x => pl_enc c x) a
  | .pair c d, a => by
    show (plW (c.enc a.1) && (plW (d.enc a.2) && true)) = true
    rw [pl_enc c a.1, pl_enc d a.2] <;> rfl
  | .triple c d e, a => by
    show (plW (c.enc a.1) && (plW (d.enc a.2.1) && (plW (e.enc a.2.2) && true))) = true
    rw [pl_enc c a.1, pl_enc d a.2.1, pl_enc e a.2.2] <;> rfl
  | .option c, none => rfl
  | .option c, some x => pl_enc c x
theorem pl_encAll : ∀ (cs : List Codec) (a : Codec.denoteAll cs), plWs (Codec.encAll cs a) = true
  | [], _ => rfl
  | c :: cs, a => by
    show (plW (c.enc a.1) && plWs (Codec.encAll cs a.2)) = true
    rw [pl_enc c a.1, pl_encAll cs a.2] <;> rfl
theorem weight_mem : ∀ {xs : List WData} {d : WData}, d ∈ xs → d.weight ≤ WData.weightAll xs
  | [], d, h => absurd h (by simp)
  | x :: r, d, h => by
    show d.weight ≤ x.weight + 1 + WData.weightAll r
    rcases List.mem_cons.mp h with e | m
    · rw [e]
      omega
    · have z := weight_mem m
      omega
def toV : Value → V
  | .none => .non
  | .bool b => .bl b
  | .int i _ => .int i
  | .str x _ => .str x
  | .bytes b _ => .byt b
  | .ref a => .ref a
  | _ => .non
def OkU (A : List Addr) : Value → Prop
  | .none => True
  | .bool _ => True
  | .int _ _ => True
  | .str _ _ => True
  | .bytes _ _ => True
  | .ref a => a ∈ A
  | _ => False
theorem OkU.mono {A B : List Addr} (h : ∀ a ∈ A, a ∈ B) : ∀ {u : Value}, OkU A u → OkU B u := fun {u} x => by
  cases u with
  | ref a => exact h a x
  | none => trivial
  | bool b => trivial
  | int i t => trivial
  | str s t => trivial
  | bytes b t => trivial
  | _ => exact False.elim x
theorem relV_toV {A : List Addr} {u : Value} (x : OkU A u) : RelV (toV u) u := by
  cases u with
  | ref a => rfl
  | none => rfl
  | bool b => rfl
  | int i t => exact ⟨t, rfl⟩
  | str s t => exact ⟨t, rfl⟩
  | bytes b t => exact ⟨t, rfl⟩
  | _ => exact False.elim x
theorem vals_toV {A : List Addr} : ∀ {vs : List Value}, (∀ u ∈ vs, OkU A u) → Vals (vs.map toV) vs
  | [], _ => .nil
  | u :: r, h => .cons (relV_toV (h u (List.mem_cons_self ..))) (vals_toV fun x hx => h x (List.mem_cons_of_mem _ hx))
def ArgOb (h : Heap) (A : List Addr) (a : Addr) : Prop := ∃ vs : List Value, vs.length ≤ sizeLine ∧ (∀ u ∈ vs, OkU A u) ∧
  (h.get? a = some { cls := .type "list", data := .seq vs.toArray } ∨ h.get? a = some { cls := .type "tuple", data := .seq vs.toArray })
theorem ArgOb.mono {h : Heap} {A B : List Addr} {a : Addr} (k : ∀ a ∈ A, a ∈ B) (x : ArgOb h A a) : ArgOb h B a := by
  obtain ⟨vs, h1, h2, h3⟩ := x
  exact ⟨vs, h1, fun u hu => (h2 u hu).mono k, h3⟩
theorem wellAll_len {P : Params} {h : Heap} : ∀ {vs : List Value} {ds : List WData}, WellAll P h vs ds → vs.length = ds.length
  | _, _, .nil => rfl
  | _, _, .cons _ b => by
    show _ + 1 = _ + 1
    rw [wellAll_len b]
theorem well_list {P : Params} {h : Heap} {v : Value} {ds : List WData} (x : Well P h v (.list ds)) : ∃ (a : Addr) (vs : List Value), v = .ref a ∧ h.get? a = some { cls := .type "list", data := .seq vs.toArray } ∧ WellAll P h vs ds := by
  cases x with
  | list ho hall => exact ⟨_, _, rfl, ho, hall⟩
theorem well_tuple {P : Params} {h : Heap} {v : Value} {ds : List WData} (x : Well P h v (.tuple ds)) : ∃ (a : Addr) (vs : List Value), v = .ref a ∧ h.get? a = some { cls := .type "tuple", data := .seq vs.toArray } ∧ WellAll P h vs ds := by
  cases x with
  | tuple ho hall => exact ⟨_, _, rfl, ho, hall⟩
theorem well_cons {P : Params} {h : Heap} {us : List Value} {d : WData} {ds : List WData} (x : WellAll P h us (d :: ds)) : ∃ (v : Value) (vs : List Value), us = v :: vs ∧ Well P h v d ∧ WellAll P h vs ds := by
  cases x with
  | cons a b => exact ⟨_, _, rfl, a, b⟩
theorem line_of {n : Nat} (h : n ≤ 1048576) : n ≤ sizeLine := Nat.le_trans h (by decide)
section
variable {P : Params} {h : Heap}
mutual
theorem area_one : ∀ (d : WData) (v : Value), Well P h v d → plW d = true → d.weight ≤ 1048576 → ∃ A : List Addr, OkU A v ∧ ∀ a ∈ A, ArgOb h A a
  | .none, _, x, _, _ => by
    cases x
    exact ⟨[], trivial, fun a m => absurd m (by simp)⟩
  | .bool b, _, x, _, _ => by
    cases x
    exact ⟨[], trivial, fun a m => absurd m (by simp)⟩
  | .int i, _, x, _, _ => by
    cases x
    exact ⟨[], trivial, fun a m => absurd m (by simp)⟩
  | .str s, _, x, _, _ => by
    cases x
    exact ⟨[], trivial, fun a m => absurd m (by simp)⟩
  | .bytes b, _, x, _, _ => by
    cases x
    exact ⟨[], trivial, fun a m => absurd m (by simp)⟩
  | .list ds, _, x, p, z => by
    obtain ⟨a, vs, rfl, ho, hall⟩ := well_list x
    have z2 : WData.weightAll ds ≤ 1048576 := z
    obtain ⟨A, h1, h2⟩ := area_all ds _ hall p fun d hd => Nat.le_trans (weight_mem hd) z2
    have k : ∀ b ∈ A, b ∈ a :: A := fun b hb => List.mem_cons_of_mem _ hb
    refine ⟨a :: A, List.mem_cons_self .., fun b hb => ?_⟩
    rcases List.mem_cons.mp hb with e | m
    · rw [e]
      exact ⟨vs, line_of (by rw [wellAll_len hall]; exact Nat.le_trans (PySem.W.length_le_weightAllW ds) z2), fun u hu => (h1 u hu).mono k, .inl ho⟩
    · exact (h2 b m).mono k
  | .tuple ds, _, x, p, z => by
    obtain ⟨a, vs, rfl, ho, hall⟩ := well_tuple x
    have z2 : WData.weightAll ds ≤ 1048576 := z
    obtain ⟨A, h1, h2⟩ := area_all ds _ hall p fun d hd => Nat.le_trans (weight_mem hd) z2
    have k : ∀ b ∈ A, b ∈ a :: A := fun b hb => List.mem_cons_of_mem _ hb
    refine ⟨a :: A, List.mem_cons_self .., fun b hb => ?_⟩
    rcases List.mem_cons.mp hb with e | m
    · rw [e]
      exact ⟨vs, line_of (by rw [wellAll_len hall]; exact Nat.le_trans (PySem.W.length_le_weightAllW ds) z2), fun u hu => (h1 u hu).mono k, .inr ho⟩
    · exact (h2 b m).mono k
  | .float _, _, _, p, _ => Bool.noConfusion (show false = true from p)
  | .dict _, _, _, p, _ => Bool.noConfusion (show false = true from p)
  | .bytearray _, _, _, p, _ => Bool.noConfusion (show false = true from p)
  | .set _, _, _, p, _ => Bool.noConfusion (show false = true from p)
  | .frozenset _, _, _, p, _ => Bool.noConfusion (show false = true from p)
  | .obj _ _, _, _, p, _ => Bool.noConfusion (show false = true from p)
theorem area_all : ∀ (ds : List WData) (vs : List Value), WellAll P h vs ds → plWs ds = true → (∀ d ∈ ds, d.weight ≤ 1048576) → ∃ A : List Addr, (∀ u ∈ vs, OkU A u) ∧ ∀ a ∈ A, ArgOb h A a
  | [], _, x, _, _ => by
    cases x
    exact ⟨[], fun u m => absurd m (by simp), fun a m => absurd m (by simp)⟩
  | d :: ds, _, x, p, z => by
    obtain ⟨v, vs, rfl, x1, x2⟩ := well_cons x
    have q : plW d = true ∧ plWs ds = true := Bool.and_eq_true_iff.mp p
    obtain ⟨A, a1, a2⟩ := area_one d v x1 q.1 (z d (List.mem_cons_self ..))
    obtain ⟨B, b1, b2⟩ := area_all ds vs x2 q.2 fun e he => z e (List.mem_cons_of_mem _ he)
    have kA : ∀ b ∈ A, b ∈ A ++ B := fun b hb => List.mem_append.mpr (.inl hb)
    have kB : ∀ b ∈ B, b ∈ A ++ B := fun b hb => List.mem_append.mpr (.inr hb)
    refine ⟨A ++ B, fun u hu => ?_, fun b hb => ?_⟩
    · rcases List.mem_cons.mp hu with e | m
      · rw [e]
        exact a1.mono kA
      · exact (b1 u m).mono kB
    · rcases List.mem_append.mp hb with m | m
      · exact (a2 b m).mono kA
      · exact (b2 b m).mono kB
end
end
def hoOf (o : Obj) : Option HO := match o.data with
  | .seq vs _ => if (o.cls == Value.type "list") = true then some (.frz o (.lst (vs.toList.map toV))) else some (.frz o (.tup (vs.toList.map toV)))
  | _ => none
def argH (K : PySem.W.Frag) (h : Heap) (A : List Addr) : Hp := fun b => if b ∈ A then (if (K.lookup b).isNone = true then (h.get? b).bind hoOf else none) else none
def OnlyF (H : Hp) : Prop := ∀ b, H b = none ∨ ∃ o u, H b = some (.frz o u)
theorem hoOf_lst (vs : List Value) : hoOf { cls := .type "list", data := .seq vs.toArray } = some (.frz { cls := .type "list", data := .seq vs.toArray } (.lst (vs.map toV))) := by
  show (if (Value.type "list" == Value.type "list") = true then some (HO.frz { cls := .type "list", data := .seq vs.toArray } (.lst (vs.toArray.toList.map toV))) else some (HO.frz { cls := .type "list", data := .seq vs.toArray } (.tup (vs.toArray.toList.map toV)))) = _
  rw [if_pos (beq_self_eq_true _)]
theorem hoOf_tup (vs : List Value) : hoOf { cls := .type "tuple", data := .seq vs.toArray } = some (.frz { cls := .type "tuple", data := .seq vs.toArray } (.tup (vs.map toV))) := by
  show (if (Value.type "tuple" == Value.type "list") = true then some (HO.frz { cls := .type "tuple", data := .seq vs.toArray } (.lst (vs.toArray.toList.map toV))) else some (HO.frz { cls := .type "tuple", data := .seq vs.toArray } (.tup (vs.toArray.toList.map toV)))) = _
  rw [if_neg (by decide)]
section
variable {P : Program} {w : World} {K : PySem.W.Frag} {h : Heap} {A : List Addr}
theorem argH_at {b : Addr} {o : Obj} (hb : b ∈ A) (hk : K.lookup b = none) (e : h.get? b = some o) : argH K h A b = hoOf o := by
  unfold argH
  rw [if_pos hb, hk, if_pos (show (none : Option Obj).isNone = true from rfl), e] <;> rfl
theorem of_argH {b : Addr} {u : HO} (q : argH K h A b = some u) : b ∈ A ∧ K.lookup b = none := by
  unfold argH at q
  by_cases hb : b ∈ A
  · rw [if_pos hb] at q
    cases hk : K.lookup b with
    | none => exact ⟨hb, rfl⟩
    | some o =>
      rw [hk, if_neg (by simp)] at q
      cases q
  · rw [if_neg hb] at q
    cases q
theorem argH_is (ar : ∀ a ∈ A, ArgOb h A a) {b : Addr} {u : HO} (q : argH K h A b = some u) : K.lookup b = none ∧ ∃ vs : List Value, vs.length ≤ sizeLine ∧ (∀ u ∈ vs, OkU A u) ∧
    ((h.get? b = some { cls := .type "list", data := .seq vs.toArray } ∧ u = .frz { cls := .type "list", data := .seq vs.toArray } (.lst (vs.map toV))) ∨
     (h.get? b = some { cls := .type "tuple", data := .seq vs.toArray } ∧ u = .frz { cls := .type "tuple", data := .seq vs.toArray } (.tup (vs.map toV)))) := by
  obtain ⟨hb, hk⟩ := of_argH q
  obtain ⟨vs, h1, h2, h3⟩ := ar b hb
  refine ⟨hk, vs, h1, h2, ?_⟩
  rcases h3 with e | e
  · rw [argH_at hb hk e, hoOf_lst] at q
    exact .inl ⟨e, (Option.some.inj q).symm⟩
  · rw [argH_at hb hk e, hoOf_tup] at q
    exact .inr ⟨e, (Option.some.inj q).symm⟩
theorem argH_only (ar : ∀ a ∈ A, ArgOb h A a) : OnlyF (argH K h A) := fun b => by
  cases q : argH K h A b with
  | none => exact .inl rfl
  | some u =>
    obtain ⟨_, vs, _, _, ⟨_, e⟩ | ⟨_, e⟩⟩ := argH_is ar q
    · exact .inr ⟨_, _, by rw [e]⟩
    · exact .inr ⟨_, _, by rw [e]⟩
theorem argH_ok (ar : ∀ a ∈ A, ArgOb h A a) : HOk P w (argH K h A) h := fun b u q => by
  obtain ⟨_, vs, h1, h2, ⟨e, rfl⟩ | ⟨e, rfl⟩⟩ := argH_is ar q
  · exact ⟨e, by rw [List.length_map]; exact h1, vs, _, vals_toV h2, e⟩
  · exact ⟨e, by rw [List.length_map]; exact h1, vs, vals_toV h2, _, e, rfl, _, rfl⟩
theorem seq_inj {c c' : Value} {vs us : List Value} (e : (some { cls := c, data := .seq vs.toArray } : Option Obj) = some { cls := c', data := .seq us.toArray }) : c = c' ∧ vs = us := by
  have e1 := Option.some.inj e
  have e2 : c = c' := congrArg Obj.cls e1
  have e3 : Data.seq vs.toArray = Data.seq us.toArray := congrArg Obj.data e1
  injection e3 with e4
  refine ⟨e2, ?_⟩
  have e5 := congrArg Array.toList e4
  simpa using e5
theorem argL (KX : K.In h) (ar : ∀ a ∈ A, ArgOb h A a) {a : Addr} {vs : List Value} (ha : a ∈ A) (e : h.get? a = some { cls := .type "list", data := .seq vs.toArray }) : (∀ u ∈ vs, OkU A u) ∧ SqL K (argH K h A) a (vs.map toV) := by
  obtain ⟨us, h1, h2, h3⟩ := ar a ha
  have hu : us = vs := by
    rcases h3 with q | q
    · rw [e] at q
      exact (seq_inj q).2.symm
    · rw [e] at q
      exact absurd (Value.type.inj (seq_inj q).1) (by decide)
  subst hu
  refine ⟨h2, ?_⟩
  cases hk : K.lookup a with
  | none => exact .inl (.inr ⟨_, by rw [argH_at ha hk e, hoOf_lst]⟩)
  | some o =>
    have e2 := KX a o hk
    rw [e] at e2
    obtain rfl := Option.some.inj e2
    exact .inr ⟨_, us.toArray, _, hk, rfl, rfl, rfl, by rw [List.size_toArray]; exact h1, by simpa using vals_toV h2⟩
theorem argT (KX : K.In h) (ar : ∀ a ∈ A, ArgOb h A a) {a : Addr} {vs : List Value} (ha : a ∈ A) (e : h.get? a = some { cls := .type "tuple", data := .seq vs.toArray }) : (∀ u ∈ vs, OkU A u) ∧ SqT K (argH K h A) a (vs.map toV) := by
  obtain ⟨us, h1, h2, h3⟩ := ar a ha
  have hu : us = vs := by
    rcases h3 with q | q
    · rw [e] at q
      exact absurd (Value.type.inj (seq_inj q).1) (by decide)
    · rw [e] at q
      exact (seq_inj q).2.symm
  subst hu
  refine ⟨h2, ?_⟩
  cases hk : K.lookup a with
  | none => exact .inl (.inr ⟨_, by rw [argH_at ha hk e, hoOf_tup]⟩)
  | some o =>
    have e2 := KX a o hk
    rw [e] at e2
    obtain rfl := Option.some.inj e2
    exact .inr ⟨_, us.toArray, _, hk, rfl, rfl, by rw [List.size_toArray]; exact h1, by simpa using vals_toV h2⟩
mutual
theorem dw_one {Pm : Params} (KX : K.In h) (ar : ∀ a ∈ A, ArgOb h A a) : ∀ (d : WData) (v : Value), Well Pm h v d → plW d = true → OkU A v → Dw K (argH K h A) (toV v) d
  | .none, _, x, _, _ => by
    cases x
    exact .non
  | .bool b, _, x, _, _ => by
    cases x
    exact .bl b
  | .int i, _, x, _, _ => by
    cases x
    exact .int i
  | .str s, _, x, _, _ => by
    cases x
    exact .str s
  | .bytes b, _, x, _, _ => by
    cases x
    have z := Dw.byt (K := K) (H := argH K h A) b.toArray
    exact z
  | .list ds, _, x, p, hu => by
    obtain ⟨a, vs, rfl, ho, hall⟩ := well_list x
    obtain ⟨h2, hs⟩ := argL KX ar hu ho
    exact .lst hs (dw_all KX ar ds _ hall p h2)
  | .tuple ds, _, x, p, hu => by
    obtain ⟨a, vs, rfl, ho, hall⟩ := well_tuple x
    obtain ⟨h2, hs⟩ := argT KX ar hu ho
    exact .tup hs (dw_all KX ar ds _ hall p h2)
  | .float _, _, _, p, _ => Bool.noConfusion (show false = true from p)
  | .dict _, _, _, p, _ => Bool.noConfusion (show false = true from p)
  | .bytearray _, _, _, p, _ => Bool.noConfusion (show false = true from p)
  | .set _, _, _, p, _ => Bool.noConfusion (show false = true from p)
  | .frozenset _, _, _, p, _ => Bool.noConfusion (show false = true from p)
  | .obj _ _, _, _, p, _ => Bool.noConfusion (show false = true from p)
theorem dw_all {Pm : Params} (KX : K.In h) (ar : ∀ a ∈ A, ArgOb h A a) : ∀ (ds : List WData) (vs : List Value), WellAll Pm h vs ds → plWs ds = true → (∀ u ∈ vs, OkU A u) → DwAll K (argH K h A) (vs.map toV) ds
  | [], _, x, _, _ => by
    cases x
    exact .nil
  | d :: ds, _, x, p, hu => by
    obtain ⟨v, vs, rfl, x1, x2⟩ := well_cons x
    have q : plW d = true ∧ plWs ds = true := Bool.and_eq_true_iff.mp p
    exact .cons (dw_one KX ar d v x1 q.1 (hu _ (List.mem_cons_self ..))) (dw_all KX ar ds vs x2 q.2 fun u m => hu u (List.mem_cons_of_mem _ m))
end
end
theorem spec_call {P : Program} {w : World} {K : PySem.W.Frag} {mg mb : Str → Option Value} {CX : CXT} {k : Nat} {fa : Addr} {fd : FuncData} {ps : List Str} {sp : Sp} {s₁ : Shared} {vals : List Value} {ds : List WData} {R : PySem.W.WRecords} {cl : Str → Option Addr} {d0 : WData}
    (KX : K.In s₁.heap) (hns : s₁.heap.Ns mainGlobals mg) (hb : s₁.heap.Ns builtinsNs mb) (hbb : ∀ x : Str, x ≠ "__name__" → mb x = bootBuiltins x) (hlim : s₁.heap.NoLimit) (hg : s₁.gens = #[])
    (hwl : WellAll w.params s₁.heap vals ds) (hpl : plWs ds = true) (hwt : ∀ d ∈ ds, d.weight ≤ 1048576) (hr : Room k callerA)
    (F : ∀ base : Heap, K.In base → base.Ns mainGlobals mg → FnOk P w K mg base CX k fa fd ps sp) (hbind : ∀ (s : Shared) (us : List Value), us.length = ps.length → BindsTo s fd ⟨us, []⟩ (ps.zip us)) (hlen : ds.length = ps.length)
    (hsp : ∀ (H : Hp) (xs : List V), OnlyF H → DwAll K H xs ds → sp xs H (fun v H' => Dw K H' v d0) fun _ _ _ => False)
    (hCX : ∀ H e s', CX [] H s₁ (fun _ _ _ => False) e s' → False) :
    codeAny (model P w) callerA (.call (.ref fa) ⟨vals, []⟩) (fun r s' => ∃ u as, r = .ok (.ret u) ∧ ReadsW R cl s'.heap u d0 as ∧ OldK s₁.heap s'.heap ∧ s'.os = s₁.os ∧ AllBare s'.gens) s₁ := by
  obtain ⟨A, ho, ar⟩ := area_all ds vals hwl hpl hwt
  have hO : OnlyF (argH K s₁.heap A) := argH_only ar
  have hok : HOk P w (argH K s₁.heap A) s₁.heap := argH_ok ar
  have hS := dw_all KX ar ds vals hwl hpl ho
  have hV := vals_toV ho
  have hK : ∀ b u, argH K s₁.heap A b = some u → K.lookup b = none := fun b u q => (argH_is ar q).1
  have noA : ∀ {b : Addr} {o : Obj} {es : Array DictEntry} {ep : Nat}, s₁.heap.get? b = some o → o.data = .dict es ep → argH K s₁.heap A b = none := fun {b o es ep} e d => by
    cases q : argH K s₁.heap A b with
    | none => rfl
    | some u =>
      obtain ⟨_, vs, _, _, ⟨e2, _⟩ | ⟨e2, _⟩⟩ := argH_is ar q
      · rw [e2] at e
        cases e
        have d' : Data.seq vs.toArray _ = Data.dict es ep := d
        cases d'
      · rw [e2] at e
        cases e
        have d' : Data.seq vs.toArray _ = Data.dict es ep := d
        cases d'
  generalize argH K s₁.heap A = H at hO hok hS hK noA
  have base_of : ∀ {b : Addr} {o : Obj}, s₁.heap.get? b = some o → H b = none → (hidT s₁.heap H).get? b = some o := fun e n => hidT_get e n
  have nsK : ∀ {b : Addr} {m : Str → Option Value}, s₁.heap.Ns b m → (hidT s₁.heap H).Ns b m := fun {b m} ⟨o, es, ep, e, d, r⟩ => ⟨o, es, ep, base_of e (noA e d), d, r⟩
  have nK : ∀ b o, K.lookup b = some o → H b = none := fun b o e => by
    cases q : H b with
    | none => rfl
    | some u =>
      rw [hK b u q] at e
      cases e
  have hKb : K.In (hidT s₁.heap H) := fun b o e => base_of (KX b o e) (nK b o e)
  have hM : Mod K mg (hidT s₁.heap H) := ⟨hKb, nsK hns, ⟨mb, nsK hb, hbb⟩, let ⟨mc, h1, h2⟩ := hlim; ⟨mc, nsK h1, h2⟩⟩
  have e0 : Env0 P w K mg (hidT s₁.heap H) callerA [] s₁ H := ⟨rfl, hM, fun b o e => of_hidT e, Nat.le_of_eq (hidT_size _ _), trivial, fun b hb => absurd (show b ∈ ([] : List Addr) from hb) (by simp), hok, .of_eq hg⟩
  have hl : vals.length = ps.length := by rw [wellAll_len hwl]; exact hlen
  refine codeAny_mono ((F _ hKb (nsK hns)).run callerA [] s₁ H ⟨vals, []⟩ vals (vals.map toV) _ _ hr e0 (hbind s₁ vals hl) hV (hsp H _ hO hS)) fun r s' x => ?_
  cases r with
  | error e => exact (hCX H e s' x).elim
  | ok fl =>
    cases fl with
    | next => exact False.elim x
    | brk => exact False.elim x
    | cont => exact False.elim x
    | ret u =>
      obtain ⟨v, H', os, bare, un, hok', r', q⟩ := x
      have kept : ∀ b o, s₁.heap.get? b = some o → s'.heap.get? b = some o := fun b o e => by
        cases q2 : H b with
        | none => exact un.keep b o e q2 (by intro z; exact absurd (show b ∈ ([] : List Addr) from z) (by simp)) (by simp)
        | some u2 =>
          rcases hO b with z | ⟨ob, u3, z⟩
          · rw [q2] at z
            cases z
          · have z2 := un.frzs b ob _ z
            obtain ⟨e1, _⟩ := hok b _ z
            obtain ⟨e2, _⟩ := hok' b _ z2
            rw [e] at e1
            cases e1
            exact e2
      have KX' : K.In s'.heap := fun b o e => kept b o (KX b o e)
      obtain ⟨as, hrd⟩ := Dw.reads (R := R) (cl := cl) hok' KX' d0 v u q r'
      exact ⟨u, as, rfl, hrd, OldK.of_keep kept, os, bare⟩
theorem layable_weight {ds : List WData} (h : WData.layableAll ds = true) : ∀ d ∈ ds, d.weight ≤ 1048576 := fun d hd =>
  (PySem.W.layableW_iff.mp (List.all_eq_true.mp h d hd)).2.2
theorem encAll_len : ∀ (cs : List Codec) (a : Codec.denoteAll cs), (Codec.encAll cs a).length = cs.length
  | [], _ => rfl
  | c :: cs, a => by
    show (Codec.encAll cs a.2).length + 1 = cs.length + 1
    rw [encAll_len cs a.2]
theorem walk_spec {r : OpenSpec} {k : Nat} {q : Program} {loose : List Str} {XP : (Str → Option Value) → Heap → Prop} {YP : World → Heap → Prop} {d : DefRec} {K : Params → PySem.W.Frag} {CX : World → CXT} {ps : List Str} {sp : World → Sp}
    (hwell : r.wellSaid = true) (hdf : d.params.defaults = []) (hlen : r.args.length = ps.length) (hr : Room k callerA)
    (hY : ∀ (w : World) (h : Heap), YP w h → (K w.params).In h)
    (F : ∀ (w : World) (mg : Str → Option Value) (fa : Addr) (h : Heap), YP w h → (K w.params).In h → h.Ns mainGlobals mg → mg d.name = some (.ref fa) →
      ∃ fd : FuncData, (∀ (s : Shared) (us : List Value), us.length = ps.length → BindsTo s fd ⟨us, []⟩ (ps.zip us)) ∧
        ∀ base : Heap, (K w.params).In base → base.Ns mainGlobals mg → FnOk r.prog w (K w.params) mg base (CX w) k fa fd ps (sp w))
    (hsp : ∀ (w : World) (H : Hp) (xs : List V) (a : Codec.denoteAll r.args), OnlyF H → Codec.withinAll r.args a = true → Codec.app r.args r.asked a = true → DwAll (K w.params) H xs (Codec.encAll r.args a) →
      sp w xs H (fun v H' => Dw (K w.params) H' v (r.ret.enc (Codec.app r.args r.f a))) fun _ _ _ => False)
    (hCX : ∀ (w : World) (H : Hp) (s : Shared) (e : Value) (s' : Shared), CX w [] H s (fun _ _ _ => False) e s' → False) :
    PySem.W.WalkOS q loose XP YP r d [] (fun f vs => PySem.call f vs) := by
  intro w s_0 s₁ mg mb G Y fa o pm cd doc dV kV ho hd hcd hD hmg hg args vals as hpre hlay hrd hwl hlo
  obtain ⟨a, e1, e2⟩ := PySem.W.os_pre_some hpre
  obtain ⟨e3, hwi⟩ := Codec.encAll_of_decAll r.args args a e1
  subst e3
  have KX := hY w _ Y
  obtain ⟨fd, hb, hF⟩ := F w mg fa _ Y KX G.T.g hmg
  refine PySem.W.enter_call (codeAny_mono (spec_call (R := []) (cl := classAt s_0.heap) (d0 := r.ret.enc (Codec.app r.args r.f a)) KX G.T.g G.T.b G.T.builtins G.T.nolimit hg hwl (pl_encAll _ _) (layable_weight hlay) hr hF hb (by rw [encAll_len]; exact hlen)
    (fun H xs hO hS => hsp w H xs a hO hwi e2 hS) fun H e s' => hCX w H s₁ e s') fun r' s' hq => ?_)
  obtain ⟨u, as', rfl, h1, h2, h3, h4⟩ := hq
  exact ⟨.inl ⟨u, _, as', rfl, fun _ => rfl, h1, (OpenSpec.post_iff hwell hwi _ _).mpr rfl, fun z => Bool.noConfusion (show false = true from z)⟩, h2, h3, h4⟩
theorem walk_specK {r : OpenSpec} {k : Nat} {q : Program} {loose : List Str} {XP : (Str → Option Value) → Heap → Prop} {YP : World → Heap → Prop} {d : DefRec} {K : Params → PySem.W.Frag} {CX : CXT} {ps : List Str} {sp : PySem.W.Frag → Sp}
    (hwell : r.wellSaid = true) (hdf : d.params.defaults = []) (hlen : r.args.length = ps.length) (hr : Room k callerA)
    (hY : ∀ (w : World) (h : Heap), YP w h → (K w.params).In h)
    (F : ∀ (w : World) (mg : Str → Option Value) (fa : Addr) (h : Heap), YP w h → (K w.params).In h → h.Ns mainGlobals mg → mg d.name = some (.ref fa) →
      ∃ fd : FuncData, (∀ (s : Shared) (us : List Value), us.length = ps.length → BindsTo s fd ⟨us, []⟩ (ps.zip us)) ∧
        ∀ base : Heap, (K w.params).In base → base.Ns mainGlobals mg → FnOk r.prog w (K w.params) mg base CX k fa fd ps (sp (K w.params)))
    (hsp : ∀ (K : PySem.W.Frag) (H : Hp) (xs : List V) (a : Codec.denoteAll r.args), OnlyF H → Codec.withinAll r.args a = true → Codec.app r.args r.asked a = true → DwAll K H xs (Codec.encAll r.args a) →
      sp K xs H (fun v H' => Dw K H' v (r.ret.enc (Codec.app r.args r.f a))) fun _ _ _ => False)
    (hCX : ∀ (H : Hp) (s : Shared) (e : Value) (s' : Shared), CX [] H s (fun _ _ _ => False) e s' → False) :
    PySem.W.WalkOS q loose XP YP r d [] (fun f vs => PySem.call f vs) :=
  walk_spec (K := K) (CX := fun _ => CX) (sp := fun w => sp (K w.params)) hwell hdf hlen hr hY F (fun w H xs a h1 h2 h3 h4 => hsp (K w.params) H xs a h1 h2 h3 h4) fun _ H s e s' => hCX H s e s'
end L2
end
set_option Elab.async false
set_option linter.all false
set_option maxRecDepth 100000
set_option maxHeartbeats 2000000
namespace Wy
open Si38 (Costs Step pairCost)
def cst (k : Costs) : List Nat → List Nat → Nat
  | [], [] => 0
  | [], _ :: y => cst k [] y + k.into
  | _ :: x, [] => cst k x [] + k.out
  | a :: x, b :: y => min (cst k x y + pairCost k a b) (min (cst k x (b :: y) + k.out) (cst k (a :: x) y + k.into))
termination_by x y => x.length + y.length
def row (k : Costs) (x : List Nat) : List Nat → List Nat
  | [] => [cst k x []]
  | b :: y => cst k x (b :: y) :: row k x y
theorem row_head (k : Costs) (x y : List Nat) : (row k x y).headD 0 = cst k x y := by
  cases y <;> rfl
theorem row_tail (k : Costs) (x : List Nat) (b : Nat) (y : List Nat) : (row k x (b :: y)).drop 1 = row k x y := rfl
theorem lastRow_eq (k : Costs) : ∀ y, Si38.lastRow k y = row k [] y
  | [] => by simp [Si38.lastRow, row, cst]
  | b :: y => by
    simp only [Si38.lastRow, row]
    rw [lastRow_eq k y, row_head]
    simp [cst]
theorem nextRow_eq (k : Costs) (a : Nat) (x : List Nat) : ∀ y, Si38.nextRow k a y (row k x y) = row k (a :: x) y
  | [] => by simp [Si38.nextRow, row, cst]
  | b :: y => by
    simp only [Si38.nextRow, row_tail]
    rw [nextRow_eq k a x y, row_head, row_head, row_head]
    simp [row, cst]
def tab (k : Costs) (y : List Nat) : List Nat → List (List Nat)
  | [] => [row k [] y]
  | a :: x => row k (a :: x) y :: tab k y x
theorem tab_head (k : Costs) (x y : List Nat) : (tab k y x).headD [] = row k x y := by cases x <;> rfl
theorem tab_drop (k : Costs) (a : Nat) (x y : List Nat) : (tab k y (a :: x)).drop 1 = tab k y x := rfl
theorem tab_col (k : Costs) (b : Nat) (y : List Nat) : ∀ x, (tab k (b :: y) x).map (fun r => r.drop 1) = tab k y x
  | [] => rfl
  | a :: x => by
    show row k (a :: x) y :: (tab k (b :: y) x).map (fun r => r.drop 1) = _
    rw [tab_col k b y x]
    rfl
theorem table_eq (k : Costs) (y : List Nat) : ∀ x, Si38.table k y x = tab k y x
  | [] => by simp [Si38.table, tab, lastRow_eq]
  | a :: x => by
    simp only [Si38.table]
    rw [table_eq k y x, tab_head, nextRow_eq]
    rfl
def way (k : Costs) : List Nat → List Nat → List Step
  | [], [] => []
  | [], b :: y => .into b :: way k [] y
  | a :: x, [] => .out a :: way k x []
  | a :: x, b :: y =>
    if cst k (a :: x) (b :: y) = cst k x y + pairCost k a b then .both a b :: way k x y
    else if cst k (a :: x) (b :: y) = cst k x (b :: y) + k.out then .out a :: way k x (b :: y)
    else .into b :: way k (a :: x) y
termination_by x y => x.length + y.length
theorem walk_eq (k : Costs) : ∀ (n : Nat) (x y : List Nat), x.length + y.length ≤ n → Si38.walk k n x y (tab k y x) = way k x y
  | 0, [], [], _ => by simp [Si38.walk, way]
  | 0, _ :: _, _, h => by simp at h
  | 0, [], _ :: _, h => by simp at h
  | n + 1, [], [], _ => by simp [Si38.walk, way]
  | n + 1, [], b :: y, h => by
    simp only [Si38.walk, way, tab_col]
    rw [walk_eq k n [] y (by simp at h ⊢; omega)]
  | n + 1, a :: x, [], h => by
    simp only [Si38.walk, way, tab_drop]
    rw [walk_eq k n x [] (by simp at h ⊢; omega)]
  | n + 1, a :: x, b :: y, h => by
    simp only [List.length_cons] at h
    simp only [Si38.walk]
    rw [way]
    simp only [tab_drop, tab_head, row_head, row_tail, tab_col]
    rw [walk_eq k n x y (by omega), walk_eq k n x (b :: y) (by simp; omega), walk_eq k n (a :: x) y (by simp; omega)]
theorem beside_eq (k : Costs) (x y : List Nat) : Si38.beside k x y = way k x y := by
  unfold Si38.beside
  rw [table_eq]
  exact walk_eq k _ x y (Nat.le_refl _)
def prs (k : Costs) : List Nat → List Nat → Nat → Nat → List (Nat × Nat)
  | a :: x, b :: y, i, j =>
    if cst k (a :: x) (b :: y) = cst k x y + pairCost k a b then (i, j) :: prs k x y (i + 1) (j + 1)
    else if cst k (a :: x) (b :: y) = cst k x (b :: y) + k.out then prs k x (b :: y) (i + 1) j
    else prs k (a :: x) y i (j + 1)
  | _, _, _, _ => []
termination_by x y => x.length + y.length
theorem prs_nil_r (k : Costs) (x : List Nat) (i j : Nat) : prs k x [] i j = [] := by
  cases x <;> rw [prs] <;> intros <;> simp_all
theorem prs_nil_l (k : Costs) (y : List Nat) (i j : Nat) : prs k [] y i j = [] := by
  rw [prs]; intros; simp_all
theorem pairs_way_l (k : Costs) : ∀ (y : List Nat) (i j : Nat), Si47.pairsFrom i j (way k [] y) = []
  | [], i, j => by simp [way, Si47.pairsFrom]
  | b :: y, i, j => by
    rw [way]
    simp only [Si47.pairsFrom]
    exact pairs_way_l k y i (j + 1)
theorem pairs_way_r (k : Costs) : ∀ (x : List Nat) (i j : Nat), Si47.pairsFrom i j (way k x []) = []
  | [], i, j => by simp [way, Si47.pairsFrom]
  | b :: y, i, j => by
    rw [way]
    simp only [Si47.pairsFrom]
    exact pairs_way_r k y (i + 1) j
theorem pairs_way (k : Costs) : ∀ (x y : List Nat) (i j : Nat), Si47.pairsFrom i j (way k x y) = prs k x y i j
  | [], y, i, j => by rw [pairs_way_l, prs_nil_l]
  | a :: x, [], i, j => by rw [pairs_way_r, prs_nil_r]
  | a :: x, b :: y, i, j => by
    rw [way, prs]
    split
    · simp only [Si47.pairsFrom]
      rw [pairs_way k x y]
    · split
      · simp only [Si47.pairsFrom]
        rw [pairs_way k x (b :: y)]
      · simp only [Si47.pairsFrom]
        rw [pairs_way k (a :: x) y]
termination_by x y => x.length + y.length
theorem prs_in (k : Costs) : ∀ (x y : List Nat) (i j : Nat), ∀ p ∈ prs k x y i j, i ≤ p.1 ∧ p.1 < i + x.length ∧ j ≤ p.2 ∧ p.2 < j + y.length
  | [], y, i, j => by rw [prs_nil_l]; intro p h; cases h
  | a :: x, [], i, j => by rw [prs_nil_r]; intro p h; cases h
  | a :: x, b :: y, i, j => by
    rw [prs]
    split
    · intro p h
      simp only [List.mem_cons] at h
      rcases h with rfl | h
      · simp
      · have := prs_in k x y (i + 1) (j + 1) p h
        simp only [List.length_cons]; omega
    · split
      · intro p h
        have := prs_in k x (b :: y) (i + 1) j p h
        simp only [List.length_cons] at this ⊢; omega
      · intro p h
        have := prs_in k (a :: x) y i (j + 1) p h
        simp only [List.length_cons] at this ⊢; omega
termination_by x y => x.length + y.length
theorem prs_up (k : Costs) : ∀ (x y : List Nat) (i j : Nat), (prs k x y i j).Pairwise fun p q => p.1 < q.1 ∧ p.2 < q.2
  | [], y, i, j => by rw [prs_nil_l]; exact .nil
  | a :: x, [], i, j => by rw [prs_nil_r]; exact .nil
  | a :: x, b :: y, i, j => by
    rw [prs]
    split
    · refine .cons ?_ (prs_up k x y (i + 1) (j + 1))
      intro p h
      have := prs_in k x y (i + 1) (j + 1) p h
      simp only; omega
    · split
      · exact prs_up k x (b :: y) (i + 1) j
      · exact prs_up k (a :: x) y i (j + 1)
termination_by x y => x.length + y.length
def at_ (k : Costs) (X Y : List Nat) (i j : Nat) : Nat := cst k (X.drop i) (Y.drop j)
theorem at_end (k : Costs) (X Y : List Nat) {i j : Nat} (hi : X.length ≤ i) (hj : Y.length ≤ j) : at_ k X Y i j = 0 := by
  unfold at_
  rw [List.drop_eq_nil_of_le hi, List.drop_eq_nil_of_le hj]
  simp [cst]
theorem at_low (k : Costs) (X Y : List Nat) {i j : Nat} (hi : X.length ≤ i) (hj : j < Y.length) : at_ k X Y i j = at_ k X Y i (j + 1) + k.into := by
  unfold at_
  rw [List.drop_eq_nil_of_le hi, List.drop_eq_getElem_cons hj]
  rw [cst]
theorem at_right (k : Costs) (X Y : List Nat) {i j : Nat} (hi : i < X.length) (hj : Y.length ≤ j) : at_ k X Y i j = at_ k X Y (i + 1) j + k.out := by
  unfold at_
  rw [List.drop_eq_nil_of_le hj, List.drop_eq_getElem_cons hi]
  rw [cst]
theorem at_mid (k : Costs) (X Y : List Nat) {i j : Nat} (hi : i < X.length) (hj : j < Y.length) :
    at_ k X Y i j = min (at_ k X Y (i + 1) (j + 1) + pairCost k X[i] Y[j]) (min (at_ k X Y (i + 1) j + k.out) (at_ k X Y i (j + 1) + k.into)) := by
  unfold at_
  rw [List.drop_eq_getElem_cons hi, List.drop_eq_getElem_cons hj]
  rw [cst]
def prsAt (k : Costs) (X Y : List Nat) (i j : Nat) : List (Nat × Nat) := prs k (X.drop i) (Y.drop j) i j
theorem prsAt_endl (k : Costs) (X Y : List Nat) {i j : Nat} (hi : X.length ≤ i) : prsAt k X Y i j = [] := by
  unfold prsAt
  rw [List.drop_eq_nil_of_le hi, prs_nil_l]
theorem prsAt_endr (k : Costs) (X Y : List Nat) {i j : Nat} (hj : Y.length ≤ j) : prsAt k X Y i j = [] := by
  unfold prsAt
  rw [List.drop_eq_nil_of_le hj, prs_nil_r]
theorem prsAt_mid (k : Costs) (X Y : List Nat) {i j : Nat} (hi : i < X.length) (hj : j < Y.length) :
    prsAt k X Y i j = if at_ k X Y i j = at_ k X Y (i + 1) (j + 1) + pairCost k X[i] Y[j] then (i, j) :: prsAt k X Y (i + 1) (j + 1)
      else if at_ k X Y i j = at_ k X Y (i + 1) j + k.out then prsAt k X Y (i + 1) j else prsAt k X Y i (j + 1) := by
  unfold prsAt at_
  rw [List.drop_eq_getElem_cons hi, List.drop_eq_getElem_cons hj]
  rw [prs]
theorem beside_pairs (k : Costs) (X Y : List Nat) : Si47.pairsFrom 0 0 (Si38.beside k X Y) = prsAt k X Y 0 0 := by
  rw [beside_eq, pairs_way]
  rfl
theorem cst_le (k : Costs) : ∀ (x y : List Nat), cst k x y ≤ x.length * k.out + y.length * k.into
  | [], [] => by simp [cst]
  | [], b :: y => by
    rw [cst]
    have := cst_le k [] y
    simp only [List.length_cons, Nat.add_mul, List.length_nil] at this ⊢
    omega
  | a :: x, [] => by
    rw [cst]
    have := cst_le k x []
    simp only [List.length_cons, Nat.add_mul, List.length_nil] at this ⊢
    omega
  | a :: x, b :: y => by
    rw [cst]
    have := cst_le k x (b :: y)
    simp only [List.length_cons, Nat.add_mul] at this ⊢
    omega
termination_by x y => x.length + y.length
end Wy
namespace Wy
structure GoodE (e : Si47.Edition) : Prop where
  w1 : 1 ≤ e.words.length
  w80 : e.words.length ≤ 80
  l1 : ∀ n ∈ e.lines, 1 ≤ n
  lt : Si47.total e.lines = e.words.length
  p1 : ∀ n ∈ e.pages, 1 ≤ n
  pt : Si47.total e.pages = e.lines.length
structure Good (s : Si47.St) : Prop where
  eds : ∀ e ∈ s.editions, GoodE e
  four : s.editions.length ≤ 4
  c1 : 1 ≤ s.costs.other ∧ 1 ≤ s.costs.out ∧ 1 ≤ s.costs.into
  c2 : s.costs.other ≤ 100 ∧ s.costs.out ≤ 100 ∧ s.costs.into ≤ 100
theorem good_init : Good Si47.init := ⟨fun e h => (by cases h), by simp [Si47.init], by simp [Si47.init], by simp [Si47.init]⟩
theorem good_there {s : Si47.St} (g : Good s) {k : Nat} (h : Si47.there s k = true) : GoodE (Si47.edition s k) := by
  have hk : k < s.editions.length := of_decide_eq_true h
  have : Si47.edition s k = s.editions[k] := by
    unfold Si47.edition
    rw [List.getD_eq_getElem?_getD, List.getElem?_eq_getElem hk]
    rfl
  rw [this]
  exact g.eds _ (List.getElem_mem hk)
theorem plain_good {w : List Nat} (h : Si47.wordsOk w = true) : GoodE (Si47.plain w) := by
  unfold Si47.wordsOk at h
  simp only [Bool.and_eq_true, decide_eq_true_iff] at h
  obtain ⟨h1, h2, h3⟩ := h
  have h2 : w.length ≤ 80 := h2
  refine ⟨h1, h2, ?_, ?_, ?_, ?_⟩ <;> simp [Si47.plain, Si47.total] <;> omega
theorem total_one : ∀ (n : Nat), Si47.total [n] = n := by simp [Si47.total]
theorem Good.step {s : Si47.St} (g : Good s) (c : Si47.Call) : Good (Si47.step s c).1 := by
  cases c with
  | begins => exact good_init
  | edition w =>
    simp only [Si47.step]
    split
    · exact g
    · split
      · exact g
      · rename_i h1 h2
        have h2 : ¬ 4 ≤ s.editions.length := h2
        refine ⟨fun e h => ?_, ?_, g.c1, g.c2⟩
        · rcases List.mem_append.mp h with h | h
          · exact g.eds e h
          · rw [List.mem_singleton.mp h]
            exact plain_good (by simpa using h1)
        · show (s.editions ++ [Si47.plain w]).length ≤ 4
          rw [List.length_append, List.length_singleton]
          omega
  | lines k l =>
    simp only [Si47.step]
    split
    · exact g
    · split
      · exact g
      · rename_i h1 h2
        have t : Si47.there s k = true := by simpa using h1
        have ge := good_there g t
        simp only [Bool.not_eq_false, Bool.and_eq_true, List.all_eq_true, decide_eq_true_iff, beq_iff_eq] at h2
        refine ⟨fun e h => ?_, ?_, g.c1, g.c2⟩
        · rcases List.mem_or_eq_of_mem_set h with h | h
          · exact g.eds e h
          · subst h
            refine ⟨ge.w1, ge.w80, h2.1, h2.2, ?_, total_one _⟩
            intro n hn
            rw [List.mem_singleton.mp hn]
            rcases l with _ | ⟨a, l⟩
            · have := ge.w1
              have e : Si47.total [] = (Si47.edition s k).words.length := h2.2
              simp [Si47.total] at e
              omega
            · simp
        · show (s.editions.set k _).length ≤ 4
          rw [List.length_set]
          exact g.four
  | pages k l =>
    simp only [Si47.step]
    split
    · exact g
    · split
      · exact g
      · rename_i h1 h2
        have t : Si47.there s k = true := by simpa using h1
        have ge := good_there g t
        simp only [Bool.not_eq_false, Bool.and_eq_true, List.all_eq_true, decide_eq_true_iff, beq_iff_eq] at h2
        refine ⟨fun e h => ?_, ?_, g.c1, g.c2⟩
        · rcases List.mem_or_eq_of_mem_set h with h | h
          · exact g.eds e h
          · subst h
            exact ⟨ge.w1, ge.w80, ge.l1, ge.lt, h2.1, h2.2⟩
        · show (s.editions.set k _).length ≤ 4
          rw [List.length_set]
          exact g.four
  | costs a b c =>
    simp only [Si47.step]
    split
    · exact g
    · exact ⟨g.eds, g.four, by show 1 ≤ a ∧ 1 ≤ b ∧ 1 ≤ c; omega, by show a ≤ 100 ∧ b ≤ 100 ∧ c ≤ 100; omega⟩
  | where_ k i => exact g
  | find k p q m => exact g
  | word k i m => exact g
  | table k m => exact g
  | agree k m => exact g
theorem len_total : ∀ {l : List Nat}, (∀ n ∈ l, 1 ≤ n) → l.length ≤ Si47.total l
  | [], _ => Nat.zero_le _
  | a :: l, h => by
    have h1 := h a (List.mem_cons_self ..)
    have h2 := len_total (l := l) fun n m => h n (List.mem_cons_of_mem _ m)
    simp only [List.length_cons, Si47.total, List.foldr_cons] at h2 ⊢
    omega
theorem GoodE.few {e : Si47.Edition} (g : GoodE e) : e.lines.length ≤ 80 ∧ e.pages.length ≤ 80 := by
  have h1 := len_total g.l1
  have h2 := len_total g.p1
  have := g.lt; have := g.pt; have := g.w80
  omega
theorem spotOut_len (x : Option Si47.Spot) : (Si47.spotOut x).length ≤ 3 := by cases x <;> simp [Si47.spotOut]
theorem ints_len (l : List Nat) : (Si47.ints l).length = l.length := by simp [Si47.ints]
theorem foundOut_len (e : Si47.Edition) (f : Si47.Found) : (Si47.foundOut e f).l.length ≤ 8 := by
  cases f with
  | words n s a b =>
    have h1 := spotOut_len (Si47.spotOf e a)
    have h2 := spotOut_len (Si47.spotOf e b)
    simp only [Si47.foundOut, ints_len, List.length_append, List.length_cons, List.length_nil]
    omega
  | gap i =>
    have h1 := spotOut_len (Si47.spotOf e i)
    simp only [Si47.foundOut, ints_len]
    omega
theorem flat2 (l : List (Nat × Nat)) : (l.flatMap fun x => Si47.ints [x.1, x.2]).length = 2 * l.length := by
  induction l with
  | nil => rfl
  | cons a l ih =>
    rw [List.flatMap_cons, List.length_append, ih, ints_len]
    simp only [List.length_cons, List.length_nil]
    omega
theorem ans_len {s : Si47.St} (g : Good s) (c : Si47.Call) : (Si47.step s c).2.l.length ≤ 160 := by
  cases c with
  | begins => simp [Si47.step, Si47.ok]
  | edition w => simp only [Si47.step]; split <;> (try split) <;> simp [Si47.ok]
  | lines k l => simp only [Si47.step]; split <;> (try split) <;> simp [Si47.ok]
  | pages k l => simp only [Si47.step]; split <;> (try split) <;> simp [Si47.ok]
  | costs a b c => simp only [Si47.step]; split <;> simp [Si47.ok]
  | where_ k i =>
    simp only [Si47.step]
    split
    · simp [Si47.ok]
    · split
      · simp [Si47.ok]
      · rename_i p _
        have := spotOut_len (some p)
        simp only [ints_len]
        omega
  | find k p q m =>
    simp only [Si47.step]
    split
    · simp [Si47.ok]
    · split
      · simp [Si47.ok]
      · rename_i x _
        have := foundOut_len (Si47.edition s m) (Si47.find s k m x.1 x.2)
        omega
  | word k i m =>
    simp only [Si47.step]
    split
    · simp [Si47.ok]
    · split
      · simp [Si47.ok]
      · have := foundOut_len (Si47.edition s m) (Si47.find s k m i 1)
        omega
  | table k m =>
    simp only [Si47.step]
    split
    · simp [Si47.ok]
    · rename_i h
      have t : Si47.there s k = true := by
        have h' := Bool.of_not_eq_false h
        exact (Bool.and_eq_true_iff.mp h').1
      have := (good_there g t).few.2
      simp only [flat2]
      have e : (Si47.pageTable s k m).length = (Si47.edition s k).pages.length := by simp [Si47.pageTable]
      omega
  | agree k m => simp only [Si47.step]; split <;> simp [Si47.ok, Si47.ints]
def zs (l : List Nat) : List Int := l.map fun (n : Nat) => (n : Int)
inductive Is : List (List Int) → Si47.Call → Prop where
  | begins : Is [[0]] .begins
  | edition (w : List Nat) : w.length ≤ 120 → Is [[1], zs w] (.edition w)
  | lines (k : Nat) (l : List Nat) : l.length ≤ 120 → Is [[2, (k : Int)], zs l] (.lines k l)
  | pages (k : Nat) (l : List Nat) : l.length ≤ 120 → Is [[3, (k : Int)], zs l] (.pages k l)
  | costs (a b c : Nat) : Is [[4, (a : Int), (b : Int), (c : Int)]] (.costs a b c)
  | where_ (k i : Nat) : Is [[5, (k : Int), (i : Int)]] (.where_ k i)
  | find (k p q m : Nat) : Is [[6, (k : Int), (p : Int), (q : Int), (m : Int)]] (.find k p q m)
  | word (k i m : Nat) : Is [[7, (k : Int), (i : Int), (m : Int)]] (.word k i m)
  | table (k m : Nat) : Is [[8, (k : Int), (m : Int)]] (.table k m)
  | agree (k m : Nat) : Is [[9, (k : Int), (m : Int)]] (.agree k m)
theorem zs_toNat (l : List Nat) : (zs l).map Int.toNat = l := by
  unfold zs
  rw [List.map_map]
  conv => rhs; rw [← List.map_id l]
  apply List.map_congr_left
  intro a _
  simp
theorem zs_len (l : List Nat) : (zs l).length = l.length := by simp [zs]
theorem Is.step {c : List (List Int)} {q : Si47.Call} (h : Is c q) (s : Si47.St) : Si47Neutral.step s (PySi47.whole c) = ((Si47.step s q).1, (Si47.step s q).2.v :: (Si47.step s q).2.l) := by
  cases h with
  | begins => rfl
  | edition w hw => simp [PySi47.whole, Si47Neutral.step, Si47Neutral.callOf, zs_toNat, hw]
  | lines k l hl => simp [PySi47.whole, Si47Neutral.step, Si47Neutral.callOf, zs_toNat, hl]
  | pages k l hl => simp [PySi47.whole, Si47Neutral.step, Si47Neutral.callOf, zs_toNat, hl]
  | costs a b c => simp [PySi47.whole, Si47Neutral.step, Si47Neutral.callOf]
  | where_ k i => simp [PySi47.whole, Si47Neutral.step, Si47Neutral.callOf]
  | find k p q m => simp [PySi47.whole, Si47Neutral.step, Si47Neutral.callOf]
  | word k i m => simp [PySi47.whole, Si47Neutral.step, Si47Neutral.callOf]
  | table k m => simp [PySi47.whole, Si47Neutral.step, Si47Neutral.callOf]
  | agree k m => simp [PySi47.whole, Si47Neutral.step, Si47Neutral.callOf]
theorem nat_of {x : Int} (h : PyInside.within 0 4294967295 x = true) : ∃ n : Nat, x = (n : Int) := by
  simp only [PyInside.within, Bool.and_eq_true, decide_eq_true_iff] at h
  exact ⟨x.toNat, by omega⟩
theorem zs_of : ∀ {r : List Int}, r.all (PyInside.within 0 4294967295) = true → ∃ l : List Nat, r = zs l
  | [], _ => ⟨[], rfl⟩
  | x :: r, h => by
    simp only [List.all_cons, Bool.and_eq_true] at h
    obtain ⟨n, rfl⟩ := nat_of h.1
    obtain ⟨l, rfl⟩ := zs_of h.2
    exact ⟨n :: l, rfl⟩
theorem row_of {r : List Int} (h : PyInside.lists [(0, 4294967295, 0, 120)] [r] = true) : ∃ l : List Nat, r = zs l ∧ l.length ≤ 120 := by
  simp only [PyInside.lists, Bool.and_eq_true, decide_eq_true_iff] at h
  obtain ⟨l, rfl⟩ := zs_of h.1.2
  exact ⟨l, rfl, by have := h.1.1.2; rw [zs_len] at this; exact this⟩
theorem is_of {c : List (List Int)} (h : PyFlat.okCall PySi47.shape c) (hb : PyInside.call PySi47.bound c = true) : ∃ q, Is c q := by
  obtain ⟨p, a, xs, rfl, hs⟩ := h
  have hb : (PyInside.each (PySi47.bound p).1 a && PyInside.lists (PySi47.bound p).2 xs) = true := hb
  rw [Bool.and_eq_true] at hb
  obtain ⟨hb1, hb2⟩ := hb
  unfold PySi47.shape at hs
  by_cases h0 : p = 0
  · subst h0
    simp at hs
    obtain ⟨e1, e2⟩ := hs
    have e1 := List.length_eq_zero_iff.mp e1.symm; have e2 := List.length_eq_zero_iff.mp e2.symm
    subst e1 e2
    exact ⟨_, .begins⟩
  by_cases h1 : p = 1
  · subst h1
    simp at hs
    obtain ⟨e1, e2⟩ := hs
    match a, xs, e1, e2, hb2 with
    | [], [r], _, _, hb2 =>
      obtain ⟨l, rfl, hl⟩ := row_of hb2
      exact ⟨_, .edition l hl⟩
  by_cases h2 : p = 2
  · subst h2
    simp at hs
    obtain ⟨e1, e2⟩ := hs
    match a, xs, e1, e2, hb1, hb2 with
    | [k], [r], _, _, hb1, hb2 =>
      obtain ⟨l, rfl, hl⟩ := row_of hb2
      have hb1 : (PyInside.within 0 4294967295 k && true) = true := hb1
      simp only [Bool.and_eq_true] at hb1
      obtain ⟨k, rfl⟩ := nat_of hb1.1
      exact ⟨_, .lines k l hl⟩
  by_cases h3 : p = 3
  · subst h3
    simp at hs
    obtain ⟨e1, e2⟩ := hs
    match a, xs, e1, e2, hb1, hb2 with
    | [k], [r], _, _, hb1, hb2 =>
      obtain ⟨l, rfl, hl⟩ := row_of hb2
      have hb1 : (PyInside.within 0 4294967295 k && true) = true := hb1
      simp only [Bool.and_eq_true] at hb1
      obtain ⟨k, rfl⟩ := nat_of hb1.1
      exact ⟨_, .pages k l hl⟩
  by_cases h4 : p = 4
  · subst h4
    simp at hs
    obtain ⟨e1, e2⟩ := hs
    match a, xs, e1, e2, hb1 with
    | [x, y, z], [], _, _, hb1 =>
      have hb1 : (PyInside.within 0 4294967295 x && (PyInside.within 0 4294967295 y && (PyInside.within 0 4294967295 z && true))) = true := hb1
      simp only [Bool.and_eq_true] at hb1
      obtain ⟨x, rfl⟩ := nat_of hb1.1
      obtain ⟨y, rfl⟩ := nat_of hb1.2.1
      obtain ⟨z, rfl⟩ := nat_of hb1.2.2.1
      exact ⟨_, .costs x y z⟩
  by_cases h5 : p = 5
  · subst h5
    simp at hs
    obtain ⟨e1, e2⟩ := hs
    match a, xs, e1, e2, hb1 with
    | [x, y], [], _, _, hb1 =>
      have hb1 : (PyInside.within 0 4294967295 x && (PyInside.within 0 4294967295 y && true)) = true := hb1
      simp only [Bool.and_eq_true] at hb1
      obtain ⟨x, rfl⟩ := nat_of hb1.1
      obtain ⟨y, rfl⟩ := nat_of hb1.2.1
      exact ⟨_, .where_ x y⟩
  by_cases h6 : p = 6
  · subst h6
    simp at hs
    obtain ⟨e1, e2⟩ := hs
    match a, xs, e1, e2, hb1 with
    | [x, y, z, u], [], _, _, hb1 =>
      have hb1 : (PyInside.within 0 4294967295 x && (PyInside.within 0 4294967295 y && (PyInside.within 0 4294967295 z && (PyInside.within 0 4294967295 u && true)))) = true := hb1
      simp only [Bool.and_eq_true] at hb1
      obtain ⟨x, rfl⟩ := nat_of hb1.1
      obtain ⟨y, rfl⟩ := nat_of hb1.2.1
      obtain ⟨z, rfl⟩ := nat_of hb1.2.2.1
      obtain ⟨u, rfl⟩ := nat_of hb1.2.2.2.1
      exact ⟨_, .find x y z u⟩
  by_cases h7 : p = 7
  · subst h7
    simp at hs
    obtain ⟨e1, e2⟩ := hs
    match a, xs, e1, e2, hb1 with
    | [x, y, z], [], _, _, hb1 =>
      have hb1 : (PyInside.within 0 4294967295 x && (PyInside.within 0 4294967295 y && (PyInside.within 0 4294967295 z && true))) = true := hb1
      simp only [Bool.and_eq_true] at hb1
      obtain ⟨x, rfl⟩ := nat_of hb1.1
      obtain ⟨y, rfl⟩ := nat_of hb1.2.1
      obtain ⟨z, rfl⟩ := nat_of hb1.2.2.1
      exact ⟨_, .word x y z⟩
  by_cases h8 : p = 8
  · subst h8
    simp at hs
    obtain ⟨e1, e2⟩ := hs
    match a, xs, e1, e2, hb1 with
    | [x, y], [], _, _, hb1 =>
      have hb1 : (PyInside.within 0 4294967295 x && (PyInside.within 0 4294967295 y && true)) = true := hb1
      simp only [Bool.and_eq_true] at hb1
      obtain ⟨x, rfl⟩ := nat_of hb1.1
      obtain ⟨y, rfl⟩ := nat_of hb1.2.1
      exact ⟨_, .table x y⟩
  by_cases h9 : p = 9
  · subst h9
    simp at hs
    obtain ⟨e1, e2⟩ := hs
    match a, xs, e1, e2, hb1 with
    | [x, y], [], _, _, hb1 =>
      have hb1 : (PyInside.within 0 4294967295 x && (PyInside.within 0 4294967295 y && true)) = true := hb1
      simp only [Bool.and_eq_true] at hb1
      obtain ⟨x, rfl⟩ := nat_of hb1.1
      obtain ⟨y, rfl⟩ := nat_of hb1.2.1
      exact ⟨_, .agree x y⟩
  simp [h0, h1, h2, h3, h4, h5, h6, h7, h8, h9] at hs
theorem asked_calls {ns : List Int} (h : PySi47.answers_asked ns = true) : ∃ cs, ns = PyFlat.put cs ∧ (∀ c ∈ cs, ∃ q, Is c q) ∧ cs.length ≤ 60 ∧ PySi47.answers ns = PyFlat.told (PyFlat.played Si47Neutral.step Si47Neutral.start (cs.map PySi47.whole)) := by
  unfold PySi47.answers_asked at h
  unfold PySi47.answers PySi47.calls
  cases e : PyFlat.calls PySi47.shape ns.length ns with
  | none => rw [e] at h; cases h
  | some cs =>
    rw [e] at h
    simp only [Bool.and_eq_true] at h
    obtain ⟨h1, h2⟩ := PyFlat.put_calls _ _ _ e
    refine ⟨cs, h1, fun c hc => is_of (h2 c hc) ?_, of_decide_eq_true h.1.1, rfl⟩
    exact List.all_eq_true.mp h.1.2 c hc
end Wy
namespace Wy
open Si47 (total stretchAt)
theorem total_cons (a : Nat) (l : List Nat) : total (a :: l) = a + total l := rfl
theorem total_append (a b : List Nat) : total (a ++ b) = total a + total b := by
  induction a with
  | nil => simp [total]
  | cons x a ih => rw [List.cons_append, total_cons, total_cons, ih]; omega
theorem total_take_succ {l : List Nat} {i n : Nat} (h : l[i]? = some n) : total (l.take (i + 1)) = total (l.take i) + n := by
  rw [List.take_add_one, h, total_append]
  simp [total]
theorem total_take_le (l : List Nat) (i : Nat) : total (l.take i) ≤ total l := by
  have h := congrArg total (List.take_append_drop i l)
  rw [total_append] at h
  omega
theorem total_take_mono (l : List Nat) {i j : Nat} (h : i ≤ j) : total (l.take i) ≤ total (l.take j) := by
  have := total_take_le (l.take j) i
  rw [List.take_take, Nat.min_eq_left h] at this
  exact this
theorem total_take_add (l : List Nat) (a n : Nat) : total (l.take (a + n)) = total (l.take a) + total ((l.drop a).take n) := by
  rw [List.take_add, total_append]
theorem stretch_at : ∀ (l : List Nat) (k p i : Nat), p < l.length → total (l.take p) ≤ i → i < total (l.take (p + 1)) → stretchAt k l i = some (k + p, i - total (l.take p))
  | [], _, _, _, h, _, _ => by simp at h
  | n :: l, k, 0, i, _, _, h => by
    have h : i < n := by simpa [total] using h
    simp [stretchAt, h, total]
  | n :: l, k, p + 1, i, hp, h1, h2 => by
    rw [List.take_succ_cons, total_cons] at h1 h2
    have hi : ¬ i < n := by omega
    have hp : p < l.length := by simpa using hp
    rw [stretchAt, if_neg hi, stretch_at l (k + 1) p (i - n) hp (by omega) (by omega), List.take_succ_cons, total_cons]
    congr 2
    · omega
    · omega
theorem stretch_none : ∀ (l : List Nat) (k i : Nat), total l ≤ i → stretchAt k l i = none
  | [], _, _, _ => rfl
  | n :: l, k, i, h => by
    rw [total_cons] at h
    rw [stretchAt, if_neg (by omega), stretch_none l (k + 1) (i - n) (by omega)]
theorem stretch_ex : ∀ (l : List Nat) (i : Nat), i < total l → ∃ p, p < l.length ∧ total (l.take p) ≤ i ∧ i < total (l.take (p + 1))
  | [], i, h => by simp [total] at h
  | n :: l, i, h => by
    rw [total_cons] at h
    by_cases hi : i < n
    · exact ⟨0, by simp, by simp [total], by simpa [total] using hi⟩
    · obtain ⟨p, h1, h2, h3⟩ := stretch_ex l (i - n) (by omega)
      refine ⟨p + 1, by simpa using h1, ?_, ?_⟩ <;> rw [List.take_succ_cons, total_cons] <;> omega
theorem spot_none {e : Si47.Edition} (g : GoodE e) {i : Nat} (h : e.words.length ≤ i) : Si47.spotOf e i = none := by
  unfold Si47.spotOf
  rw [stretch_none _ _ _ (by rw [g.lt]; exact h)]
  rfl
theorem spot_at {e : Si47.Edition} {i p q : Nat} (h1 : p < e.lines.length) (h2 : total (e.lines.take p) ≤ i) (h3 : i < total (e.lines.take (p + 1))) (h4 : q < e.pages.length) (h5 : total (e.pages.take q) ≤ p) (h6 : p < total (e.pages.take (q + 1))) :
    Si47.spotOf e i = some ⟨q, p - total (e.pages.take q), i - total (e.lines.take p)⟩ := by
  unfold Si47.spotOf
  rw [stretch_at _ _ p i h1 h2 h3]
  simp only [Option.bind_some, Nat.zero_add]
  rw [stretch_at _ _ q p h4 h5 h6]
  simp
def Up (ps : List (Nat × Nat)) : Prop := ps.Pairwise fun p q => p.1 < q.1 ∧ p.2 < q.2
theorem Up.swap {ps : List (Nat × Nat)} (h : Up ps) : Up (ps.map fun x => (x.2, x.1)) := by
  unfold Up at h ⊢
  rw [List.pairwise_map]
  exact h.imp fun h => ⟨h.2, h.1⟩
theorem prsAt_up (k : Si38.Costs) (X Y : List Nat) : Up (prsAt k X Y 0 0) := prs_up k _ _ 0 0
theorem prsAt_in (k : Si38.Costs) (X Y : List Nat) : ∀ p ∈ prsAt k X Y 0 0, p.1 < X.length ∧ p.2 < Y.length := fun p h => by
  have := prs_in k _ _ 0 0 p h
  simp only [List.drop_zero] at this
  omega
theorem pairs_up (s : Si47.St) (k m : Nat) : Up (Si47.pairs s k m) := by
  unfold Si47.pairs
  split
  · unfold Up
    rw [List.pairwise_map]
    exact List.pairwise_lt_range.imp fun h => ⟨h, h⟩
  · split
    · rw [beside_pairs]; exact prsAt_up ..
    · rw [beside_pairs]; exact (prsAt_up ..).swap
theorem pairs_in (s : Si47.St) (k m : Nat) : ∀ p ∈ Si47.pairs s k m, p.1 < (Si47.edition s k).words.length ∧ p.2 < (Si47.edition s m).words.length := by
  unfold Si47.pairs
  split
  · rename_i e
    subst e
    intro p h
    obtain ⟨i, hi, rfl⟩ := List.mem_map.mp h
    have := List.mem_range.mp hi
    exact ⟨this, this⟩
  · split
    · rw [beside_pairs]; exact prsAt_in _ _ _
    · rw [beside_pairs]
      intro p h
      obtain ⟨q, hq, rfl⟩ := List.mem_map.mp h
      have := prsAt_in _ _ _ q hq
      exact ⟨this.2, this.1⟩
def pts (ps : List (Nat × Nat)) (n : Nat) : List (Option Nat) := (List.range n).map fun i => ps.lookup i
theorem pts_len (ps : List (Nat × Nat)) (n : Nat) : (pts ps n).length = n := by simp [pts]
theorem lookup_no {i : Nat} : ∀ {ps : List (Nat × Nat)}, (∀ q ∈ ps, q.1 ≠ i) → ps.lookup i = none
  | [], _ => rfl
  | (a, b) :: ps, h => by
    have h1 : a ≠ i := h (a, b) (List.mem_cons_self ..)
    rw [List.lookup_cons, beq_false_of_ne (Ne.symm h1)]
    exact lookup_no fun q m => h q (List.mem_cons_of_mem _ m)
theorem lookup_hit (i b : Nat) (ps : List (Nat × Nat)) : ((i, b) :: ps).lookup i = some b := by
  rw [List.lookup_cons, beq_self_eq_true]
theorem lookup_miss {i a : Nat} (b : Nat) (ps : List (Nat × Nat)) (h : a ≠ i) : ((a, b) :: ps).lookup i = ps.lookup i := by
  rw [List.lookup_cons, beq_false_of_ne (Ne.symm h)]
def puts (l : List (Option Nat)) (ps : List (Nat × Nat)) : List (Option Nat) := ps.foldl (fun l p => l.set p.1 (some p.2)) l
theorem puts_at : ∀ {ps : List (Nat × Nat)}, Up ps → ∀ (l : List (Option Nat)) (i : Nat), i < l.length → (puts l ps)[i]? = match ps.lookup i with | some j => some (some j) | none => l[i]?
  | [], _, l, i, h => by simp [puts]
  | (a, b) :: ps, u, l, i, h => by
    have u' := List.pairwise_cons.mp u
    show (puts (l.set a (some b)) ps)[i]? = _
    rw [puts_at u'.2 _ i (by rw [List.length_set]; exact h)]
    by_cases e : a = i
    · subst e
      rw [lookup_hit, lookup_no fun q m => Nat.ne_of_gt (u'.1 q m).1]
      simp [h]
    · rw [lookup_miss b ps e]
      split
      · rfl
      · rw [List.getElem?_set_ne e]
theorem puts_len (ps : List (Nat × Nat)) : ∀ (l : List (Option Nat)), (puts l ps).length = l.length := by
  induction ps with
  | nil => intro l; rfl
  | cons p ps ih => intro l; show (puts (l.set p.1 (some p.2)) ps).length = _; rw [ih, List.length_set]
theorem puts_eq {ps : List (Nat × Nat)} (u : Up ps) (n : Nat) : puts (List.replicate n none) ps = pts ps n := by
  apply List.ext_getElem?
  intro i
  by_cases h : i < n
  · rw [puts_at u _ i (by simpa using h)]
    unfold pts
    rw [List.getElem?_map, List.getElem?_range h]
    cases e : ps.lookup i <;> simp [h, e]
  · rw [List.getElem?_eq_none (by rw [puts_len]; simpa using h), List.getElem?_eq_none (by rw [pts_len]; omega)]
theorem split_filter {ps : List (Nat × Nat)} (a n : Nat) : Up ps → ps.filter (fun x => decide (a ≤ x.1) && decide (x.1 < a + (n + 1))) = ps.filter (fun x => decide (a ≤ x.1) && decide (x.1 < a + n)) ++ ((ps.lookup (a + n)).map fun j => (a + n, j)).toList := by
  induction ps with
  | nil => intro _; rfl
  | cons p ps ih =>
    intro u
    have u' := List.pairwise_cons.mp u
    obtain ⟨x, y⟩ := p
    have big : a + n ≤ x → (∀ q ∈ ps, a + n < q.1) := fun h q m => Nat.lt_of_le_of_lt h (u'.1 q m).1
    by_cases h1 : x < a
    · rw [List.filter_cons_of_neg (by simp; omega), List.filter_cons_of_neg (by simp; omega), lookup_miss _ _ (by omega), ih u'.2]
    by_cases h2 : x < a + n
    · rw [List.filter_cons_of_pos (by simp; omega), List.filter_cons_of_pos (by simp; omega), lookup_miss _ _ (by omega), ih u'.2, List.cons_append]
    have hb := big (by omega)
    have e1 : ps.filter (fun x => decide (a ≤ x.1) && decide (x.1 < a + (n + 1))) = [] := List.filter_eq_nil_iff.mpr fun q m => by have := hb q m; simp; omega
    have e2 : ps.filter (fun x => decide (a ≤ x.1) && decide (x.1 < a + n)) = [] := List.filter_eq_nil_iff.mpr fun q m => by have := hb q m; simp; omega
    by_cases h3 : x = a + n
    · subst h3
      rw [List.filter_cons_of_pos (by simp), List.filter_cons_of_neg (by simp), lookup_hit, e1, e2]
      rfl
    · rw [List.filter_cons_of_neg (by simp; omega), List.filter_cons_of_neg (by simp; omega), lookup_miss _ _ h3, e1, e2, lookup_no fun q m => Nat.ne_of_gt (hb q m)]
      rfl
theorem filter_range {ps : List (Nat × Nat)} (u : Up ps) (a : Nat) : ∀ n, Si47.pairsIn ps a n = (List.range' a n).filterMap fun i => (ps.lookup i).map fun j => (i, j)
  | 0 => by
    unfold Si47.pairsIn
    rw [List.range'_zero, List.filterMap_nil, List.filter_eq_nil_iff]
    intro q _
    simp <;> omega
  | n + 1 => by
    have := filter_range u a n
    unfold Si47.pairsIn at this ⊢
    rw [split_filter a n u, this, List.range'_1_concat, List.filterMap_append]
    congr 1
theorem pts_slice (ps : List (Nat × Nat)) {n a b : Nat} (h : a + b ≤ n) : ((pts ps n).drop a).take b = (List.range' a b).map fun i => ps.lookup i := by
  apply List.ext_getElem
  · simp [pts]; omega
  · intro i h1 h2
    simp [pts]
def those (l : List (Option Nat)) : List Nat := l.filterMap id
theorem those_pts {ps : List (Nat × Nat)} (u : Up ps) {n a b : Nat} (h : a + b ≤ n) : those (((pts ps n).drop a).take b) = (Si47.pairsIn ps a b).map fun x => x.2 := by
  rw [pts_slice ps h, filter_range u]
  unfold those
  rw [List.filterMap_map, List.map_filterMap]
  congr 1
  funext i
  simp only [Function.comp, id]
  cases ps.lookup i <;> rfl
theorem those_take {ps : List (Nat × Nat)} (u : Up ps) {n b : Nat} (h : b ≤ n) : those ((pts ps n).take b) = (Si47.pairsIn ps 0 b).map fun x => x.2 := by
  have := those_pts u (n := n) (a := 0) (b := b) (by omega)
  simpa using this
theorem pairsIn_all {ps : List (Nat × Nat)} {n : Nat} (h : ∀ p ∈ ps, p.1 < n) : Si47.pairsIn ps 0 n = ps := by
  unfold Si47.pairsIn
  rw [List.filter_eq_self]
  intro p m
  simp [h p m]
theorem ahead_eq (ps : List (Nat × Nat)) (a : Nat) : Si47.ahead ps a = (((Si47.pairsIn ps 0 a).map fun x => x.2).getLast?.map fun j => j + 1).getD 0 := by
  unfold Si47.ahead Si47.pairsIn
  have e : (ps.filter fun x => decide (0 ≤ x.1) && decide (x.1 < 0 + a)) = ps.filter fun x => decide (x.1 < a) := by
    congr 1
    funext x
    simp
  rw [e, List.getLast?_map, Option.map_map]
  rfl
def cnt (us : List Nat) : List Nat → List (Option Nat) → Nat
  | w :: ws, some j :: l => (if us.getD j 0 = w then 1 else 0) + cnt us ws l
  | _ :: ws, none :: l => cnt us ws l
  | _, _ => 0
theorem cnt_range (us W : List Nat) (f : Nat → Option Nat) : ∀ (b a : Nat), a + b ≤ W.length →
    cnt us ((W.drop a).take b) ((List.range' a b).map f) = (((List.range' a b).filterMap fun i => (f i).map fun j => (i, j)).filter fun z => W.getD z.1 0 == us.getD z.2 0).length
  | 0, a, _ => by simp [cnt]
  | b + 1, a, h => by
    have ih := cnt_range us W f b (a + 1) (by omega)
    have ha : a < W.length := by omega
    rw [List.drop_eq_getElem_cons ha, List.take_succ_cons, List.range'_succ, List.map_cons, List.filterMap_cons]
    cases e : f a with
    | none =>
      simp only [Option.map_none]
      rw [cnt, ih]
    | some j =>
      simp only [Option.map_some]
      rw [cnt, ih, List.filter_cons]
      have eW : W.getD a 0 = W[a] := by simp [ha]
      by_cases q : us.getD j 0 = W[a]
      · rw [if_pos q, if_pos (by simp only [eW, q]; exact beq_self_eq_true _), List.length_cons]
        omega
      · rw [if_neg q, if_neg (by simp only [eW, beq_iff_eq]; exact fun z => q z.symm)]
        omega
theorem cnt_pts (us W : List Nat) {ps : List (Nat × Nat)} (u : Up ps) {n a b : Nat} (h : a + b ≤ n) (hW : n ≤ W.length) :
    cnt us ((W.drop a).take b) (((pts ps n).drop a).take b) = ((Si47.pairsIn ps a b).filter fun z => W.getD z.1 0 == us.getD z.2 0).length := by
  rw [pts_slice ps h, cnt_range us W _ b a (by omega), filter_range u]
theorem cnt_step (us ws : List Nat) (l : List (Option Nat)) {i w : Nat} {o : Option Nat} (h1 : ws[i]? = some w) (h2 : l[i]? = some o) :
    cnt us (ws.drop i) (l.drop i) = (match o with | some j => if us.getD j 0 = w then 1 else 0 | none => 0) + cnt us (ws.drop (i + 1)) (l.drop (i + 1)) := by
  obtain ⟨q1, e1⟩ := List.getElem?_eq_some_iff.mp h1
  obtain ⟨q2, e2⟩ := List.getElem?_eq_some_iff.mp h2
  rw [List.drop_eq_getElem_cons q1, List.drop_eq_getElem_cons q2, e1, e2]
  cases o with
  | none => rw [cnt]; simp
  | some j => rw [cnt]
theorem cnt_end (us ws : List Nat) (l : List (Option Nat)) {i : Nat} (h : ws.length ≤ i ∨ l.length ≤ i) : cnt us (ws.drop i) (l.drop i) = 0 := by
  rcases h with h | h
  · rw [List.drop_eq_nil_of_le h]; simp [cnt]
  · rw [List.drop_eq_nil_of_le (as := l) h]
    cases ws.drop i <;> simp [cnt]
theorem find_nil {s : Si47.St} {k m a n : Nat} (h : Si47.pairsIn (Si47.pairs s k m) a n = []) : Si47.find s k m a n = .gap (Si47.ahead (Si47.pairs s k m) a) := by
  unfold Si47.find
  simp [h]
theorem find_cons {s : Si47.St} {k m a n : Nat} {x : Nat × Nat} {r : List (Nat × Nat)} (h : Si47.pairsIn (Si47.pairs s k m) a n = x :: r) :
    Si47.find s k m a n = .words (Si47.pairsIn (Si47.pairs s k m) a n).length ((Si47.pairsIn (Si47.pairs s k m) a n).filter fun z => (Si47.edition s k).words.getD z.1 0 == (Si47.edition s m).words.getD z.2 0).length x.2 ((x :: r).getLast (by simp)).2 := by
  unfold Si47.find
  simp only [h, List.head?_cons, List.getLast?_eq_some_getLast (List.cons_ne_nil x r)]
theorem lineOf_some {e : Si47.Edition} {p q n : Nat} (h1 : e.pages[p]? = some n) (h2 : q < n) : Si47.lineOf e p q = some (total (e.pages.take p) + q) := by
  unfold Si47.lineOf
  rw [h1]
  simp [h2]
theorem line_in {e : Si47.Edition} (g : GoodE e) {p q n : Nat} (h1 : e.pages[p]? = some n) (h2 : q < n) : total (e.pages.take p) + q < e.lines.length := by
  have h3 := total_take_succ h1
  have h4 := total_take_le e.pages (p + 1)
  have := g.pt
  omega
theorem wordsOf_some {e : Si47.Edition} (g : GoodE e) {p q n : Nat} (h1 : e.pages[p]? = some n) (h2 : q < n) :
    Si47.wordsOf e p q = some (total (e.lines.take (total (e.pages.take p) + q)), total (e.lines.take (total (e.pages.take p) + (q + 1))) - total (e.lines.take (total (e.pages.take p) + q))) := by
  have hl := line_in g h1 h2
  unfold Si47.wordsOf
  rw [lineOf_some h1 h2, Option.bind_some, List.getElem?_eq_getElem hl, Option.map_some]
  have := total_take_succ (List.getElem?_eq_getElem hl)
  rw [show total (e.pages.take p) + (q + 1) = total (e.pages.take p) + q + 1 by omega]
  congr 2
  omega
theorem pageWords_some {e : Si47.Edition} {p n : Nat} (h1 : e.pages[p]? = some n) :
    Si47.pageWords e p = some (total (e.lines.take (total (e.pages.take p))), total (e.lines.take (total (e.pages.take (p + 1)))) - total (e.lines.take (total (e.pages.take p)))) := by
  unfold Si47.pageWords
  rw [h1, Option.map_some]
  have h2 := total_take_succ h1
  have h3 := total_take_add e.lines (total (e.pages.take p)) n
  rw [h2, h3, Nat.add_sub_cancel_left]
theorem words_le {e : Si47.Edition} (g : GoodE e) (a : Nat) : total (e.lines.take a) ≤ e.words.length := by
  have := total_take_le e.lines a
  have := g.lt
  omega
end Wy
namespace Ed
open PySem PySem.Spec PyProof.Rows L2
section
variable {X : Cx}
theorem pe_gi {x : Str} {i : Int} {pos : Pos} (hg : Gl X x) (hm : ∃ t, X.mg x = some (.int i t)) (hd : (x == ("__debug__" : Str)) = false := by decide) : PE X (.Name x pos) (tC (.int i)) :=
  let ⟨t, e⟩ := hm
  pe_glob hg e ⟨t, rfl⟩ hd
theorem pe_gr {x : Str} {a : Addr} {pos : Pos} (hg : Gl X x) (hm : X.mg x = some (.ref a)) (hd : (x == ("__debug__" : Str)) = false := by decide) : PE X (.Name x pos) (tC (.ref a)) := pe_glob hg hm (show RelV (.ref a) (.ref a) from rfl) hd
end
theorem bt_len : bootBuiltins "len" = some (.builtin "len") := by decide +kernel
theorem bt_min : bootBuiltins "min" = some (.builtin "min") := by decide +kernel
theorem bt_max : bootBuiltins "max" = some (.builtin "max") := by decide +kernel
theorem bt_sum : bootBuiltins "sum" = some (.builtin "sum") := by decide +kernel
theorem bt_abs : bootBuiltins "abs" = some (.builtin "abs") := by decide +kernel
theorem bt_any : bootBuiltins "any" = some (.builtin "any") := by decide +kernel
theorem bt_all : bootBuiltins "all" = some (.builtin "all") := by decide +kernel
theorem bt_range : bootBuiltins "range" = some (.type "range") := by decide +kernel
theorem bt_list : bootBuiltins "list" = some (.type "list") := by decide +kernel
theorem bt_tuple : bootBuiltins "tuple" = some (.type "tuple") := by decide +kernel
theorem bt_int : bootBuiltins "int" = some (.type "int") := by decide +kernel
end Ed
namespace Ed
open PySem PySem.Spec PyProof.Rows L2
def top (i : Nat) : Stmt := PySem.Challenge.pw_twoeditions_s01_answers.main.body.getD i (.Pass ⟨0, 0, 0, 0⟩)
abbrev s_start_of : Stmt := top 1
abbrev s_part_holding : Stmt := top 2
abbrev s_Edition_init : Stmt := inClass (top 3) 0
abbrev s_Edition_has_word : Stmt := inClass (top 3) 1
abbrev s_Edition_has_line : Stmt := inClass (top 3) 2
abbrev s_Edition_line_start : Stmt := inClass (top 3) 3
abbrev s_Edition_page_start : Stmt := inClass (top 3) 4
abbrev s_Edition_page_of : Stmt := inClass (top 3) 5
abbrev s_Edition_place_of : Stmt := inClass (top 3) 6
abbrev s_Way_init : Stmt := inClass (top 5) 0
abbrev s_Way_pair_cost : Stmt := inClass (top 5) 1
abbrev s_Way_rests_from : Stmt := inClass (top 5) 2
abbrev s_Way_all_rests : Stmt := inClass (top 5) 3
abbrev s_Way_pairs : Stmt := inClass (top 5) 4
abbrev s_partners_by : Stmt := top 7
abbrev s_find_partners : Stmt := top 8
abbrev s_those_there : Stmt := top 9
abbrev s_count_same : Stmt := top 10
abbrev s_gap_behind : Stmt := top 11
abbrev s_are_words : Stmt := top 22
abbrev s_make_whole : Stmt := top 23
abbrev s_Shelf_init : Stmt := inClass (top 24) 0
abbrev s_Shelf_begin : Stmt := inClass (top 24) 1
abbrev s_Shelf_has_edition : Stmt := inClass (top 24) 2
abbrev s_Shelf_has_both : Stmt := inClass (top 24) 3
abbrev s_Shelf_partners_of : Stmt := inClass (top 24) 4
abbrev s_Shelf_add_edition : Stmt := inClass (top 24) 5
abbrev s_Shelf_set_lines : Stmt := inClass (top 24) 6
abbrev s_Shelf_set_pages : Stmt := inClass (top 24) 7
abbrev s_Shelf_set_costs : Stmt := inClass (top 24) 8
abbrev s_Shelf_where : Stmt := inClass (top 24) 9
abbrev s_Shelf_find_line : Stmt := inClass (top 24) 10
abbrev s_Shelf_find_word : Stmt := inClass (top 24) 11
abbrev s_Shelf_find_words : Stmt := inClass (top 24) 12
abbrev s_Shelf_table : Stmt := inClass (top 24) 13
abbrev s_Shelf_agree : Stmt := inClass (top 24) 14
abbrev s_Reader_init : Stmt := inClass (top 37) 0
abbrev s_Reader_has_more : Stmt := inClass (top 37) 1
abbrev s_Reader_take_number : Stmt := inClass (top 37) 2
abbrev s_Reader_take_row : Stmt := inClass (top 37) 3
abbrev s_answer_counts : Stmt := top 38
abbrev s_answer_costs : Stmt := top 39
abbrev s_answer_place : Stmt := top 40
abbrev s_answer_line : Stmt := top 41
abbrev s_answer_whole : Stmt := top 42
abbrev s_answer_asked : Stmt := top 43
abbrev s_answer_call : Stmt := top 44
abbrev s_answers : Stmt := top 45
structure Ad where
  a_Edition : Addr
  a_Way : Addr
  a_Shelf : Addr
  a_Reader : Addr
  t_FIRST_COSTS : Addr
  f_start_of : Addr
  d_start_of : FuncData
  f_part_holding : Addr
  d_part_holding : FuncData
  f_Edition_init : Addr
  d_Edition_init : FuncData
  f_Edition_has_word : Addr
  d_Edition_has_word : FuncData
  f_Edition_has_line : Addr
  d_Edition_has_line : FuncData
  f_Edition_line_start : Addr
  d_Edition_line_start : FuncData
  f_Edition_page_start : Addr
  d_Edition_page_start : FuncData
  f_Edition_page_of : Addr
  d_Edition_page_of : FuncData
  f_Edition_place_of : Addr
  d_Edition_place_of : FuncData
  f_Way_init : Addr
  d_Way_init : FuncData
  f_Way_pair_cost : Addr
  d_Way_pair_cost : FuncData
  f_Way_rests_from : Addr
  d_Way_rests_from : FuncData
  f_Way_all_rests : Addr
  d_Way_all_rests : FuncData
  f_Way_pairs : Addr
  d_Way_pairs : FuncData
  f_partners_by : Addr
  d_partners_by : FuncData
  f_find_partners : Addr
  d_find_partners : FuncData
  f_those_there : Addr
  d_those_there : FuncData
  f_count_same : Addr
  d_count_same : FuncData
  f_gap_behind : Addr
  d_gap_behind : FuncData
  f_are_words : Addr
  d_are_words : FuncData
  f_make_whole : Addr
  d_make_whole : FuncData
  f_Shelf_init : Addr
  d_Shelf_init : FuncData
  f_Shelf_begin : Addr
  d_Shelf_begin : FuncData
  f_Shelf_has_edition : Addr
  d_Shelf_has_edition : FuncData
  f_Shelf_has_both : Addr
  d_Shelf_has_both : FuncData
  f_Shelf_partners_of : Addr
  d_Shelf_partners_of : FuncData
  f_Shelf_add_edition : Addr
  d_Shelf_add_edition : FuncData
  f_Shelf_set_lines : Addr
  d_Shelf_set_lines : FuncData
  f_Shelf_set_pages : Addr
  d_Shelf_set_pages : FuncData
  f_Shelf_set_costs : Addr
  d_Shelf_set_costs : FuncData
  f_Shelf_where : Addr
  d_Shelf_where : FuncData
  f_Shelf_find_line : Addr
  d_Shelf_find_line : FuncData
  f_Shelf_find_word : Addr
  d_Shelf_find_word : FuncData
  f_Shelf_find_words : Addr
  d_Shelf_find_words : FuncData
  f_Shelf_table : Addr
  d_Shelf_table : FuncData
  f_Shelf_agree : Addr
  d_Shelf_agree : FuncData
  f_Reader_init : Addr
  d_Reader_init : FuncData
  f_Reader_has_more : Addr
  d_Reader_has_more : FuncData
  f_Reader_take_number : Addr
  d_Reader_take_number : FuncData
  f_Reader_take_row : Addr
  d_Reader_take_row : FuncData
  f_answer_counts : Addr
  d_answer_counts : FuncData
  f_answer_costs : Addr
  d_answer_costs : FuncData
  f_answer_place : Addr
  d_answer_place : FuncData
  f_answer_line : Addr
  d_answer_line : FuncData
  f_answer_whole : Addr
  d_answer_whole : FuncData
  f_answer_asked : Addr
  d_answer_asked : FuncData
  f_answer_call : Addr
  d_answer_call : FuncData
  f_answers : Addr
  d_answers : FuncData
structure Tx (K : PySem.W.Frag) (mg : Str → Option Value) (A : Ad) : Prop where
  c_Edition : Cls K A.a_Edition
  m_Edition : mg "Edition" = some (.ref A.a_Edition)
  k_Edition : Mk K A.a_Edition A.f_Edition_init
  n_Edition_line_sizes : NoAttr K A.a_Edition "line_sizes"
  n_Edition_page_sizes : NoAttr K A.a_Edition "page_sizes"
  n_Edition_words : NoAttr K A.a_Edition "words"
  c_Way : Cls K A.a_Way
  m_Way : mg "Way" = some (.ref A.a_Way)
  k_Way : Mk K A.a_Way A.f_Way_init
  n_Way_first : NoAttr K A.a_Way "first"
  n_Way_into : NoAttr K A.a_Way "into"
  n_Way_other : NoAttr K A.a_Way "other"
  n_Way_out : NoAttr K A.a_Way "out"
  n_Way_second : NoAttr K A.a_Way "second"
  c_Shelf : Cls K A.a_Shelf
  m_Shelf : mg "Shelf" = some (.ref A.a_Shelf)
  k_Shelf : Mk K A.a_Shelf A.f_Shelf_init
  n_Shelf_costs : NoAttr K A.a_Shelf "costs"
  n_Shelf_editions : NoAttr K A.a_Shelf "editions"
  c_Reader : Cls K A.a_Reader
  m_Reader : mg "Reader" = some (.ref A.a_Reader)
  k_Reader : Mk K A.a_Reader A.f_Reader_init
  n_Reader_calls : NoAttr K A.a_Reader "calls"
  n_Reader_position : NoAttr K A.a_Reader "position"
  F_start_of : Fun K "start_of" "start_of" s_start_of A.f_start_of A.d_start_of
  b_start_of : Binds K A.d_start_of ["sizes", "part"] []
  m_start_of : mg "start_of" = some (.ref A.f_start_of)
  F_part_holding : Fun K "part_holding" "part_holding" s_part_holding A.f_part_holding A.d_part_holding
  b_part_holding : Binds K A.d_part_holding ["sizes", "number"] []
  m_part_holding : mg "part_holding" = some (.ref A.f_part_holding)
  F_Edition_init : Fun K "__init__" "Edition.__init__" s_Edition_init A.f_Edition_init A.d_Edition_init
  b_Edition_init : Binds K A.d_Edition_init ["self", "words"] []
  F_Edition_has_word : Fun K "has_word" "Edition.has_word" s_Edition_has_word A.f_Edition_has_word A.d_Edition_has_word
  b_Edition_has_word : Binds K A.d_Edition_has_word ["self", "word"] []
  M_Edition_has_word : Meth K A.a_Edition "has_word" A.f_Edition_has_word
  F_Edition_has_line : Fun K "has_line" "Edition.has_line" s_Edition_has_line A.f_Edition_has_line A.d_Edition_has_line
  b_Edition_has_line : Binds K A.d_Edition_has_line ["self", "page", "line"] []
  M_Edition_has_line : Meth K A.a_Edition "has_line" A.f_Edition_has_line
  F_Edition_line_start : Fun K "line_start" "Edition.line_start" s_Edition_line_start A.f_Edition_line_start A.d_Edition_line_start
  b_Edition_line_start : Binds K A.d_Edition_line_start ["self", "page", "line"] []
  M_Edition_line_start : Meth K A.a_Edition "line_start" A.f_Edition_line_start
  F_Edition_page_start : Fun K "page_start" "Edition.page_start" s_Edition_page_start A.f_Edition_page_start A.d_Edition_page_start
  b_Edition_page_start : Binds K A.d_Edition_page_start ["self", "page"] []
  M_Edition_page_start : Meth K A.a_Edition "page_start" A.f_Edition_page_start
  F_Edition_page_of : Fun K "page_of" "Edition.page_of" s_Edition_page_of A.f_Edition_page_of A.d_Edition_page_of
  b_Edition_page_of : Binds K A.d_Edition_page_of ["self", "word"] []
  M_Edition_page_of : Meth K A.a_Edition "page_of" A.f_Edition_page_of
  F_Edition_place_of : Fun K "place_of" "Edition.place_of" s_Edition_place_of A.f_Edition_place_of A.d_Edition_place_of
  b_Edition_place_of : Binds K A.d_Edition_place_of ["self", "word"] []
  M_Edition_place_of : Meth K A.a_Edition "place_of" A.f_Edition_place_of
  F_Way_init : Fun K "__init__" "Way.__init__" s_Way_init A.f_Way_init A.d_Way_init
  b_Way_init : Binds K A.d_Way_init ["self", "first", "second", "costs"] []
  F_Way_pair_cost : Fun K "pair_cost" "Way.pair_cost" s_Way_pair_cost A.f_Way_pair_cost A.d_Way_pair_cost
  b_Way_pair_cost : Binds K A.d_Way_pair_cost ["self", "i", "j"] []
  M_Way_pair_cost : Meth K A.a_Way "pair_cost" A.f_Way_pair_cost
  F_Way_rests_from : Fun K "rests_from" "Way.rests_from" s_Way_rests_from A.f_Way_rests_from A.d_Way_rests_from
  b_Way_rests_from : Binds K A.d_Way_rests_from ["self", "i", "behind"] []
  M_Way_rests_from : Meth K A.a_Way "rests_from" A.f_Way_rests_from
  F_Way_all_rests : Fun K "all_rests" "Way.all_rests" s_Way_all_rests A.f_Way_all_rests A.d_Way_all_rests
  b_Way_all_rests : Binds K A.d_Way_all_rests ["self"] []
  M_Way_all_rests : Meth K A.a_Way "all_rests" A.f_Way_all_rests
  F_Way_pairs : Fun K "pairs" "Way.pairs" s_Way_pairs A.f_Way_pairs A.d_Way_pairs
  b_Way_pairs : Binds K A.d_Way_pairs ["self"] []
  M_Way_pairs : Meth K A.a_Way "pairs" A.f_Way_pairs
  F_partners_by : Fun K "partners_by" "partners_by" s_partners_by A.f_partners_by A.d_partners_by
  b_partners_by : Binds K A.d_partners_by ["pairs", "size"] []
  m_partners_by : mg "partners_by" = some (.ref A.f_partners_by)
  F_find_partners : Fun K "find_partners" "find_partners" s_find_partners A.f_find_partners A.d_find_partners
  b_find_partners : Binds K A.d_find_partners ["editions", "k", "m", "costs"] []
  m_find_partners : mg "find_partners" = some (.ref A.f_find_partners)
  F_those_there : Fun K "those_there" "those_there" s_those_there A.f_those_there A.d_those_there
  b_those_there : Binds K A.d_those_there ["partners"] []
  m_those_there : mg "those_there" = some (.ref A.f_those_there)
  F_count_same : Fun K "count_same" "count_same" s_count_same A.f_count_same A.d_count_same
  b_count_same : Binds K A.d_count_same ["words", "partners", "other_words"] []
  m_count_same : mg "count_same" = some (.ref A.f_count_same)
  F_gap_behind : Fun K "gap_behind" "gap_behind" s_gap_behind A.f_gap_behind A.d_gap_behind
  b_gap_behind : Binds K A.d_gap_behind ["partners"] []
  m_gap_behind : mg "gap_behind" = some (.ref A.f_gap_behind)
  F_are_words : Fun K "are_words" "are_words" s_are_words A.f_are_words A.d_are_words
  b_are_words : Binds K A.d_are_words ["words"] []
  m_are_words : mg "are_words" = some (.ref A.f_are_words)
  F_make_whole : Fun K "make_whole" "make_whole" s_make_whole A.f_make_whole A.d_make_whole
  b_make_whole : Binds K A.d_make_whole ["sizes", "whole"] []
  m_make_whole : mg "make_whole" = some (.ref A.f_make_whole)
  F_Shelf_init : Fun K "__init__" "Shelf.__init__" s_Shelf_init A.f_Shelf_init A.d_Shelf_init
  b_Shelf_init : Binds K A.d_Shelf_init ["self"] []
  F_Shelf_begin : Fun K "begin" "Shelf.begin" s_Shelf_begin A.f_Shelf_begin A.d_Shelf_begin
  b_Shelf_begin : Binds K A.d_Shelf_begin ["self"] []
  M_Shelf_begin : Meth K A.a_Shelf "begin" A.f_Shelf_begin
  F_Shelf_has_edition : Fun K "has_edition" "Shelf.has_edition" s_Shelf_has_edition A.f_Shelf_has_edition A.d_Shelf_has_edition
  b_Shelf_has_edition : Binds K A.d_Shelf_has_edition ["self", "k"] []
  M_Shelf_has_edition : Meth K A.a_Shelf "has_edition" A.f_Shelf_has_edition
  F_Shelf_has_both : Fun K "has_both" "Shelf.has_both" s_Shelf_has_both A.f_Shelf_has_both A.d_Shelf_has_both
  b_Shelf_has_both : Binds K A.d_Shelf_has_both ["self", "k", "m"] []
  M_Shelf_has_both : Meth K A.a_Shelf "has_both" A.f_Shelf_has_both
  F_Shelf_partners_of : Fun K "partners_of" "Shelf.partners_of" s_Shelf_partners_of A.f_Shelf_partners_of A.d_Shelf_partners_of
  b_Shelf_partners_of : Binds K A.d_Shelf_partners_of ["self", "k", "m"] []
  M_Shelf_partners_of : Meth K A.a_Shelf "partners_of" A.f_Shelf_partners_of
  F_Shelf_add_edition : Fun K "add_edition" "Shelf.add_edition" s_Shelf_add_edition A.f_Shelf_add_edition A.d_Shelf_add_edition
  b_Shelf_add_edition : Binds K A.d_Shelf_add_edition ["self", "words"] []
  M_Shelf_add_edition : Meth K A.a_Shelf "add_edition" A.f_Shelf_add_edition
  F_Shelf_set_lines : Fun K "set_lines" "Shelf.set_lines" s_Shelf_set_lines A.f_Shelf_set_lines A.d_Shelf_set_lines
  b_Shelf_set_lines : Binds K A.d_Shelf_set_lines ["self", "k", "counts"] []
  M_Shelf_set_lines : Meth K A.a_Shelf "set_lines" A.f_Shelf_set_lines
  F_Shelf_set_pages : Fun K "set_pages" "Shelf.set_pages" s_Shelf_set_pages A.f_Shelf_set_pages A.d_Shelf_set_pages
  b_Shelf_set_pages : Binds K A.d_Shelf_set_pages ["self", "k", "counts"] []
  M_Shelf_set_pages : Meth K A.a_Shelf "set_pages" A.f_Shelf_set_pages
  F_Shelf_set_costs : Fun K "set_costs" "Shelf.set_costs" s_Shelf_set_costs A.f_Shelf_set_costs A.d_Shelf_set_costs
  b_Shelf_set_costs : Binds K A.d_Shelf_set_costs ["self", "other", "out", "into"] []
  M_Shelf_set_costs : Meth K A.a_Shelf "set_costs" A.f_Shelf_set_costs
  F_Shelf_where : Fun K "where" "Shelf.where" s_Shelf_where A.f_Shelf_where A.d_Shelf_where
  b_Shelf_where : Binds K A.d_Shelf_where ["self", "k", "word"] []
  M_Shelf_where : Meth K A.a_Shelf "where" A.f_Shelf_where
  F_Shelf_find_line : Fun K "find_line" "Shelf.find_line" s_Shelf_find_line A.f_Shelf_find_line A.d_Shelf_find_line
  b_Shelf_find_line : Binds K A.d_Shelf_find_line ["self", "k", "page", "line", "m"] []
  M_Shelf_find_line : Meth K A.a_Shelf "find_line" A.f_Shelf_find_line
  F_Shelf_find_word : Fun K "find_word" "Shelf.find_word" s_Shelf_find_word A.f_Shelf_find_word A.d_Shelf_find_word
  b_Shelf_find_word : Binds K A.d_Shelf_find_word ["self", "k", "word", "m"] []
  M_Shelf_find_word : Meth K A.a_Shelf "find_word" A.f_Shelf_find_word
  F_Shelf_find_words : Fun K "find_words" "Shelf.find_words" s_Shelf_find_words A.f_Shelf_find_words A.d_Shelf_find_words
  b_Shelf_find_words : Binds K A.d_Shelf_find_words ["self", "k", "start", "end", "m"] []
  M_Shelf_find_words : Meth K A.a_Shelf "find_words" A.f_Shelf_find_words
  F_Shelf_table : Fun K "table" "Shelf.table" s_Shelf_table A.f_Shelf_table A.d_Shelf_table
  b_Shelf_table : Binds K A.d_Shelf_table ["self", "k", "m"] []
  M_Shelf_table : Meth K A.a_Shelf "table" A.f_Shelf_table
  F_Shelf_agree : Fun K "agree" "Shelf.agree" s_Shelf_agree A.f_Shelf_agree A.d_Shelf_agree
  b_Shelf_agree : Binds K A.d_Shelf_agree ["self", "k", "m"] []
  M_Shelf_agree : Meth K A.a_Shelf "agree" A.f_Shelf_agree
  F_Reader_init : Fun K "__init__" "Reader.__init__" s_Reader_init A.f_Reader_init A.d_Reader_init
  b_Reader_init : Binds K A.d_Reader_init ["self", "calls"] []
  F_Reader_has_more : Fun K "has_more" "Reader.has_more" s_Reader_has_more A.f_Reader_has_more A.d_Reader_has_more
  b_Reader_has_more : Binds K A.d_Reader_has_more ["self"] []
  M_Reader_has_more : Meth K A.a_Reader "has_more" A.f_Reader_has_more
  F_Reader_take_number : Fun K "take_number" "Reader.take_number" s_Reader_take_number A.f_Reader_take_number A.d_Reader_take_number
  b_Reader_take_number : Binds K A.d_Reader_take_number ["self"] []
  M_Reader_take_number : Meth K A.a_Reader "take_number" A.f_Reader_take_number
  F_Reader_take_row : Fun K "take_row" "Reader.take_row" s_Reader_take_row A.f_Reader_take_row A.d_Reader_take_row
  b_Reader_take_row : Binds K A.d_Reader_take_row ["self"] []
  M_Reader_take_row : Meth K A.a_Reader "take_row" A.f_Reader_take_row
  F_answer_counts : Fun K "answer_counts" "answer_counts" s_answer_counts A.f_answer_counts A.d_answer_counts
  b_answer_counts : Binds K A.d_answer_counts ["call", "reader", "shelf"] []
  m_answer_counts : mg "answer_counts" = some (.ref A.f_answer_counts)
  F_answer_costs : Fun K "answer_costs" "answer_costs" s_answer_costs A.f_answer_costs A.d_answer_costs
  b_answer_costs : Binds K A.d_answer_costs ["reader", "shelf"] []
  m_answer_costs : mg "answer_costs" = some (.ref A.f_answer_costs)
  F_answer_place : Fun K "answer_place" "answer_place" s_answer_place A.f_answer_place A.d_answer_place
  b_answer_place : Binds K A.d_answer_place ["call", "reader", "shelf"] []
  m_answer_place : mg "answer_place" = some (.ref A.f_answer_place)
  F_answer_line : Fun K "answer_line" "answer_line" s_answer_line A.f_answer_line A.d_answer_line
  b_answer_line : Binds K A.d_answer_line ["reader", "shelf"] []
  m_answer_line : mg "answer_line" = some (.ref A.f_answer_line)
  F_answer_whole : Fun K "answer_whole" "answer_whole" s_answer_whole A.f_answer_whole A.d_answer_whole
  b_answer_whole : Binds K A.d_answer_whole ["call", "reader", "shelf"] []
  m_answer_whole : mg "answer_whole" = some (.ref A.f_answer_whole)
  F_answer_asked : Fun K "answer_asked" "answer_asked" s_answer_asked A.f_answer_asked A.d_answer_asked
  b_answer_asked : Binds K A.d_answer_asked ["call", "reader", "shelf"] []
  m_answer_asked : mg "answer_asked" = some (.ref A.f_answer_asked)
  F_answer_call : Fun K "answer_call" "answer_call" s_answer_call A.f_answer_call A.d_answer_call
  b_answer_call : Binds K A.d_answer_call ["reader", "shelf"] []
  m_answer_call : mg "answer_call" = some (.ref A.f_answer_call)
  F_answers : Fun K "answers" "answers" s_answers A.f_answers A.d_answers
  b_answers : Binds K A.d_answers ["calls"] []
  m_answers : mg "answers" = some (.ref A.f_answers)
  g_MOST_EDITIONS : ∃ t, mg "MOST_EDITIONS" = some (.int (4) t)
  g_MOST_WORDS : ∃ t, mg "MOST_WORDS" = some (.int (80) t)
  g_LARGEST_WORD : ∃ t, mg "LARGEST_WORD" = some (.int (99999) t)
  g_LARGEST_COST : ∃ t, mg "LARGEST_COST" = some (.int (100) t)
  g_WRONG_FORM : ∃ t, mg "WRONG_FORM" = some (.int (-1) t)
  g_NO_SUCH_EDITION : ∃ t, mg "NO_SUCH_EDITION" = some (.int (-2) t)
  g_NO_ROOM : ∃ t, mg "NO_ROOM" = some (.int (-5) t)
  g_NO_SUCH_PLACE : ∃ t, mg "NO_SUCH_PLACE" = some (.int (-6) t)
  g_BEGINS : ∃ t, mg "BEGINS" = some (.int (0) t)
  g_EDITION : ∃ t, mg "EDITION" = some (.int (1) t)
  g_LINES : ∃ t, mg "LINES" = some (.int (2) t)
  g_PAGES : ∃ t, mg "PAGES" = some (.int (3) t)
  g_COSTS : ∃ t, mg "COSTS" = some (.int (4) t)
  g_WHERE : ∃ t, mg "WHERE" = some (.int (5) t)
  g_FIND : ∃ t, mg "FIND" = some (.int (6) t)
  g_WORD : ∃ t, mg "WORD" = some (.int (7) t)
  g_TABLE : ∃ t, mg "TABLE" = some (.int (8) t)
  g_AGREE : ∃ t, mg "AGREE" = some (.int (9) t)
  g_FIRST_COSTS : mg "FIRST_COSTS" = some (.ref A.t_FIRST_COSTS)
  q_FIRST_COSTS : ∀ H, SqT K H A.t_FIRST_COSTS [V.int (2), V.int (2), V.int (2)]
  z_len : mg "len" = none
  z_list : mg "list" = none
  z_max : mg "max" = none
  z_min : mg "min" = none
  z_range : mg "range" = none
  z_sum : mg "sum" = none
  z_zip : mg "zip" = none
theorem ne_words_line_sizes : ¬ (("words" : Str) = "line_sizes") := by decide +kernel
theorem ne_words_page_sizes : ¬ (("words" : Str) = "page_sizes") := by decide +kernel
theorem ne_line_sizes_words : ¬ (("line_sizes" : Str) = "words") := by decide +kernel
theorem ne_line_sizes_page_sizes : ¬ (("line_sizes" : Str) = "page_sizes") := by decide +kernel
theorem ne_page_sizes_words : ¬ (("page_sizes" : Str) = "words") := by decide +kernel
theorem ne_page_sizes_line_sizes : ¬ (("page_sizes" : Str) = "line_sizes") := by decide +kernel
theorem ne_has_word_words : ¬ (("has_word" : Str) = "words") := by decide +kernel
theorem ne_has_word_line_sizes : ¬ (("has_word" : Str) = "line_sizes") := by decide +kernel
theorem ne_has_word_page_sizes : ¬ (("has_word" : Str) = "page_sizes") := by decide +kernel
theorem ne_has_line_words : ¬ (("has_line" : Str) = "words") := by decide +kernel
theorem ne_has_line_line_sizes : ¬ (("has_line" : Str) = "line_sizes") := by decide +kernel
theorem ne_has_line_page_sizes : ¬ (("has_line" : Str) = "page_sizes") := by decide +kernel
theorem ne_line_start_words : ¬ (("line_start" : Str) = "words") := by decide +kernel
theorem ne_line_start_line_sizes : ¬ (("line_start" : Str) = "line_sizes") := by decide +kernel
theorem ne_line_start_page_sizes : ¬ (("line_start" : Str) = "page_sizes") := by decide +kernel
theorem ne_page_start_words : ¬ (("page_start" : Str) = "words") := by decide +kernel
theorem ne_page_start_line_sizes : ¬ (("page_start" : Str) = "line_sizes") := by decide +kernel
theorem ne_page_start_page_sizes : ¬ (("page_start" : Str) = "page_sizes") := by decide +kernel
theorem ne_page_of_words : ¬ (("page_of" : Str) = "words") := by decide +kernel
theorem ne_page_of_line_sizes : ¬ (("page_of" : Str) = "line_sizes") := by decide +kernel
theorem ne_page_of_page_sizes : ¬ (("page_of" : Str) = "page_sizes") := by decide +kernel
theorem ne_place_of_words : ¬ (("place_of" : Str) = "words") := by decide +kernel
theorem ne_place_of_line_sizes : ¬ (("place_of" : Str) = "line_sizes") := by decide +kernel
theorem ne_place_of_page_sizes : ¬ (("place_of" : Str) = "page_sizes") := by decide +kernel
def fs_Edition (v_words v_line_sizes v_page_sizes : V) : List (Str × V) := [("words", v_words), ("line_sizes", v_line_sizes), ("page_sizes", v_page_sizes)]
theorem mk_Edition (v_words v_line_sizes v_page_sizes : V) : (putF "page_sizes" v_page_sizes (putF "line_sizes" v_line_sizes (putF "words" v_words []))) = fs_Edition v_words v_line_sizes v_page_sizes := by simp only [fs_Edition, putF, ↓reduceIte, ne_words_line_sizes, ne_words_page_sizes, ne_line_sizes_words, ne_line_sizes_page_sizes, ne_page_sizes_words, ne_page_sizes_line_sizes, ne_has_word_words, ne_has_word_line_sizes, ne_has_word_page_sizes, ne_has_line_words, ne_has_line_line_sizes, ne_has_line_page_sizes, ne_line_start_words, ne_line_start_line_sizes, ne_line_start_page_sizes, ne_page_start_words, ne_page_start_line_sizes, ne_page_start_page_sizes, ne_page_of_words, ne_page_of_line_sizes, ne_page_of_page_sizes, ne_place_of_words, ne_place_of_line_sizes, ne_place_of_page_sizes]
theorem get_Edition_words (v_words v_line_sizes v_page_sizes : V) : (fs_Edition v_words v_line_sizes v_page_sizes).lookup ("words" : Str) = some v_words := by rw [← mk_Edition]; simp only [lookup_putF, ↓reduceIte, List.lookup_nil, ne_words_line_sizes, ne_words_page_sizes, ne_line_sizes_words, ne_line_sizes_page_sizes, ne_page_sizes_words, ne_page_sizes_line_sizes, ne_has_word_words, ne_has_word_line_sizes, ne_has_word_page_sizes, ne_has_line_words, ne_has_line_line_sizes, ne_has_line_page_sizes, ne_line_start_words, ne_line_start_line_sizes, ne_line_start_page_sizes, ne_page_start_words, ne_page_start_line_sizes, ne_page_start_page_sizes, ne_page_of_words, ne_page_of_line_sizes, ne_page_of_page_sizes, ne_place_of_words, ne_place_of_line_sizes, ne_place_of_page_sizes]
theorem put_Edition_words (v_words v_line_sizes v_page_sizes y : V) : putF "words" y (fs_Edition v_words v_line_sizes v_page_sizes) = fs_Edition y v_line_sizes v_page_sizes := by simp only [fs_Edition, putF, ↓reduceIte, ne_words_line_sizes, ne_words_page_sizes, ne_line_sizes_words, ne_line_sizes_page_sizes, ne_page_sizes_words, ne_page_sizes_line_sizes, ne_has_word_words, ne_has_word_line_sizes, ne_has_word_page_sizes, ne_has_line_words, ne_has_line_line_sizes, ne_has_line_page_sizes, ne_line_start_words, ne_line_start_line_sizes, ne_line_start_page_sizes, ne_page_start_words, ne_page_start_line_sizes, ne_page_start_page_sizes, ne_page_of_words, ne_page_of_line_sizes, ne_page_of_page_sizes, ne_place_of_words, ne_place_of_line_sizes, ne_place_of_page_sizes]
theorem get_Edition_line_sizes (v_words v_line_sizes v_page_sizes : V) : (fs_Edition v_words v_line_sizes v_page_sizes).lookup ("line_sizes" : Str) = some v_line_sizes := by rw [← mk_Edition]; simp only [lookup_putF, ↓reduceIte, List.lookup_nil, ne_words_line_sizes, ne_words_page_sizes, ne_line_sizes_words, ne_line_sizes_page_sizes, ne_page_sizes_words, ne_page_sizes_line_sizes, ne_has_word_words, ne_has_word_line_sizes, ne_has_word_page_sizes, ne_has_line_words, ne_has_line_line_sizes, ne_has_line_page_sizes, ne_line_start_words, ne_line_start_line_sizes, ne_line_start_page_sizes, ne_page_start_words, ne_page_start_line_sizes, ne_page_start_page_sizes, ne_page_of_words, ne_page_of_line_sizes, ne_page_of_page_sizes, ne_place_of_words, ne_place_of_line_sizes, ne_place_of_page_sizes]
theorem put_Edition_line_sizes (v_words v_line_sizes v_page_sizes y : V) : putF "line_sizes" y (fs_Edition v_words v_line_sizes v_page_sizes) = fs_Edition v_words y v_page_sizes := by simp only [fs_Edition, putF, ↓reduceIte, ne_words_line_sizes, ne_words_page_sizes, ne_line_sizes_words, ne_line_sizes_page_sizes, ne_page_sizes_words, ne_page_sizes_line_sizes, ne_has_word_words, ne_has_word_line_sizes, ne_has_word_page_sizes, ne_has_line_words, ne_has_line_line_sizes, ne_has_line_page_sizes, ne_line_start_words, ne_line_start_line_sizes, ne_line_start_page_sizes, ne_page_start_words, ne_page_start_line_sizes, ne_page_start_page_sizes, ne_page_of_words, ne_page_of_line_sizes, ne_page_of_page_sizes, ne_place_of_words, ne_place_of_line_sizes, ne_place_of_page_sizes]
theorem get_Edition_page_sizes (v_words v_line_sizes v_page_sizes : V) : (fs_Edition v_words v_line_sizes v_page_sizes).lookup ("page_sizes" : Str) = some v_page_sizes := by rw [← mk_Edition]; simp only [lookup_putF, ↓reduceIte, List.lookup_nil, ne_words_line_sizes, ne_words_page_sizes, ne_line_sizes_words, ne_line_sizes_page_sizes, ne_page_sizes_words, ne_page_sizes_line_sizes, ne_has_word_words, ne_has_word_line_sizes, ne_has_word_page_sizes, ne_has_line_words, ne_has_line_line_sizes, ne_has_line_page_sizes, ne_line_start_words, ne_line_start_line_sizes, ne_line_start_page_sizes, ne_page_start_words, ne_page_start_line_sizes, ne_page_start_page_sizes, ne_page_of_words, ne_page_of_line_sizes, ne_page_of_page_sizes, ne_place_of_words, ne_place_of_line_sizes, ne_place_of_page_sizes]
theorem put_Edition_page_sizes (v_words v_line_sizes v_page_sizes y : V) : putF "page_sizes" y (fs_Edition v_words v_line_sizes v_page_sizes) = fs_Edition v_words v_line_sizes y := by simp only [fs_Edition, putF, ↓reduceIte, ne_words_line_sizes, ne_words_page_sizes, ne_line_sizes_words, ne_line_sizes_page_sizes, ne_page_sizes_words, ne_page_sizes_line_sizes, ne_has_word_words, ne_has_word_line_sizes, ne_has_word_page_sizes, ne_has_line_words, ne_has_line_line_sizes, ne_has_line_page_sizes, ne_line_start_words, ne_line_start_line_sizes, ne_line_start_page_sizes, ne_page_start_words, ne_page_start_line_sizes, ne_page_start_page_sizes, ne_page_of_words, ne_page_of_line_sizes, ne_page_of_page_sizes, ne_place_of_words, ne_place_of_line_sizes, ne_place_of_page_sizes]
theorem no_Edition_has_word (v_words v_line_sizes v_page_sizes : V) : (fs_Edition v_words v_line_sizes v_page_sizes).lookup ("has_word" : Str) = none := by rw [← mk_Edition]; simp only [lookup_putF, ↓reduceIte, List.lookup_nil, ne_words_line_sizes, ne_words_page_sizes, ne_line_sizes_words, ne_line_sizes_page_sizes, ne_page_sizes_words, ne_page_sizes_line_sizes, ne_has_word_words, ne_has_word_line_sizes, ne_has_word_page_sizes, ne_has_line_words, ne_has_line_line_sizes, ne_has_line_page_sizes, ne_line_start_words, ne_line_start_line_sizes, ne_line_start_page_sizes, ne_page_start_words, ne_page_start_line_sizes, ne_page_start_page_sizes, ne_page_of_words, ne_page_of_line_sizes, ne_page_of_page_sizes, ne_place_of_words, ne_place_of_line_sizes, ne_place_of_page_sizes]
theorem no_Edition_has_line (v_words v_line_sizes v_page_sizes : V) : (fs_Edition v_words v_line_sizes v_page_sizes).lookup ("has_line" : Str) = none := by rw [← mk_Edition]; simp only [lookup_putF, ↓reduceIte, List.lookup_nil, ne_words_line_sizes, ne_words_page_sizes, ne_line_sizes_words, ne_line_sizes_page_sizes, ne_page_sizes_words, ne_page_sizes_line_sizes, ne_has_word_words, ne_has_word_line_sizes, ne_has_word_page_sizes, ne_has_line_words, ne_has_line_line_sizes, ne_has_line_page_sizes, ne_line_start_words, ne_line_start_line_sizes, ne_line_start_page_sizes, ne_page_start_words, ne_page_start_line_sizes, ne_page_start_page_sizes, ne_page_of_words, ne_page_of_line_sizes, ne_page_of_page_sizes, ne_place_of_words, ne_place_of_line_sizes, ne_place_of_page_sizes]
theorem no_Edition_line_start (v_words v_line_sizes v_page_sizes : V) : (fs_Edition v_words v_line_sizes v_page_sizes).lookup ("line_start" : Str) = none := by rw [← mk_Edition]; simp only [lookup_putF, ↓reduceIte, List.lookup_nil, ne_words_line_sizes, ne_words_page_sizes, ne_line_sizes_words, ne_line_sizes_page_sizes, ne_page_sizes_words, ne_page_sizes_line_sizes, ne_has_word_words, ne_has_word_line_sizes, ne_has_word_page_sizes, ne_has_line_words, ne_has_line_line_sizes, ne_has_line_page_sizes, ne_line_start_words, ne_line_start_line_sizes, ne_line_start_page_sizes, ne_page_start_words, ne_page_start_line_sizes, ne_page_start_page_sizes, ne_page_of_words, ne_page_of_line_sizes, ne_page_of_page_sizes, ne_place_of_words, ne_place_of_line_sizes, ne_place_of_page_sizes]
theorem no_Edition_page_start (v_words v_line_sizes v_page_sizes : V) : (fs_Edition v_words v_line_sizes v_page_sizes).lookup ("page_start" : Str) = none := by rw [← mk_Edition]; simp only [lookup_putF, ↓reduceIte, List.lookup_nil, ne_words_line_sizes, ne_words_page_sizes, ne_line_sizes_words, ne_line_sizes_page_sizes, ne_page_sizes_words, ne_page_sizes_line_sizes, ne_has_word_words, ne_has_word_line_sizes, ne_has_word_page_sizes, ne_has_line_words, ne_has_line_line_sizes, ne_has_line_page_sizes, ne_line_start_words, ne_line_start_line_sizes, ne_line_start_page_sizes, ne_page_start_words, ne_page_start_line_sizes, ne_page_start_page_sizes, ne_page_of_words, ne_page_of_line_sizes, ne_page_of_page_sizes, ne_place_of_words, ne_place_of_line_sizes, ne_place_of_page_sizes]
theorem no_Edition_page_of (v_words v_line_sizes v_page_sizes : V) : (fs_Edition v_words v_line_sizes v_page_sizes).lookup ("page_of" : Str) = none := by rw [← mk_Edition]; simp only [lookup_putF, ↓reduceIte, List.lookup_nil, ne_words_line_sizes, ne_words_page_sizes, ne_line_sizes_words, ne_line_sizes_page_sizes, ne_page_sizes_words, ne_page_sizes_line_sizes, ne_has_word_words, ne_has_word_line_sizes, ne_has_word_page_sizes, ne_has_line_words, ne_has_line_line_sizes, ne_has_line_page_sizes, ne_line_start_words, ne_line_start_line_sizes, ne_line_start_page_sizes, ne_page_start_words, ne_page_start_line_sizes, ne_page_start_page_sizes, ne_page_of_words, ne_page_of_line_sizes, ne_page_of_page_sizes, ne_place_of_words, ne_place_of_line_sizes, ne_place_of_page_sizes]
theorem no_Edition_place_of (v_words v_line_sizes v_page_sizes : V) : (fs_Edition v_words v_line_sizes v_page_sizes).lookup ("place_of" : Str) = none := by rw [← mk_Edition]; simp only [lookup_putF, ↓reduceIte, List.lookup_nil, ne_words_line_sizes, ne_words_page_sizes, ne_line_sizes_words, ne_line_sizes_page_sizes, ne_page_sizes_words, ne_page_sizes_line_sizes, ne_has_word_words, ne_has_word_line_sizes, ne_has_word_page_sizes, ne_has_line_words, ne_has_line_line_sizes, ne_has_line_page_sizes, ne_line_start_words, ne_line_start_line_sizes, ne_line_start_page_sizes, ne_page_start_words, ne_page_start_line_sizes, ne_page_start_page_sizes, ne_page_of_words, ne_page_of_line_sizes, ne_page_of_page_sizes, ne_place_of_words, ne_place_of_line_sizes, ne_place_of_page_sizes]
theorem len_Edition (v_words v_line_sizes v_page_sizes : V) : (fs_Edition v_words v_line_sizes v_page_sizes).length < 1000 := by show 3 < 1000; decide
theorem ne_first_second : ¬ (("first" : Str) = "second") := by decide +kernel
theorem ne_first_other : ¬ (("first" : Str) = "other") := by decide +kernel
theorem ne_first_out : ¬ (("first" : Str) = "out") := by decide +kernel
theorem ne_first_into : ¬ (("first" : Str) = "into") := by decide +kernel
theorem ne_second_first : ¬ (("second" : Str) = "first") := by decide +kernel
theorem ne_second_other : ¬ (("second" : Str) = "other") := by decide +kernel
theorem ne_second_out : ¬ (("second" : Str) = "out") := by decide +kernel
theorem ne_second_into : ¬ (("second" : Str) = "into") := by decide +kernel
theorem ne_other_first : ¬ (("other" : Str) = "first") := by decide +kernel
theorem ne_other_second : ¬ (("other" : Str) = "second") := by decide +kernel
theorem ne_other_out : ¬ (("other" : Str) = "out") := by decide +kernel
theorem ne_other_into : ¬ (("other" : Str) = "into") := by decide +kernel
theorem ne_out_first : ¬ (("out" : Str) = "first") := by decide +kernel
theorem ne_out_second : ¬ (("out" : Str) = "second") := by decide +kernel
theorem ne_out_other : ¬ (("out" : Str) = "other") := by decide +kernel
theorem ne_out_into : ¬ (("out" : Str) = "into") := by decide +kernel
theorem ne_into_first : ¬ (("into" : Str) = "first") := by decide +kernel
theorem ne_into_second : ¬ (("into" : Str) = "second") := by decide +kernel
theorem ne_into_other : ¬ (("into" : Str) = "other") := by decide +kernel
theorem ne_into_out : ¬ (("into" : Str) = "out") := by decide +kernel
theorem ne_pair_cost_first : ¬ (("pair_cost" : Str) = "first") := by decide +kernel
theorem ne_pair_cost_second : ¬ (("pair_cost" : Str) = "second") := by decide +kernel
theorem ne_pair_cost_other : ¬ (("pair_cost" : Str) = "other") := by decide +kernel
theorem ne_pair_cost_out : ¬ (("pair_cost" : Str) = "out") := by decide +kernel
theorem ne_pair_cost_into : ¬ (("pair_cost" : Str) = "into") := by decide +kernel
theorem ne_rests_from_first : ¬ (("rests_from" : Str) = "first") := by decide +kernel
theorem ne_rests_from_second : ¬ (("rests_from" : Str) = "second") := by decide +kernel
theorem ne_rests_from_other : ¬ (("rests_from" : Str) = "other") := by decide +kernel
theorem ne_rests_from_out : ¬ (("rests_from" : Str) = "out") := by decide +kernel
theorem ne_rests_from_into : ¬ (("rests_from" : Str) = "into") := by decide +kernel
theorem ne_all_rests_first : ¬ (("all_rests" : Str) = "first") := by decide +kernel
theorem ne_all_rests_second : ¬ (("all_rests" : Str) = "second") := by decide +kernel
theorem ne_all_rests_other : ¬ (("all_rests" : Str) = "other") := by decide +kernel
theorem ne_all_rests_out : ¬ (("all_rests" : Str) = "out") := by decide +kernel
theorem ne_all_rests_into : ¬ (("all_rests" : Str) = "into") := by decide +kernel
theorem ne_pairs_first : ¬ (("pairs" : Str) = "first") := by decide +kernel
theorem ne_pairs_second : ¬ (("pairs" : Str) = "second") := by decide +kernel
theorem ne_pairs_other : ¬ (("pairs" : Str) = "other") := by decide +kernel
theorem ne_pairs_out : ¬ (("pairs" : Str) = "out") := by decide +kernel
theorem ne_pairs_into : ¬ (("pairs" : Str) = "into") := by decide +kernel
def fs_Way (v_first v_second v_other v_out v_into : V) : List (Str × V) := [("first", v_first), ("second", v_second), ("other", v_other), ("out", v_out), ("into", v_into)]
theorem mk_Way (v_first v_second v_other v_out v_into : V) : (putF "into" v_into (putF "out" v_out (putF "other" v_other (putF "second" v_second (putF "first" v_first []))))) = fs_Way v_first v_second v_other v_out v_into := by simp only [fs_Way, putF, ↓reduceIte, ne_first_second, ne_first_other, ne_first_out, ne_first_into, ne_second_first, ne_second_other, ne_second_out, ne_second_into, ne_other_first, ne_other_second, ne_other_out, ne_other_into, ne_out_first, ne_out_second, ne_out_other, ne_out_into, ne_into_first, ne_into_second, ne_into_other, ne_into_out, ne_pair_cost_first, ne_pair_cost_second, ne_pair_cost_other, ne_pair_cost_out, ne_pair_cost_into, ne_rests_from_first, ne_rests_from_second, ne_rests_from_other, ne_rests_from_out, ne_rests_from_into, ne_all_rests_first, ne_all_rests_second, ne_all_rests_other, ne_all_rests_out, ne_all_rests_into, ne_pairs_first, ne_pairs_second, ne_pairs_other, ne_pairs_out, ne_pairs_into]
theorem get_Way_first (v_first v_second v_other v_out v_into : V) : (fs_Way v_first v_second v_other v_out v_into).lookup ("first" : Str) = some v_first := by rw [← mk_Way]; simp only [lookup_putF, ↓reduceIte, List.lookup_nil, ne_first_second, ne_first_other, ne_first_out, ne_first_into, ne_second_first, ne_second_other, ne_second_out, ne_second_into, ne_other_first, ne_other_second, ne_other_out, ne_other_into, ne_out_first, ne_out_second, ne_out_other, ne_out_into, ne_into_first, ne_into_second, ne_into_other, ne_into_out, ne_pair_cost_first, ne_pair_cost_second, ne_pair_cost_other, ne_pair_cost_out, ne_pair_cost_into, ne_rests_from_first, ne_rests_from_second, ne_rests_from_other, ne_rests_from_out, ne_rests_from_into, ne_all_rests_first, ne_all_rests_second, ne_all_rests_other, ne_all_rests_out, ne_all_rests_into, ne_pairs_first, ne_pairs_second, ne_pairs_other, ne_pairs_out, ne_pairs_into]
theorem put_Way_first (v_first v_second v_other v_out v_into y : V) : putF "first" y (fs_Way v_first v_second v_other v_out v_into) = fs_Way y v_second v_other v_out v_into := by simp only [fs_Way, putF, ↓reduceIte, ne_first_second, ne_first_other, ne_first_out, ne_first_into, ne_second_first, ne_second_other, ne_second_out, ne_second_into, ne_other_first, ne_other_second, ne_other_out, ne_other_into, ne_out_first, ne_out_second, ne_out_other, ne_out_into, ne_into_first, ne_into_second, ne_into_other, ne_into_out, ne_pair_cost_first, ne_pair_cost_second, ne_pair_cost_other, ne_pair_cost_out, ne_pair_cost_into, ne_rests_from_first, ne_rests_from_second, ne_rests_from_other, ne_rests_from_out, ne_rests_from_into, ne_all_rests_first, ne_all_rests_second, ne_all_rests_other, ne_all_rests_out, ne_all_rests_into, ne_pairs_first, ne_pairs_second, ne_pairs_other, ne_pairs_out, ne_pairs_into]
theorem get_Way_second (v_first v_second v_other v_out v_into : V) : (fs_Way v_first v_second v_other v_out v_into).lookup ("second" : Str) = some v_second := by rw [← mk_Way]; simp only [lookup_putF, ↓reduceIte, List.lookup_nil, ne_first_second, ne_first_other, ne_first_out, ne_first_into, ne_second_first, ne_second_other, ne_second_out, ne_second_into, ne_other_first, ne_other_second, ne_other_out, ne_other_into, ne_out_first, ne_out_second, ne_out_other, ne_out_into, ne_into_first, ne_into_second, ne_into_other, ne_into_out, ne_pair_cost_first, ne_pair_cost_second, ne_pair_cost_other, ne_pair_cost_out, ne_pair_cost_into, ne_rests_from_first, ne_rests_from_second, ne_rests_from_other, ne_rests_from_out, ne_rests_from_into, ne_all_rests_first, ne_all_rests_second, ne_all_rests_other, ne_all_rests_out, ne_all_rests_into, ne_pairs_first, ne_pairs_second, ne_pairs_other, ne_pairs_out, ne_pairs_into]
theorem put_Way_second (v_first v_second v_other v_out v_into y : V) : putF "second" y (fs_Way v_first v_second v_other v_out v_into) = fs_Way v_first y v_other v_out v_into := by simp only [fs_Way, putF, ↓reduceIte, ne_first_second, ne_first_other, ne_first_out, ne_first_into, ne_second_first, ne_second_other, ne_second_out, ne_second_into, ne_other_first, ne_other_second, ne_other_out, ne_other_into, ne_out_first, ne_out_second, ne_out_other, ne_out_into, ne_into_first, ne_into_second, ne_into_other, ne_into_out, ne_pair_cost_first, ne_pair_cost_second, ne_pair_cost_other, ne_pair_cost_out, ne_pair_cost_into, ne_rests_from_first, ne_rests_from_second, ne_rests_from_other, ne_rests_from_out, ne_rests_from_into, ne_all_rests_first, ne_all_rests_second, ne_all_rests_other, ne_all_rests_out, ne_all_rests_into, ne_pairs_first, ne_pairs_second, ne_pairs_other, ne_pairs_out, ne_pairs_into]
theorem get_Way_other (v_first v_second v_other v_out v_into : V) : (fs_Way v_first v_second v_other v_out v_into).lookup ("other" : Str) = some v_other := by rw [← mk_Way]; simp only [lookup_putF, ↓reduceIte, List.lookup_nil, ne_first_second, ne_first_other, ne_first_out, ne_first_into, ne_second_first, ne_second_other, ne_second_out, ne_second_into, ne_other_first, ne_other_second, ne_other_out, ne_other_into, ne_out_first, ne_out_second, ne_out_other, ne_out_into, ne_into_first, ne_into_second, ne_into_other, ne_into_out, ne_pair_cost_first, ne_pair_cost_second, ne_pair_cost_other, ne_pair_cost_out, ne_pair_cost_into, ne_rests_from_first, ne_rests_from_second, ne_rests_from_other, ne_rests_from_out, ne_rests_from_into, ne_all_rests_first, ne_all_rests_second, ne_all_rests_other, ne_all_rests_out, ne_all_rests_into, ne_pairs_first, ne_pairs_second, ne_pairs_other, ne_pairs_out, ne_pairs_into]
theorem put_Way_other (v_first v_second v_other v_out v_into y : V) : putF "other" y (fs_Way v_first v_second v_other v_out v_into) = fs_Way v_first v_second y v_out v_into := by simp only [fs_Way, putF, ↓reduceIte, ne_first_second, ne_first_other, ne_first_out, ne_first_into, ne_second_first, ne_second_other, ne_second_out, ne_second_into, ne_other_first, ne_other_second, ne_other_out, ne_other_into, ne_out_first, ne_out_second, ne_out_other, ne_out_into, ne_into_first, ne_into_second, ne_into_other, ne_into_out, ne_pair_cost_first, ne_pair_cost_second, ne_pair_cost_other, ne_pair_cost_out, ne_pair_cost_into, ne_rests_from_first, ne_rests_from_second, ne_rests_from_other, ne_rests_from_out, ne_rests_from_into, ne_all_rests_first, ne_all_rests_second, ne_all_rests_other, ne_all_rests_out, ne_all_rests_into, ne_pairs_first, ne_pairs_second, ne_pairs_other, ne_pairs_out, ne_pairs_into]
theorem get_Way_out (v_first v_second v_other v_out v_into : V) : (fs_Way v_first v_second v_other v_out v_into).lookup ("out" : Str) = some v_out := by rw [← mk_Way]; simp only [lookup_putF, ↓reduceIte, List.lookup_nil, ne_first_second, ne_first_other, ne_first_out, ne_first_into, ne_second_first, ne_second_other, ne_second_out, ne_second_into, ne_other_first, ne_other_second, ne_other_out, ne_other_into, ne_out_first, ne_out_second, ne_out_other, ne_out_into, ne_into_first, ne_into_second, ne_into_other, ne_into_out, ne_pair_cost_first, ne_pair_cost_second, ne_pair_cost_other, ne_pair_cost_out, ne_pair_cost_into, ne_rests_from_first, ne_rests_from_second, ne_rests_from_other, ne_rests_from_out, ne_rests_from_into, ne_all_rests_first, ne_all_rests_second, ne_all_rests_other, ne_all_rests_out, ne_all_rests_into, ne_pairs_first, ne_pairs_second, ne_pairs_other, ne_pairs_out, ne_pairs_into]
theorem put_Way_out (v_first v_second v_other v_out v_into y : V) : putF "out" y (fs_Way v_first v_second v_other v_out v_into) = fs_Way v_first v_second v_other y v_into := by simp only [fs_Way, putF, ↓reduceIte, ne_first_second, ne_first_other, ne_first_out, ne_first_into, ne_second_first, ne_second_other, ne_second_out, ne_second_into, ne_other_first, ne_other_second, ne_other_out, ne_other_into, ne_out_first, ne_out_second, ne_out_other, ne_out_into, ne_into_first, ne_into_second, ne_into_other, ne_into_out, ne_pair_cost_first, ne_pair_cost_second, ne_pair_cost_other, ne_pair_cost_out, ne_pair_cost_into, ne_rests_from_first, ne_rests_from_second, ne_rests_from_other, ne_rests_from_out, ne_rests_from_into, ne_all_rests_first, ne_all_rests_second, ne_all_rests_other, ne_all_rests_out, ne_all_rests_into, ne_pairs_first, ne_pairs_second, ne_pairs_other, ne_pairs_out, ne_pairs_into]
theorem get_Way_into (v_first v_second v_other v_out v_into : V) : (fs_Way v_first v_second v_other v_out v_into).lookup ("into" : Str) = some v_into := by rw [← mk_Way]; simp only [lookup_putF, ↓reduceIte, List.lookup_nil, ne_first_second, ne_first_other, ne_first_out, ne_first_into, ne_second_first, ne_second_other, ne_second_out, ne_second_into, ne_other_first, ne_other_second, ne_other_out, ne_other_into, ne_out_first, ne_out_second, ne_out_other, ne_out_into, ne_into_first, ne_into_second, ne_into_other, ne_into_out, ne_pair_cost_first, ne_pair_cost_second, ne_pair_cost_other, ne_pair_cost_out, ne_pair_cost_into, ne_rests_from_first, ne_rests_from_second, ne_rests_from_other, ne_rests_from_out, ne_rests_from_into, ne_all_rests_first, ne_all_rests_second, ne_all_rests_other, ne_all_rests_out, ne_all_rests_into, ne_pairs_first, ne_pairs_second, ne_pairs_other, ne_pairs_out, ne_pairs_into]
theorem put_Way_into (v_first v_second v_other v_out v_into y : V) : putF "into" y (fs_Way v_first v_second v_other v_out v_into) = fs_Way v_first v_second v_other v_out y := by simp only [fs_Way, putF, ↓reduceIte, ne_first_second, ne_first_other, ne_first_out, ne_first_into, ne_second_first, ne_second_other, ne_second_out, ne_second_into, ne_other_first, ne_other_second, ne_other_out, ne_other_into, ne_out_first, ne_out_second, ne_out_other, ne_out_into, ne_into_first, ne_into_second, ne_into_other, ne_into_out, ne_pair_cost_first, ne_pair_cost_second, ne_pair_cost_other, ne_pair_cost_out, ne_pair_cost_into, ne_rests_from_first, ne_rests_from_second, ne_rests_from_other, ne_rests_from_out, ne_rests_from_into, ne_all_rests_first, ne_all_rests_second, ne_all_rests_other, ne_all_rests_out, ne_all_rests_into, ne_pairs_first, ne_pairs_second, ne_pairs_other, ne_pairs_out, ne_pairs_into]
theorem no_Way_pair_cost (v_first v_second v_other v_out v_into : V) : (fs_Way v_first v_second v_other v_out v_into).lookup ("pair_cost" : Str) = none := by rw [← mk_Way]; simp only [lookup_putF, ↓reduceIte, List.lookup_nil, ne_first_second, ne_first_other, ne_first_out, ne_first_into, ne_second_first, ne_second_other, ne_second_out, ne_second_into, ne_other_first, ne_other_second, ne_other_out, ne_other_into, ne_out_first, ne_out_second, ne_out_other, ne_out_into, ne_into_first, ne_into_second, ne_into_other, ne_into_out, ne_pair_cost_first, ne_pair_cost_second, ne_pair_cost_other, ne_pair_cost_out, ne_pair_cost_into, ne_rests_from_first, ne_rests_from_second, ne_rests_from_other, ne_rests_from_out, ne_rests_from_into, ne_all_rests_first, ne_all_rests_second, ne_all_rests_other, ne_all_rests_out, ne_all_rests_into, ne_pairs_first, ne_pairs_second, ne_pairs_other, ne_pairs_out, ne_pairs_into]
theorem no_Way_rests_from (v_first v_second v_other v_out v_into : V) : (fs_Way v_first v_second v_other v_out v_into).lookup ("rests_from" : Str) = none := by rw [← mk_Way]; simp only [lookup_putF, ↓reduceIte, List.lookup_nil, ne_first_second, ne_first_other, ne_first_out, ne_first_into, ne_second_first, ne_second_other, ne_second_out, ne_second_into, ne_other_first, ne_other_second, ne_other_out, ne_other_into, ne_out_first, ne_out_second, ne_out_other, ne_out_into, ne_into_first, ne_into_second, ne_into_other, ne_into_out, ne_pair_cost_first, ne_pair_cost_second, ne_pair_cost_other, ne_pair_cost_out, ne_pair_cost_into, ne_rests_from_first, ne_rests_from_second, ne_rests_from_other, ne_rests_from_out, ne_rests_from_into, ne_all_rests_first, ne_all_rests_second, ne_all_rests_other, ne_all_rests_out, ne_all_rests_into, ne_pairs_first, ne_pairs_second, ne_pairs_other, ne_pairs_out, ne_pairs_into]
theorem no_Way_all_rests (v_first v_second v_other v_out v_into : V) : (fs_Way v_first v_second v_other v_out v_into).lookup ("all_rests" : Str) = none := by rw [← mk_Way]; simp only [lookup_putF, ↓reduceIte, List.lookup_nil, ne_first_second, ne_first_other, ne_first_out, ne_first_into, ne_second_first, ne_second_other, ne_second_out, ne_second_into, ne_other_first, ne_other_second, ne_other_out, ne_other_into, ne_out_first, ne_out_second, ne_out_other, ne_out_into, ne_into_first, ne_into_second, ne_into_other, ne_into_out, ne_pair_cost_first, ne_pair_cost_second, ne_pair_cost_other, ne_pair_cost_out, ne_pair_cost_into, ne_rests_from_first, ne_rests_from_second, ne_rests_from_other, ne_rests_from_out, ne_rests_from_into, ne_all_rests_first, ne_all_rests_second, ne_all_rests_other, ne_all_rests_out, ne_all_rests_into, ne_pairs_first, ne_pairs_second, ne_pairs_other, ne_pairs_out, ne_pairs_into]
theorem no_Way_pairs (v_first v_second v_other v_out v_into : V) : (fs_Way v_first v_second v_other v_out v_into).lookup ("pairs" : Str) = none := by rw [← mk_Way]; simp only [lookup_putF, ↓reduceIte, List.lookup_nil, ne_first_second, ne_first_other, ne_first_out, ne_first_into, ne_second_first, ne_second_other, ne_second_out, ne_second_into, ne_other_first, ne_other_second, ne_other_out, ne_other_into, ne_out_first, ne_out_second, ne_out_other, ne_out_into, ne_into_first, ne_into_second, ne_into_other, ne_into_out, ne_pair_cost_first, ne_pair_cost_second, ne_pair_cost_other, ne_pair_cost_out, ne_pair_cost_into, ne_rests_from_first, ne_rests_from_second, ne_rests_from_other, ne_rests_from_out, ne_rests_from_into, ne_all_rests_first, ne_all_rests_second, ne_all_rests_other, ne_all_rests_out, ne_all_rests_into, ne_pairs_first, ne_pairs_second, ne_pairs_other, ne_pairs_out, ne_pairs_into]
theorem len_Way (v_first v_second v_other v_out v_into : V) : (fs_Way v_first v_second v_other v_out v_into).length < 1000 := by show 5 < 1000; decide
theorem ne_editions_costs : ¬ (("editions" : Str) = "costs") := by decide +kernel
theorem ne_costs_editions : ¬ (("costs" : Str) = "editions") := by decide +kernel
theorem ne_begin_editions : ¬ (("begin" : Str) = "editions") := by decide +kernel
theorem ne_begin_costs : ¬ (("begin" : Str) = "costs") := by decide +kernel
theorem ne_has_edition_editions : ¬ (("has_edition" : Str) = "editions") := by decide +kernel
theorem ne_has_edition_costs : ¬ (("has_edition" : Str) = "costs") := by decide +kernel
theorem ne_has_both_editions : ¬ (("has_both" : Str) = "editions") := by decide +kernel
theorem ne_has_both_costs : ¬ (("has_both" : Str) = "costs") := by decide +kernel
theorem ne_partners_of_editions : ¬ (("partners_of" : Str) = "editions") := by decide +kernel
theorem ne_partners_of_costs : ¬ (("partners_of" : Str) = "costs") := by decide +kernel
theorem ne_add_edition_editions : ¬ (("add_edition" : Str) = "editions") := by decide +kernel
theorem ne_add_edition_costs : ¬ (("add_edition" : Str) = "costs") := by decide +kernel
theorem ne_set_lines_editions : ¬ (("set_lines" : Str) = "editions") := by decide +kernel
theorem ne_set_lines_costs : ¬ (("set_lines" : Str) = "costs") := by decide +kernel
theorem ne_set_pages_editions : ¬ (("set_pages" : Str) = "editions") := by decide +kernel
theorem ne_set_pages_costs : ¬ (("set_pages" : Str) = "costs") := by decide +kernel
theorem ne_set_costs_editions : ¬ (("set_costs" : Str) = "editions") := by decide +kernel
theorem ne_set_costs_costs : ¬ (("set_costs" : Str) = "costs") := by decide +kernel
theorem ne_where_editions : ¬ (("where" : Str) = "editions") := by decide +kernel
theorem ne_where_costs : ¬ (("where" : Str) = "costs") := by decide +kernel
theorem ne_find_line_editions : ¬ (("find_line" : Str) = "editions") := by decide +kernel
theorem ne_find_line_costs : ¬ (("find_line" : Str) = "costs") := by decide +kernel
theorem ne_find_word_editions : ¬ (("find_word" : Str) = "editions") := by decide +kernel
theorem ne_find_word_costs : ¬ (("find_word" : Str) = "costs") := by decide +kernel
theorem ne_find_words_editions : ¬ (("find_words" : Str) = "editions") := by decide +kernel
theorem ne_find_words_costs : ¬ (("find_words" : Str) = "costs") := by decide +kernel
theorem ne_table_editions : ¬ (("table" : Str) = "editions") := by decide +kernel
theorem ne_table_costs : ¬ (("table" : Str) = "costs") := by decide +kernel
theorem ne_agree_editions : ¬ (("agree" : Str) = "editions") := by decide +kernel
theorem ne_agree_costs : ¬ (("agree" : Str) = "costs") := by decide +kernel
def fs_Shelf (v_editions v_costs : V) : List (Str × V) := [("editions", v_editions), ("costs", v_costs)]
theorem mk_Shelf (v_editions v_costs : V) : (putF "costs" v_costs (putF "editions" v_editions [])) = fs_Shelf v_editions v_costs := by simp only [fs_Shelf, putF, ↓reduceIte, ne_editions_costs, ne_costs_editions, ne_begin_editions, ne_begin_costs, ne_has_edition_editions, ne_has_edition_costs, ne_has_both_editions, ne_has_both_costs, ne_partners_of_editions, ne_partners_of_costs, ne_add_edition_editions, ne_add_edition_costs, ne_set_lines_editions, ne_set_lines_costs, ne_set_pages_editions, ne_set_pages_costs, ne_set_costs_editions, ne_set_costs_costs, ne_where_editions, ne_where_costs, ne_find_line_editions, ne_find_line_costs, ne_find_word_editions, ne_find_word_costs, ne_find_words_editions, ne_find_words_costs, ne_table_editions, ne_table_costs, ne_agree_editions, ne_agree_costs]
theorem get_Shelf_editions (v_editions v_costs : V) : (fs_Shelf v_editions v_costs).lookup ("editions" : Str) = some v_editions := by rw [← mk_Shelf]; simp only [lookup_putF, ↓reduceIte, List.lookup_nil, ne_editions_costs, ne_costs_editions, ne_begin_editions, ne_begin_costs, ne_has_edition_editions, ne_has_edition_costs, ne_has_both_editions, ne_has_both_costs, ne_partners_of_editions, ne_partners_of_costs, ne_add_edition_editions, ne_add_edition_costs, ne_set_lines_editions, ne_set_lines_costs, ne_set_pages_editions, ne_set_pages_costs, ne_set_costs_editions, ne_set_costs_costs, ne_where_editions, ne_where_costs, ne_find_line_editions, ne_find_line_costs, ne_find_word_editions, ne_find_word_costs, ne_find_words_editions, ne_find_words_costs, ne_table_editions, ne_table_costs, ne_agree_editions, ne_agree_costs]
theorem put_Shelf_editions (v_editions v_costs y : V) : putF "editions" y (fs_Shelf v_editions v_costs) = fs_Shelf y v_costs := by simp only [fs_Shelf, putF, ↓reduceIte, ne_editions_costs, ne_costs_editions, ne_begin_editions, ne_begin_costs, ne_has_edition_editions, ne_has_edition_costs, ne_has_both_editions, ne_has_both_costs, ne_partners_of_editions, ne_partners_of_costs, ne_add_edition_editions, ne_add_edition_costs, ne_set_lines_editions, ne_set_lines_costs, ne_set_pages_editions, ne_set_pages_costs, ne_set_costs_editions, ne_set_costs_costs, ne_where_editions, ne_where_costs, ne_find_line_editions, ne_find_line_costs, ne_find_word_editions, ne_find_word_costs, ne_find_words_editions, ne_find_words_costs, ne_table_editions, ne_table_costs, ne_agree_editions, ne_agree_costs]
theorem get_Shelf_costs (v_editions v_costs : V) : (fs_Shelf v_editions v_costs).lookup ("costs" : Str) = some v_costs := by rw [← mk_Shelf]; simp only [lookup_putF, ↓reduceIte, List.lookup_nil, ne_editions_costs, ne_costs_editions, ne_begin_editions, ne_begin_costs, ne_has_edition_editions, ne_has_edition_costs, ne_has_both_editions, ne_has_both_costs, ne_partners_of_editions, ne_partners_of_costs, ne_add_edition_editions, ne_add_edition_costs, ne_set_lines_editions, ne_set_lines_costs, ne_set_pages_editions, ne_set_pages_costs, ne_set_costs_editions, ne_set_costs_costs, ne_where_editions, ne_where_costs, ne_find_line_editions, ne_find_line_costs, ne_find_word_editions, ne_find_word_costs, ne_find_words_editions, ne_find_words_costs, ne_table_editions, ne_table_costs, ne_agree_editions, ne_agree_costs]
theorem put_Shelf_costs (v_editions v_costs y : V) : putF "costs" y (fs_Shelf v_editions v_costs) = fs_Shelf v_editions y := by simp only [fs_Shelf, putF, ↓reduceIte, ne_editions_costs, ne_costs_editions, ne_begin_editions, ne_begin_costs, ne_has_edition_editions, ne_has_edition_costs, ne_has_both_editions, ne_has_both_costs, ne_partners_of_editions, ne_partners_of_costs, ne_add_edition_editions, ne_add_edition_costs, ne_set_lines_editions, ne_set_lines_costs, ne_set_pages_editions, ne_set_pages_costs, ne_set_costs_editions, ne_set_costs_costs, ne_where_editions, ne_where_costs, ne_find_line_editions, ne_find_line_costs, ne_find_word_editions, ne_find_word_costs, ne_find_words_editions, ne_find_words_costs, ne_table_editions, ne_table_costs, ne_agree_editions, ne_agree_costs]
theorem no_Shelf_begin (v_editions v_costs : V) : (fs_Shelf v_editions v_costs).lookup ("begin" : Str) = none := by rw [← mk_Shelf]; simp only [lookup_putF, ↓reduceIte, List.lookup_nil, ne_editions_costs, ne_costs_editions, ne_begin_editions, ne_begin_costs, ne_has_edition_editions, ne_has_edition_costs, ne_has_both_editions, ne_has_both_costs, ne_partners_of_editions, ne_partners_of_costs, ne_add_edition_editions, ne_add_edition_costs, ne_set_lines_editions, ne_set_lines_costs, ne_set_pages_editions, ne_set_pages_costs, ne_set_costs_editions, ne_set_costs_costs, ne_where_editions, ne_where_costs, ne_find_line_editions, ne_find_line_costs, ne_find_word_editions, ne_find_word_costs, ne_find_words_editions, ne_find_words_costs, ne_table_editions, ne_table_costs, ne_agree_editions, ne_agree_costs]
theorem no_Shelf_has_edition (v_editions v_costs : V) : (fs_Shelf v_editions v_costs).lookup ("has_edition" : Str) = none := by rw [← mk_Shelf]; simp only [lookup_putF, ↓reduceIte, List.lookup_nil, ne_editions_costs, ne_costs_editions, ne_begin_editions, ne_begin_costs, ne_has_edition_editions, ne_has_edition_costs, ne_has_both_editions, ne_has_both_costs, ne_partners_of_editions, ne_partners_of_costs, ne_add_edition_editions, ne_add_edition_costs, ne_set_lines_editions, ne_set_lines_costs, ne_set_pages_editions, ne_set_pages_costs, ne_set_costs_editions, ne_set_costs_costs, ne_where_editions, ne_where_costs, ne_find_line_editions, ne_find_line_costs, ne_find_word_editions, ne_find_word_costs, ne_find_words_editions, ne_find_words_costs, ne_table_editions, ne_table_costs, ne_agree_editions, ne_agree_costs]
theorem no_Shelf_has_both (v_editions v_costs : V) : (fs_Shelf v_editions v_costs).lookup ("has_both" : Str) = none := by rw [← mk_Shelf]; simp only [lookup_putF, ↓reduceIte, List.lookup_nil, ne_editions_costs, ne_costs_editions, ne_begin_editions, ne_begin_costs, ne_has_edition_editions, ne_has_edition_costs, ne_has_both_editions, ne_has_both_costs, ne_partners_of_editions, ne_partners_of_costs, ne_add_edition_editions, ne_add_edition_costs, ne_set_lines_editions, ne_set_lines_costs, ne_set_pages_editions, ne_set_pages_costs, ne_set_costs_editions, ne_set_costs_costs, ne_where_editions, ne_where_costs, ne_find_line_editions, ne_find_line_costs, ne_find_word_editions, ne_find_word_costs, ne_find_words_editions, ne_find_words_costs, ne_table_editions, ne_table_costs, ne_agree_editions, ne_agree_costs]
theorem no_Shelf_partners_of (v_editions v_costs : V) : (fs_Shelf v_editions v_costs).lookup ("partners_of" : Str) = none := by rw [← mk_Shelf]; simp only [lookup_putF, ↓reduceIte, List.lookup_nil, ne_editions_costs, ne_costs_editions, ne_begin_editions, ne_begin_costs, ne_has_edition_editions, ne_has_edition_costs, ne_has_both_editions, ne_has_both_costs, ne_partners_of_editions, ne_partners_of_costs, ne_add_edition_editions, ne_add_edition_costs, ne_set_lines_editions, ne_set_lines_costs, ne_set_pages_editions, ne_set_pages_costs, ne_set_costs_editions, ne_set_costs_costs, ne_where_editions, ne_where_costs, ne_find_line_editions, ne_find_line_costs, ne_find_word_editions, ne_find_word_costs, ne_find_words_editions, ne_find_words_costs, ne_table_editions, ne_table_costs, ne_agree_editions, ne_agree_costs]
theorem no_Shelf_add_edition (v_editions v_costs : V) : (fs_Shelf v_editions v_costs).lookup ("add_edition" : Str) = none := by rw [← mk_Shelf]; simp only [lookup_putF, ↓reduceIte, List.lookup_nil, ne_editions_costs, ne_costs_editions, ne_begin_editions, ne_begin_costs, ne_has_edition_editions, ne_has_edition_costs, ne_has_both_editions, ne_has_both_costs, ne_partners_of_editions, ne_partners_of_costs, ne_add_edition_editions, ne_add_edition_costs, ne_set_lines_editions, ne_set_lines_costs, ne_set_pages_editions, ne_set_pages_costs, ne_set_costs_editions, ne_set_costs_costs, ne_where_editions, ne_where_costs, ne_find_line_editions, ne_find_line_costs, ne_find_word_editions, ne_find_word_costs, ne_find_words_editions, ne_find_words_costs, ne_table_editions, ne_table_costs, ne_agree_editions, ne_agree_costs]
theorem no_Shelf_set_lines (v_editions v_costs : V) : (fs_Shelf v_editions v_costs).lookup ("set_lines" : Str) = none := by rw [← mk_Shelf]; simp only [lookup_putF, ↓reduceIte, List.lookup_nil, ne_editions_costs, ne_costs_editions, ne_begin_editions, ne_begin_costs, ne_has_edition_editions, ne_has_edition_costs, ne_has_both_editions, ne_has_both_costs, ne_partners_of_editions, ne_partners_of_costs, ne_add_edition_editions, ne_add_edition_costs, ne_set_lines_editions, ne_set_lines_costs, ne_set_pages_editions, ne_set_pages_costs, ne_set_costs_editions, ne_set_costs_costs, ne_where_editions, ne_where_costs, ne_find_line_editions, ne_find_line_costs, ne_find_word_editions, ne_find_word_costs, ne_find_words_editions, ne_find_words_costs, ne_table_editions, ne_table_costs, ne_agree_editions, ne_agree_costs]
theorem no_Shelf_set_pages (v_editions v_costs : V) : (fs_Shelf v_editions v_costs).lookup ("set_pages" : Str) = none := by rw [← mk_Shelf]; simp only [lookup_putF, ↓reduceIte, List.lookup_nil, ne_editions_costs, ne_costs_editions, ne_begin_editions, ne_begin_costs, ne_has_edition_editions, ne_has_edition_costs, ne_has_both_editions, ne_has_both_costs, ne_partners_of_editions, ne_partners_of_costs, ne_add_edition_editions, ne_add_edition_costs, ne_set_lines_editions, ne_set_lines_costs, ne_set_pages_editions, ne_set_pages_costs, ne_set_costs_editions, ne_set_costs_costs, ne_where_editions, ne_where_costs, ne_find_line_editions, ne_find_line_costs, ne_find_word_editions, ne_find_word_costs, ne_find_words_editions, ne_find_words_costs, ne_table_editions, ne_table_costs, ne_agree_editions, ne_agree_costs]
theorem no_Shelf_set_costs (v_editions v_costs : V) : (fs_Shelf v_editions v_costs).lookup ("set_costs" : Str) = none := by rw [← mk_Shelf]; simp only [lookup_putF, ↓reduceIte, List.lookup_nil, ne_editions_costs, ne_costs_editions, ne_begin_editions, ne_begin_costs, ne_has_edition_editions, ne_has_edition_costs, ne_has_both_editions, ne_has_both_costs, ne_partners_of_editions, ne_partners_of_costs, ne_add_edition_editions, ne_add_edition_costs, ne_set_lines_editions, ne_set_lines_costs, ne_set_pages_editions, ne_set_pages_costs, ne_set_costs_editions, ne_set_costs_costs, ne_where_editions, ne_where_costs, ne_find_line_editions, ne_find_line_costs, ne_find_word_editions, ne_find_word_costs, ne_find_words_editions, ne_find_words_costs, ne_table_editions, ne_table_costs, ne_agree_editions, ne_agree_costs]
theorem no_Shelf_where (v_editions v_costs : V) : (fs_Shelf v_editions v_costs).lookup ("where" : Str) = none := by rw [← mk_Shelf]; simp only [lookup_putF, ↓reduceIte, List.lookup_nil, ne_editions_costs, ne_costs_editions, ne_begin_editions, ne_begin_costs, ne_has_edition_editions, ne_has_edition_costs, ne_has_both_editions, ne_has_both_costs, ne_partners_of_editions, ne_partners_of_costs, ne_add_edition_editions, ne_add_edition_costs, ne_set_lines_editions, ne_set_lines_costs, ne_set_pages_editions, ne_set_pages_costs, ne_set_costs_editions, ne_set_costs_costs, ne_where_editions, ne_where_costs, ne_find_line_editions, ne_find_line_costs, ne_find_word_editions, ne_find_word_costs, ne_find_words_editions, ne_find_words_costs, ne_table_editions, ne_table_costs, ne_agree_editions, ne_agree_costs]
theorem no_Shelf_find_line (v_editions v_costs : V) : (fs_Shelf v_editions v_costs).lookup ("find_line" : Str) = none := by rw [← mk_Shelf]; simp only [lookup_putF, ↓reduceIte, List.lookup_nil, ne_editions_costs, ne_costs_editions, ne_begin_editions, ne_begin_costs, ne_has_edition_editions, ne_has_edition_costs, ne_has_both_editions, ne_has_both_costs, ne_partners_of_editions, ne_partners_of_costs, ne_add_edition_editions, ne_add_edition_costs, ne_set_lines_editions, ne_set_lines_costs, ne_set_pages_editions, ne_set_pages_costs, ne_set_costs_editions, ne_set_costs_costs, ne_where_editions, ne_where_costs, ne_find_line_editions, ne_find_line_costs, ne_find_word_editions, ne_find_word_costs, ne_find_words_editions, ne_find_words_costs, ne_table_editions, ne_table_costs, ne_agree_editions, ne_agree_costs]
theorem no_Shelf_find_word (v_editions v_costs : V) : (fs_Shelf v_editions v_costs).lookup ("find_word" : Str) = none := by rw [← mk_Shelf]; simp only [lookup_putF, ↓reduceIte, List.lookup_nil, ne_editions_costs, ne_costs_editions, ne_begin_editions, ne_begin_costs, ne_has_edition_editions, ne_has_edition_costs, ne_has_both_editions, ne_has_both_costs, ne_partners_of_editions, ne_partners_of_costs, ne_add_edition_editions, ne_add_edition_costs, ne_set_lines_editions, ne_set_lines_costs, ne_set_pages_editions, ne_set_pages_costs, ne_set_costs_editions, ne_set_costs_costs, ne_where_editions, ne_where_costs, ne_find_line_editions, ne_find_line_costs, ne_find_word_editions, ne_find_word_costs, ne_find_words_editions, ne_find_words_costs, ne_table_editions, ne_table_costs, ne_agree_editions, ne_agree_costs]
theorem no_Shelf_find_words (v_editions v_costs : V) : (fs_Shelf v_editions v_costs).lookup ("find_words" : Str) = none := by rw [← mk_Shelf]; simp only [lookup_putF, ↓reduceIte, List.lookup_nil, ne_editions_costs, ne_costs_editions, ne_begin_editions, ne_begin_costs, ne_has_edition_editions, ne_has_edition_costs, ne_has_both_editions, ne_has_both_costs, ne_partners_of_editions, ne_partners_of_costs, ne_add_edition_editions, ne_add_edition_costs, ne_set_lines_editions, ne_set_lines_costs, ne_set_pages_editions, ne_set_pages_costs, ne_set_costs_editions, ne_set_costs_costs, ne_where_editions, ne_where_costs, ne_find_line_editions, ne_find_line_costs, ne_find_word_editions, ne_find_word_costs, ne_find_words_editions, ne_find_words_costs, ne_table_editions, ne_table_costs, ne_agree_editions, ne_agree_costs]
theorem no_Shelf_table (v_editions v_costs : V) : (fs_Shelf v_editions v_costs).lookup ("table" : Str) = none := by rw [← mk_Shelf]; simp only [lookup_putF, ↓reduceIte, List.lookup_nil, ne_editions_costs, ne_costs_editions, ne_begin_editions, ne_begin_costs, ne_has_edition_editions, ne_has_edition_costs, ne_has_both_editions, ne_has_both_costs, ne_partners_of_editions, ne_partners_of_costs, ne_add_edition_editions, ne_add_edition_costs, ne_set_lines_editions, ne_set_lines_costs, ne_set_pages_editions, ne_set_pages_costs, ne_set_costs_editions, ne_set_costs_costs, ne_where_editions, ne_where_costs, ne_find_line_editions, ne_find_line_costs, ne_find_word_editions, ne_find_word_costs, ne_find_words_editions, ne_find_words_costs, ne_table_editions, ne_table_costs, ne_agree_editions, ne_agree_costs]
theorem no_Shelf_agree (v_editions v_costs : V) : (fs_Shelf v_editions v_costs).lookup ("agree" : Str) = none := by rw [← mk_Shelf]; simp only [lookup_putF, ↓reduceIte, List.lookup_nil, ne_editions_costs, ne_costs_editions, ne_begin_editions, ne_begin_costs, ne_has_edition_editions, ne_has_edition_costs, ne_has_both_editions, ne_has_both_costs, ne_partners_of_editions, ne_partners_of_costs, ne_add_edition_editions, ne_add_edition_costs, ne_set_lines_editions, ne_set_lines_costs, ne_set_pages_editions, ne_set_pages_costs, ne_set_costs_editions, ne_set_costs_costs, ne_where_editions, ne_where_costs, ne_find_line_editions, ne_find_line_costs, ne_find_word_editions, ne_find_word_costs, ne_find_words_editions, ne_find_words_costs, ne_table_editions, ne_table_costs, ne_agree_editions, ne_agree_costs]
theorem len_Shelf (v_editions v_costs : V) : (fs_Shelf v_editions v_costs).length < 1000 := by show 2 < 1000; decide
theorem ne_calls_position : ¬ (("calls" : Str) = "position") := by decide +kernel
theorem ne_position_calls : ¬ (("position" : Str) = "calls") := by decide +kernel
theorem ne_has_more_calls : ¬ (("has_more" : Str) = "calls") := by decide +kernel
theorem ne_has_more_position : ¬ (("has_more" : Str) = "position") := by decide +kernel
theorem ne_take_number_calls : ¬ (("take_number" : Str) = "calls") := by decide +kernel
theorem ne_take_number_position : ¬ (("take_number" : Str) = "position") := by decide +kernel
theorem ne_take_row_calls : ¬ (("take_row" : Str) = "calls") := by decide +kernel
theorem ne_take_row_position : ¬ (("take_row" : Str) = "position") := by decide +kernel
def fs_Reader (v_calls v_position : V) : List (Str × V) := [("calls", v_calls), ("position", v_position)]
theorem mk_Reader (v_calls v_position : V) : (putF "position" v_position (putF "calls" v_calls [])) = fs_Reader v_calls v_position := by simp only [fs_Reader, putF, ↓reduceIte, ne_calls_position, ne_position_calls, ne_has_more_calls, ne_has_more_position, ne_take_number_calls, ne_take_number_position, ne_take_row_calls, ne_take_row_position]
theorem get_Reader_calls (v_calls v_position : V) : (fs_Reader v_calls v_position).lookup ("calls" : Str) = some v_calls := by rw [← mk_Reader]; simp only [lookup_putF, ↓reduceIte, List.lookup_nil, ne_calls_position, ne_position_calls, ne_has_more_calls, ne_has_more_position, ne_take_number_calls, ne_take_number_position, ne_take_row_calls, ne_take_row_position]
theorem put_Reader_calls (v_calls v_position y : V) : putF "calls" y (fs_Reader v_calls v_position) = fs_Reader y v_position := by simp only [fs_Reader, putF, ↓reduceIte, ne_calls_position, ne_position_calls, ne_has_more_calls, ne_has_more_position, ne_take_number_calls, ne_take_number_position, ne_take_row_calls, ne_take_row_position]
theorem get_Reader_position (v_calls v_position : V) : (fs_Reader v_calls v_position).lookup ("position" : Str) = some v_position := by rw [← mk_Reader]; simp only [lookup_putF, ↓reduceIte, List.lookup_nil, ne_calls_position, ne_position_calls, ne_has_more_calls, ne_has_more_position, ne_take_number_calls, ne_take_number_position, ne_take_row_calls, ne_take_row_position]
theorem put_Reader_position (v_calls v_position y : V) : putF "position" y (fs_Reader v_calls v_position) = fs_Reader v_calls y := by simp only [fs_Reader, putF, ↓reduceIte, ne_calls_position, ne_position_calls, ne_has_more_calls, ne_has_more_position, ne_take_number_calls, ne_take_number_position, ne_take_row_calls, ne_take_row_position]
theorem no_Reader_has_more (v_calls v_position : V) : (fs_Reader v_calls v_position).lookup ("has_more" : Str) = none := by rw [← mk_Reader]; simp only [lookup_putF, ↓reduceIte, List.lookup_nil, ne_calls_position, ne_position_calls, ne_has_more_calls, ne_has_more_position, ne_take_number_calls, ne_take_number_position, ne_take_row_calls, ne_take_row_position]
theorem no_Reader_take_number (v_calls v_position : V) : (fs_Reader v_calls v_position).lookup ("take_number" : Str) = none := by rw [← mk_Reader]; simp only [lookup_putF, ↓reduceIte, List.lookup_nil, ne_calls_position, ne_position_calls, ne_has_more_calls, ne_has_more_position, ne_take_number_calls, ne_take_number_position, ne_take_row_calls, ne_take_row_position]
theorem no_Reader_take_row (v_calls v_position : V) : (fs_Reader v_calls v_position).lookup ("take_row" : Str) = none := by rw [← mk_Reader]; simp only [lookup_putF, ↓reduceIte, List.lookup_nil, ne_calls_position, ne_position_calls, ne_has_more_calls, ne_has_more_position, ne_take_number_calls, ne_take_number_position, ne_take_row_calls, ne_take_row_position]
theorem len_Reader (v_calls v_position : V) : (fs_Reader v_calls v_position).length < 1000 := by show 2 < 1000; decide
theorem sc_start_of : FnScope ["sizes", "part"] ["sizes", "part"] (defScope s_start_of) := ⟨rfl, rfl, rfl, by decide +kernel, rfl, by decide +kernel, by decide +kernel⟩
theorem sc_part_holding : FnScope ["sizes", "number", "part", "end"] ["sizes", "number"] (defScope s_part_holding) := ⟨rfl, rfl, rfl, by decide +kernel, rfl, by decide +kernel, by decide +kernel⟩
theorem sc_Edition_init : FnScope ["self", "words"] ["self", "words"] (defScope s_Edition_init) := ⟨rfl, rfl, rfl, by decide +kernel, rfl, by decide +kernel, by decide +kernel⟩
theorem sc_Edition_has_word : FnScope ["self", "word"] ["self", "word"] (defScope s_Edition_has_word) := ⟨rfl, rfl, rfl, by decide +kernel, rfl, by decide +kernel, by decide +kernel⟩
theorem sc_Edition_has_line : FnScope ["self", "page", "line"] ["self", "page", "line"] (defScope s_Edition_has_line) := ⟨rfl, rfl, rfl, by decide +kernel, rfl, by decide +kernel, by decide +kernel⟩
theorem sc_Edition_line_start : FnScope ["self", "page", "line"] ["self", "page", "line"] (defScope s_Edition_line_start) := ⟨rfl, rfl, rfl, by decide +kernel, rfl, by decide +kernel, by decide +kernel⟩
theorem sc_Edition_page_start : FnScope ["self", "page"] ["self", "page"] (defScope s_Edition_page_start) := ⟨rfl, rfl, rfl, by decide +kernel, rfl, by decide +kernel, by decide +kernel⟩
theorem sc_Edition_page_of : FnScope ["self", "word"] ["self", "word"] (defScope s_Edition_page_of) := ⟨rfl, rfl, rfl, by decide +kernel, rfl, by decide +kernel, by decide +kernel⟩
theorem sc_Edition_place_of : FnScope ["self", "word", "row", "page"] ["self", "word"] (defScope s_Edition_place_of) := ⟨rfl, rfl, rfl, by decide +kernel, rfl, by decide +kernel, by decide +kernel⟩
theorem sc_Way_init : FnScope ["self", "first", "second", "costs"] ["self", "first", "second", "costs"] (defScope s_Way_init) := ⟨rfl, rfl, rfl, by decide +kernel, rfl, by decide +kernel, by decide +kernel⟩
theorem sc_Way_pair_cost : FnScope ["self", "i", "j"] ["self", "i", "j"] (defScope s_Way_pair_cost) := ⟨rfl, rfl, rfl, by decide +kernel, rfl, by decide +kernel, by decide +kernel⟩
theorem sc_Way_rests_from : FnScope ["self", "i", "behind", "rests", "j", "paired"] ["self", "i", "behind"] (defScope s_Way_rests_from) := ⟨rfl, rfl, rfl, by decide +kernel, rfl, by decide +kernel, by decide +kernel⟩
theorem sc_Way_all_rests : FnScope ["self", "size", "behind", "rows", "i", "j"] ["self"] (defScope s_Way_all_rests) := ⟨rfl, rfl, rfl, by decide +kernel, rfl, by decide +kernel, by decide +kernel⟩
theorem sc_Way_pairs : FnScope ["self", "rests", "i", "j", "found"] ["self"] (defScope s_Way_pairs) := ⟨rfl, rfl, rfl, by decide +kernel, rfl, by decide +kernel, by decide +kernel⟩
theorem sc_partners_by : FnScope ["pairs", "size", "partners", "word", "partner"] ["pairs", "size"] (defScope s_partners_by) := ⟨rfl, rfl, rfl, by decide +kernel, rfl, by decide +kernel, by decide +kernel⟩
theorem sc_find_partners : FnScope ["editions", "k", "m", "costs", "size", "way", "pairs", "earlier", "later"] ["editions", "k", "m", "costs"] (defScope s_find_partners) := ⟨rfl, rfl, rfl, by decide +kernel, rfl, by decide +kernel, by decide +kernel⟩
theorem sc_those_there : FnScope ["partners", "partner"] ["partners"] (defScope s_those_there) := ⟨rfl, rfl, rfl, by decide +kernel, rfl, by decide +kernel, by decide +kernel⟩
theorem sc_count_same : FnScope ["words", "partners", "other_words", "same", "word", "partner"] ["words", "partners", "other_words"] (defScope s_count_same) := ⟨rfl, rfl, rfl, by decide +kernel, rfl, by decide +kernel, by decide +kernel⟩
theorem sc_gap_behind : FnScope ["partners", "there"] ["partners"] (defScope s_gap_behind) := ⟨rfl, rfl, rfl, by decide +kernel, rfl, by decide +kernel, by decide +kernel⟩
theorem sc_are_words : FnScope ["words"] ["words"] (defScope s_are_words) := ⟨rfl, rfl, rfl, by decide +kernel, rfl, by decide +kernel, by decide +kernel⟩
theorem sc_make_whole : FnScope ["sizes", "whole"] ["sizes", "whole"] (defScope s_make_whole) := ⟨rfl, rfl, rfl, by decide +kernel, rfl, by decide +kernel, by decide +kernel⟩
theorem sc_Shelf_init : FnScope ["self"] ["self"] (defScope s_Shelf_init) := ⟨rfl, rfl, rfl, by decide +kernel, rfl, by decide +kernel, by decide +kernel⟩
theorem sc_Shelf_begin : FnScope ["self"] ["self"] (defScope s_Shelf_begin) := ⟨rfl, rfl, rfl, by decide +kernel, rfl, by decide +kernel, by decide +kernel⟩
theorem sc_Shelf_has_edition : FnScope ["self", "k"] ["self", "k"] (defScope s_Shelf_has_edition) := ⟨rfl, rfl, rfl, by decide +kernel, rfl, by decide +kernel, by decide +kernel⟩
theorem sc_Shelf_has_both : FnScope ["self", "k", "m"] ["self", "k", "m"] (defScope s_Shelf_has_both) := ⟨rfl, rfl, rfl, by decide +kernel, rfl, by decide +kernel, by decide +kernel⟩
theorem sc_Shelf_partners_of : FnScope ["self", "k", "m"] ["self", "k", "m"] (defScope s_Shelf_partners_of) := ⟨rfl, rfl, rfl, by decide +kernel, rfl, by decide +kernel, by decide +kernel⟩
theorem sc_Shelf_add_edition : FnScope ["self", "words", "number"] ["self", "words"] (defScope s_Shelf_add_edition) := ⟨rfl, rfl, rfl, by decide +kernel, rfl, by decide +kernel, by decide +kernel⟩
theorem sc_Shelf_set_lines : FnScope ["self", "k", "counts", "edition"] ["self", "k", "counts"] (defScope s_Shelf_set_lines) := ⟨rfl, rfl, rfl, by decide +kernel, rfl, by decide +kernel, by decide +kernel⟩
theorem sc_Shelf_set_pages : FnScope ["self", "k", "counts", "edition"] ["self", "k", "counts"] (defScope s_Shelf_set_pages) := ⟨rfl, rfl, rfl, by decide +kernel, rfl, by decide +kernel, by decide +kernel⟩
theorem sc_Shelf_set_costs : FnScope ["self", "other", "out", "into"] ["self", "other", "out", "into"] (defScope s_Shelf_set_costs) := ⟨rfl, rfl, rfl, by decide +kernel, rfl, by decide +kernel, by decide +kernel⟩
theorem sc_Shelf_where : FnScope ["self", "k", "word", "edition"] ["self", "k", "word"] (defScope s_Shelf_where) := ⟨rfl, rfl, rfl, by decide +kernel, rfl, by decide +kernel, by decide +kernel⟩
theorem sc_Shelf_find_line : FnScope ["self", "k", "page", "line", "m", "edition"] ["self", "k", "page", "line", "m"] (defScope s_Shelf_find_line) := ⟨rfl, rfl, rfl, by decide +kernel, rfl, by decide +kernel, by decide +kernel⟩
theorem sc_Shelf_find_word : FnScope ["self", "k", "word", "m"] ["self", "k", "word", "m"] (defScope s_Shelf_find_word) := ⟨rfl, rfl, rfl, by decide +kernel, rfl, by decide +kernel, by decide +kernel⟩
theorem sc_Shelf_find_words : FnScope ["self", "k", "start", "end", "m", "partners", "target", "there", "same", "gap"] ["self", "k", "start", "end", "m"] (defScope s_Shelf_find_words) := ⟨rfl, rfl, rfl, by decide +kernel, rfl, by decide +kernel, by decide +kernel⟩
theorem sc_Shelf_table : FnScope ["self", "k", "m", "edition", "target", "partners", "answer", "page", "there"] ["self", "k", "m"] (defScope s_Shelf_table) := ⟨rfl, rfl, rfl, by decide +kernel, rfl, by decide +kernel, by decide +kernel⟩
theorem sc_Shelf_agree : FnScope ["self", "k", "m", "partners", "same"] ["self", "k", "m"] (defScope s_Shelf_agree) := ⟨rfl, rfl, rfl, by decide +kernel, rfl, by decide +kernel, by decide +kernel⟩
theorem sc_Reader_init : FnScope ["self", "calls"] ["self", "calls"] (defScope s_Reader_init) := ⟨rfl, rfl, rfl, by decide +kernel, rfl, by decide +kernel, by decide +kernel⟩
theorem sc_Reader_has_more : FnScope ["self"] ["self"] (defScope s_Reader_has_more) := ⟨rfl, rfl, rfl, by decide +kernel, rfl, by decide +kernel, by decide +kernel⟩
theorem sc_Reader_take_number : FnScope ["self", "number"] ["self"] (defScope s_Reader_take_number) := ⟨rfl, rfl, rfl, by decide +kernel, rfl, by decide +kernel, by decide +kernel⟩
theorem sc_Reader_take_row : FnScope ["self", "size", "start"] ["self"] (defScope s_Reader_take_row) := ⟨rfl, rfl, rfl, by decide +kernel, rfl, by decide +kernel, by decide +kernel⟩
theorem sc_answer_counts : FnScope ["call", "reader", "shelf", "k", "counts"] ["call", "reader", "shelf"] (defScope s_answer_counts) := ⟨rfl, rfl, rfl, by decide +kernel, rfl, by decide +kernel, by decide +kernel⟩
theorem sc_answer_costs : FnScope ["reader", "shelf", "other", "out", "into"] ["reader", "shelf"] (defScope s_answer_costs) := ⟨rfl, rfl, rfl, by decide +kernel, rfl, by decide +kernel, by decide +kernel⟩
theorem sc_answer_place : FnScope ["call", "reader", "shelf", "k", "word"] ["call", "reader", "shelf"] (defScope s_answer_place) := ⟨rfl, rfl, rfl, by decide +kernel, rfl, by decide +kernel, by decide +kernel⟩
theorem sc_answer_line : FnScope ["reader", "shelf", "k", "page", "line"] ["reader", "shelf"] (defScope s_answer_line) := ⟨rfl, rfl, rfl, by decide +kernel, rfl, by decide +kernel, by decide +kernel⟩
theorem sc_answer_whole : FnScope ["call", "reader", "shelf", "k", "m"] ["call", "reader", "shelf"] (defScope s_answer_whole) := ⟨rfl, rfl, rfl, by decide +kernel, rfl, by decide +kernel, by decide +kernel⟩
theorem sc_answer_asked : FnScope ["call", "reader", "shelf"] ["call", "reader", "shelf"] (defScope s_answer_asked) := ⟨rfl, rfl, rfl, by decide +kernel, rfl, by decide +kernel, by decide +kernel⟩
theorem sc_answer_call : FnScope ["reader", "shelf", "call"] ["reader", "shelf"] (defScope s_answer_call) := ⟨rfl, rfl, rfl, by decide +kernel, rfl, by decide +kernel, by decide +kernel⟩
theorem sc_answers : FnScope ["calls", "reader", "shelf", "written", "answer"] ["calls"] (defScope s_answers) := ⟨rfl, rfl, rfl, by decide +kernel, rfl, by decide +kernel, by decide +kernel⟩
end Ed
namespace Ed
open PySem PySem.Spec PyProof.Rows L2
section
variable {P : Program} {w : World} {K : PySem.W.Frag} {mg : Str → Option Value} {base : Heap} {A : Ad}
def rdO (A : Ad) (dx a : Addr) (n : Nat) : HO := .ins A.a_Reader dx (fs_Reader (.ref a) (.int n))
def sp_Reader_init (A : Ad) : Sp := fun vs H Q _ => ∃ (p dx a : Addr), vs = [.ref p, .ref a] ∧ H p = some (.ins A.a_Reader dx []) ∧ ∀ H' : Hp, H' p = some (rdO A dx a 0) → (∀ b o, H b = some o → b ≠ p → H' b = some o) → Q .non H'
theorem ok_Reader_init (T : Tx K mg A) : FnOk P w K mg base CX0 1 A.f_Reader_init A.d_Reader_init ["self", "calls"] (sp_Reader_init A) := by
  refine T.F_Reader_init.ok sc_Reader_init (fun vs H Q E h => ?_) (fun cdv A' outer s H vs Q E hr h => ?_)
  · obtain ⟨p, dx, a, rfl, _⟩ := h
    rfl
  · obtain ⟨p, dx, a, rfl, hp, k⟩ := h
    refine ⟨_, (pss_cons (ps_fld (pv 0) (pv 1) rfl)
      (pss_one (ps_fld (pv 0) pe_int rfl))), ?_⟩
    refine ⟨_, rfl, _, rfl, p, _, dx, [], rfl, hp, T.c_Reader, T.n_Reader_calls, (by show 0 < 1000; decide), ?_⟩
    refine ⟨_, rfl, p, _, dx, _, rfl, upd_same, T.c_Reader, T.n_Reader_position, (by show 1 < 1000; decide), ?_⟩
    rw [upd_upd]
    exact k _ (Eq.trans upd_same (congrArg (fun q => some (HO.ins A.a_Reader dx q)) (mk_Reader _ _))) fun b o e hb => by rw [upd_ne hb]; exact e
def sp_Reader_has_more (K : PySem.W.Frag) (A : Ad) : Sp := fun vs H Q _ => ∃ (p dx a : Addr) (n : Nat) (xs : List V), vs = [.ref p] ∧ H p = some (rdO A dx a n) ∧ SqL K H a xs ∧ Q (.bl (decide ((n : Int) < xs.length))) H
theorem ok_Reader_has_more (T : Tx K mg A) : FnOk P w K mg base CX0 1 A.f_Reader_has_more A.d_Reader_has_more ["self"] (sp_Reader_has_more K A) := by
  refine T.F_Reader_has_more.ok sc_Reader_has_more (fun vs H Q E h => ?_) (fun cdv A' outer s H vs Q E hr h => ?_)
  · obtain ⟨p, dx, a, n, xs, rfl, _⟩ := h
    rfl
  · obtain ⟨p, dx, a, n, xs, rfl, hp, hs, k⟩ := h
    refine ⟨_, (pss_one (ps_ret (pe_cmpR op_lt (pe_fld (pv 0) rfl) (pe_callB call_len_seq (by rfl) T.z_len bt_len (pa_cons (pe_fld (pv 0) rfl) pa_nil)) (nomark _)))), ?_⟩
    refine ⟨_, rfl, p, _, dx, _, _, rfl, hp, T.c_Reader, T.n_Reader_position, get_Reader_position _ _, ?_⟩
    refine ⟨_, rfl, p, _, dx, _, _, rfl, hp, T.c_Reader, T.n_Reader_calls, get_Reader_calls _ _, ?_⟩
    refine ⟨a, xs, rfl, .inl hs, _, _, rfl, rfl, k⟩
def sp_Reader_take_number (K : PySem.W.Frag) (A : Ad) : Sp := fun vs H Q _ => ∃ (p dx a : Addr) (n : Nat) (xs : List V) (x : V), vs = [.ref p] ∧ H p = some (rdO A dx a n) ∧ SqL K H a xs ∧ xs[n]? = some x ∧ Q x (upd H p (rdO A dx a (n + 1)))
theorem ok_Reader_take_number (T : Tx K mg A) : FnOk P w K mg base CX0 1 A.f_Reader_take_number A.d_Reader_take_number ["self"] (sp_Reader_take_number K A) := by
  refine T.F_Reader_take_number.ok sc_Reader_take_number (fun vs H Q E h => ?_) (fun cdv A' outer s H vs Q E hr h => ?_)
  · obtain ⟨p, dx, a, n, xs, x, rfl, _⟩ := h
    rfl
  · obtain ⟨p, dx, a, n, xs, x, rfl, hp, hs, hx, k⟩ := h
    refine ⟨_, (pss_cons (ps_set (i := 1) sc_Reader_take_number.nd rfl (Or.inl rfl) (pe_ix ix_list (pe_fld (pv 0) rfl) (pe_fld (pv 0) rfl) (fun _ _ => rfl)))
      (pss_cons (ps_fldaug (pv 0) pe_int in_add)
      (pss_one (ps_ret (pv 1))))), ?_⟩
    refine ⟨_, rfl, p, _, dx, _, _, rfl, hp, T.c_Reader, T.n_Reader_calls, get_Reader_calls _ _, ?_⟩
    refine ⟨_, rfl, p, _, dx, _, _, rfl, hp, T.c_Reader, T.n_Reader_position, get_Reader_position _ _, ?_⟩
    refine ⟨a, xs, _, x, rfl, rfl, hs, atI_nat hx, ?_⟩
    refine ⟨_, rfl, p, _, dx, _, _, rfl, hp, T.c_Reader, T.n_Reader_position, get_Reader_position _ _, ?_⟩
    refine ⟨_, _, rfl, rfl, dx, _, hp, len_Reader _ _, ?_⟩
    refine ⟨_, rfl, ?_⟩
    rw [put_Reader_position]
    exact k
def sp_Reader_take_row (K : PySem.W.Frag) (A : Ad) : Sp := fun vs H Q _ => ∃ (p dx a : Addr) (n m : Nat) (xs : List V), vs = [.ref p] ∧ H p = some (rdO A dx a n) ∧ SqL K H a xs ∧ (∀ o, SqL K (upd H p o) a xs) ∧ xs[n]? = some (.int m) ∧ n + 1 + m ≤ xs.length ∧
  ∀ l, H l = none → Q (.ref l) (upd (upd H p (rdO A dx a (n + 1 + m))) l (.lst ((xs.drop (n + 1)).take m)))
theorem SqL.upd {K : PySem.W.Frag} {H : Hp} {a p : Addr} {o : HO} {xs : List V} (h : SqL K H a xs) (hn : a ≠ p) : SqL K (upd H p o) a xs := by
  rcases h with (h | ⟨q, h⟩) | h
  · exact .inl (.inl (by rw [upd_ne hn]; exact h))
  · exact .inl (.inr ⟨q, by rw [upd_ne hn]; exact h⟩)
  · exact .inr h
theorem cut_nat (xs : List V) {i j : Nat} (h : i + j ≤ xs.length) : cutV xs (some (i : Int)) (some ((i : Int) + (j : Int))) = (xs.drop i).take j := by
  unfold cutV
  have e : ((i : Int) + (j : Int)) = ((i + j : Nat) : Int) := by omega
  rw [e, HT.sIx_nat, HT.sIx_nat, Nat.min_eq_left (by omega), Nat.min_eq_left (by omega)]
  congr 1
  omega
theorem ok_Reader_take_row (T : Tx K mg A) : FnOk P w K mg base CX0 2 A.f_Reader_take_row A.d_Reader_take_row ["self"] (sp_Reader_take_row K A) := by
  refine T.F_Reader_take_row.ok sc_Reader_take_row (fun vs H Q E h => ?_) (fun cdv A' outer s H vs Q E hr h => ?_)
  · obtain ⟨p, dx, a, n, m, xs, rfl, _⟩ := h
    rfl
  · obtain ⟨p, dx, a, n, m, xs, rfl, hp, hs, hap, hx, hle, k⟩ := h
    refine ⟨_, (pss_cons (ps_set (i := 1) sc_Reader_take_row.nd rfl (Or.inl rfl) (pe_meth0 (pv 0) T.c_Reader T.M_Reader_take_number (ok_Reader_take_number T) (hr.mono (by decide)) T.b_Reader_take_number .nil pass0))
      (pss_cons (ps_set (i := 2) sc_Reader_take_row.nd rfl (Or.inl rfl) (pe_fld (pv 0) rfl))
      (pss_cons (ps_fldaug (pv 0) (pv 1) in_add)
      (pss_one (ps_ret (pe_slice sl_list (pe_fld (pv 0) rfl) (po_some (pv 2)) (po_some (pe_fld (pv 0) rfl)))))))), ?_⟩
    refine ⟨_, rfl, p, dx, _, rfl, hp, no_Reader_take_number _ _, p, dx, a, n, xs, _, rfl, hp, hs, hx, ?_⟩
    refine ⟨_, rfl, p, _, dx, _, _, rfl, upd_same, T.c_Reader, T.n_Reader_position, get_Reader_position _ _, ?_⟩
    refine ⟨_, rfl, p, _, dx, _, _, rfl, upd_same, T.c_Reader, T.n_Reader_position, get_Reader_position _ _, ?_⟩
    refine ⟨_, rfl, _, _, rfl, rfl, dx, _, upd_same, len_Reader _ _, ?_⟩
    rw [upd_upd, put_Reader_position]
    refine ⟨_, rfl, p, _, dx, _, _, rfl, upd_same, T.c_Reader, T.n_Reader_calls, get_Reader_calls _ _, ?_⟩
    refine ⟨_, rfl, _, rfl, ?_⟩
    refine ⟨_, rfl, p, _, dx, _, _, rfl, upd_same, T.c_Reader, T.n_Reader_position, get_Reader_position _ _, _, rfl, ?_⟩
    refine ⟨a, xs, rfl, hap _, fun l hl => ?_⟩
    rw [show (((n : Nat) + 1 : Nat) : Int) = ((n + 1 : Nat) : Int) from rfl, cut_nat xs hle]
    have hl' : H l = none := by
      by_cases e : l = p
      · subst e; rw [upd_same] at hl; cases hl
      · rw [upd_ne e] at hl; exact hl
    have := k l hl'
    unfold rdO at this
    rw [show (((n + 1 + m : Nat)) : Int) = ((n + 1 : Nat) : Int) + (m : Int) by omega] at this
    exact this
end
end Ed
namespace Ed
open PySem PySem.Spec PyProof.Rows L2
def iN (l : List Nat) : List V := l.map fun (n : Nat) => V.int (n : Int)
def nats (ns : List Int) : List Nat := ns.map Int.toNat
theorem iN_nats : ∀ {ns : List Int}, (∀ x ∈ ns, 0 ≤ x) → iN (nats ns) = ns.map V.int
  | [], _ => rfl
  | x :: ns, h => by
    have h1 : 0 ≤ x := h x (List.mem_cons_self ..)
    have h2 := iN_nats (ns := ns) fun y m => h y (List.mem_cons_of_mem _ m)
    show V.int ((x.toNat : Nat) : Int) :: iN (nats ns) = V.int x :: ns.map V.int
    rw [h2, Int.toNat_of_nonneg h1]
theorem iN_int (l : List Nat) : iN l = (l.map fun (n : Nat) => (n : Int)).map V.int := by simp [iN]
theorem iN_len (l : List Nat) : (iN l).length = l.length := by simp [iN]
theorem iN_get (l : List Nat) (i : Nat) : (iN l)[i]? = (l[i]?).map (fun (n : Nat) => V.int (n : Int)) := List.getElem?_map
theorem sum_total : ∀ l : List Nat, (l.map fun (n : Nat) => (n : Int)).sum = (Si47.total l : Nat)
  | [] => rfl
  | a :: l => by
    have := sum_total l
    simp only [List.map_cons, List.sum_cons, Si47.total, List.foldr_cons] at this ⊢
    omega
section
variable {X : Cx}
theorem vals3 {x y z : V} {us : List Value} (r : Vals [x, y, z] us) : ∃ u v w', us = [u, v, w'] ∧ RelV x u ∧ RelV y v ∧ RelV z w' := by
  cases r with
  | cons r1 r =>
    cases r with
    | cons r2 r =>
      cases r with
      | cons r3 r =>
        cases r
        exact ⟨_, _, _, rfl, r1, r2, r3⟩
theorem call_min3 (hc : X.calm = true) : CallR X (.builtin "min") (fun xs H Q => ∃ i j k : Int, xs = [.int i, .int j, .int k] ∧ Q (.int (min i (min j k))) H) := by
  intro pins s σ H xs us Q I r h
  obtain ⟨i, j, k, rfl, q⟩ := h
  obtain ⟨u, v, w', rfl, ⟨t, rfl⟩, ⟨t', rfl⟩, ⟨t2, rfl⟩⟩ := vals3 r
  refine min_three_ints (I.ok.hd hc) fun h' tk kk => ⟨_, H, I.kept kk, ?_, q⟩
  split
  · split
    · exact ⟨t2, by congr 1; omega⟩
    · exact ⟨t', by congr 1; omega⟩
  · split
    · exact ⟨t2, by congr 1; omega⟩
    · exact ⟨t, by congr 1; omega⟩
theorem call_max3 (hc : X.calm = true) : CallR X (.builtin "max") (fun xs H Q => ∃ i j k : Int, xs = [.int i, .int j, .int k] ∧ Q (.int (max i (max j k))) H) := by
  intro pins s σ H xs us Q I r h
  obtain ⟨i, j, k, rfl, q⟩ := h
  obtain ⟨u, v, w', rfl, ⟨t, rfl⟩, ⟨t', rfl⟩, ⟨t2, rfl⟩⟩ := vals3 r
  refine max_three_ints (I.ok.hd hc) fun h' tk kk => ⟨_, H, I.kept kk, ?_, q⟩
  split
  · split
    · exact ⟨t2, by congr 1; omega⟩
    · exact ⟨t', by congr 1; omega⟩
  · split
    · exact ⟨t2, by congr 1; omega⟩
    · exact ⟨t, by congr 1; omega⟩
end
section
variable {P : Program} {w : World} {K : PySem.W.Frag} {mg : Str → Option Value} {base : Heap} {A : Ad}
def sp_are_words (K : PySem.W.Frag) : Sp := fun vs H Q _ => ∃ (a : Addr) (l : List Nat), vs = [.ref a] ∧ SqL K H a (iN l) ∧ Q (.bl (Si47.wordsOk l)) H
theorem ok_are_words (T : Tx K mg A) : FnOk P w K mg base CX0 1 A.f_are_words A.d_are_words ["words"] (sp_are_words K) := by
  refine T.F_are_words.ok sc_are_words (fun vs H Q E h => ?_) (fun cdv A' outer s H vs Q E hr h => ?_)
  · obtain ⟨a, l, rfl, _⟩ := h
    rfl
  · obtain ⟨a, l, rfl, hs, k⟩ := h
    refine ⟨_, (pss_cons (ps_if (pt_not (pt_chain op_le op_le pe_int (pe_callB call_len_seq (by rfl) T.z_len bt_len (pa_cons (pv 0) pa_nil)) (pe_gi rfl T.g_MOST_WORDS))) (pss_one (ps_ret pe_bl)) pss_nil)
      (pss_one (ps_ret (pe_and (pe_cmpR op_ge (pe_callB (cr_min rfl) (by rfl) T.z_min bt_min (pa_cons (pv 0) pa_nil)) pe_int (nomark _)) (pe_one (pe_cmpR op_le (pe_callB (cr_max rfl) (by rfl) T.z_max bt_max (pa_cons (pv 0) pa_nil)) (pe_gi rfl T.g_LARGEST_WORD) (nomark _))))))), ?_⟩
    refine ⟨_, rfl, a, _, rfl, .inl hs, _, _, rfl, rfl, _, rfl, ?_⟩
    rw [iN_len]
    have hs' : SqL K H a ((l.map fun (n : Nat) => (n : Int)).map V.int) := by rw [← iN_int]; exact hs
    by_cases h1 : (1 : Int) ≤ (l.length : Int)
    · rw [decide_eq_true h1]
      refine iteT ⟨_, _, rfl, rfl, _, rfl, ?_⟩
      by_cases h2 : (l.length : Int) ≤ 80
      · rw [decide_eq_true h2]
        refine iteF ?_
        refine ⟨_, rfl, a, _, rfl, hs', (by rw [List.length_map]; omega), fun m hm hall => ⟨_, _, rfl, rfl, _, rfl, ?_⟩⟩
        by_cases h3 : (1 : Int) ≤ m
        · rw [decide_eq_true h3]
          refine iteT ?_
          refine ⟨_, rfl, a, _, rfl, hs', (by rw [List.length_map]; omega), fun m2 hm2 hall2 => ⟨_, _, rfl, rfl, ?_⟩⟩
          have e : decide (m2 ≤ 99999) = Si47.wordsOk l := by
            unfold Si47.wordsOk
            rw [decide_eq_true (show 1 ≤ l.length by omega), decide_eq_true (show l.length ≤ Si47.WORDS by show l.length ≤ 80; omega), Bool.true_and, Bool.true_and]
            rw [Bool.eq_iff_iff, decide_eq_true_iff, List.all_eq_true]
            constructor
            · intro h4 x hx
              have y1 := hall x (List.mem_map.mpr ⟨x, hx, rfl⟩)
              have y2 := hall2 x (List.mem_map.mpr ⟨x, hx, rfl⟩)
              simp only [Bool.and_eq_true, decide_eq_true_iff]
              omega
            · intro h4
              obtain ⟨x, hx, rfl⟩ := List.mem_map.mp hm2
              have := h4 x hx
              simp only [Bool.and_eq_true, decide_eq_true_iff] at this
              omega
          rw [← e] at k
          exact k
        · rw [decide_eq_false h3]
          refine iteF ?_
          have e : Si47.wordsOk l = false := by
            unfold Si47.wordsOk
            obtain ⟨x, hx, rfl⟩ := List.mem_map.mp hm
            have : (l.all fun x => decide (1 ≤ x) && decide (x ≤ 99999)) = false := by
              rw [Bool.eq_false_iff]
              intro h4
              have := List.all_eq_true.mp h4 x hx
              simp only [Bool.and_eq_true, decide_eq_true_iff] at this
              omega
            rw [this, Bool.and_false, Bool.and_false]
          rw [e] at k
          exact k
      · rw [decide_eq_false h2]
        refine iteT ?_
        have e : Si47.wordsOk l = false := by
          unfold Si47.wordsOk
          rw [decide_eq_false (show ¬ l.length ≤ Si47.WORDS by show ¬ l.length ≤ 80; omega), Bool.false_and, Bool.and_false]
        rw [e] at k
        exact k
    · rw [decide_eq_false h1]
      refine iteF ⟨_, rfl, iteT ?_⟩
      have e : Si47.wordsOk l = false := by
        unfold Si47.wordsOk
        rw [decide_eq_false (show ¬ 1 ≤ l.length by omega), Bool.false_and]
      rw [e] at k
      exact k
def whole_ (l : List Nat) (n : Nat) : Bool := (l.all (fun n => decide (1 ≤ n)) && Si47.total l == n)
def sp_make_whole (K : PySem.W.Frag) : Sp := fun vs H Q _ => ∃ (a : Addr) (l : List Nat) (n : Nat), vs = [.ref a, .int n] ∧ SqL K H a (iN l) ∧ Q (.bl (whole_ l n)) H
theorem inV_zero : ∀ l : List Nat, inV (V.int 0) (iN l) = !(l.all fun n => decide (1 ≤ n))
  | [] => rfl
  | a :: l => by
    have ih := inV_zero l
    unfold inV at ih ⊢
    show (eqV (V.int (a : Int)) (V.int 0) || (iN l).any fun y => eqV y (V.int 0)) = !(decide (1 ≤ a) && l.all fun n => decide (1 ≤ n))
    rw [ih]
    by_cases h : 1 ≤ a
    · rw [decide_eq_true h, show eqV (V.int (a : Int)) (V.int 0) = false from (by show ((a : Int) == 0) = false; exact beq_false_of_ne (by omega))]
      simp
    · have h0 : a = 0 := by omega
      subst h0
      rfl
theorem flat_iN (l : List Nat) : (iN l).all flatV = true := by
  rw [List.all_eq_true]
  intro x hx
  obtain ⟨n, _, rfl⟩ := List.mem_map.mp hx
  rfl
theorem ok_make_whole (T : Tx K mg A) : FnOk P w K mg base CX0 1 A.f_make_whole A.d_make_whole ["sizes", "whole"] (sp_make_whole K) := by
  refine T.F_make_whole.ok sc_make_whole (fun vs H Q E h => ?_) (fun cdv A' outer s H vs Q E hr h => ?_)
  · obtain ⟨a, l, n, rfl, _⟩ := h
    rfl
  · obtain ⟨a, l, n, rfl, hs, k⟩ := h
    refine ⟨_, (pss_one (ps_ret (pe_and (pe_cmpR op_notIn_seq pe_int (pv 0) rfl) (pe_one (pe_cmpR op_eq (pe_callB (cr_sum rfl) (by rfl) T.z_sum bt_sum (pa_cons (pv 0) pa_nil)) (pv 1) (nomark _)))))), ?_⟩
    refine ⟨_, rfl, a, _, rfl, .inl hs, rfl, flat_iN l, _, rfl, ?_⟩
    show if (!inV (V.int 0) (iN l)) = true then _ else _
    rw [inV_zero, Bool.not_not]
    unfold whole_ at k
    by_cases h1 : (l.all fun n => decide (1 ≤ n)) = true
    · rw [h1] at k ⊢
      refine iteT ?_
      have hs' : SqL K H a ((l.map fun (n : Nat) => (n : Int)).map V.int) := by rw [← iN_int]; exact hs
      refine ⟨_, rfl, a, _, rfl, hs', _, rfl, rfl, ?_⟩
      rw [sum_total]
      have e : decide (V.int ((Si47.total l : Nat) : Int) = V.int (n : Int)) = (true && (Si47.total l == n)) := by
        rw [dec_int, Bool.true_and, Bool.eq_iff_iff, beq_iff_eq, beq_iff_eq]
        omega
      rw [e]
      exact k
    · rw [Bool.not_eq_true] at h1
      rw [h1] at k ⊢
      exact iteF k
end
end Ed
namespace Ed
open PySem PySem.Spec PyProof.Rows L2
section
variable {P : Program} {w : World} {K : PySem.W.Frag} {mg : Str → Option Value} {base : Heap} {A : Ad}
def But (S : List Addr) (H H' : Hp) : Prop := ∀ b o, H b = some o → b ∉ S → H' b = some o
def EdAt (A : Ad) (H : Hp) (S : List Addr) (e : Addr) (ed : Si47.Edition) : Prop :=
  ∃ dx a b c, H e = some (.ins A.a_Edition dx (fs_Edition (.ref a) (.ref b) (.ref c))) ∧ H a = some (.lst (iN ed.words)) ∧ H b = some (.lst (iN ed.lines)) ∧ H c = some (.lst (iN ed.pages)) ∧ e ∈ S ∧ a ∈ S ∧ b ∈ S ∧ c ∈ S
def csV (c : Si38.Costs) : List V := [.int (c.other : Nat), .int (c.out : Nat), .int (c.into : Nat)]
def CostAt (K : PySem.W.Frag) (H : Hp) (S : List Addr) (tc : Addr) (c : Si38.Costs) : Prop := (H tc = some (.tup (csV c)) ∧ tc ∈ S) ∨ ∀ H', SqT K H' tc (csV c)
theorem CostAt.seq {H : Hp} {S : List Addr} {tc : Addr} {c : Si38.Costs} (h : CostAt K H S tc c) : SqT K H tc (csV c) := by
  rcases h with ⟨h, _⟩ | h
  · exact SqT.of h
  · exact h H
structure ShAt (K : PySem.W.Frag) (A : Ad) (H : Hp) (S : List Addr) (sh dx le tc : Addr) (es : List Addr) (st : Si47.St) : Prop where
  oSh : H sh = some (.ins A.a_Shelf dx (fs_Shelf (.ref le) (.ref tc)))
  oLe : H le = some (.lst (es.map V.ref))
  oTc : CostAt K H S tc st.costs
  shS : sh ∈ S
  leS : le ∈ S
  nd : es.Nodup
  len : es.length = st.editions.length
  eds : ∀ (i : Nat) (e : Addr), es[i]? = some e → ∃ ed, st.editions[i]? = some ed ∧ EdAt A H S e ed
  trk : ∀ b ∈ S, ∃ o, H b = some o
def ShIs (K : PySem.W.Frag) (A : Ad) (H : Hp) (S : List Addr) (sh : Addr) (st : Si47.St) : Prop := ∃ dx le tc es, ShAt K A H S sh dx le tc es st
theorem EdAt.mono {H H' : Hp} {S S' : List Addr} {e : Addr} {ed : Si47.Edition} (h : EdAt A H S e ed) (hs : ∀ b ∈ S, b ∈ S') (hk : ∀ b ∈ S, ∀ o, H b = some o → H' b = some o) : EdAt A H' S' e ed := by
  obtain ⟨dx, a, b, c, h1, h2, h3, h4, m1, m2, m3, m4⟩ := h
  exact ⟨dx, a, b, c, hk _ m1 _ h1, hk _ m2 _ h2, hk _ m3 _ h3, hk _ m4 _ h4, hs _ m1, hs _ m2, hs _ m3, hs _ m4⟩
theorem CostAt.mono {H H' : Hp} {S S' : List Addr} {tc : Addr} {c : Si38.Costs} (h : CostAt K H S tc c) (hs : ∀ b ∈ S, b ∈ S') (hk : ∀ b ∈ S, ∀ xs, H b = some (.tup xs) → H' b = some (.tup xs)) : CostAt K H' S' tc c := by
  rcases h with ⟨h, m⟩ | h
  · exact .inl ⟨hk _ m _ h, hs _ m⟩
  · exact .inr h
theorem ShAt.mono {H H' : Hp} {S S' : List Addr} {sh dx le tc : Addr} {es : List Addr} {st : Si47.St} (h : ShAt K A H S sh dx le tc es st) (hs : ∀ b ∈ S, b ∈ S') (hk : ∀ b ∈ S, ∀ o, H b = some o → H' b = some o)
    (ht : ∀ b ∈ S', ∃ o, H' b = some o) : ShAt K A H' S' sh dx le tc es st :=
  ⟨hk _ h.shS _ h.oSh, hk _ h.leS _ h.oLe, h.oTc.mono hs fun b m xs e => hk b m _ e, hs _ h.shS, hs _ h.leS, h.nd, h.len, fun i e q => let ⟨ed, q1, q2⟩ := h.eds i e q; ⟨ed, q1, q2.mono hs hk⟩, ht⟩
theorem ShIs.keep {H H' : Hp} {S : List Addr} {sh : Addr} {st : Si47.St} (h : ShIs K A H S sh st) (hk : ∀ b ∈ S, ∀ o, H b = some o → H' b = some o) : ShIs K A H' S sh st := by
  obtain ⟨dx, le, tc, es, h⟩ := h
  exact ⟨dx, le, tc, es, h.mono (fun _ m => m) hk fun b m => let ⟨o, e⟩ := h.trk b m; ⟨o, hk b m o e⟩⟩
def ansL (a : Si47.Ans) : List V := (a.v :: a.l).map V.int
def Does (K : PySem.W.Frag) (A : Ad) (H : Hp) (S : List Addr) (sh : Addr) (st : Si47.St) (c : Si47.Call) (ex : List Addr) (Q : VK) : Prop :=
  ∀ (H' : Hp) (S' : List Addr) (r : Addr), ShIs K A H' S' sh (Si47.step st c).1 → H' r = some (.lst (ansL (Si47.step st c).2)) → H r = none → r ∉ S' → But S H H' → (∀ b ∈ S', b ∈ S ∨ b ∈ ex ∨ H b = none) → Q (.ref r) H'
theorem But.refl (S : List Addr) (H : Hp) : But S H H := fun _ _ e _ => e
theorem But.upd {S : List Addr} {H H' : Hp} (h : But S H H') {x : Addr} {o : HO} (hx : x ∈ S ∨ H x = none) : But S H (upd H' x o) := fun b ob e hb => by
  have hn : b ≠ x := fun q => by
    subst q
    rcases hx with m | m
    · exact hb m
    · rw [e] at m; cases m
  rw [upd_ne hn]
  exact h b ob e hb
theorem ne_in {H : Hp} {S : List Addr} {r : Addr} (hr : H r = none) (ht : ∀ b ∈ S, ∃ o, H b = some o) : r ∉ S := fun m => by
  obtain ⟨o, e⟩ := ht r m
  rw [hr] at e
  cases e
theorem does_same {H : Hp} {S ex : List Addr} {sh : Addr} {st : Si47.St} {c : Si47.Call} {Q : VK} {r : Addr} (I : ShIs K A H S sh st) (k : Does K A H S sh st c ex Q) (hr : H r = none) (e1 : (Si47.step st c).1 = st) {xs : List V} (e2 : ansL (Si47.step st c).2 = xs) :
    Q (.ref r) (upd H r (.lst xs)) := by
  obtain ⟨dx, le, tc, es, h⟩ := id I
  have nr := ne_in hr h.trk
  refine k _ S r ?_ (by rw [upd_same, e2]) hr nr ((But.refl S H).upd (.inr hr)) fun b m => .inl m
  rw [e1]
  exact I.keep fun b m o e => by
    rw [upd_ne (fun q : b = r => nr (q ▸ m))]
    exact e
def sp_Edition_init (K : PySem.W.Frag) (A : Ad) : Sp := fun vs H Q _ => ∃ (p dx a : Addr) (xs : List V), vs = [.ref p, .ref a] ∧ H p = some (.ins A.a_Edition dx []) ∧ H a = some (.lst xs) ∧
  ∀ (H' : Hp) (b c : Addr), H b = none → H c = none → H' p = some (.ins A.a_Edition dx (fs_Edition (.ref a) (.ref b) (.ref c))) → H' b = some (.lst [.int xs.length]) → H' c = some (.lst [.int 1]) → But [p] H H' → Q .non H'
theorem ok_Edition_init (T : Tx K mg A) : FnOk P w K mg base CX0 1 A.f_Edition_init A.d_Edition_init ["self", "words"] (sp_Edition_init K A) := by
  refine T.F_Edition_init.ok sc_Edition_init (fun vs H Q E h => ?_) (fun cdv A' outer s H vs Q E hr h => ?_)
  · obtain ⟨p, dx, a, xs, rfl, _⟩ := h
    rfl
  · obtain ⟨p, dx, a, xs, rfl, hp, ha, k⟩ := h
    have nap : a ≠ p := ne_of ha hp (by intro q; cases q)
    refine ⟨_, (pss_cons (ps_fld (pv 0) (pv 1) rfl)
      (pss_cons (ps_fld (pv 0) (pe_lst (pa_cons (pe_callB call_len_seq (by rfl) T.z_len bt_len (pa_cons (pv 1) pa_nil)) pa_nil)) rfl)
      (pss_one (ps_fld (pv 0) (pe_lst (pa_cons pe_int pa_nil)) rfl)))), ?_⟩
    refine ⟨_, rfl, _, rfl, p, _, dx, [], rfl, hp, T.c_Edition, T.n_Edition_words, (by show 0 < 1000; decide), ?_⟩
    refine ⟨_, rfl, a, xs, rfl, .inl (SqL.of (by rw [upd_ne nap]; exact ha)), (by show 1 ≤ sizeLine; decide), fun b hb => ?_⟩
    have npb : b ≠ p := fun q => by subst q; rw [upd_same] at hb; cases hb
    rw [upd_ne npb] at hb
    refine ⟨_, rfl, p, _, dx, _, rfl, (by rw [upd_ne npb.symm, upd_same]), T.c_Edition, T.n_Edition_line_sizes, (by show 1 < 1000; decide), ?_⟩
    refine ⟨(by show 1 ≤ sizeLine; decide), fun c hc => ?_⟩
    have npc : c ≠ p := fun q => by subst q; rw [upd_same] at hc; cases hc
    rw [upd_ne npc] at hc
    have nbc : c ≠ b := fun q => by subst q; rw [upd_same] at hc; cases hc
    rw [upd_ne nbc, upd_ne npc] at hc
    refine ⟨_, rfl, p, _, dx, _, rfl, (by rw [upd_ne npc.symm, upd_same]), T.c_Edition, T.n_Edition_page_sizes, (by show 2 < 1000; decide), ?_⟩
    refine k _ b c hb hc (Eq.trans upd_same (congrArg (fun q => some (HO.ins A.a_Edition dx q)) (mk_Edition _ _ _))) ?_ ?_ ?_
    · rw [upd_ne npb, upd_ne nbc.symm, upd_ne npb, upd_same]
    · rw [upd_ne npc, upd_same]
    · intro z o e hz
      have hz : z ≠ p := fun q => hz (q ▸ List.mem_singleton_self _)
      rw [upd_ne hz, upd_ne (ne_of_none e hc), upd_ne hz, upd_ne (ne_of_none e hb), upd_ne hz]
      exact e
theorem cs0 : csV ⟨2, 2, 2⟩ = [V.int (2), V.int (2), V.int (2)] := rfl
def sp_Shelf_init (K : PySem.W.Frag) (A : Ad) : Sp := fun vs H Q _ => ∃ (p dx : Addr), vs = [.ref p] ∧ H p = some (.ins A.a_Shelf dx []) ∧
  ∀ (H' : Hp) (l : Addr), H l = none → l ≠ p → ShIs K A H' [p, l] p Si47.init → But [p] H H' → Q .non H'
theorem ok_Shelf_init (T : Tx K mg A) : FnOk P w K mg base CX0 1 A.f_Shelf_init A.d_Shelf_init ["self"] (sp_Shelf_init K A) := by
  refine T.F_Shelf_init.ok sc_Shelf_init (fun vs H Q E h => ?_) (fun cdv A' outer s H vs Q E hr h => ?_)
  · obtain ⟨p, dx, rfl, _⟩ := h
    rfl
  · obtain ⟨p, dx, rfl, hp, k⟩ := h
    refine ⟨_, (pss_cons (ps_fld (pv 0) (pe_lst pa_nil) rfl)
      (pss_one (ps_fld (pv 0) (pe_gr rfl T.g_FIRST_COSTS) rfl))), ?_⟩
    refine ⟨Nat.zero_le _, fun l hl => ?_⟩
    have npl : l ≠ p := fun q => by subst q; rw [hp] at hl; cases hl
    refine ⟨_, rfl, p, _, dx, [], rfl, (by rw [upd_ne npl.symm]; exact hp), T.c_Shelf, T.n_Shelf_editions, (by show 0 < 1000; decide), ?_⟩
    refine ⟨_, rfl, p, _, dx, _, rfl, upd_same, T.c_Shelf, T.n_Shelf_costs, (by show 1 < 1000; decide), ?_⟩
    have e1 := Eq.trans (upd_same (H := upd (upd H l (.lst [])) p (.ins A.a_Shelf dx (putF "editions" (.ref l) []))) (a := p) (o := .ins A.a_Shelf dx (putF "costs" (.ref A.t_FIRST_COSTS) (putF "editions" (.ref l) [])))) (congrArg (fun q => some (HO.ins A.a_Shelf dx q)) (mk_Shelf _ _))
    refine k _ l hl npl ⟨dx, l, A.t_FIRST_COSTS, [], e1, ?_, .inr fun H' => by show SqT K H' _ (csV ⟨2, 2, 2⟩); rw [cs0]; exact T.q_FIRST_COSTS H', by simp, by simp, List.nodup_nil, rfl, fun i e q => by simp at q, fun b m => ?_⟩ ?_
    · rw [upd_ne npl, upd_ne npl, upd_same]; rfl
    · simp only [List.mem_cons, List.not_mem_nil, or_false] at m
      rcases m with rfl | rfl
      · exact ⟨_, upd_same⟩
      · exact ⟨_, by rw [upd_ne npl, upd_ne npl, upd_same]⟩
    · intro z o e hz
      have hz : z ≠ p := fun q => hz (q ▸ List.mem_singleton_self _)
      rw [upd_ne hz, upd_ne hz, upd_ne (ne_of_none e hl)]
      exact e
def sp_Shelf_begin (K : PySem.W.Frag) (A : Ad) : Sp := fun vs H Q _ => ∃ (p : Addr) (S : List Addr) (st : Si47.St), vs = [.ref p] ∧ ShIs K A H S p st ∧ Does K A H S p st .begins [] Q
theorem ok_Shelf_begin (T : Tx K mg A) : FnOk P w K mg base CX0 1 A.f_Shelf_begin A.d_Shelf_begin ["self"] (sp_Shelf_begin K A) := by
  refine T.F_Shelf_begin.ok sc_Shelf_begin (fun vs H Q E h => ?_) (fun cdv A' outer s H vs Q E hr h => ?_)
  · obtain ⟨p, S, st, rfl, _⟩ := h
    rfl
  · obtain ⟨p, S, st, rfl, ⟨dx, le, tc, es, h⟩, k⟩ := h
    refine ⟨_, (pss_cons (ps_fld (pv 0) (pe_lst pa_nil) rfl)
      (pss_cons (ps_fld (pv 0) (pe_gr rfl T.g_FIRST_COSTS) rfl)
      (pss_one (ps_ret (pe_lst (pa_cons pe_int pa_nil)))))), ?_⟩
    have hp := h.oSh
    refine ⟨Nat.zero_le _, fun l hl => ?_⟩
    have npl : l ≠ p := fun q => by subst q; rw [hp] at hl; cases hl
    refine ⟨_, rfl, p, _, dx, _, rfl, (by rw [upd_ne npl.symm]; exact hp), T.c_Shelf, T.n_Shelf_editions, len_Shelf _ _, ?_⟩
    rw [put_Shelf_editions]
    refine ⟨_, rfl, p, _, dx, _, rfl, upd_same, T.c_Shelf, T.n_Shelf_costs, len_Shelf _ _, ?_⟩
    rw [put_Shelf_costs, upd_upd]
    refine ⟨(by show 1 ≤ sizeLine; decide), fun r hr => ?_⟩
    have npr : r ≠ p := fun q => by subst q; rw [upd_same] at hr; cases hr
    rw [upd_ne npr] at hr
    have nlr : r ≠ l := fun q => by subst q; rw [upd_same] at hr; cases hr
    rw [upd_ne nlr] at hr
    refine k _ [p, l] r ⟨dx, l, A.t_FIRST_COSTS, [], (by rw [upd_ne npr.symm, upd_same]), ?_, .inr fun H' => by show SqT K H' _ (csV ⟨2, 2, 2⟩); rw [cs0]; exact T.q_FIRST_COSTS H', by simp, by simp, List.nodup_nil, rfl, fun i e q => by simp at q, fun b m => ?_⟩ upd_same hr (by simp [npr, nlr]) ?_ ?_
    · rw [upd_ne nlr.symm, upd_ne npl, upd_same]; rfl
    · simp only [List.mem_cons, List.not_mem_nil, or_false] at m
      rcases m with rfl | rfl
      · exact ⟨_, by rw [upd_ne npr.symm, upd_same]⟩
      · exact ⟨_, by rw [upd_ne nlr.symm, upd_ne npl, upd_same]⟩
    · exact (((But.refl S H).upd (.inr hl)).upd (.inl h.shS)).upd (.inr hr)
    · intro b m
      simp only [List.mem_cons, List.not_mem_nil, or_false] at m
      rcases m with rfl | rfl
      · exact .inl h.shS
      · exact .inr (.inr hl)
def sp_Shelf_has_edition (K : PySem.W.Frag) (A : Ad) : Sp := fun vs H Q _ => ∃ (p : Addr) (k : Nat) (S : List Addr) (st : Si47.St), vs = [.ref p, .int k] ∧ ShIs K A H S p st ∧ Q (.bl (Si47.there st k)) H
theorem ok_Shelf_has_edition (T : Tx K mg A) : FnOk P w K mg base CX0 1 A.f_Shelf_has_edition A.d_Shelf_has_edition ["self", "k"] (sp_Shelf_has_edition K A) := by
  refine T.F_Shelf_has_edition.ok sc_Shelf_has_edition (fun vs H Q E h => ?_) (fun cdv A' outer s H vs Q E hr h => ?_)
  · obtain ⟨p, k, S, st, rfl, _⟩ := h
    rfl
  · obtain ⟨p, k, S, st, rfl, ⟨dx, le, tc, es, h⟩, q⟩ := h
    refine ⟨_, (pss_one (ps_ret (pe_cmpR op_lt (pv 1) (pe_callB call_len_seq (by rfl) T.z_len bt_len (pa_cons (pe_fld (pv 0) rfl) pa_nil)) (nomark _)))), ?_⟩
    refine ⟨_, rfl, _, rfl, p, _, dx, _, _, rfl, h.oSh, T.c_Shelf, T.n_Shelf_editions, get_Shelf_editions _ _, le, _, rfl, .inl (SqL.of h.oLe), _, _, rfl, rfl, ?_⟩
    have e : decide ((k : Int) < ((es.map V.ref).length : Nat)) = Si47.there st k := by
      unfold Si47.there
      rw [List.length_map, h.len, Bool.eq_iff_iff, decide_eq_true_iff, decide_eq_true_iff]
      omega
    rw [← e] at q
    exact q
end
end Ed
namespace Ed
open PySem PySem.Spec PyProof.Rows L2
section
variable {P : Program} {w : World} {K : PySem.W.Frag} {mg : Str → Option Value} {base : Heap} {A : Ad}
theorem fs_ne {a b c d e : V} : fs_Shelf a b ≠ fs_Edition c d e := fun q => by
  have := congrArg List.length q
  simp [fs_Shelf, fs_Edition] at this
theorem ShAt.put {H H' : Hp} {S S' : List Addr} {sh dx le tc e : Addr} {es : List Addr} {st : Si47.St} {k : Nat} {ed' : Si47.Edition} (h : ShAt K A H S sh dx le tc es st) (he : es[k]? = some e) (hS : ∀ b ∈ S, b ∈ S') (hk : But [e] H H') (hE : EdAt A H' S' e ed')
    (ht : ∀ b ∈ S', ∃ o, H' b = some o) : ShAt K A H' S' sh dx le tc es { st with editions := st.editions.set k ed' } := by
  obtain ⟨ed, q1, q2⟩ := h.eds k e he
  obtain ⟨de, a, b, c, o1, _, _, _, _⟩ := id q2
  have hk' : ∀ z o, H z = some o → z ≠ e → H' z = some o := fun z o q n => hk z o q (by simpa using n)
  have n1 : sh ≠ e := ne_of h.oSh o1 (by intro q; injection q with _ _ q; exact fs_ne q)
  have n2 : le ≠ e := ne_of h.oLe o1 (by intro q; cases q)
  refine ⟨hk' _ _ h.oSh n1, hk' _ _ h.oLe n2, h.oTc.mono hS fun z _ xs q => hk' _ _ q (ne_of q o1 (by intro q; cases q)), hS _ h.shS, hS _ h.leS, h.nd, by rw [h.len, List.length_set], fun i x hx => ?_, ht⟩
  by_cases hi : i = k
  · subst hi
    have : x = e := Option.some.inj (hx.symm.trans he)
    subst this
    exact ⟨ed', List.getElem?_set_self (List.getElem?_eq_some_iff.mp q1).1, hE⟩
  · obtain ⟨ed2, r1, dx2, a2, b2, c2, p1, p2, p3, p4, m1, m2, m3, m4⟩ := h.eds i x hx
    have nx : x ≠ e := fun q => hi (nd_ix h.nd hx (by rw [q]; exact he))
    have nl : ∀ {z : Addr} {xs : List V}, H z = some (.lst xs) → z ≠ e := fun q => ne_of q o1 (by intro q; cases q)
    exact ⟨ed2, by rw [List.getElem?_set_ne (fun q => hi q.symm)]; exact r1, dx2, a2, b2, c2, hk' _ _ p1 nx, hk' _ _ p2 (nl p2), hk' _ _ p3 (nl p3), hk' _ _ p4 (nl p4), hS _ m1, hS _ m2, hS _ m3, hS _ m4⟩
theorem ed_get {st : Si47.St} {k : Nat} {ed : Si47.Edition} (h : st.editions[k]? = some ed) : Si47.edition st k = ed := by
  unfold Si47.edition
  rw [List.getD_eq_getElem?_getD, h]
  rfl
theorem there_of {st : Si47.St} {k : Nat} {ed : Si47.Edition} (h : st.editions[k]? = some ed) : Si47.there st k = true := by
  unfold Si47.there
  exact decide_eq_true (List.getElem?_eq_some_iff.mp h).1
theorem ShAt.has {H : Hp} {S : List Addr} {sh dx le tc : Addr} {es : List Addr} {st : Si47.St} (h : ShAt K A H S sh dx le tc es st) {k : Nat} (t : Si47.there st k = true) : ∃ e ed, es[k]? = some e ∧ st.editions[k]? = some ed ∧ EdAt A H S e ed := by
  have hk : k < es.length := by rw [h.len]; exact of_decide_eq_true t
  obtain ⟨ed, q1, q2⟩ := h.eds k es[k] (List.getElem?_eq_getElem hk)
  exact ⟨es[k], ed, List.getElem?_eq_getElem hk, q1, q2⟩
def sp_Shelf_set (K : PySem.W.Frag) (A : Ad) (f : Nat → List Nat → Si47.Call) : Sp := fun vs H Q _ => ∃ (p : Addr) (k : Nat) (l : Addr) (ns : List Nat) (S : List Addr) (st : Si47.St), vs = [.ref p, .int k, .ref l] ∧ ShIs K A H S p st ∧ H l = some (.lst (iN ns)) ∧ l ∉ S ∧ Does K A H S p st (f k ns) [l] Q
theorem ok_Shelf_set_lines (T : Tx K mg A) : FnOk P w K mg base CX0 2 A.f_Shelf_set_lines A.d_Shelf_set_lines ["self", "k", "counts"] (sp_Shelf_set K A .lines) := by
  refine T.F_Shelf_set_lines.ok sc_Shelf_set_lines (fun vs H Q E h => ?_) (fun cdv A' outer s H vs Q E hr h => ?_)
  · obtain ⟨p, k, l, ns, S, st, rfl, _⟩ := h
    rfl
  · obtain ⟨p, k, l, ns, S, st, rfl, I, hl, hlS, q⟩ := h
    refine ⟨_, (pss_cons (ps_if (pt_not (pt_val (pe_meth (pv 0) T.c_Shelf T.M_Shelf_has_edition (ok_Shelf_has_edition T) (hr.mono (by decide)) T.b_Shelf_has_edition .nil pass0 (pa_cons (pv 1) pa_nil)))) (pss_one (ps_ret (pe_lst (pa_cons (pe_gi rfl T.g_NO_SUCH_EDITION) pa_nil)))) pss_nil)
      (pss_cons (ps_set (i := 3) sc_Shelf_set_lines.nd rfl (Or.inl rfl) (pe_ix ix_list (pe_fld (pv 0) rfl) (pv 1) (fun _ _ => rfl)))
      (pss_cons (ps_if (pt_not (pt_val (pe_call (ok_make_whole T) (hr.mono (by decide)) rfl T.m_make_whole T.F_make_whole.kp T.b_make_whole .nil pass0 (pa_cons (pv 2) (pa_cons (pe_callB call_len_seq (by rfl) T.z_len bt_len (pa_cons (pe_fld (pv 3) rfl) pa_nil)) pa_nil))))) (pss_one (ps_ret (pe_lst (pa_cons (pe_gi rfl T.g_WRONG_FORM) pa_nil)))) pss_nil)
      (pss_cons (ps_fld (pv 3) (pv 2) rfl)
      (pss_cons (ps_fld (pv 3) (pe_lst (pa_cons (pe_callB call_len_seq (by rfl) T.z_len bt_len (pa_cons (pv 2) pa_nil)) pa_nil)) rfl)
      (pss_one (ps_ret (pe_lst (pa_cons (pe_callB call_len_seq (by rfl) T.z_len bt_len (pa_cons (pv 2) pa_nil)) pa_nil))))))))), ?_⟩
    obtain ⟨dx, le, tc, es, h⟩ := id I
    refine ⟨_, rfl, p, dx, _, rfl, h.oSh, no_Shelf_has_edition _ _, _, rfl, p, k, S, st, rfl, I, _, rfl, ?_⟩
    cases t : Si47.there st k with
    | false =>
      refine iteT ⟨(by show 1 ≤ sizeLine; decide), fun r hr => ?_⟩
      refine does_same I q hr ?_ ?_ <;> simp [Si47.step, t, Si47.ok, ansL]
    | true =>
      obtain ⟨e, ed, h1, h2, h3⟩ := h.has t
      obtain ⟨de, a, b, c, o1, o2, o3, o4, m1, m2, m3, m4⟩ := id h3
      have ee := ed_get h2
      refine iteF ?_
      refine ⟨_, rfl, p, _, dx, _, _, rfl, h.oSh, T.c_Shelf, T.n_Shelf_editions, get_Shelf_editions _ _, _, rfl, le, _, _, _, rfl, rfl, SqL.of h.oLe, atI_nat (by rw [List.getElem?_map, h1]; rfl), ?_⟩
      refine ⟨_, rfl, _, rfl, e, _, de, _, _, rfl, o1, T.c_Edition, T.n_Edition_words, get_Edition_words _ _ _, a, _, rfl, .inl (SqL.of o2), ?_⟩
      rw [iN_len]
      refine ⟨l, ns, ed.words.length, rfl, SqL.of hl, _, rfl, ?_⟩
      cases t2 : whole_ ns ed.words.length with
      | false =>
        refine iteT ⟨(by show 1 ≤ sizeLine; decide), fun r hr => ?_⟩
        have t3 : (ns.all (fun n => decide (1 ≤ n)) && Si47.total ns == (Si47.edition st k).words.length) = false := by rw [ee]; exact t2
        refine does_same I q hr ?_ ?_ <;> simp only [Si47.step, t, t3] <;> rfl
      | true =>
        have t4 : (ns.all (fun n => decide (1 ≤ n)) && Si47.total ns == ed.words.length) = true := t2
        have nle : l ≠ e := ne_of hl o1 (by intro q; cases q)
        refine iteF ?_
        refine ⟨_, rfl, _, rfl, e, _, de, _, rfl, o1, T.c_Edition, T.n_Edition_line_sizes, len_Edition _ _ _, ?_⟩
        rw [put_Edition_line_sizes]
        refine ⟨_, rfl, l, _, rfl, .inl (SqL.of (by rw [upd_ne nle]; exact hl)), (by show 1 ≤ sizeLine; decide), fun c' hc' => ?_⟩
        have nce : c' ≠ e := fun q => by subst q; rw [upd_same] at hc'; cases hc'
        rw [upd_ne nce] at hc'
        have ncl : c' ≠ l := (ne_of_none hl hc').symm
        refine ⟨_, rfl, e, _, de, _, rfl, (by rw [upd_ne nce.symm, upd_same]), T.c_Edition, T.n_Edition_page_sizes, len_Edition _ _ _, ?_⟩
        rw [put_Edition_page_sizes]
        refine ⟨_, rfl, l, _, rfl, .inl (SqL.of (by rw [upd_ne nle, upd_ne ncl.symm, upd_ne nle]; exact hl)), (by show 1 ≤ sizeLine; decide), fun r hr => ?_⟩
        have nre : r ≠ e := fun q => by subst q; rw [upd_same] at hr; cases hr
        rw [upd_ne nre] at hr
        have nrc : r ≠ c' := fun q => by subst q; rw [upd_same] at hr; cases hr
        rw [upd_ne nrc, upd_ne nre] at hr
        have nrl : r ≠ l := (ne_of_none hl hr).symm
        rw [iN_len]
        have s1 : (Si47.step st (.lines k ns)).1 = { st with editions := st.editions.set k { ed with lines := ns, pages := [ns.length] } } := by
          simp only [Si47.step, t, ee, t4]
          rfl
        have s2 : ansL (Si47.step st (.lines k ns)).2 = [V.int (ns.length : Int)] := by
          simp only [Si47.step, t, ee, t4]
          rfl
        have nrS := ne_in hr h.trk
        have keep : ∀ z o, H z = some o → z ≠ e → z ≠ r → upd (upd (upd (upd H e (.ins A.a_Edition de (fs_Edition (.ref a) (.ref l) (.ref c)))) c' (.lst [.int (ns.length : Int)])) e (.ins A.a_Edition de (fs_Edition (.ref a) (.ref l) (.ref c')))) r (.lst [.int (ns.length : Int)]) z = some o := fun z o q n1 n2 => by
          rw [upd_ne n2, upd_ne n1, upd_ne (ne_of_none q hc'), upd_ne n1]
          exact q
        have nae : a ≠ e := ne_of o2 o1 (by intro q; cases q)
        have nar : a ≠ r := ne_of_none o2 hr
        refine q _ (c' :: l :: S) r ⟨dx, le, tc, es, ?_⟩ ?_ hr ?_ ?_ ?_
        · rw [s1]
          refine h.put h1 (fun b m => by simp [m]) (fun z o q n => keep z o q (by simpa using n) (ne_of_none q hr)) ?_ ?_
          · refine ⟨de, a, l, c', ?_, ?_, ?_, ?_, by simp [m1], by simp [m2], by simp, by simp⟩
            · rw [upd_ne nre.symm, upd_same]
            · exact keep _ _ o2 nae nar
            · exact keep _ _ hl nle nrl.symm
            · rw [upd_ne nrc.symm, upd_ne nce, upd_same]; rfl
          · intro z m
            by_cases hze : z = e
            · subst hze
              exact ⟨_, by rw [upd_ne nre.symm, upd_same]⟩
            · simp only [List.mem_cons] at m
              rcases m with rfl | rfl | m
              · exact ⟨_, by rw [upd_ne nrc.symm, upd_ne nce, upd_same]⟩
              · exact ⟨_, keep _ _ hl nle nrl.symm⟩
              · obtain ⟨o, eo⟩ := h.trk z m
                exact ⟨o, keep _ _ eo hze (ne_of_none eo hr)⟩
        · rw [s2, upd_same]
        · simp [nrc, nrl, nrS]
        · exact ((((But.refl S H).upd (.inl m1)).upd (.inr hc')).upd (.inl m1)).upd (.inr hr)
        · intro b m
          simp only [List.mem_cons] at m
          rcases m with rfl | rfl | m
          · exact .inr (.inr hc')
          · exact .inr (.inl (by simp))
          · exact .inl m
theorem ok_Shelf_set_pages (T : Tx K mg A) : FnOk P w K mg base CX0 2 A.f_Shelf_set_pages A.d_Shelf_set_pages ["self", "k", "counts"] (sp_Shelf_set K A .pages) := by
  refine T.F_Shelf_set_pages.ok sc_Shelf_set_pages (fun vs H Q E h => ?_) (fun cdv A' outer s H vs Q E hr h => ?_)
  · obtain ⟨p, k, l, ns, S, st, rfl, _⟩ := h
    rfl
  · obtain ⟨p, k, l, ns, S, st, rfl, I, hl, hlS, q⟩ := h
    refine ⟨_, (pss_cons (ps_if (pt_not (pt_val (pe_meth (pv 0) T.c_Shelf T.M_Shelf_has_edition (ok_Shelf_has_edition T) (hr.mono (by decide)) T.b_Shelf_has_edition .nil pass0 (pa_cons (pv 1) pa_nil)))) (pss_one (ps_ret (pe_lst (pa_cons (pe_gi rfl T.g_NO_SUCH_EDITION) pa_nil)))) pss_nil)
      (pss_cons (ps_set (i := 3) sc_Shelf_set_pages.nd rfl (Or.inl rfl) (pe_ix ix_list (pe_fld (pv 0) rfl) (pv 1) (fun _ _ => rfl)))
      (pss_cons (ps_if (pt_not (pt_val (pe_call (ok_make_whole T) (hr.mono (by decide)) rfl T.m_make_whole T.F_make_whole.kp T.b_make_whole .nil pass0 (pa_cons (pv 2) (pa_cons (pe_callB call_len_seq (by rfl) T.z_len bt_len (pa_cons (pe_fld (pv 3) rfl) pa_nil)) pa_nil))))) (pss_one (ps_ret (pe_lst (pa_cons (pe_gi rfl T.g_WRONG_FORM) pa_nil)))) pss_nil)
      (pss_cons (ps_fld (pv 3) (pv 2) rfl)
      (pss_one (ps_ret (pe_lst (pa_cons (pe_callB call_len_seq (by rfl) T.z_len bt_len (pa_cons (pv 2) pa_nil)) pa_nil)))))))), ?_⟩
    obtain ⟨dx, le, tc, es, h⟩ := id I
    refine ⟨_, rfl, p, dx, _, rfl, h.oSh, no_Shelf_has_edition _ _, _, rfl, p, k, S, st, rfl, I, _, rfl, ?_⟩
    cases t : Si47.there st k with
    | false =>
      refine iteT ⟨(by show 1 ≤ sizeLine; decide), fun r hr => ?_⟩
      refine does_same I q hr ?_ ?_ <;> simp [Si47.step, t, Si47.ok, ansL]
    | true =>
      obtain ⟨e, ed, h1, h2, h3⟩ := h.has t
      obtain ⟨de, a, b, c, o1, o2, o3, o4, m1, m2, m3, m4⟩ := id h3
      have ee := ed_get h2
      refine iteF ?_
      refine ⟨_, rfl, p, _, dx, _, _, rfl, h.oSh, T.c_Shelf, T.n_Shelf_editions, get_Shelf_editions _ _, _, rfl, le, _, _, _, rfl, rfl, SqL.of h.oLe, atI_nat (by rw [List.getElem?_map, h1]; rfl), ?_⟩
      refine ⟨_, rfl, _, rfl, e, _, de, _, _, rfl, o1, T.c_Edition, T.n_Edition_line_sizes, get_Edition_line_sizes _ _ _, b, _, rfl, .inl (SqL.of o3), ?_⟩
      rw [iN_len]
      refine ⟨l, ns, ed.lines.length, rfl, SqL.of hl, _, rfl, ?_⟩
      cases t2 : whole_ ns ed.lines.length with
      | false =>
        refine iteT ⟨(by show 1 ≤ sizeLine; decide), fun r hr => ?_⟩
        have t3 : (ns.all (fun n => decide (1 ≤ n)) && Si47.total ns == (Si47.edition st k).lines.length) = false := by rw [ee]; exact t2
        refine does_same I q hr ?_ ?_ <;> simp only [Si47.step, t, t3] <;> rfl
      | true =>
        have t4 : (ns.all (fun n => decide (1 ≤ n)) && Si47.total ns == ed.lines.length) = true := t2
        have nle : l ≠ e := ne_of hl o1 (by intro q; cases q)
        refine iteF ?_
        refine ⟨_, rfl, _, rfl, e, _, de, _, rfl, o1, T.c_Edition, T.n_Edition_page_sizes, len_Edition _ _ _, ?_⟩
        rw [put_Edition_page_sizes]
        refine ⟨_, rfl, l, _, rfl, .inl (SqL.of (by rw [upd_ne nle]; exact hl)), (by show 1 ≤ sizeLine; decide), fun r hr => ?_⟩
        have nre : r ≠ e := fun q => by subst q; rw [upd_same] at hr; cases hr
        rw [upd_ne nre] at hr
        have nrl : r ≠ l := (ne_of_none hl hr).symm
        rw [iN_len]
        have s1 : (Si47.step st (.pages k ns)).1 = { st with editions := st.editions.set k { ed with pages := ns } } := by
          simp only [Si47.step, t, ee, t4]
          rfl
        have s2 : ansL (Si47.step st (.pages k ns)).2 = [V.int (ns.length : Int)] := by
          simp only [Si47.step, t, ee, t4]
          rfl
        have nrS := ne_in hr h.trk
        have keep : ∀ z o, H z = some o → z ≠ e → z ≠ r → upd (upd H e (.ins A.a_Edition de (fs_Edition (.ref a) (.ref b) (.ref l)))) r (.lst [.int (ns.length : Int)]) z = some o := fun z o q n1 n2 => by
          rw [upd_ne n2, upd_ne n1]
          exact q
        have nl : ∀ {z : Addr} {xs : List V}, H z = some (.lst xs) → z ≠ e := fun q => ne_of q o1 (by intro q; cases q)
        refine q _ (l :: S) r ⟨dx, le, tc, es, ?_⟩ ?_ hr ?_ ?_ ?_
        · rw [s1]
          refine h.put h1 (fun b m => by simp [m]) (fun z o q n => keep z o q (by simpa using n) (ne_of_none q hr)) ?_ ?_
          · refine ⟨de, a, b, l, ?_, ?_, ?_, ?_, by simp [m1], by simp [m2], by simp [m3], by simp⟩
            · rw [upd_ne nre.symm, upd_same]
            · exact keep _ _ o2 (nl o2) (ne_of_none o2 hr)
            · exact keep _ _ o3 (nl o3) (ne_of_none o3 hr)
            · exact keep _ _ hl nle nrl.symm
          · intro z m
            by_cases hze : z = e
            · subst hze
              exact ⟨_, by rw [upd_ne nre.symm, upd_same]⟩
            · simp only [List.mem_cons] at m
              rcases m with rfl | m
              · exact ⟨_, keep _ _ hl nle nrl.symm⟩
              · obtain ⟨o, eo⟩ := h.trk z m
                exact ⟨o, keep _ _ eo hze (ne_of_none eo hr)⟩
        · rw [s2, upd_same]
        · simp [nrl, nrS]
        · exact ((But.refl S H).upd (.inl m1)).upd (.inr hr)
        · intro b m
          simp only [List.mem_cons] at m
          rcases m with rfl | m
          · exact .inr (.inl (by simp))
          · exact .inl m
end
end Ed
namespace Ed
open PySem PySem.Spec PyProof.Rows L2
section
variable {P : Program} {w : World} {K : PySem.W.Frag} {mg : Str → Option Value} {base : Heap} {A : Ad}
theorem nodup_snoc {l : List Addr} {x : Addr} (h : l.Nodup) (hx : x ∉ l) : (l ++ [x]).Nodup := nd_snoc h hx
def sp_Shelf_add_edition (K : PySem.W.Frag) (A : Ad) : Sp := fun vs H Q _ => ∃ (p l : Addr) (ws : List Nat) (S : List Addr) (st : Si47.St), vs = [.ref p, .ref l] ∧ ShIs K A H S p st ∧ H l = some (.lst (iN ws)) ∧ l ∉ S ∧ st.editions.length ≤ 4 ∧ Does K A H S p st (.edition ws) [l] Q
theorem ok_Shelf_add_edition (T : Tx K mg A) : FnOk P w K mg base CX0 3 A.f_Shelf_add_edition A.d_Shelf_add_edition ["self", "words"] (sp_Shelf_add_edition K A) := by
  refine T.F_Shelf_add_edition.ok sc_Shelf_add_edition (fun vs H Q E h => ?_) (fun cdv A' outer s H vs Q E hr h => ?_)
  · obtain ⟨p, l, ws, S, st, rfl, _⟩ := h
    rfl
  · obtain ⟨p, l, ws, S, st, rfl, I, hl, hlS, h4, q⟩ := h
    refine ⟨_, (pss_cons (ps_if (pt_not (pt_val (pe_call (ok_are_words T) (hr.mono (by decide)) rfl T.m_are_words T.F_are_words.kp T.b_are_words .nil pass0 (pa_cons (pv 1) pa_nil)))) (pss_one (ps_ret (pe_lst (pa_cons (pe_gi rfl T.g_WRONG_FORM) pa_nil)))) pss_nil)
      (pss_cons (ps_set (i := 2) sc_Shelf_add_edition.nd rfl (Or.inl rfl) (pe_callB call_len_seq (by rfl) T.z_len bt_len (pa_cons (pe_fld (pv 0) rfl) pa_nil)))
      (pss_cons (ps_if (pt_cmpR op_eq (pv 2) (pe_gi rfl T.g_MOST_EDITIONS) (nomark _)) (pss_one (ps_ret (pe_lst (pa_cons (pe_gi rfl T.g_NO_ROOM) pa_nil)))) pss_nil)
      (pss_cons (ps_expr (pe_bm PySem.F.plainAttrs_list PySem.F.slot_list_append PySem.F.type_list_append mt_append (pe_fld (pv 0) rfl) (pa_cons (pe_make T.k_Edition (ok_Edition_init T) (hr.mono (by decide)) rfl T.m_Edition T.b_Edition_init .nil pass0 (pa_cons (pv 1) pa_nil)) pa_nil)))
      (pss_one (ps_ret (pe_lst (pa_cons (pv 2) pa_nil)))))))), ?_⟩
    obtain ⟨dx, le, tc, es, h⟩ := id I
    refine ⟨_, rfl, l, ws, rfl, SqL.of hl, _, rfl, ?_⟩
    cases t : Si47.wordsOk ws with
    | false =>
      refine iteT ⟨(by show 1 ≤ sizeLine; decide), fun r hr => ?_⟩
      refine does_same I q hr ?_ ?_ <;> simp [Si47.step, t, Si47.ok, ansL]
    | true =>
      refine iteF ?_
      refine ⟨_, rfl, p, _, dx, _, _, rfl, h.oSh, T.c_Shelf, T.n_Shelf_editions, get_Shelf_editions _ _, le, _, rfl, .inl (SqL.of h.oLe), ?_⟩
      rw [List.length_map, h.len]
      refine ⟨_, rfl, rfl, _, rfl, ?_⟩
      by_cases h5 : st.editions.length = 4
      · rw [decide_eq_true (show V.int (st.editions.length : Int) = V.int 4 by rw [h5]; rfl)]
        refine iteT ⟨(by show 1 ≤ sizeLine; decide), fun r hr => ?_⟩
        have t2 : Si47.EDITIONS ≤ st.editions.length := by show 4 ≤ _; omega
        refine does_same I q hr ?_ ?_ <;> simp [Si47.step, t, t2, Si47.ok, ansL]
      · rw [decide_eq_false (show ¬ V.int (st.editions.length : Int) = V.int 4 by intro z; injection z with z; omega)]
        refine iteF ?_
        have t2 : ¬ Si47.EDITIONS ≤ st.editions.length := by show ¬ 4 ≤ _; omega
        refine ⟨_, rfl, p, _, dx, _, _, rfl, h.oSh, T.c_Shelf, T.n_Shelf_editions, get_Shelf_editions _ _, .inl ⟨rfl, _, SqL.of h.oLe⟩, ?_⟩
        refine ⟨_, rfl, ?_⟩
        intro x dxx hx hdx hne
        have nlx : l ≠ x := ne_of_none hl hx
        have nld : l ≠ dxx := ne_of_none hl hdx
        refine ⟨x, dxx, l, iN ws, rfl, upd_same, (by rw [upd_ne nlx, upd_ne nld]; exact hl), fun H1 b c hb hc o1 o2 o3 kb => ⟨rfl, ?_⟩⟩
        have hbx : b ≠ x := fun z => by rw [z, upd_same] at hb; cases hb
        rw [upd_ne hbx] at hb
        have hbd : b ≠ dxx := fun z => by rw [z, upd_same] at hb; cases hb
        rw [upd_ne hbd] at hb
        have hcx : c ≠ x := fun z => by rw [z, upd_same] at hc; cases hc
        rw [upd_ne hcx] at hc
        have hcd : c ≠ dxx := fun z => by rw [z, upd_same] at hc; cases hc
        rw [upd_ne hcd] at hc
        have k1 : ∀ z o, H z = some o → H1 z = some o := fun z o e => kb z o (by rw [upd_ne (ne_of_none e hx), upd_ne (ne_of_none e hdx)]; exact e) (by simpa using ne_of_none e hx)
        refine ⟨le, _, _, rfl, rfl, k1 _ _ h.oLe, (by rw [List.length_map, h.len]; exact small1000 (by omega)), ?_⟩
        refine ⟨_, rfl, (by show 1 ≤ sizeLine; decide), fun r hr => ?_⟩
        have nrl : r ≠ le := fun z => by rw [z, upd_same] at hr; cases hr
        rw [upd_ne nrl] at hr
        have hrH : H r = none := by
          cases z : H r with
          | none => rfl
          | some o => rw [k1 _ _ z] at hr; cases hr
        have s1 : (Si47.step st (.edition ws)).1 = { st with editions := st.editions ++ [Si47.plain ws] } := by simp [Si47.step, t, t2]
        have s2 : ansL (Si47.step st (.edition ws)).2 = [V.int (st.editions.length : Int)] := by simp [Si47.step, t, t2, Si47.ok, ansL]
        have keep : ∀ z o, H1 z = some o → z ≠ le → upd (upd H1 le (.lst (es.map V.ref ++ [.ref x]))) r (.lst [.int (st.editions.length : Int)]) z = some o := fun z o e n => by
          rw [upd_ne (ne_of_none e hr), upd_ne n]
          exact e
        have keepH : ∀ z o, H z = some o → z ≠ le → upd (upd H1 le (.lst (es.map V.ref ++ [.ref x]))) r (.lst [.int (st.editions.length : Int)]) z = some o := fun z o e n => keep z o (k1 z o e) n
        have oLe' : upd (upd H1 le (.lst (es.map V.ref ++ [.ref x]))) r (.lst [.int (st.editions.length : Int)]) le = some (.lst (es.map V.ref ++ [.ref x])) := by rw [upd_ne nrl.symm, upd_same]
        have nles : ∀ {z dz : Addr} {f : List (Str × V)}, H z = some (.ins A.a_Shelf dz f) → z ≠ le := fun e => ne_of e h.oLe (by intro z; cases z)
        have nbl : b ≠ le := fun z => by rw [z, h.oLe] at hb; cases hb
        have ncl : c ≠ le := fun z => by rw [z, h.oLe] at hc; cases hc
        have nxl : x ≠ le := fun z => by rw [z, h.oLe] at hx; cases hx
        have nll : l ≠ le := fun z => hlS (z ▸ h.leS)
        refine q _ (x :: l :: b :: c :: S) r ⟨dx, le, tc, es ++ [x], ?_⟩ ?_ hrH ?_ ?_ ?_
        · rw [s1]
          have hS : ∀ z ∈ S, z ∈ x :: l :: b :: c :: S := fun z m => by simp [m]
          refine ⟨keepH _ _ h.oSh (nles h.oSh), ?_, h.oTc.mono hS fun z _ xs e => keepH _ _ e (ne_of e h.oLe (by intro z; cases z)), hS _ h.shS, hS _ h.leS, nd_snoc h.nd fun m => ?_, ?_, fun i e he => ?_, fun z m => ?_⟩
          · rw [oLe', List.map_append]; rfl
          · obtain ⟨i, hi, e⟩ := List.getElem_of_mem m
            obtain ⟨ed, _, de, a1, a2, a3, g1, _⟩ := h.eds i x (by rw [List.getElem?_eq_getElem hi, e])
            rw [g1] at hx
            cases hx
          · rw [List.length_append, List.length_append, h.len]; rfl
          · rcases Nat.lt_or_ge i es.length with hi | hi
            · rw [List.getElem?_append_left hi] at he
              obtain ⟨ed, g0, de, a1, a2, a3, g1, g2, g3, g4, m1, m2, m3, m4⟩ := h.eds i e he
              have hle : ∀ {z : Addr}, z ∈ S → ∀ {o : HO}, H z = some o → o ≠ .lst (es.map V.ref) → z ≠ le := fun _ _ e n z => n (by rw [z, h.oLe] at e; exact (Option.some.inj e).symm)
              have es1 : es ≠ [] := fun z => by rw [z] at hi; simp at hi
              have nn : ∀ (l : List Nat), HO.lst (iN l) ≠ .lst (es.map V.ref) := fun l z => by
                injection z with z
                rcases es with _ | ⟨e0, es⟩
                · exact es1 rfl
                · rcases l with _ | ⟨n0, l⟩
                  · cases z
                  · injection z with z _
                    cases z
              refine ⟨ed, by rw [List.getElem?_append_left (by rw [← h.len]; exact hi)]; exact g0, de, a1, a2, a3, keepH _ _ g1 (ne_of g1 h.oLe (by intro z; cases z)), keepH _ _ g2 (hle m2 g2 (nn _)), keepH _ _ g3 (hle m3 g3 (nn _)), keepH _ _ g4 (hle m4 g4 (nn _)), hS _ m1, hS _ m2, hS _ m3, hS _ m4⟩
            · have hi' : i = es.length := by
                have := (List.getElem?_eq_some_iff.mp he).1
                rw [List.length_append, List.length_singleton] at this
                omega
              subst hi'
              rw [List.getElem?_append_right (Nat.le_refl _), Nat.sub_self] at he
              have he : x = e := Option.some.inj he
              subst he
              refine ⟨Si47.plain ws, by rw [h.len, List.getElem?_append_right (Nat.le_refl _), Nat.sub_self]; rfl, dxx, l, b, c, keep _ _ o1 nxl, keepH _ _ hl nll, ?_, ?_, by simp, by simp, by simp, by simp⟩
              · have := keep _ _ o2 nbl
                rw [iN_len] at this
                exact this
              · exact keep _ _ o3 ncl
          · simp only [List.mem_cons] at m
            by_cases hzl : z = le
            · subst hzl
              exact ⟨_, oLe'⟩
            · rcases m with rfl | rfl | rfl | rfl | m
              · exact ⟨_, keep _ _ o1 nxl⟩
              · exact ⟨_, keepH _ _ hl nll⟩
              · exact ⟨_, keep _ _ o2 nbl⟩
              · exact ⟨_, keep _ _ o3 ncl⟩
              · obtain ⟨o, eo⟩ := h.trk z m
                exact ⟨o, keepH _ _ eo hzl⟩
        · rw [s2, upd_same]
        · have n1 : r ≠ x := (ne_of_none o1 hr).symm
          have n2 : r ≠ l := (ne_of_none hl hrH).symm
          have n3 : r ≠ b := (ne_of_none o2 hr).symm
          have n4 : r ≠ c := (ne_of_none o3 hr).symm
          have n5 := ne_in hrH h.trk
          simp [n1, n2, n3, n4, n5]
        · intro z o e m
          exact keepH z o e fun w => m (w ▸ h.leS)
        · intro z m
          simp only [List.mem_cons] at m
          rcases m with rfl | rfl | rfl | rfl | m
          · exact .inr (.inr hx)
          · exact .inr (.inl (by simp))
          · exact .inr (.inr hb)
          · exact .inr (.inr hc)
          · exact .inl m
def sp_Shelf_set_costs (K : PySem.W.Frag) (A : Ad) : Sp := fun vs H Q _ => ∃ (p : Addr) (a b c : Nat) (S : List Addr) (st : Si47.St), vs = [.ref p, .int a, .int b, .int c] ∧ ShIs K A H S p st ∧ Does K A H S p st (.costs a b c) [] Q
theorem ok_Shelf_set_costs (T : Tx K mg A) : FnOk P w K mg base CX0 1 A.f_Shelf_set_costs A.d_Shelf_set_costs ["self", "other", "out", "into"] (sp_Shelf_set_costs K A) := by
  refine T.F_Shelf_set_costs.ok sc_Shelf_set_costs (fun vs H Q E h => ?_) (fun cdv A' outer s H vs Q E hr h => ?_)
  · obtain ⟨p, a, b, c, S, st, rfl, _⟩ := h
    rfl
  · obtain ⟨p, a, b, c, S, st, rfl, I, q⟩ := h
    refine ⟨_, (pss_cons (ps_if (PW.pt (pw_or (pt_cmpR op_lt (pe_callB (call_min3 rfl) (by rfl) T.z_min bt_min (pa_cons (pv 1) (pa_cons (pv 2) (pa_cons (pv 3) pa_nil)))) pe_int (nomark _)) (pw_or1 (pt_cmpR op_gt (pe_callB (call_max3 rfl) (by rfl) T.z_max bt_max (pa_cons (pv 1) (pa_cons (pv 2) (pa_cons (pv 3) pa_nil)))) (pe_gi rfl T.g_LARGEST_COST) (nomark _))))) (pss_one (ps_ret (pe_lst (pa_cons (pe_gi rfl T.g_WRONG_FORM) pa_nil)))) pss_nil)
      (pss_cons (ps_fld (pv 0) (pe_tup (pa_cons (pv 1) (pa_cons (pv 2) (pa_cons (pv 3) pa_nil)))) rfl)
      (pss_one (ps_ret (pe_lst (pa_cons pe_int pa_nil)))))), ?_⟩
    obtain ⟨dx, le, tc, es, h⟩ := id I
    refine ⟨_, rfl, _, rfl, _, rfl, _, _, _, rfl, _, _, rfl, rfl, _, rfl, ?_⟩
    have bad : (a < 1 ∨ 100 < a ∨ b < 1 ∨ 100 < b ∨ c < 1 ∨ 100 < c) → ∀ r, H r = none → Q (.ref r) (upd H r (.lst [.int (-1)])) := fun hb r hr => by
      refine does_same I q hr ?_ ?_ <;> simp only [Si47.step, if_pos hb] <;> rfl
    refine ite2 (fun h1 => ?_) (fun h1 => ?_)
    · have h1 := of_decide_eq_true h1
      refine iteT ⟨(by show 1 ≤ sizeLine; decide), bad (by omega)⟩
    · have h1 : ¬ min (a : Int) (min (b : Int) (c : Int)) < 1 := fun z => h1 (decide_eq_true z)
      refine ⟨_, rfl, _, rfl, _, rfl, _, _, _, rfl, _, _, rfl, rfl, _, rfl, ?_⟩
      refine ite2 (fun h2 => ?_) (fun h2 => ?_)
      · have h2 := of_decide_eq_true h2
        exact ⟨(by show 1 ≤ sizeLine; decide), bad (by omega)⟩
      · have h2 : ¬ 100 < max (a : Int) (max (b : Int) (c : Int)) := fun z => h2 (decide_eq_true z)
        have good : ¬ (a < 1 ∨ 100 < a ∨ b < 1 ∨ 100 < b ∨ c < 1 ∨ 100 < c) := by omega
        refine ⟨_, rfl, _, rfl, _, rfl, (by show 3 ≤ sizeLine; decide), fun t ht => ?_⟩
        have ntp : t ≠ p := fun z => by rw [z, h.oSh] at ht; cases ht
        refine ⟨_, rfl, p, _, dx, _, rfl, (by rw [upd_ne ntp.symm]; exact h.oSh), T.c_Shelf, T.n_Shelf_costs, len_Shelf _ _, ?_⟩
        rw [put_Shelf_costs]
        refine ⟨(by show 1 ≤ sizeLine; decide), fun r hr => ?_⟩
        have nrp : r ≠ p := fun z => by rw [z, upd_same] at hr; cases hr
        rw [upd_ne nrp] at hr
        have nrt : r ≠ t := fun z => by rw [z, upd_same] at hr; cases hr
        rw [upd_ne nrt] at hr
        have keep : ∀ z o, H z = some o → z ≠ p → upd (upd (upd H t (.tup [.int (a : Int), .int (b : Int), .int (c : Int)])) p (.ins A.a_Shelf dx (fs_Shelf (.ref le) (.ref t)))) r (.lst [.int 0]) z = some o := fun z o e n => by
          rw [upd_ne (ne_of_none e hr), upd_ne n, upd_ne (ne_of_none e ht)]
          exact e
        have oT : upd (upd (upd H t (.tup [.int (a : Int), .int (b : Int), .int (c : Int)])) p (.ins A.a_Shelf dx (fs_Shelf (.ref le) (.ref t)))) r (.lst [.int 0]) t = some (.tup [.int (a : Int), .int (b : Int), .int (c : Int)]) := by
          rw [upd_ne nrt.symm, upd_ne ntp, upd_same]
        have oP : upd (upd (upd H t (.tup [.int (a : Int), .int (b : Int), .int (c : Int)])) p (.ins A.a_Shelf dx (fs_Shelf (.ref le) (.ref t)))) r (.lst [.int 0]) p = some (.ins A.a_Shelf dx (fs_Shelf (.ref le) (.ref t))) := by
          rw [upd_ne nrp.symm, upd_same]
        have s1 : (Si47.step st (.costs a b c)).1 = { st with costs := ⟨a, b, c⟩ } := by simp only [Si47.step, if_neg good]
        have s2 : ansL (Si47.step st (.costs a b c)).2 = [V.int 0] := by simp only [Si47.step, if_neg good]; rfl
        have hS : ∀ z ∈ S, z ∈ t :: S := fun z m => by simp [m]
        refine q _ (t :: S) r ⟨dx, le, t, es, ?_⟩ ?_ hr ?_ ?_ ?_
        · rw [s1]
          refine ⟨oP, keep _ _ h.oLe (ne_of h.oLe h.oSh (by intro z; cases z)), .inl ⟨oT, by simp⟩, hS _ h.shS, hS _ h.leS, h.nd, h.len, fun i e he => ?_, fun z m => ?_⟩
          · obtain ⟨ed, g0, de, a1, a2, a3, g1, g2, g3, g4, m1, m2, m3, m4⟩ := h.eds i e he
            have nl : ∀ {z : Addr} {xs : List V}, H z = some (.lst xs) → z ≠ p := fun e => ne_of e h.oSh (by intro z; cases z)
            exact ⟨ed, g0, de, a1, a2, a3, keep _ _ g1 (ne_of g1 h.oSh (by intro z; injection z with _ _ z; exact fs_ne z.symm)), keep _ _ g2 (nl g2), keep _ _ g3 (nl g3), keep _ _ g4 (nl g4), hS _ m1, hS _ m2, hS _ m3, hS _ m4⟩
          · simp only [List.mem_cons] at m
            by_cases hzp : z = p
            · subst hzp
              exact ⟨_, oP⟩
            · rcases m with rfl | m
              · exact ⟨_, oT⟩
              · obtain ⟨o, eo⟩ := h.trk z m
                exact ⟨o, keep _ _ eo hzp⟩
        · rw [s2, upd_same]
        · have n5 := ne_in hr h.trk
          simp [nrt, n5]
        · exact (((But.refl S H).upd (.inr ht)).upd (.inl h.shS)).upd (.inr hr)
        · intro z m
          simp only [List.mem_cons] at m
          rcases m with rfl | m
          · exact .inr (.inr ht)
          · exact .inl m
end
end Ed
namespace Ed
open PySem PySem.Spec PyProof.Rows L2
section
variable {P : Program} {w : World} {K : PySem.W.Frag} {mg : Str → Option Value} {base : Heap} {A : Ad}
def SrcAt (K : PySem.W.Frag) (H : Hp) (S : List Addr) (rd a : Addr) (xs : List V) : Prop := (∃ o, H a = some (.frz o (.lst xs)) ∧ a ∉ S ∧ a ≠ rd) ∨ ∀ H', SqL K H' a xs
theorem SrcAt.seq {H : Hp} {S : List Addr} {rd a : Addr} {xs : List V} (h : SrcAt K H S rd a xs) : SqL K H a xs := by
  rcases h with ⟨o, h, _⟩ | h
  · exact .inl (.inr ⟨o, h⟩)
  · exact h H
theorem SrcAt.upd {H : Hp} {S : List Addr} {rd a : Addr} {xs : List V} (h : SrcAt K H S rd a xs) (o : HO) : SrcAt K (upd H rd o) S rd a xs := by
  rcases h with ⟨q, h, m, n⟩ | h
  · exact .inl ⟨q, by rw [upd_ne n]; exact h, m, n⟩
  · exact .inr h
theorem SrcAt.keep {H H' : Hp} {S S' : List Addr} {rd a : Addr} {xs : List V} (h : SrcAt K H S rd a xs) (hb : But (rd :: S) H H') (hs : ∀ b ∈ S', b ∈ S ∨ H b = none) : SrcAt K H' S' rd a xs := by
  rcases h with ⟨q, h, m, n⟩ | h
  · refine .inl ⟨q, hb a _ h (by simp [m, n]), fun z => ?_, n⟩
    rcases hs a z with z | z
    · exact m z
    · rw [h] at z; cases z
  · exact .inr h
def DoesR (K : PySem.W.Frag) (A : Ad) (H : Hp) (S : List Addr) (rd dx a : Addr) (n : Nat) (sh : Addr) (st : Si47.St) (c : Si47.Call) (Q : VK) : Prop :=
  ∀ (H' : Hp) (S' : List Addr) (r : Addr), ShIs K A H' S' sh (Si47.step st c).1 → H' r = some (.lst (ansL (Si47.step st c).2)) → H r = none → r ∉ S' → H' rd = some (rdO A dx a n) → But (rd :: S) H H' → (∀ b ∈ S', b ∈ S ∨ H b = none) → Q (.ref r) H'
theorem DoesR.go {H : Hp} {S : List Addr} {rd dx a : Addr} {n : Nat} {sh : Addr} {st : Si47.St} {c : Si47.Call} {Q : VK} (k : DoesR K A H S rd dx a n sh st c Q) (hrd : ∃ o, H rd = some o) (hS : rd ∉ S) : Does K A (upd H rd (rdO A dx a n)) S sh st c [] Q := fun H' S' r h1 h2 h3 h4 h5 h6 => by
  have nr : r ≠ rd := fun z => by rw [z, upd_same] at h3; cases h3
  rw [upd_ne nr] at h3
  refine k H' S' r h1 h2 h3 h4 (h5 rd _ upd_same hS) (fun b o e m => ?_) fun b m => ?_
  · simp only [List.mem_cons, not_or] at m
    exact h5 b o (by rw [upd_ne m.1]; exact e) m.2
  · rcases h6 b m with z | z | z
    · exact .inl z
    · cases z
    · by_cases e : b = rd
      · subst e; rw [upd_same] at z; cases z
      · rw [upd_ne e] at z; exact .inr z
theorem DoesR.goL {H : Hp} {S : List Addr} {rd dx a l : Addr} {n : Nat} {sh : Addr} {st : Si47.St} {c : Si47.Call} {Q : VK} {ys : List V} (k : DoesR K A H S rd dx a n sh st c Q) (hrd : ∃ o, H rd = some o) (hS : rd ∉ S) (hl : H l = none) :
    Does K A (L2.upd (L2.upd H rd (rdO A dx a n)) l (.lst ys)) S sh st c [l] Q := fun H' S' r h1 h2 h3 h4 h5 h6 => by
  have nr0 : r ≠ l := fun z => by rw [z, upd_same] at h3; cases h3
  rw [upd_ne nr0] at h3
  have nr : r ≠ rd := fun z => by rw [z, upd_same] at h3; cases h3
  rw [upd_ne nr] at h3
  have nl : rd ≠ l := fun z => by obtain ⟨o, e⟩ := hrd; rw [z, hl] at e; cases e
  refine k H' S' r h1 h2 h3 h4 (h5 rd _ (by rw [upd_ne nl, upd_same]) hS) (fun b o e m => ?_) fun b m => ?_
  · simp only [List.mem_cons, not_or] at m
    exact h5 b o (by rw [upd_ne (ne_of_none e hl), upd_ne m.1]; exact e) m.2
  · rcases h6 b m with z | z | z
    · exact .inl z
    · rw [List.mem_singleton.mp z]; exact .inr hl
    · by_cases e0 : b = l
      · subst e0; exact .inr hl
      · rw [upd_ne e0] at z
        by_cases e : b = rd
        · subst e; rw [upd_same] at z; cases z
        · rw [upd_ne e] at z; exact .inr z
theorem ShIs.trk {H : Hp} {S : List Addr} {sh : Addr} {st : Si47.St} (h : ShIs K A H S sh st) : ∀ b ∈ S, ∃ o, H b = some o := by
  obtain ⟨dx, le, tc, es, h⟩ := h
  exact h.trk
theorem ShIs.rd {H : Hp} {S : List Addr} {sh rd : Addr} {st : Si47.St} {o : HO} (h : ShIs K A H S sh st) (hS : rd ∉ S) : ShIs K A (L2.upd H rd o) S sh st :=
  h.keep fun b m q e => by rw [upd_ne (fun z : b = rd => hS (z ▸ m))]; exact e
theorem ShIs.new {H : Hp} {S : List Addr} {sh l : Addr} {st : Si47.St} {o : HO} (h : ShIs K A H S sh st) (hl : H l = none) : ShIs K A (L2.upd H l o) S sh st := h.rd (ne_in hl h.trk)
theorem drop_at {xs t : List V} {n : Nat} {x : V} (h : xs.drop n = x :: t) : xs[n]? = some x ∧ xs.drop (n + 1) = t := by
  refine ⟨?_, ?_⟩
  · have := List.getElem?_drop (xs := xs) (i := n) (j := 0)
    rw [h] at this
    simpa using this.symm
  · rw [← List.drop_drop, h]
    rfl
theorem drop_row {xs ys t : List V} {n m : Nat} (h : xs.drop n = ys ++ t) (hm : ys.length = m) : n ≤ xs.length → n + m ≤ xs.length ∧ (xs.drop n).take m = ys ∧ xs.drop (n + m) = t := fun hn => by
  have e := congrArg List.length h
  rw [List.length_drop, List.length_append] at e
  refine ⟨by omega, ?_, ?_⟩
  · rw [h, ← hm, List.take_left]
  · rw [← List.drop_drop, h, ← hm, List.drop_left]
theorem drop_lt {xs t : List V} {n : Nat} {x : V} (h : xs.drop n = x :: t) : n + 1 ≤ xs.length := by
  have e := congrArg List.length h
  rw [List.length_drop, List.length_cons] at e
  omega
def sp_answer_counts (K : PySem.W.Frag) (A : Ad) : Sp := fun vs H Q _ => ∃ (rd sh dx a : Addr) (n k : Nat) (xs t : List V) (l : List Nat) (S : List Addr) (st : Si47.St) (pages : Bool), vs = [.int (if pages then 3 else 2), .ref rd, .ref sh] ∧ H rd = some (rdO A dx a n) ∧ SrcAt K H S rd a xs ∧ rd ∉ S ∧ ShIs K A H S sh st ∧
  xs.drop n = .int k :: .int l.length :: (iN l ++ t) ∧ DoesR K A H S rd dx a (n + 2 + l.length) sh st (if pages then .pages k l else .lines k l) Q
theorem ok_answer_counts (T : Tx K mg A) : FnOk P w K mg base CX0 3 A.f_answer_counts A.d_answer_counts ["call", "reader", "shelf"] (sp_answer_counts K A) := by
  refine T.F_answer_counts.ok sc_answer_counts (fun vs H Q E h => ?_) (fun cdv A' outer s H vs Q E hr h => ?_)
  · obtain ⟨rd, sh, dx, a, n, k, xs, t, l, S, st, pages, rfl, _⟩ := h
    rfl
  · obtain ⟨rd, sh, dx, a, n, k, xs, t, l, S, st, pages, rfl, hrd, hsrc, hrS, I, hd, q⟩ := h
    refine ⟨_, (pss_cons (ps_set (i := 3) sc_answer_counts.nd rfl (Or.inl rfl) (pe_meth0 (pv 1) T.c_Reader T.M_Reader_take_number (ok_Reader_take_number T) (hr.mono (by decide)) T.b_Reader_take_number .nil pass0))
      (pss_cons (ps_set (i := 4) sc_answer_counts.nd rfl (Or.inl rfl) (pe_meth0 (pv 1) T.c_Reader T.M_Reader_take_row (ok_Reader_take_row T) (hr.mono (by decide)) T.b_Reader_take_row .nil pass0))
      (pss_cons (ps_if (pt_cmpR op_eq (pv 0) (pe_gi rfl T.g_LINES) (nomark _)) (pss_one (ps_ret (pe_meth (pv 2) T.c_Shelf T.M_Shelf_set_lines (ok_Shelf_set_lines T) (hr.mono (by decide)) T.b_Shelf_set_lines .nil pass0 (pa_cons (pv 3) (pa_cons (pv 4) pa_nil))))) pss_nil)
      (pss_one (ps_ret (pe_meth (pv 2) T.c_Shelf T.M_Shelf_set_pages (ok_Shelf_set_pages T) (hr.mono (by decide)) T.b_Shelf_set_pages .nil pass0 (pa_cons (pv 3) (pa_cons (pv 4) pa_nil)))))))), ?_⟩
    obtain ⟨x1, d1⟩ := drop_at hd
    obtain ⟨x2, d2⟩ := drop_at d1
    obtain ⟨r1, r2, r3⟩ := drop_row d2 (iN_len l) (drop_lt d1)
    refine ⟨_, rfl, rd, dx, _, rfl, hrd, no_Reader_take_number _ _, rd, dx, a, n, xs, _, rfl, hrd, hsrc.seq, x1, ?_⟩
    refine ⟨_, rfl, rd, dx, _, rfl, upd_same, no_Reader_take_row _ _, rd, dx, a, n + 1, l.length, xs, rfl, upd_same, (hsrc.upd _).seq, fun o => ((hsrc.upd _).upd _).seq, x2, r1, fun c hc => ?_⟩
    have ncr : c ≠ rd := fun z => by rw [z, upd_same] at hc; cases hc
    rw [upd_ne ncr] at hc
    rw [upd_upd, r2]
    have I2 : ShIs K A (upd (upd H rd (rdO A dx a (n + 2 + l.length))) c (.lst (iN l))) S sh st := (I.rd hrS).new (by rw [upd_ne ncr]; exact hc)
    obtain ⟨dx2, le, tc, es, h2⟩ := id I2
    have hcS : c ∉ S := ne_in hc I.trk
    rw [show n + 1 + 1 + l.length = n + 2 + l.length by omega]
    refine ⟨_, rfl, rfl, _, rfl, ?_⟩
    cases pages with
    | false =>
      refine iteT ?_
      refine ⟨_, rfl, sh, dx2, _, rfl, h2.oSh, no_Shelf_set_lines _ _, _, rfl, _, rfl, sh, k, c, l, S, st, rfl, I2, upd_same, hcS, ?_⟩
      exact q.goL ⟨_, hrd⟩ hrS hc
    | true =>
      refine iteF ?_
      refine ⟨_, rfl, sh, dx2, _, rfl, h2.oSh, no_Shelf_set_pages _ _, _, rfl, _, rfl, sh, k, c, l, S, st, rfl, I2, upd_same, hcS, ?_⟩
      exact q.goL ⟨_, hrd⟩ hrS hc
def sp_answer_costs (K : PySem.W.Frag) (A : Ad) : Sp := fun vs H Q _ => ∃ (rd sh dx a : Addr) (n : Nat) (c1 c2 c3 : Nat) (xs t : List V) (S : List Addr) (st : Si47.St), vs = [.ref rd, .ref sh] ∧ H rd = some (rdO A dx a n) ∧ SrcAt K H S rd a xs ∧ rd ∉ S ∧ ShIs K A H S sh st ∧
  xs.drop n = .int c1 :: .int c2 :: .int c3 :: t ∧ DoesR K A H S rd dx a (n + 3) sh st (.costs c1 c2 c3) Q
theorem ok_answer_costs (T : Tx K mg A) : FnOk P w K mg base CX0 2 A.f_answer_costs A.d_answer_costs ["reader", "shelf"] (sp_answer_costs K A) := by
  refine T.F_answer_costs.ok sc_answer_costs (fun vs H Q E h => ?_) (fun cdv A' outer s H vs Q E hr h => ?_)
  · obtain ⟨rd, sh, dx, a, n, c1, c2, c3, xs, t, S, st, rfl, _⟩ := h
    rfl
  · obtain ⟨rd, sh, dx, a, n, c1, c2, c3, xs, t, S, st, rfl, hrd, hsrc, hrS, I, hd, q⟩ := h
    refine ⟨_, (pss_cons (ps_set (i := 2) sc_answer_costs.nd rfl (Or.inl rfl) (pe_meth0 (pv 0) T.c_Reader T.M_Reader_take_number (ok_Reader_take_number T) (hr.mono (by decide)) T.b_Reader_take_number .nil pass0))
      (pss_cons (ps_set (i := 3) sc_answer_costs.nd rfl (Or.inl rfl) (pe_meth0 (pv 0) T.c_Reader T.M_Reader_take_number (ok_Reader_take_number T) (hr.mono (by decide)) T.b_Reader_take_number .nil pass0))
      (pss_cons (ps_set (i := 4) sc_answer_costs.nd rfl (Or.inl rfl) (pe_meth0 (pv 0) T.c_Reader T.M_Reader_take_number (ok_Reader_take_number T) (hr.mono (by decide)) T.b_Reader_take_number .nil pass0))
      (pss_one (ps_ret (pe_meth (pv 1) T.c_Shelf T.M_Shelf_set_costs (ok_Shelf_set_costs T) (hr.mono (by decide)) T.b_Shelf_set_costs .nil pass0 (pa_cons (pv 2) (pa_cons (pv 3) (pa_cons (pv 4) pa_nil))))))))), ?_⟩
    obtain ⟨x1, d1⟩ := drop_at hd
    obtain ⟨x2, d2⟩ := drop_at d1
    obtain ⟨x3, d3⟩ := drop_at d2
    refine ⟨_, rfl, rd, dx, _, rfl, hrd, no_Reader_take_number _ _, rd, dx, a, n, xs, _, rfl, hrd, hsrc.seq, x1, ?_⟩
    refine ⟨_, rfl, rd, dx, _, rfl, upd_same, no_Reader_take_number _ _, rd, dx, a, n + 1, xs, _, rfl, upd_same, (hsrc.upd _).seq, x2, ?_⟩
    rw [upd_upd]
    refine ⟨_, rfl, rd, dx, _, rfl, upd_same, no_Reader_take_number _ _, rd, dx, a, n + 2, xs, _, rfl, upd_same, (hsrc.upd _).seq, x3, ?_⟩
    rw [upd_upd]
    have I2 : ShIs K A (upd H rd (rdO A dx a (n + 3))) S sh st := I.rd hrS
    obtain ⟨dx2, le, tc, es, h2⟩ := id I2
    refine ⟨_, rfl, sh, dx2, _, rfl, h2.oSh, no_Shelf_set_costs _ _, _, rfl, _, rfl, _, rfl, sh, c1, c2, c3, S, st, rfl, I2, ?_⟩
    exact q.go ⟨_, hrd⟩ hrS
end
end Ed
namespace Ed
open PySem PySem.Spec PyProof.Rows L2
section
variable {P : Program} {w : World} {K : PySem.W.Frag} {mg : Str → Option Value} {base : Heap} {A : Ad}
def sp_answer_call (K : PySem.W.Frag) (A : Ad) : Sp := fun vs H Q _ => ∃ (rd sh dx a : Addr) (n : Nat) (xs t : List V) (S : List Addr) (st : Si47.St) (c : List (List Int)) (q : Si47.Call), vs = [.ref rd, .ref sh] ∧ H rd = some (rdO A dx a n) ∧ SrcAt K H S rd a xs ∧ rd ∉ S ∧ ShIs K A H S sh st ∧ Wy.Good st ∧ Wy.Is c q ∧
  xs.drop n = (PyFlat.put1 c).map V.int ++ t ∧ DoesR K A H S rd dx a (n + (PyFlat.put1 c).length) sh st q Q
def sp_answers (K : PySem.W.Frag) : Sp := fun vs H Q _ => ∃ (a : Addr) (ns : List Int), vs = [.ref a] ∧ ((∃ o, H a = some (.frz o (.lst (ns.map V.int)))) ∨ ∀ H', SqL K H' a (ns.map V.int)) ∧ PySi47.answers_asked ns = true ∧
  ∀ (H' : Hp) (p : Addr), H' p = some (.lst ((PySi47.answers ns).map V.int)) → Q (.ref p) H'
theorem put1_pos {c : List (List Int)} {q : Si47.Call} (h : Wy.Is c q) : 0 < (PyFlat.put1 c).length := by
  cases h <;> simp [PyFlat.put1]
theorem ansL_eq (x : Si47.Ans) : ansL x = (x.v :: x.l).map V.int := rfl
structure Loop (K : PySem.W.Frag) (A : Ad) (ns : List Int) (a rd sh wl : Addr) (m : Nat) (σ : L2.St) (H : Hp) : Prop where
  ex : ∃ (v : Option V) (pos : Nat) (cs : List (List (List Int))) (S : List Addr) (st : Si47.St) (ws : List Int) (dx : Addr), σ = [some (.ref a), some (.ref rd), some (.ref sh), some (.ref wl), v] ∧ cs.length = m ∧ H rd = some (rdO A dx a pos) ∧
    SrcAt K H S rd a (ns.map V.int) ∧ rd ∉ S ∧ wl ∉ S ∧ ShIs K A H S sh st ∧ Wy.Good st ∧ H wl = some (.lst (ws.map V.int)) ∧ (ns.map V.int).drop pos = (PyFlat.put cs).map V.int ∧ (∀ c ∈ cs, ∃ q, Wy.Is c q) ∧
    PySi47.answers ns = ws ++ PyFlat.told (PyFlat.played Si47Neutral.step st (cs.map PySi47.whole)) ∧ ws.length + 162 * cs.length ≤ 9720
theorem ok_answers (T : Tx K mg A) {lv : Nat} (hlv : lv ≤ 20) (G : FnOk P w K mg base CX0 lv A.f_answer_call A.d_answer_call ["reader", "shelf"] (sp_answer_call K A)) : FnOk P w K mg base CX0 21 A.f_answers A.d_answers ["calls"] (sp_answers K) := by
  refine T.F_answers.ok sc_answers (fun vs H Q E h => ?_) (fun cdv A' outer s H vs Q E hr h => ?_)
  · obtain ⟨a, ns, rfl, _⟩ := h
    rfl
  · obtain ⟨a, ns, rfl, hsrc, hask, k⟩ := h
    refine ⟨_, (pss_cons (ps_set (i := 1) sc_answers.nd rfl (Or.inl rfl) (pe_make T.k_Reader (ok_Reader_init T) (hr.mono (by decide)) rfl T.m_Reader T.b_Reader_init .nil pass0 (pa_cons (pv 0) pa_nil)))
      (pss_cons (ps_set (i := 2) sc_answers.nd rfl (Or.inl rfl) (pe_make0 T.k_Shelf (ok_Shelf_init T) (hr.mono (by decide)) rfl T.m_Shelf T.b_Shelf_init .nil pass0))
      (pss_cons (ps_set (i := 3) sc_answers.nd rfl (Or.inl rfl) (pe_lst pa_nil))
      (pss_cons (ps_while PassesOwn.never (pt_val (pe_meth0 (pv 1) T.c_Reader T.M_Reader_has_more (ok_Reader_has_more T) (hr.mono (by decide)) T.b_Reader_has_more .nil pass0))
        (pss_cons (ps_set (i := 4) sc_answers.nd rfl (Or.inl rfl) (pe_call G (hr.mono hlv) rfl T.m_answer_call T.F_answer_call.kp T.b_answer_call .nil pass0 (pa_cons (pv 1) (pa_cons (pv 2) pa_nil))))
        (pss_cons (ps_expr (pe_bm PySem.F.plainAttrs_list PySem.F.slot_list_append PySem.F.type_list_append mt_append (pv 3) (pa_cons (pe_callB call_len_seq (by rfl) T.z_len bt_len (pa_cons (pv 4) pa_nil)) pa_nil)))
        (pss_one (ps_expr (pe_bm PySem.F.plainAttrs_list PySem.F.slot_list_extend PySem.F.type_list_extend mt_extend (pv 3) (pa_cons (pv 4) pa_nil)))))))
      (pss_one (ps_ret (pv 3))))))), ?_⟩
    obtain ⟨cs, e1, e2, e3, e4⟩ := Wy.asked_calls hask
    -- reader = Reader(calls)
    refine ⟨_, rfl, ?_⟩
    intro rd dr hrd hdr hne
    refine ⟨rd, dr, a, rfl, upd_same, fun H1 r1 k1 => ⟨rfl, ?_⟩⟩
    have s1 : Same H H1 := Same.made hrd hdr k1
    -- shelf = Shelf()
    intro sh dsh hsh hdsh hne2
    refine ⟨sh, dsh, rfl, upd_same, fun H2 le hle hne3 I2 k2 => ⟨rfl, ?_⟩⟩
    have s2 : Same H1 H2 := Same.made hsh hdsh fun b o e n => k2 b o e (by simpa using n)
    have hle1 : H1 le = none := by
      rw [upd_ne hne3] at hle
      by_cases z : le = dsh
      · rw [z]; exact hdsh
      · rw [upd_ne z] at hle; exact hle
    -- written = []
    refine ⟨Nat.zero_le _, fun wl hwl => ?_⟩
    have r2 := s2 _ _ r1
    have hS2 : rd ∉ [sh, le] := by
      simp only [List.mem_cons, List.not_mem_nil, or_false, not_or]
      exact ⟨ne_of_none r1 hsh, ne_of_none r1 hle1⟩
    have nwr : rd ≠ wl := ne_of_none r2 hwl
    refine ⟨fun m σ H' => Loop K A ns a rd sh wl m σ H', ⟨cs.length, ⟨none, 0, cs, [sh, le], Si47.init, [], dr, rfl, rfl, ?_, ?_, hS2, ?_, ?_, Wy.good_init, upd_same, ?_, e2, ?_, ?_⟩⟩, ?_⟩
    · rw [upd_ne nwr]; exact r2
    · rcases hsrc with ⟨o, h⟩ | h
      · have h2 := s2 _ _ (s1 _ _ h)
        refine .inl ⟨o, by rw [upd_ne (ne_of_none h2 hwl)]; exact h2, ?_, ne_of_none h hrd⟩
        simp only [List.mem_cons, List.not_mem_nil, or_false, not_or]
        exact ⟨ne_of_none (s1 _ _ h) hsh, ne_of_none (s1 _ _ h) hle1⟩
      · exact .inr h
    · exact ne_in hwl I2.trk
    · exact I2.new hwl
    · rw [List.drop_zero, e1]
    · rw [e4]; rfl
    · simp only [List.length_nil]; omega
    · rintro m σ H' ⟨v, pos, cs, S, st, ws, dx, rfl, rfl, hr', src, hrS, hwS, I, good, hw, hd, his, ea, hsz⟩
      refine ⟨_, rfl, rd, dx, _, rfl, hr', no_Reader_has_more _ _, rd, dx, a, pos, _, rfl, hr', src.seq, _, rfl, ?_⟩
      rcases cs with _ | ⟨c, cs⟩
      · have hp : ¬ ((pos : Int) < ((ns.map V.int).length : Nat)) := by
          have e := congrArg List.length hd
          rw [List.length_drop] at e
          simp [PyFlat.put] at e
          rw [List.length_map]
          omega
        rw [decide_eq_false hp]
        refine iteF ?_
        refine ⟨_, rfl, ?_⟩
        refine k _ wl ?_
        rw [hw, ea]
        simp [PyFlat.played, PyFlat.told]
      · obtain ⟨q, hq⟩ := his c (List.mem_cons_self ..)
        have hd : (ns.map V.int).drop pos = (PyFlat.put1 c).map V.int ++ (PyFlat.put cs).map V.int := by
          rw [hd, ← List.map_append]; rfl
        have hpos := put1_pos hq
        have e := congrArg List.length hd
        rw [List.length_drop, List.length_append, List.length_map, List.length_map] at e
        have hp : (pos : Int) < ((ns.map V.int).length : Nat) := by
          rw [List.length_map]
          omega
        rw [decide_eq_true hp]
        refine iteT ⟨Loop K A ns a rd sh wl cs.length, fun σ' H2 z => ⟨_, Nat.lt_succ_self _, z⟩, ?_⟩
        refine ⟨_, rfl, _, rfl, rd, sh, dx, a, pos, _, _, S, st, c, q, rfl, hr', src, hrS, I, good, hq, hd, fun H1 S' r I1 o1 hr1 hrS' hrd1 hb hS' => ?_⟩
        have nwrd : wl ≠ rd := ne_of hw hr' (by intro z; cases z)
        have hw1 : H1 wl = some (.lst (ws.map V.int)) := hb wl _ hw (by simp [nwrd, hwS])
        have nrw : r ≠ wl := fun z => by rw [z, hw] at hr1; cases hr1
        have len1 := Wy.ans_len good q
        have hl1 : (ansL (Si47.step st q).2).length ≤ 161 := by
          rw [ansL_eq, List.length_map, List.length_cons]; omega
        simp only [List.length_cons] at hsz
        refine ⟨_, rfl, .inl ⟨rfl, _, SqL.of hw1⟩, ?_⟩
        refine ⟨_, rfl, r, _, rfl, .inl (SqL.of o1), wl, _, _, rfl, rfl, hw1, (by rw [List.length_map, sizeLine_eq]; omega), ?_⟩
        refine ⟨_, rfl, .inl ⟨rfl, _, SqL.of upd_same⟩, _, rfl, wl, r, _, _, rfl, rfl, upd_same, (by rw [upd_ne nrw]; exact o1), (by rw [List.length_append, List.length_map, List.length_singleton, sizeLine_eq]; omega), ?_⟩
        rw [upd_upd]
        have hwS' : wl ∉ S' := fun z => by
          rcases hS' wl z with y | y
          · exact hwS y
          · rw [hw] at y; cases y
        have hrS2 : rd ∉ S' := fun z => by
          rcases hS' rd z with y | y
          · exact hrS y
          · rw [hr'] at y; cases y
        have src1 := src.keep hb hS'
        have est := hq.step st
        have ews : ws.map V.int ++ [V.int ((ansL (Si47.step st q).2).length : Nat)] ++ ansL (Si47.step st q).2 = (ws ++ (((Si47Neutral.step st (PySi47.whole c)).2.length : Int) :: (Si47Neutral.step st (PySi47.whole c)).2)).map V.int := by
          rw [est, ansL_eq]
          simp
        refine ⟨some (.ref r), pos + (PyFlat.put1 c).length, cs, S', (Si47.step st q).1, ws ++ (((Si47Neutral.step st (PySi47.whole c)).2.length : Int) :: (Si47Neutral.step st (PySi47.whole c)).2), dx, rfl, rfl, ?_, ?_, hrS2, hwS', I1.rd hwS', good.step q, ?_, ?_, fun c' hc' => his c' (List.mem_cons_of_mem _ hc'), ?_, ?_⟩
        · rw [upd_ne nwrd.symm]; exact hrd1
        · rcases src1 with ⟨o, h, m1, m2⟩ | h
          · exact .inl ⟨o, by rw [upd_ne (ne_of h hw1 (by intro z; cases z))]; exact h, m1, m2⟩
          · exact .inr h
        · rw [upd_same, ews]
        · rw [← List.drop_drop, hd]
          have : (PyFlat.put1 c).length = ((PyFlat.put1 c).map V.int).length := by rw [List.length_map]
          rw [this, List.drop_left]
        · rw [ea]
          simp only [List.map_cons, PyFlat.played, PyFlat.told, List.flatMap_cons, List.append_assoc, List.cons_append]
          rw [est]
        · rw [List.length_append, List.length_cons, est]
          simp only [List.length_cons]
          omega
end
end Ed
namespace Ed
open PySem PySem.Spec PyProof.Rows L2
theorem Same.new {H : Hp} {p : Addr} {o : HO} (h : H p = none) : Same H (L2.upd H p o) := fun b u e => by
  rw [upd_ne (ne_of_none e h)]; exact e
theorem Same.seqT {K : PySem.W.Frag} {H H' : Hp} {a : Addr} {xs : List V} (e : Same H H') (h : SqT K H a xs) : SqT K H' a xs := by
  rcases h with (h | ⟨o, h⟩) | h
  · exact .inl (.inl (e _ _ h))
  · exact .inl (.inr ⟨o, e _ _ h⟩)
  · exact .inr h
theorem cut_to (xs : List V) (n : Nat) : cutV xs none (some (n : Int)) = xs.take n := by
  unfold cutV
  rw [HT.sIx_none, HT.sIx_nat, List.drop_zero, Nat.sub_zero]
  rcases Nat.le_total n xs.length with h | h
  · rw [Nat.min_eq_left h]
  · rw [Nat.min_eq_right h, List.take_of_length_le (Nat.le_refl _), List.take_of_length_le h]
theorem cut_ij (xs : List V) {i j : Nat} (hi : i ≤ xs.length) (hj : j ≤ xs.length) : cutV xs (some (i : Int)) (some (j : Int)) = (xs.drop i).take (j - i) := by
  unfold cutV
  rw [HT.sIx_nat, HT.sIx_nat, Nat.min_eq_left hi, Nat.min_eq_left hj]
theorem iN_take (l : List Nat) (n : Nat) : (iN l).take n = iN (l.take n) := by simp [iN]
theorem iN_drop (l : List Nat) (n : Nat) : (iN l).drop n = iN (l.drop n) := by simp [iN]
theorem iN_at {l : List Nat} {i n : Nat} (h : l[i]? = some n) : (iN l)[i]? = some (.int (n : Int)) := by rw [iN_get, h]; rfl
theorem vals_ix : ∀ {xs : List V} {us : List Value}, xs.length = us.length → (∀ (i : Nat) x u, xs[i]? = some x → us[i]? = some u → RelV x u) → Vals xs us
  | [], [], _, _ => .nil
  | [], _ :: _, h, _ => by simp at h
  | _ :: _, [], h, _ => by simp at h
  | x :: xs, u :: us, h, f => .cons (f 0 x u rfl rfl) (vals_ix (by simpa using h) fun i y v h1 h2 => f (i + 1) y v (by simpa using h1) (by simpa using h2))
section
variable {X : Cx}
theorem call_rng : CallR X (.type "range") (fun xs H Q => ∃ j : Int, xs = [.int j] ∧ ∀ p, H p = none → Q (.ref p) (upd H p (.rng 0 j))) := by
  intro pins s σ H xs us Q I r h
  obtain ⟨j, rfl, q⟩ := h
  cases r with
  | cons r rr =>
    cases rr
    obtain ⟨t, rfl⟩ := r
    refine call_range_1 ?_
    refine ⟨.ref s.heap.objs.size, _, I.laid (fun b o e => Heap.get?_push_of_some _ e) (Nat.le_refl _) ?_, rfl, q _ (I.hok.fresh (Nat.le_refl _))⟩
    exact ⟨_, _, _, Heap.get?_push_size _ rfl⟩
theorem call_list_rng (hc : X.calm = true) : CallR X (.type "list") (fun xs H Q => ∃ (p : Addr) (n : Nat), xs = [.ref p] ∧ H p = some (.rng 0 (n : Int)) ∧ n ≤ 1000 ∧ ∀ l, H l = none → Q (.ref l) (upd H l (.lst ((List.range n).map fun (i : Nat) => V.int (i : Int))))) := by
  intro pins s σ H xs us Q I r h
  obtain ⟨p, n, rfl, hp, hn, q⟩ := h
  cases r with
  | cons r rr =>
    cases rr
    cases r
    obtain ⟨t, u, v, e⟩ : ∃ t u v, s.heap.get? p = some { cls := .type "range", data := .fields #[.int 0 t, .int (n : Int) u, .int 1 v] } := I.hok p _ hp
    refine call_list_range (n := n) (I.ok.hd hc) e (small_one (by omega) (by omega) (by omega) (by omega)) (by rw [rangeSize_one]; split <;> omega) (by omega) fun h' tk acc' c' kp hS hacc => ?_
    obtain ⟨h1, h2⟩ := hacc
    refine ⟨.ref s.heap.objs.size, _, I.laid (t' := tk) kp (Nat.le_refl _) (show ObjOk X.prog X.w _ h' _ (.lst ((List.range n).map fun (i : Nat) => V.int (i : Int))) from ⟨?_, acc'.toList, c', ?_, ?_⟩), rfl, q _ (I.hok.fresh (Nat.le_refl _))⟩
    · rw [List.length_map, List.length_range]; exact Nat.le_of_lt (small1000 hn)
    · refine vals_ix (by simp [h1]) fun i x u e1 e2 => ?_
      obtain ⟨t', e3⟩ := h2 i u (by simpa using e2)
      rw [List.getElem?_map] at e1
      cases e4 : (List.range n)[i]? with
      | none => rw [e4] at e1; cases e1
      | some j =>
        rw [e4] at e1
        cases e1
        have e5 : j = i := by
          obtain ⟨q1, q2⟩ := List.getElem?_eq_some_iff.mp e4
          rw [List.getElem_range] at q2
          exact q2.symm
        subst e5
        exact ⟨t', by rw [e3]; congr 1; omega⟩
    · simpa using hS
end
section
variable {P : Program} {w : World} {K : PySem.W.Frag} {mg : Str → Option Value} {base : Heap} {A : Ad}
def sp_start_of (K : PySem.W.Frag) : Sp := fun vs H Q _ => ∃ (a : Addr) (l : List Nat) (n : Nat), vs = [.ref a, .int n] ∧ SqL K H a (iN l) ∧ ∀ H', Same H H' → Q (.int (Si47.total (l.take n) : Nat)) H'
theorem ok_start_of (T : Tx K mg A) : FnOk P w K mg base CX0 1 A.f_start_of A.d_start_of ["sizes", "part"] (sp_start_of K) := by
  refine T.F_start_of.ok sc_start_of (fun vs H Q E h => ?_) (fun cdv A' outer s H vs Q E hr h => ?_)
  · obtain ⟨a, l, n, rfl, _⟩ := h
    rfl
  · obtain ⟨a, l, n, rfl, hs, k⟩ := h
    refine ⟨_, (pss_one (ps_ret (pe_callB (cr_sum rfl) (by rfl) T.z_sum bt_sum (pa_cons (pe_slice sl_list (pv 0) po_none (po_some (pv 1))) pa_nil)))), ?_⟩
    refine ⟨_, rfl, _, rfl, _, rfl, a, _, rfl, hs, fun p hp => ?_⟩
    rw [cut_to, iN_take]
    refine ⟨p, _, rfl, SqL.of (by rw [upd_same, iN_int]), ?_⟩
    rw [sum_total]
    exact k _ (Same.new hp)
def sp_part_holding (K : PySem.W.Frag) : Sp := fun vs H Q _ => ∃ (a : Addr) (l : List Nat) (i : Nat), vs = [.ref a, .int i] ∧ SqL K H a (iN l) ∧ i < Si47.total l ∧ ∀ p : Nat, p < l.length → Si47.total (l.take p) ≤ i → i < Si47.total (l.take (p + 1)) → Q (.int p) H
theorem ok_part_holding (T : Tx K mg A) : FnOk P w K mg base CX0 1 A.f_part_holding A.d_part_holding ["sizes", "number"] (sp_part_holding K) := by
  refine T.F_part_holding.ok sc_part_holding (fun vs H Q E h => ?_) (fun cdv A' outer s H vs Q E hr h => ?_)
  · obtain ⟨a, l, i, rfl, _⟩ := h
    rfl
  · obtain ⟨a, l, i, rfl, hs, hi, k⟩ := h
    refine ⟨_, (pss_cons (ps_set (i := 2) sc_part_holding.nd rfl (Or.inl rfl) pe_int)
      (pss_cons (ps_set (i := 3) sc_part_holding.nd rfl (Or.inl rfl) (pe_ix ix_list (pv 0) pe_int (fun _ _ => rfl)))
      (pss_cons (ps_while PassesOwn.never (pt_cmpR op_ge (pv 1) (pv 3) (nomark _))
        (pss_cons (ps_aug (i := 2) sc_part_holding.nd rfl (Or.inl rfl) pe_int ip_add)
        (pss_one (ps_aug (i := 3) sc_part_holding.nd rfl (Or.inl rfl) (pe_ix ix_list (pv 0) (pv 2) (fun _ _ => rfl)) ip_add))))
      (pss_one (ps_ret (pv 2)))))), ?_⟩
    have l0 : 0 < l.length := by
      rcases l with _ | ⟨x, l⟩
      · simp [Si47.total] at hi
      · simp
    have at_ : ∀ {j : Nat} (h : j < l.length), (iN l)[j]? = some (.int (l[j] : Nat)) := fun h => iN_at (List.getElem?_eq_getElem h)
    refine ⟨_, rfl, a, _, _, _, rfl, rfl, hs, at_of (j := 0) rfl (at_ l0), ?_⟩
    refine ⟨fun m σ H' => ∃ p : Nat, H = H' ∧ m = l.length - p ∧ p < l.length ∧ Si47.total (l.take p) ≤ i ∧ σ = [some (.ref a), some (.int i), some (.int p), some (.int (Si47.total (l.take (p + 1)) : Nat))], ⟨_, 0, rfl, rfl, l0, by simp [Si47.total], ?_⟩, ?_⟩
    · rw [Wy.total_take_succ (List.getElem?_eq_getElem l0)]
      simp [L2.start, Si47.total]
    · rintro m σ H' ⟨p, rfl, rfl, hp, hle, rfl⟩
      refine ⟨_, rfl, _, rfl, _, _, rfl, rfl, _, rfl, ?_⟩
      refine ite2 (fun h1 => ?_) (fun h1 => ?_)
      · have h1 := of_decide_eq_true h1
        have h1 : Si47.total (l.take (p + 1)) ≤ i := by omega
        have hp1 : p + 1 < l.length := by
          rcases Nat.lt_or_ge (p + 1) l.length with q | q
          · exact q
          · rw [List.take_of_length_le q] at h1
            omega
        refine ⟨fun σ' H' => ∃ p' : Nat, H = H' ∧ p' = p + 1 ∧ p' < l.length ∧ Si47.total (l.take p') ≤ i ∧ σ' = [some (.ref a), some (.int i), some (.int p'), some (.int (Si47.total (l.take (p' + 1)) : Nat))], ?_, ?_⟩
        · rintro σ' H' ⟨p', rfl, rfl, q1, q2, rfl⟩
          exact ⟨_, by omega, p + 1, rfl, rfl, q1, q2, rfl⟩
        · refine ⟨_, rfl, _, _, rfl, rfl, ?_⟩
          refine ⟨_, rfl, _, rfl, _, rfl, a, _, _, _, rfl, rfl, hs, at_of (j := p + 1) rfl (at_ hp1), _, _, rfl, rfl, ?_⟩
          refine ⟨p + 1, rfl, rfl, hp1, h1, ?_⟩
          rw [Wy.total_take_succ (List.getElem?_eq_getElem hp1)]
          simp
      · have h1 : i < Si47.total (l.take (p + 1)) := by
          have h2 : ¬ ((Si47.total (l.take (p + 1)) : Nat) : Int) ≤ (i : Int) := fun z => h1 (decide_eq_true z)
          omega
        exact ⟨_, rfl, k p hp hle h1⟩
end
end Ed
namespace Ed
open PySem PySem.Spec PyProof.Rows L2
section
variable {P : Program} {w : World} {K : PySem.W.Frag} {mg : Str → Option Value} {base : Heap} {A : Ad}
theorem EdAt.same {H H' : Hp} {S : List Addr} {e : Addr} {ed : Si47.Edition} (h : EdAt A H S e ed) (s : Same H H') : EdAt A H' S e ed := h.mono (fun _ m => m) fun b _ o q => s b o q
def sp_Edition_has_word (A : Ad) : Sp := fun vs H Q _ => ∃ (e : Addr) (i : Nat) (S : List Addr) (ed : Si47.Edition), vs = [.ref e, .int i] ∧ EdAt A H S e ed ∧ Q (.bl (decide (i < ed.words.length))) H
theorem ok_Edition_has_word (T : Tx K mg A) : FnOk P w K mg base CX0 1 A.f_Edition_has_word A.d_Edition_has_word ["self", "word"] (sp_Edition_has_word A) := by
  refine T.F_Edition_has_word.ok sc_Edition_has_word (fun vs H Q E h => ?_) (fun cdv A' outer s H vs Q E hr h => ?_)
  · obtain ⟨e, i, S, ed, rfl, _⟩ := h
    rfl
  · obtain ⟨e, i, S, ed, rfl, ⟨dx, a, b, c, o1, o2, o3, o4, m1, m2, m3, m4⟩, k⟩ := h
    refine ⟨_, (pss_one (ps_ret (pe_cmpR op_lt (pv 1) (pe_callB call_len_seq (by rfl) T.z_len bt_len (pa_cons (pe_fld (pv 0) rfl) pa_nil)) (nomark _)))), ?_⟩
    refine ⟨_, rfl, _, rfl, e, _, dx, _, _, rfl, o1, T.c_Edition, T.n_Edition_words, get_Edition_words _ _ _, a, _, rfl, .inl (SqL.of o2), _, _, rfl, rfl, ?_⟩
    rw [iN_len]
    show Q (.bl (decide ((i : Int) < (ed.words.length : Int)))) H
    rw [show decide ((i : Int) < (ed.words.length : Int)) = decide (i < ed.words.length) from (by rw [Bool.eq_iff_iff, decide_eq_true_iff, decide_eq_true_iff]; omega)]
    exact k
def sp_Edition_has_line (A : Ad) : Sp := fun vs H Q _ => ∃ (e : Addr) (p q : Nat) (S : List Addr) (ed : Si47.Edition), vs = [.ref e, .int p, .int q] ∧ EdAt A H S e ed ∧ ((∃ n, ed.pages[p]? = some n ∧ q < n) → Q (.bl true) H) ∧ (Si47.lineOf ed p q = none → Q (.bl false) H)
theorem ok_Edition_has_line (T : Tx K mg A) : FnOk P w K mg base CX0 1 A.f_Edition_has_line A.d_Edition_has_line ["self", "page", "line"] (sp_Edition_has_line A) := by
  refine T.F_Edition_has_line.ok sc_Edition_has_line (fun vs H Q E h => ?_) (fun cdv A' outer s H vs Q E hr h => ?_)
  · obtain ⟨e, p, q, S, ed, rfl, _⟩ := h
    rfl
  · obtain ⟨e, p, q, S, ed, rfl, ⟨dx, a, b, c, o1, o2, o3, o4, m1, m2, m3, m4⟩, k1, k2⟩ := h
    refine ⟨_, (pss_one (ps_ret (pe_and (pe_cmpR op_lt (pv 1) (pe_callB call_len_seq (by rfl) T.z_len bt_len (pa_cons (pe_fld (pv 0) rfl) pa_nil)) (nomark _)) (pe_one (pe_cmpR op_lt (pv 2) (pe_ix ix_list (pe_fld (pv 0) rfl) (pv 1) (fun _ _ => rfl)) (nomark _)))))), ?_⟩
    refine ⟨_, rfl, _, rfl, e, _, dx, _, _, rfl, o1, T.c_Edition, T.n_Edition_page_sizes, get_Edition_page_sizes _ _ _, c, _, rfl, .inl (SqL.of o4), _, _, rfl, rfl, _, rfl, ?_⟩
    rw [iN_len]
    refine ite2 (fun h1 => ?_) (fun h1 => ?_)
    · have h1 : p < ed.pages.length := by have := of_decide_eq_true h1; omega
      refine ⟨_, rfl, _, rfl, e, _, dx, _, _, rfl, o1, T.c_Edition, T.n_Edition_page_sizes, get_Edition_page_sizes _ _ _, _, rfl, c, _, _, _, rfl, rfl, SqL.of o4, atI_nat (iN_at (List.getElem?_eq_getElem h1)), _, _, rfl, rfl, ?_⟩
      show Q (.bl (decide ((q : Int) < ((ed.pages[p] : Nat) : Int)))) H
      by_cases h2 : q < ed.pages[p]
      · rw [decide_eq_true (show (q : Int) < (ed.pages[p] : Nat) by omega)]
        exact k1 ⟨_, List.getElem?_eq_getElem h1, h2⟩
      · rw [decide_eq_false (show ¬ (q : Int) < (ed.pages[p] : Nat) by omega)]
        refine k2 ?_
        unfold Si47.lineOf
        rw [List.getElem?_eq_getElem h1]
        simp [h2]
    · have h1 : ¬ (p : Int) < (ed.pages.length : Int) := fun z => h1 (decide_eq_true z)
      refine k2 ?_
      unfold Si47.lineOf
      rw [List.getElem?_eq_none (by omega)]
      rfl
def sp_Edition_line_start (A : Ad) : Sp := fun vs H Q _ => ∃ (e : Addr) (p q : Nat) (S : List Addr) (ed : Si47.Edition), vs = [.ref e, .int p, .int q] ∧ EdAt A H S e ed ∧ ∀ H', Same H H' → Q (.int (Si47.total (ed.lines.take (Si47.total (ed.pages.take p) + q)) : Nat)) H'
theorem ok_Edition_line_start (T : Tx K mg A) : FnOk P w K mg base CX0 2 A.f_Edition_line_start A.d_Edition_line_start ["self", "page", "line"] (sp_Edition_line_start A) := by
  refine T.F_Edition_line_start.ok sc_Edition_line_start (fun vs H Q E h => ?_) (fun cdv A' outer s H vs Q E hr h => ?_)
  · obtain ⟨e, p, q, S, ed, rfl, _⟩ := h
    rfl
  · obtain ⟨e, p, q, S, ed, rfl, h, k⟩ := h
    obtain ⟨dx, a, b, c, o1, o2, o3, o4, m1, m2, m3, m4⟩ := id h
    refine ⟨_, (pss_one (ps_ret (pe_call (ok_start_of T) (hr.mono (by decide)) rfl T.m_start_of T.F_start_of.kp T.b_start_of .nil pass0 (pa_cons (pe_fld (pv 0) rfl) (pa_cons (pe_op op_add (pe_call (ok_start_of T) (hr.mono (by decide)) rfl T.m_start_of T.F_start_of.kp T.b_start_of .nil pass0 (pa_cons (pe_fld (pv 0) rfl) (pa_cons (pv 1) pa_nil))) (pv 2)) pa_nil))))), ?_⟩
    refine ⟨_, rfl, e, _, dx, _, _, rfl, o1, T.c_Edition, T.n_Edition_line_sizes, get_Edition_line_sizes _ _ _, ?_⟩
    refine ⟨_, rfl, e, _, dx, _, _, rfl, o1, T.c_Edition, T.n_Edition_page_sizes, get_Edition_page_sizes _ _ _, _, rfl, ?_⟩
    refine ⟨c, _, p, rfl, SqL.of o4, fun H1 s1 => ⟨_, rfl, _, _, rfl, rfl, ?_⟩⟩
    refine ⟨b, _, Si47.total (ed.pages.take p) + q, rfl, SqL.of (s1 _ _ o3), fun H2 s2 => k H2 (s1.trans s2)⟩
def sp_Edition_page_start (A : Ad) : Sp := fun vs H Q _ => ∃ (e : Addr) (p : Nat) (S : List Addr) (ed : Si47.Edition), vs = [.ref e, .int p] ∧ EdAt A H S e ed ∧ ∀ H', Same H H' → Q (.int (Si47.total (ed.lines.take (Si47.total (ed.pages.take p))) : Nat)) H'
theorem ok_Edition_page_start (T : Tx K mg A) : FnOk P w K mg base CX0 3 A.f_Edition_page_start A.d_Edition_page_start ["self", "page"] (sp_Edition_page_start A) := by
  refine T.F_Edition_page_start.ok sc_Edition_page_start (fun vs H Q E h => ?_) (fun cdv A' outer s H vs Q E hr h => ?_)
  · obtain ⟨e, p, S, ed, rfl, _⟩ := h
    rfl
  · obtain ⟨e, p, S, ed, rfl, h, k⟩ := h
    obtain ⟨dx, a, b, c, o1, o2, o3, o4, m1, m2, m3, m4⟩ := id h
    refine ⟨_, (pss_one (ps_ret (pe_meth (pv 0) T.c_Edition T.M_Edition_line_start (ok_Edition_line_start T) (hr.mono (by decide)) T.b_Edition_line_start .nil pass0 (pa_cons (pv 1) (pa_cons pe_int pa_nil))))), ?_⟩
    exact ⟨_, rfl, e, dx, _, rfl, o1, no_Edition_line_start _ _ _, _, rfl, e, p, 0, S, ed, rfl, h, k⟩
theorem ed_row {ed : Si47.Edition} (g : Wy.GoodE ed) {i p : Nat} (hi : i < ed.words.length) (h1 : p < ed.lines.length) : p < Si47.total ed.pages := by rw [g.pt]; exact h1
def sp_Edition_page_of (A : Ad) : Sp := fun vs H Q _ => ∃ (e : Addr) (i : Nat) (S : List Addr) (ed : Si47.Edition), vs = [.ref e, .int i] ∧ EdAt A H S e ed ∧ Wy.GoodE ed ∧ i < ed.words.length ∧ ∀ z, Si47.spotOf ed i = some z → Q (.int z.page) H
theorem ok_Edition_page_of (T : Tx K mg A) : FnOk P w K mg base CX0 2 A.f_Edition_page_of A.d_Edition_page_of ["self", "word"] (sp_Edition_page_of A) := by
  refine T.F_Edition_page_of.ok sc_Edition_page_of (fun vs H Q E h => ?_) (fun cdv A' outer s H vs Q E hr h => ?_)
  · obtain ⟨e, i, S, ed, rfl, _⟩ := h
    rfl
  · obtain ⟨e, i, S, ed, rfl, h, g, hi, k⟩ := h
    obtain ⟨dx, a, b, c, o1, o2, o3, o4, m1, m2, m3, m4⟩ := id h
    refine ⟨_, (pss_one (ps_ret (pe_call (ok_part_holding T) (hr.mono (by decide)) rfl T.m_part_holding T.F_part_holding.kp T.b_part_holding .nil pass0 (pa_cons (pe_fld (pv 0) rfl) (pa_cons (pe_call (ok_part_holding T) (hr.mono (by decide)) rfl T.m_part_holding T.F_part_holding.kp T.b_part_holding .nil pass0 (pa_cons (pe_fld (pv 0) rfl) (pa_cons (pv 1) pa_nil))) pa_nil))))), ?_⟩
    refine ⟨_, rfl, e, _, dx, _, _, rfl, o1, T.c_Edition, T.n_Edition_page_sizes, get_Edition_page_sizes _ _ _, ?_⟩
    refine ⟨_, rfl, e, _, dx, _, _, rfl, o1, T.c_Edition, T.n_Edition_line_sizes, get_Edition_line_sizes _ _ _, _, rfl, ?_⟩
    refine ⟨b, _, i, rfl, SqL.of o3, (by rw [g.lt]; exact hi), fun p h1 h2 h3 => ?_⟩
    refine ⟨c, _, p, rfl, SqL.of o4, (by rw [g.pt]; exact h1), fun q h4 h5 h6 => ?_⟩
    exact k _ (Wy.spot_at h1 h2 h3 h4 h5 h6)
def sp_Edition_place_of (A : Ad) : Sp := fun vs H Q _ => ∃ (e : Addr) (i : Nat) (S : List Addr) (ed : Si47.Edition), vs = [.ref e, .int i] ∧ EdAt A H S e ed ∧ Wy.GoodE ed ∧ i < ed.words.length ∧
  ∀ (H' : Hp) (r : Addr) z, Si47.spotOf ed i = some z → Same H H' → H r = none → H' r = some (.lst (iN [z.page, z.line, z.place])) → Q (.ref r) H'
theorem ok_Edition_place_of (T : Tx K mg A) : FnOk P w K mg base CX0 2 A.f_Edition_place_of A.d_Edition_place_of ["self", "word"] (sp_Edition_place_of A) := by
  refine T.F_Edition_place_of.ok sc_Edition_place_of (fun vs H Q E h => ?_) (fun cdv A' outer s H vs Q E hr h => ?_)
  · obtain ⟨e, i, S, ed, rfl, _⟩ := h
    rfl
  · obtain ⟨e, i, S, ed, rfl, h, g, hi, k⟩ := h
    obtain ⟨dx, a, b, c, o1, o2, o3, o4, m1, m2, m3, m4⟩ := id h
    refine ⟨_, (pss_cons (ps_set (i := 2) sc_Edition_place_of.nd rfl (Or.inl rfl) (pe_call (ok_part_holding T) (hr.mono (by decide)) rfl T.m_part_holding T.F_part_holding.kp T.b_part_holding .nil pass0 (pa_cons (pe_fld (pv 0) rfl) (pa_cons (pv 1) pa_nil))))
      (pss_cons (ps_set (i := 3) sc_Edition_place_of.nd rfl (Or.inl rfl) (pe_call (ok_part_holding T) (hr.mono (by decide)) rfl T.m_part_holding T.F_part_holding.kp T.b_part_holding .nil pass0 (pa_cons (pe_fld (pv 0) rfl) (pa_cons (pv 2) pa_nil))))
      (pss_one (ps_ret (pe_lst (pa_cons (pv 3) (pa_cons (pe_op op_sub (pv 2) (pe_call (ok_start_of T) (hr.mono (by decide)) rfl T.m_start_of T.F_start_of.kp T.b_start_of .nil pass0 (pa_cons (pe_fld (pv 0) rfl) (pa_cons (pv 3) pa_nil)))) (pa_cons (pe_op op_sub (pv 1) (pe_call (ok_start_of T) (hr.mono (by decide)) rfl T.m_start_of T.F_start_of.kp T.b_start_of .nil pass0 (pa_cons (pe_fld (pv 0) rfl) (pa_cons (pv 2) pa_nil)))) pa_nil)))))))), ?_⟩
    refine ⟨_, rfl, e, _, dx, _, _, rfl, o1, T.c_Edition, T.n_Edition_line_sizes, get_Edition_line_sizes _ _ _, _, rfl, ?_⟩
    refine ⟨b, _, i, rfl, SqL.of o3, (by rw [g.lt]; exact hi), fun p h1 h2 h3 => ?_⟩
    refine ⟨_, rfl, e, _, dx, _, _, rfl, o1, T.c_Edition, T.n_Edition_page_sizes, get_Edition_page_sizes _ _ _, _, rfl, ?_⟩
    refine ⟨c, _, p, rfl, SqL.of o4, (by rw [g.pt]; exact h1), fun q h4 h5 h6 => ?_⟩
    refine ⟨_, rfl, _, rfl, _, rfl, e, _, dx, _, _, rfl, o1, T.c_Edition, T.n_Edition_page_sizes, get_Edition_page_sizes _ _ _, _, rfl, ?_⟩
    refine ⟨c, _, q, rfl, SqL.of o4, fun H1 s1 => ⟨_, _, rfl, rfl, ?_⟩⟩
    refine ⟨_, rfl, _, rfl, e, _, dx, _, _, rfl, s1 _ _ o1, T.c_Edition, T.n_Edition_line_sizes, get_Edition_line_sizes _ _ _, _, rfl, ?_⟩
    refine ⟨b, _, p, rfl, SqL.of (s1 _ _ o3), fun H2 s2 => ⟨_, _, rfl, rfl, (by show 3 ≤ sizeLine; decide), fun r hr => ?_⟩⟩
    have s12 := s1.trans s2
    refine k _ r _ (Wy.spot_at h1 h2 h3 h4 h5 h6) (s12.trans (Same.new hr)) (s12.free hr) ?_
    rw [upd_same]
    simp only [iN, List.map_cons, List.map_nil]
    rw [Int.natCast_sub h5, Int.natCast_sub h2]
end
end Ed
namespace Ed
open PySem PySem.Spec PyProof.Rows L2
def oV : Option Nat → V
  | some j => .int (j : Int)
  | none => .non
theorem ix_nat {n j : Nat} (h : j < n) : ixN n (j : Int) = some j := by
  unfold ixN
  rw [if_pos (by omega), if_pos (by omega)]
  simp
theorem ix_last {n : Nat} (h : 0 < n) : ixN n (-1) = some (n - 1) := by
  unfold ixN
  rw [if_neg (by decide), if_pos (by omega)]
  congr 1
  omega
theorem oV_at {l : List (Option Nat)} {i : Nat} {x : V} (h : (l.map oV)[i]? = some x) : ∃ o, l[i]? = some o ∧ oV o = x := by
  rw [List.getElem?_map] at h
  cases e : l[i]? with
  | none => rw [e] at h; cases h
  | some o => rw [e] at h; exact ⟨o, rfl, Option.some.inj h⟩
theorem those_succ {l : List (Option Nat)} {i : Nat} {o : Option Nat} (h : l[i]? = some o) : Wy.those (l.take (i + 1)) = Wy.those (l.take i) ++ o.toList := by
  rw [List.take_add_one, h]
  unfold Wy.those
  rw [List.filterMap_append]
  cases o <;> rfl
theorem those_len (l : List (Option Nat)) : (Wy.those l).length ≤ l.length := List.length_filterMap_le _ _
theorem those_out {l : List (Option Nat)} {i : Nat} (h : l.length ≤ i) : Wy.those (l.take i) = Wy.those l := by rw [List.take_of_length_le h]
theorem for_zip {K : PySem.W.Frag} {a b : Addr} {xs ys : List V} {g : TG} {tb : TS} {D : Ends} {σ : L2.St} {H : Hp} (Pv : Nat → L2.St → Hp → Prop) (h0 : Pv 0 σ H) (hl : ∀ i σ H, Pv i σ H → SqL K H a xs ∧ SqL K H b ys)
    (hs : ∀ i x y T σ H, xs[i]? = some x → ys[i]? = some y → Pv i σ H → H T = none → g (.ref T) σ (upd H T (.tup [x, y])) fun σ2 H2 => tb { D with nx := Pv (i + 1), ct := Pv (i + 1), bk := D.nx } σ2 H2)
    (hd : ∀ i σ H, (xs.length ≤ i ∨ ys.length ≤ i) → Pv i σ H → D.nx σ H) :
    ∃ W : Nat → Nat → L2.St → Hp → Prop, (∃ m, W 0 m σ H) ∧ ∀ i m σ H, W i m σ H →
      ((Itz K a b).stop i H ∧ D.nx σ H) ∨ ((Itz K a b).go i H ∧ ∃ N : L2.St → Hp → Prop, (∀ σ' H', N σ' H' → ∃ m', m' < m ∧ W (i + 1) m' σ' H') ∧ ∀ x H', (Itz K a b).yld i H x H' → g x σ H' fun σ2 H2 => tb { D with nx := N, ct := N, bk := D.nx } σ2 H2) := by
  refine ⟨fun i m σ H => m = xs.length - i ∧ Pv i σ H, ⟨xs.length, by simp, h0⟩, ?_⟩
  rintro i m σ H ⟨rfl, p⟩
  obtain ⟨q1, q2⟩ := hl i σ H p
  by_cases hlt : i < xs.length ∧ i < ys.length
  · obtain ⟨l1, l2⟩ := hlt
    refine .inr ⟨⟨xs, ys, xs[i], ys[i], q1, q2, List.getElem?_eq_getElem l1, List.getElem?_eq_getElem l2⟩, Pv (i + 1), fun σ' H' p' => ⟨xs.length - (i + 1), by omega, rfl, p'⟩, fun x H' y => ?_⟩
    obtain ⟨t, u, v, rfl, ht, rfl, y1, y2⟩ := y
    exact hs i u v t σ H (y1 xs q1) (y2 ys q2) p ht
  · have : xs.length ≤ i ∨ ys.length ≤ i := by omega
    exact .inl ⟨⟨xs, ys, q1, q2, this⟩, hd i σ H this p⟩
section
variable {P : Program} {w : World} {K : PySem.W.Frag} {mg : Str → Option Value} {base : Heap} {A : Ad}
def sp_those_there (K : PySem.W.Frag) : Sp := fun vs H Q _ => ∃ (a : Addr) (l : List (Option Nat)), vs = [.ref a] ∧ SqL K H a (l.map oV) ∧ l.length ≤ 1000 ∧ ∀ (H' : Hp) (r : Addr), Same H H' → H r = none → H' r = some (.lst (iN (Wy.those l))) → Q (.ref r) H'
theorem ok_those_there (T : Tx K mg A) : FnOk P w K mg base CX0 1 A.f_those_there A.d_those_there ["partners"] (sp_those_there K) := by
  refine T.F_those_there.ok sc_those_there (fun vs H Q E h => ?_) (fun cdv A' outer s H vs Q E hr h => ?_)
  · obtain ⟨a, l, rfl, _⟩ := h
    rfl
  · obtain ⟨a, l, rfl, hs, hl, k⟩ := h
    refine ⟨_, (pss_one (ps_ret (pe_lc rfl sc_those_there.nd (pi_list (pv 0)) (blkOk_by (N := ["partners", "partner"]) (sc := defScope s_those_there) (own := [("partner", 1)]) (by decide +kernel)) (fun _ _ _ _ _ => (pg_name (i := 1) sc_those_there.nd rfl (Or.inl rfl))) (fun _ _ _ _ _ => (pts_one (pt_cmpR op_notN (pv 1) pe_non (nomark _)))) (fun _ _ _ _ _ => (pv 1))))), ?_⟩
    refine ⟨_, rfl, a, rfl, ⟨_, hs⟩, fun D hD => lc_list (xs := l.map oV) (fun i H' => H' = upd H D (.lst (iN (Wy.those (l.take i))))) ?_ ?_ ?_ ?_⟩
    · rfl
    · rintro i H' _ rfl
      exact (Same.new hD).seq hs
    · rintro i x H' hx rfl
      obtain ⟨o, ho, rfl⟩ := oV_at hx
      refine ⟨rfl, _, rfl, rfl, _, rfl, ?_⟩
      cases o with
      | none =>
        refine iteF ?_
        rw [those_succ ho]
        simp
      | some j =>
        refine iteT ⟨_, rfl, _, upd_same, ?_, ?_⟩
        · rw [iN_len]
          have := those_len (l.take i)
          rw [List.length_take] at this
          exact small1000 (by omega)
        · rw [upd_upd, those_succ ho]
          simp [iN, oV]
    · rintro H' rfl
      rw [List.length_map, those_out (Nat.le_refl _)]
      exact k _ D (Same.new hD) hD upd_same
def sp_count_same (K : PySem.W.Frag) : Sp := fun vs H Q _ => ∃ (a b c : Addr) (ws : List Nat) (l : List (Option Nat)) (us : List Nat), vs = [.ref a, .ref b, .ref c] ∧ SqL K H a (iN ws) ∧ SqL K H b (l.map oV) ∧ SqL K H c (iN us) ∧ (∀ j, some j ∈ l → j < us.length) ∧
  ∀ (H' : Hp), Same H H' → Q (.int (Wy.cnt us ws l : Nat)) H'
theorem ok_count_same (T : Tx K mg A) : FnOk P w K mg base CX0 1 A.f_count_same A.d_count_same ["words", "partners", "other_words"] (sp_count_same K) := by
  refine T.F_count_same.ok sc_count_same (fun vs H Q E h => ?_) (fun cdv A' outer s H vs Q E hr h => ?_)
  · obtain ⟨a, b, c, ws, l, us, rfl, _⟩ := h
    rfl
  · obtain ⟨a, b, c, ws, l, us, rfl, h1, h2, h3, hj, k⟩ := h
    refine ⟨_, (pss_cons (ps_set (i := 3) sc_count_same.nd rfl (Or.inl rfl) pe_int)
      (pss_cons (ps_for PassesOwn.never rfl (pi_zip (by rfl) T.z_zip (pa_cons (pv 0) (pa_cons (pv 1) pa_nil))) (pg_tup rfl (pgs_cons (pg_name (i := 4) sc_count_same.nd rfl (Or.inl rfl)) (pgs_cons (pg_name (i := 5) sc_count_same.nd rfl (Or.inl rfl)) pgs_nil)))
        (pss_one (ps_if (PW.pt (pw_and (pt_cmpR op_notN (pv 5) pe_non (nomark _)) (pw_and1 (pt_cmpR op_eq (pe_ix ix_list (pv 2) (pv 5) (fun _ _ => rfl)) (pv 4) (nomark _))))) (pss_one (ps_aug (i := 3) sc_count_same.nd rfl (Or.inl rfl) pe_int ip_add)) pss_nil)))
      (pss_one (ps_ret (pv 3))))), ?_⟩
    refine ⟨_, rfl, _, rfl, a, b, _, _, rfl, h1, h2, for_zip (xs := iN ws) (ys := l.map oV) (fun i σ H' => ∃ (n : Nat) (v1 v2 : Option V), σ = [some (.ref a), some (.ref b), some (.ref c), some (.int n), v1, v2] ∧ Same H H' ∧ n + Wy.cnt us (ws.drop i) (l.drop i) = Wy.cnt us ws l) ?_ ?_ ?_ ?_⟩
    · exact ⟨0, none, none, rfl, Same.refl _, by simp⟩
    · rintro i σ H' ⟨n, v1, v2, rfl, sm, e⟩
      exact ⟨sm.seq h1, sm.seq h2⟩
    · rintro i x y t σ H' hx hy ⟨n, v1, v2, rfl, sm, e⟩ ht
      obtain ⟨o, ho, rfl⟩ := oV_at hy
      rw [iN_get] at hx
      cases hw : ws[i]? with
      | none => rw [hw] at hx; cases hx
      | some wd =>
      rw [hw] at hx
      cases hx
      rw [Wy.cnt_step us ws l hw ho] at e
      have sm' : Same H (upd H' t (.tup [.int (wd : Int), oV o])) := sm.trans (Same.new ht)
      refine ⟨t, _, rfl, SqT.of upd_same, rfl, _, _, rfl, _, _, rfl, rfl, ?_⟩
      refine ⟨_, rfl, rfl, _, rfl, ?_⟩
      cases o with
      | none => exact iteF (iteF ⟨n, _, _, rfl, sm', by simpa using e⟩)
      | some j =>
        have hju := hj j (List.mem_of_getElem? ho)
        refine iteT ⟨_, rfl, _, rfl, c, _, _, _, rfl, rfl, sm'.seq h3, atI_nat (iN_at (List.getElem?_eq_getElem hju)), _, rfl, rfl, _, rfl, ?_⟩
        have eu : us.getD j 0 = us[j] := by simp [hju]
        simp only [eu] at e
        by_cases q : us[j] = wd
        · rw [decide_eq_true (show V.int ((us[j] : Nat) : Int) = V.int (wd : Int) by rw [q])]
          rw [if_pos q] at e
          refine iteT ⟨_, rfl, _, _, rfl, rfl, n + 1, _, _, rfl, sm', by omega⟩
        · rw [decide_eq_false (show ¬ V.int ((us[j] : Nat) : Int) = V.int (wd : Int) by intro z; injection z with z; omega)]
          rw [if_neg q] at e
          exact iteF ⟨n, _, _, rfl, sm', by omega⟩
    · rintro i σ H' hi ⟨n, v1, v2, rfl, sm, e⟩
      rw [iN_len, List.length_map] at hi
      rw [Wy.cnt_end us ws l hi, Nat.add_zero] at e
      refine ⟨_, rfl, ?_⟩
      rw [e]
      exact k _ sm
def gapOf (l : List Nat) : Nat := (l.getLast?.map fun j => j + 1).getD 0
def sp_gap_behind (K : PySem.W.Frag) : Sp := fun vs H Q _ => ∃ (a : Addr) (l : List (Option Nat)), vs = [.ref a] ∧ SqL K H a (l.map oV) ∧ l.length ≤ 1000 ∧ ∀ (H' : Hp), Same H H' → Q (.int (gapOf (Wy.those l) : Nat)) H'
theorem last_at {l : List Nat} (h : l ≠ []) : atI (iN l) (-1) = some (.int (l.getLast h : Nat)) := by
  conv => lhs; rw [← List.dropLast_concat_getLast h]
  unfold iN
  rw [List.map_append]
  exact atI_last _ _
theorem ok_gap_behind (T : Tx K mg A) : FnOk P w K mg base CX0 2 A.f_gap_behind A.d_gap_behind ["partners"] (sp_gap_behind K) := by
  refine T.F_gap_behind.ok sc_gap_behind (fun vs H Q E h => ?_) (fun cdv A' outer s H vs Q E hr h => ?_)
  · obtain ⟨a, l, rfl, _⟩ := h
    rfl
  · obtain ⟨a, l, rfl, hs, hl, k⟩ := h
    refine ⟨_, (pss_cons (ps_set (i := 1) sc_gap_behind.nd rfl (Or.inl rfl) (pe_call (ok_those_there T) (hr.mono (by decide)) rfl T.m_those_there T.F_those_there.kp T.b_those_there .nil pass0 (pa_cons (pv 0) pa_nil)))
      (pss_one (ps_ret (pe_ifExp (pt_truth (pv 1) (fun _ => rfl)) (pe_op op_add (pe_ix ix_list (pv 1) (pe_un un_neg pe_int) (fun _ _ => rfl)) pe_int) pe_int)))), ?_⟩
    refine ⟨_, rfl, a, l, rfl, hs, hl, fun H1 r s1 hr o1 => ?_⟩
    refine ⟨_, rfl, _, .inl ⟨_, SqL.of o1, rfl⟩, ?_⟩
    cases e : Wy.those l with
    | nil =>
      refine iteF ?_
      have := k H1 s1
      rw [e] at this
      exact this
    | cons x t =>
      have hne : Wy.those l ≠ [] := by rw [e]; simp
      refine iteT ⟨_, rfl, _, rfl, r, _, _, _, rfl, rfl, SqL.of o1, last_at hne, _, _, rfl, rfl, ?_⟩
      have := k H1 s1
      unfold gapOf at this
      rw [List.getLast?_eq_some_getLast hne] at this
      exact this
def PrsAt (H : Hp) (ts : List Addr) (ps : List (Nat × Nat)) : Prop := ts.length = ps.length ∧ ∀ (n : Nat) t p, ts[n]? = some t → ps[n]? = some p → H t = some (.tup [.int (p.1 : Nat), .int (p.2 : Nat)])
theorem PrsAt.same {H H' : Hp} {ts : List Addr} {ps : List (Nat × Nat)} (h : PrsAt H ts ps) (s : Same H H') : PrsAt H' ts ps := ⟨h.1, fun n t p h1 h2 => s _ _ (h.2 n t p h1 h2)⟩
theorem rep_one {n : Nat} {x : V} : (List.replicate n [x]).flatten = List.replicate n x := by
  induction n with
  | zero => rfl
  | succ n ih => rw [List.replicate_succ, List.flatten_cons, ih]; rfl
theorem puts_succ {l : List (Option Nat)} {ps : List (Nat × Nat)} {i : Nat} {p : Nat × Nat} (h : ps[i]? = some p) : Wy.puts l (ps.take (i + 1)) = (Wy.puts l (ps.take i)).set p.1 (some p.2) := by
  unfold Wy.puts
  rw [List.take_add_one, h, List.foldl_append]
  rfl
def sp_partners_by (K : PySem.W.Frag) : Sp := fun vs H Q _ => ∃ (a : Addr) (ts : List Addr) (ps : List (Nat × Nat)) (n : Nat), vs = [.ref a, .int n] ∧ SqL K H a (ts.map V.ref) ∧ PrsAt H ts ps ∧ n ≤ 1000 ∧ (∀ p ∈ ps, p.1 < n) ∧ ∀ (H' : Hp) (r : Addr), Same H H' → H r = none → H' r = some (.lst ((Wy.puts (List.replicate n none) ps).map oV)) → Q (.ref r) H'
theorem ok_partners_by (T : Tx K mg A) : FnOk P w K mg base CX0 1 A.f_partners_by A.d_partners_by ["pairs", "size"] (sp_partners_by K) := by
  refine T.F_partners_by.ok sc_partners_by (fun vs H Q E h => ?_) (fun cdv A' outer s H vs Q E hr h => ?_)
  · obtain ⟨a, ts, ps, n, rfl, _⟩ := h
    rfl
  · obtain ⟨a, ts, ps, n, rfl, hs, hp, hn, hin, k⟩ := h
    refine ⟨_, (pss_cons (ps_set (i := 2) sc_partners_by.nd rfl (Or.inl rfl) (pe_op op_rep (pe_lst (pa_cons pe_non pa_nil)) (pv 1)))
      (pss_cons (ps_for PassesOwn.never rfl (pi_list (pv 0)) (pg_tup rfl (pgs_cons (pg_name (i := 3) sc_partners_by.nd rfl (Or.inl rfl)) (pgs_cons (pg_name (i := 4) sc_partners_by.nd rfl (Or.inl rfl)) pgs_nil)))
        (pss_one (ps_asg (pv 4) (pg_sub (pv 2) (pv 3) set_list))))
      (pss_one (ps_ret (pv 2))))), ?_⟩
    refine ⟨(by show 1 ≤ sizeLine; decide), fun l0 hl0 => ⟨_, rfl, l0, _, _, rfl, rfl, upd_same, (by omega), (by omega), ?_, fun r hr => ?_⟩⟩
    · show 1 * _ ≤ _
      rw [Nat.one_mul, Int.toNat_natCast]
      exact Nat.le_of_lt (small1000 hn)
    rw [Int.toNat_natCast, rep_one]
    have s1 : Same H (upd H l0 (.lst [.non])) := Same.new hl0
    have e0 : List.replicate n V.non = ((Wy.puts (List.replicate n none) (ps.take 0)).map oV) := by
      show _ = (List.replicate n none).map oV
      rw [List.map_replicate]
      rfl
    rw [e0]
    have s2 := fun o => s1.trans (Same.new (o := o) hr)
    refine ⟨_, rfl, a, rfl, ⟨_, (s2 _).seq hs⟩, for_list (xs := ts.map V.ref) (fun i σ H' => ∃ v1 v2, σ = [some (.ref a), some (.int n), some (.ref r), v1, v2] ∧ H' = upd (upd H l0 (.lst [.non])) r (.lst ((Wy.puts (List.replicate n none) (ps.take i)).map oV))) ?_ ?_ ?_ ?_⟩
    · exact ⟨none, none, rfl, rfl⟩
    · rintro i σ H' _ ⟨v1, v2, rfl, rfl⟩
      exact (s2 _).seq hs
    · rintro i x σ H' hx ⟨v1, v2, rfl, rfl⟩
      rw [List.getElem?_map] at hx
      cases ht : ts[i]? with
      | none => rw [ht] at hx; cases hx
      | some t =>
      rw [ht] at hx
      cases hx
      have hi : i < ps.length := by rw [← hp.1]; exact (List.getElem?_eq_some_iff.mp ht).1
      have hpi := List.getElem?_eq_getElem hi
      have o1 := hp.2 i t _ ht hpi
      have hlt := hin _ (List.getElem_mem hi)
      refine ⟨t, _, rfl, SqT.of ((s2 _) _ _ o1), rfl, _, _, rfl, _, _, rfl, rfl, ?_⟩
      refine ⟨_, rfl, _, rfl, _, rfl, r, _, _, _, rfl, rfl, upd_same, ix_nat (by rw [List.length_map, Wy.puts_len, List.length_replicate]; exact hlt), _, _, rfl, ?_⟩
      rw [upd_upd, puts_succ hpi, List.map_set]
      rfl
    · rintro σ H' ⟨v1, v2, rfl, rfl⟩
      refine ⟨_, rfl, k _ r (s2 _) (s1.free hr) ?_⟩
      rw [upd_same, List.length_map, hp.1, List.take_of_length_le (Nat.le_refl _)]
end
end Ed
namespace Ed
open PySem PySem.Spec PyProof.Rows L2
def rowN (c : Si38.Costs) (X Y : List Nat) (i : Nat) : List Nat := (List.range (Y.length + 1)).map fun j => Wy.at_ c X Y i j
theorem rowN_len (c : Si38.Costs) (X Y : List Nat) (i : Nat) : (rowN c X Y i).length = Y.length + 1 := by simp [rowN]
theorem rowN_at (c : Si38.Costs) (X Y : List Nat) (i : Nat) {j : Nat} (h : j ≤ Y.length) : (iN (rowN c X Y i))[j]? = some (.int (Wy.at_ c X Y i j : Nat)) := by
  refine iN_at ?_
  unfold rowN
  rw [List.getElem?_map, List.getElem?_range (by omega)]
  rfl
theorem rowN_last (c : Si38.Costs) (X Y : List Nat) (i : Nat) : atI (iN (rowN c X Y i)) (-1) = some (.int (Wy.at_ c X Y i Y.length : Nat)) := by
  unfold rowN iN
  rw [List.range_succ, List.map_append, List.map_append]
  exact atI_last _ _
theorem at_bottom (c : Si38.Costs) (X Y : List Nat) : ∀ (d j : Nat), j + d = Y.length → Wy.at_ c X Y X.length j = c.into * d
  | 0, j, h => by rw [Wy.at_end c X Y (Nat.le_refl _) (by omega)]; simp
  | d + 1, j, h => by
    rw [Wy.at_low c X Y (Nat.le_refl _) (by omega), at_bottom c X Y d (j + 1) (by omega), Nat.mul_succ]
theorem rowN_of {c : Si38.Costs} {X Y L : List Nat} {i : Nat} (hl : L.length = Y.length + 1) (h : ∀ j, j ≤ Y.length → L[j]? = some (Wy.at_ c X Y i j)) : L = rowN c X Y i := by
  apply List.ext_getElem?
  intro j
  by_cases q : j ≤ Y.length
  · rw [h j q]
    unfold rowN
    rw [List.getElem?_map, List.getElem?_range (by omega)]
    rfl
  · rw [List.getElem?_eq_none (by omega), List.getElem?_eq_none (by rw [rowN_len]; omega)]
theorem same_updN {H H1 : Hp} (s : Same H H1) {r : Addr} (h : H r = none) (o : HO) : Same H (L2.upd H1 r o) := fun b u e => by
  rw [upd_ne (ne_of_none e h)]; exact s b u e
section
variable {P : Program} {w : World} {K : PySem.W.Frag} {mg : Str → Option Value} {base : Heap} {A : Ad}
def wayO (A : Ad) (dx a b : Addr) (c : Si38.Costs) : HO := .ins A.a_Way dx (fs_Way (.ref a) (.ref b) (.int (c.other : Nat)) (.int (c.out : Nat)) (.int (c.into : Nat)))
def WayAt (K : PySem.W.Frag) (A : Ad) (H : Hp) (p : Addr) (c : Si38.Costs) (X Y : List Nat) : Prop := ∃ dx a b, H p = some (wayO A dx a b c) ∧ SqL K H a (iN X) ∧ SqL K H b (iN Y)
theorem WayAt.same {H H' : Hp} {p : Addr} {c : Si38.Costs} {X Y : List Nat} (h : WayAt K A H p c X Y) (s : Same H H') : WayAt K A H' p c X Y := by
  obtain ⟨dx, a, b, h1, h2, h3⟩ := h
  exact ⟨dx, a, b, s _ _ h1, s.seq h2, s.seq h3⟩
theorem SqT.upd {H : Hp} {t p : Addr} {xs : List V} {C dx : Addr} {fs : List (Str × V)} (h : SqT K H t xs) (hp : H p = some (.ins C dx fs)) (o : HO) : SqT K (L2.upd H p o) t xs := by
  rcases h with (h | ⟨q, h⟩) | h
  · exact .inl (.inl (by rw [upd_ne (ne_of h hp (by intro z; cases z))]; exact h))
  · exact .inl (.inr ⟨q, by rw [upd_ne (ne_of h hp (by intro z; cases z))]; exact h⟩)
  · exact .inr h
def sp_Way_init (K : PySem.W.Frag) (A : Ad) : Sp := fun vs H Q _ => ∃ (p dx a b tc : Addr) (c : Si38.Costs), vs = [.ref p, .ref a, .ref b, .ref tc] ∧ H p = some (.ins A.a_Way dx []) ∧ SqT K H tc (csV c) ∧ ∀ H' : Hp, H' p = some (wayO A dx a b c) → (∀ z o, H z = some o → z ≠ p → H' z = some o) → Q .non H'
theorem ok_Way_init (T : Tx K mg A) : FnOk P w K mg base CX0 1 A.f_Way_init A.d_Way_init ["self", "first", "second", "costs"] (sp_Way_init K A) := by
  refine T.F_Way_init.ok sc_Way_init (fun vs H Q E h => ?_) (fun cdv A' outer s H vs Q E hr h => ?_)
  · obtain ⟨p, dx, a, b, tc, c, rfl, _⟩ := h
    rfl
  · obtain ⟨p, dx, a, b, tc, c, rfl, hp, ht, k⟩ := h
    refine ⟨_, (pss_cons (ps_fld (pv 0) (pv 1) rfl)
      (pss_cons (ps_fld (pv 0) (pv 2) rfl)
      (pss_cons (ps_fld (pv 0) (pe_ix ix_tup (pv 3) pe_int (fun _ _ => rfl)) rfl)
      (pss_cons (ps_fld (pv 0) (pe_ix ix_tup (pv 3) pe_int (fun _ _ => rfl)) rfl)
      (pss_one (ps_fld (pv 0) (pe_ix ix_tup (pv 3) pe_int (fun _ _ => rfl)) rfl)))))), ?_⟩
    refine ⟨_, rfl, _, rfl, p, _, dx, [], rfl, hp, T.c_Way, T.n_Way_first, (by show 0 < 1000; decide), ?_⟩
    refine ⟨_, rfl, _, rfl, p, _, dx, _, rfl, upd_same, T.c_Way, T.n_Way_second, (by show 1 < 1000; decide), ?_⟩
    rw [upd_upd]
    refine ⟨_, rfl, tc, _, _, _, rfl, rfl, SqT.upd ht hp _, at_of (j := 0) rfl rfl, _, rfl, p, _, dx, _, rfl, upd_same, T.c_Way, T.n_Way_other, (by show 2 < 1000; decide), ?_⟩
    rw [upd_upd]
    refine ⟨_, rfl, tc, _, _, _, rfl, rfl, SqT.upd ht hp _, at_of (j := 1) rfl rfl, _, rfl, p, _, dx, _, rfl, upd_same, T.c_Way, T.n_Way_out, (by show 3 < 1000; decide), ?_⟩
    rw [upd_upd]
    refine ⟨_, rfl, tc, _, _, _, rfl, rfl, SqT.upd ht hp _, at_of (j := 2) rfl rfl, _, rfl, p, _, dx, _, rfl, upd_same, T.c_Way, T.n_Way_into, (by show 4 < 1000; decide), ?_⟩
    rw [upd_upd]
    exact k _ (Eq.trans upd_same (congrArg (fun q => some (HO.ins A.a_Way dx q)) (mk_Way _ _ _ _ _))) fun b o e hb => by rw [upd_ne hb]; exact e
def sp_Way_pair_cost (K : PySem.W.Frag) (A : Ad) : Sp := fun vs H Q _ => ∃ (p : Addr) (i j : Nat) (c : Si38.Costs) (X Y : List Nat) (hi : i < X.length) (hj : j < Y.length), vs = [.ref p, .int i, .int j] ∧ WayAt K A H p c X Y ∧ Q (.int (Si38.pairCost c X[i] Y[j] : Nat)) H
theorem ok_Way_pair_cost (T : Tx K mg A) : FnOk P w K mg base CX0 1 A.f_Way_pair_cost A.d_Way_pair_cost ["self", "i", "j"] (sp_Way_pair_cost K A) := by
  refine T.F_Way_pair_cost.ok sc_Way_pair_cost (fun vs H Q E h => ?_) (fun cdv A' outer s H vs Q E hr h => ?_)
  · obtain ⟨p, i, j, c, X, Y, hi, hj, rfl, _⟩ := h
    rfl
  · obtain ⟨p, i, j, c, X, Y, hi, hj, rfl, ⟨dx, a, b, o1, o2, o3⟩, k⟩ := h
    refine ⟨_, (pss_one (ps_ret (pe_ifExp (pt_cmpR op_eq (pe_ix ix_list (pe_fld (pv 0) rfl) (pv 1) (fun _ _ => rfl)) (pe_ix ix_list (pe_fld (pv 0) rfl) (pv 2) (fun _ _ => rfl)) (nomark _)) pe_int (pe_fld (pv 0) rfl)))), ?_⟩
    refine ⟨_, rfl, p, _, dx, _, _, rfl, o1, T.c_Way, T.n_Way_first, get_Way_first _ _ _ _ _, _, rfl, a, _, _, _, rfl, rfl, o2, atI_nat (iN_at (List.getElem?_eq_getElem hi)), ?_⟩
    refine ⟨_, rfl, p, _, dx, _, _, rfl, o1, T.c_Way, T.n_Way_second, get_Way_second _ _ _ _ _, _, rfl, b, _, _, _, rfl, rfl, o3, atI_nat (iN_at (List.getElem?_eq_getElem hj)), rfl, _, rfl, ?_⟩
    unfold Si38.pairCost at k
    by_cases q : X[i] = Y[j]
    · rw [if_pos q] at k
      rw [decide_eq_true (show V.int ((X[i] : Nat) : Int) = V.int ((Y[j] : Nat) : Int) by rw [q])]
      exact iteT k
    · rw [if_neg q] at k
      rw [decide_eq_false (show ¬ V.int ((X[i] : Nat) : Int) = V.int ((Y[j] : Nat) : Int) by intro z; injection z with z; omega)]
      exact iteF ⟨_, rfl, p, _, dx, _, _, rfl, o1, T.c_Way, T.n_Way_other, get_Way_other _ _ _ _ _, k⟩
def sp_Way_rests_from (K : PySem.W.Frag) (A : Ad) : Sp := fun vs H Q _ => ∃ (p : Addr) (i : Nat) (bh : Addr) (c : Si38.Costs) (X Y : List Nat), vs = [.ref p, .int i, .ref bh] ∧ WayAt K A H p c X Y ∧ i < X.length ∧ Y.length ≤ 500 ∧ SqL K H bh (iN (rowN c X Y (i + 1))) ∧
  ∀ (H' : Hp) (r : Addr), Same H H' → H r = none → H' r = some (.lst (iN (rowN c X Y i))) → Q (.ref r) H'
theorem ok_Way_rests_from (T : Tx K mg A) : FnOk P w K mg base CX0 2 A.f_Way_rests_from A.d_Way_rests_from ["self", "i", "behind"] (sp_Way_rests_from K A) := by
  refine T.F_Way_rests_from.ok sc_Way_rests_from (fun vs H Q E h => ?_) (fun cdv A' outer s H vs Q E hr h => ?_)
  · obtain ⟨p, i, bh, c, X, Y, rfl, _⟩ := h
    rfl
  · obtain ⟨p, i, bh, c, X, Y, rfl, hw, hi, hY, hb, k⟩ := h
    refine ⟨_, (pss_cons (ps_set (i := 3) sc_Way_rests_from.nd rfl (Or.inl rfl) (pe_op op_rep (pe_lst (pa_cons pe_int pa_nil)) (pe_callB call_len_seq (by rfl) T.z_len bt_len (pa_cons (pv 2) pa_nil))))
      (pss_cons (ps_asg (pe_op op_add (pe_ix ix_list (pv 2) (pe_un un_neg pe_int) (fun _ _ => rfl)) (pe_fld (pv 0) rfl)) (pg_sub (pv 3) (pe_un un_neg pe_int) set_list))
      (pss_cons (ps_for PassesOwn.never rfl (pi_range3 (by rfl) T.z_range (pa_cons (pe_op op_sub (pe_callB call_len_seq (by rfl) T.z_len bt_len (pa_cons (pe_fld (pv 0) rfl) pa_nil)) pe_int) (pa_cons (pe_un un_neg pe_int) (pa_cons (pe_un un_neg pe_int) pa_nil)))) (pg_name (i := 4) sc_Way_rests_from.nd rfl (Or.inl rfl))
        (pss_cons (ps_set (i := 5) sc_Way_rests_from.nd rfl (Or.inl rfl) (pe_op op_add (pe_ix ix_list (pv 2) (pe_op op_add (pv 4) pe_int) (fun _ _ => rfl)) (pe_meth (pv 0) T.c_Way T.M_Way_pair_cost (ok_Way_pair_cost T) (hr.mono (by decide)) T.b_Way_pair_cost .nil pass0 (pa_cons (pv 1) (pa_cons (pv 4) pa_nil)))))
        (pss_one (ps_asg (pe_callB (call_min3 rfl) (by rfl) T.z_min bt_min (pa_cons (pv 5) (pa_cons (pe_op op_add (pe_ix ix_list (pv 2) (pv 4) (fun _ _ => rfl)) (pe_fld (pv 0) rfl)) (pa_cons (pe_op op_add (pe_ix ix_list (pv 3) (pe_op op_add (pv 4) pe_int) (fun _ _ => rfl)) (pe_fld (pv 0) rfl)) pa_nil)))) (pg_sub (pv 3) (pv 4) set_list)))))
      (pss_one (ps_ret (pv 3)))))), ?_⟩
    -- rests = [0] * len(behind)
    refine ⟨(by show 1 ≤ sizeLine; decide), fun l0 hl0 => ?_⟩
    have s1 : Same H (upd H l0 (.lst [.int 0])) := Same.new hl0
    refine ⟨_, rfl, bh, _, rfl, .inl (s1.seq hb), l0, _, _, rfl, rfl, upd_same, ?_, ?_, ?_, fun r hr => ?_⟩
    · rw [iN_len, rowN_len]; omega
    · rw [iN_len, rowN_len]; omega
    · rw [iN_len, rowN_len]
      show 1 * _ ≤ _
      rw [Nat.one_mul, Int.toNat_natCast]
      exact Nat.le_of_lt (small1000 (by omega))
    rw [iN_len, rowN_len, Int.toNat_natCast, rep_one]
    have hrH : H r = none := s1.free hr
    have s2 : ∀ o, Same H (upd (upd H l0 (.lst [.int 0])) r o) := fun o => same_updN s1 hrH o
    obtain ⟨dx, a, b, o1, o2, o3⟩ := id hw
    -- rests[-1] = behind[-1] + self.out
    refine ⟨_, rfl, _, rfl, bh, _, _, _, rfl, rfl, (s2 _).seq hb, rowN_last c X Y (i + 1), ?_⟩
    refine ⟨_, rfl, p, _, dx, _, _, rfl, s2 _ _ _ o1, T.c_Way, T.n_Way_out, get_Way_out _ _ _ _ _, _, _, rfl, rfl, ?_⟩
    refine ⟨_, rfl, _, rfl, r, _, _, _, rfl, rfl, upd_same, ix_last (by rw [List.length_replicate]; omega), ?_⟩
    rw [upd_upd, List.length_replicate, Nat.add_sub_cancel]
    have e0 : (List.replicate (Y.length + 1) (V.int 0)).set Y.length (.int ((Wy.at_ c X Y (i + 1) Y.length : Nat) + (c.out : Nat))) = iN ((List.replicate (Y.length + 1) 0).set Y.length (Wy.at_ c X Y i Y.length)) := by
      rw [Wy.at_right c X Y hi (Nat.le_refl _)]
      simp [iN]
    have e0' : (List.replicate (Y.length + 1) (V.int 0)).set Y.length ((fun i j => V.int (i + j)) (Wy.at_ c X Y (i + 1) Y.length : Nat) (c.out : Nat)) = iN ((List.replicate (Y.length + 1) 0).set Y.length (Wy.at_ c X Y i Y.length)) := e0
    rw [e0']
    -- the loop
    have hn : (((Y.length : Nat) : Int) - 1 - -1).toNat = Y.length := by omega
    have rg := RgC.neg (i := ((Y.length : Nat) : Int) - 1) (j := -1) (by omega) (by omega) (by decide) (by decide)
    rw [hn] at rg
    refine ⟨_, rfl, p, _, dx, _, _, rfl, s2 _ _ _ o1, T.c_Way, T.n_Way_second, get_Way_second _ _ _ _ _, b, _, rfl, .inl ((s2 _).seq o3), ?_⟩
    rw [iN_len]
    refine ⟨_, _, rfl, rfl, _, rfl, _, rfl, _, _, _, _, rfl, rg, for_rangeC (fun t σ H' => ∃ (v1 v2 : Option V) (L : List Nat), σ = [some (.ref p), some (.int i), some (.ref bh), some (.ref r), v1, v2] ∧ H' = upd (upd H l0 (.lst [.int 0])) r (.lst (iN L)) ∧ L.length = Y.length + 1 ∧ ∀ j, Y.length - t ≤ j → j ≤ Y.length → L[j]? = some (Wy.at_ c X Y i j)) ?_ ?_ ?_⟩
    · refine ⟨none, none, _, rfl, rfl, by simp, fun j h1 h2 => ?_⟩
      have : j = Y.length := by omega
      subst this
      simp
    · rintro t σ H' ht ⟨v1, v2, L, rfl, rfl, hL, hat⟩
      have ej : ((Y.length : Nat) : Int) - 1 + (t : Nat) * (-1) = ((Y.length - 1 - t : Nat) : Int) := by omega
      rw [ej]
      generalize hj : Y.length - 1 - t = j at *
      have hjY : j < Y.length := by omega
      have S := s2 (.lst (iN L))
      refine ⟨_, rfl, _, rfl, _, _, rfl, rfl, bh, _, _, _, rfl, rfl, S.seq hb, at_of (j := j + 1) rfl (rowN_at c X Y (i + 1) (by omega)), ?_⟩
      refine ⟨_, rfl, p, dx, _, rfl, S _ _ o1, no_Way_pair_cost _ _ _ _ _, _, rfl, _, rfl, p, i, j, c, X, Y, hi, hjY, rfl, hw.same S, _, _, rfl, rfl, ?_⟩
      refine ⟨_, rfl, _, rfl, _, rfl, bh, _, _, _, rfl, rfl, S.seq hb, atI_nat (rowN_at c X Y (i + 1) (by omega)), ?_⟩
      refine ⟨_, rfl, p, _, dx, _, _, rfl, S _ _ o1, T.c_Way, T.n_Way_out, get_Way_out _ _ _ _ _, _, _, rfl, rfl, ?_⟩
      refine ⟨_, rfl, _, rfl, _, _, rfl, rfl, r, _, _, _, rfl, rfl, SqL.of upd_same, at_of (j := j + 1) rfl (iN_at (hat (j + 1) (by omega) (by omega))), ?_⟩
      refine ⟨_, rfl, p, _, dx, _, _, rfl, S _ _ o1, T.c_Way, T.n_Way_into, get_Way_into _ _ _ _ _, _, _, rfl, rfl, _, _, _, rfl, ?_⟩
      refine ⟨_, rfl, _, rfl, r, _, _, _, rfl, rfl, upd_same, ix_nat (by rw [iN_len, hL]; omega), ?_⟩
      rw [upd_upd]
      refine ⟨_, _, L.set j (Wy.at_ c X Y i j), rfl, ?_, by rw [List.length_set]; exact hL, fun j' h1 h2 => ?_⟩
      · congr 2
        rw [Wy.at_mid c X Y hi hjY]
        simp only [iN, List.map_set]
        congr 2
        omega
      · by_cases e : j = j'
        · subst e
          rw [List.getElem?_set_self (by omega)]
        · rw [List.getElem?_set_ne e]
          exact hat j' (by omega) h2
    · rintro σ H' ⟨v1, v2, L, rfl, rfl, hL, hat⟩
      refine ⟨_, rfl, k _ r (s2 _) hrH ?_⟩
      rw [upd_same, rowN_of hL fun j h => hat j (by omega) h]
end
end Ed
namespace Ed
open PySem PySem.Spec PyProof.Rows L2
theorem pe_fldK {X : Cx} {K : PySem.W.Frag} {e : Expr} {f : Str} {ta : TE} {pos : Pos} (hK : X.K = K) (he : PE X e ta) (hb : attributeBase e f X.env (eval e X.env) = eval e X.env) : PE X (.Attribute e f pos) (tFld K ta f) := by
  subst hK
  exact pe_fld he hb
section
variable {P : Program} {w : World} {K : PySem.W.Frag} {mg : Str → Option Value} {base : Heap} {A : Ad}
def RowsAt (H : Hp) (c : Si38.Costs) (X Y : List Nat) (rs : List Addr) : Prop := ∀ i, i ≤ X.length → ∃ a, rs[i]? = some a ∧ H a = some (.lst (iN (rowN c X Y i)))
theorem RowsAt.same {H H' : Hp} {c : Si38.Costs} {X Y : List Nat} {rs : List Addr} (h : RowsAt H c X Y rs) (s : Same H H') : RowsAt H' c X Y rs := fun i hi =>
  let ⟨a, h1, h2⟩ := h i hi
  ⟨a, h1, s _ _ h2⟩
def sp_Way_all_rests (K : PySem.W.Frag) (A : Ad) : Sp := fun vs H Q _ => ∃ (p : Addr) (c : Si38.Costs) (X Y : List Nat), vs = [.ref p] ∧ WayAt K A H p c X Y ∧ X.length ≤ 500 ∧ Y.length ≤ 500 ∧ c.into ≤ 100 ∧
  ∀ (H' : Hp) (r : Addr) (rs : List Addr), Same H H' → H r = none → H' r = some (.lst (rs.map V.ref)) → RowsAt H' c X Y rs → Q (.ref r) H'
theorem ok_Way_all_rests (T : Tx K mg A) : FnOk P w K mg base CX0 3 A.f_Way_all_rests A.d_Way_all_rests ["self"] (sp_Way_all_rests K A) := by
  refine T.F_Way_all_rests.ok sc_Way_all_rests (fun vs H Q E h => ?_) (fun cdv A' outer s H vs Q E hr h => ?_)
  · obtain ⟨p, c, X, Y, rfl, _⟩ := h
    rfl
  · obtain ⟨p, c, X, Y, rfl, hw, hX, hY, hc, k⟩ := h
    refine ⟨_, (pss_cons (ps_set (i := 1) sc_Way_all_rests.nd rfl (Or.inr rfl) (pe_callB call_len_seq (by rfl) T.z_len bt_len (pa_cons (pe_fld (pv 0) rfl) pa_nil)))
      (pss_cons (ps_setLc (i := 2) rfl sc_Way_all_rests.nd rfl rfl (sw_true rfl rfl rfl rfl) (pi_range1 (by rfl) T.z_range (pa_cons (pe_op op_add (pv 1) pe_int) pa_nil)) (blkOk_by (N := ["self", "size", "behind", "rows", "i", "j"]) (sc := defScope s_Way_all_rests) (own := [("j", 5)]) (by decide +kernel)) (fun _ _ _ _ _ => (pg_name (i := 5) sc_Way_all_rests.nd rfl (Or.inl rfl))) (fun _ _ _ _ _ => pts_nil) (fun _ _ _ _ _ => (pe_op op_mul (pe_fldK (K := K) rfl (pv 0) (by rfl)) (pe_op op_sub (pv 1) (pv 5)))))
      (pss_cons (ps_set (i := 3) sc_Way_all_rests.nd rfl (Or.inl rfl) (pe_lst (pa_cons (pv 2) pa_nil)))
      (pss_cons (ps_for PassesOwn.never rfl (pi_range3 (by rfl) T.z_range (pa_cons (pe_op op_sub (pe_callB call_len_seq (by rfl) T.z_len bt_len (pa_cons (pe_fld (pv 0) rfl) pa_nil)) pe_int) (pa_cons (pe_un un_neg pe_int) (pa_cons (pe_un un_neg pe_int) pa_nil)))) (pg_name (i := 4) sc_Way_all_rests.nd rfl (Or.inl rfl))
        (pss_cons (ps_set (i := 2) sc_Way_all_rests.nd rfl (Or.inl rfl) (pe_meth (pv 0) T.c_Way T.M_Way_rests_from (ok_Way_rests_from T) (hr.mono (by decide)) T.b_Way_rests_from .nil pass0 (pa_cons (pv 4) (pa_cons (pv 2) pa_nil))))
        (pss_one (ps_expr (pe_bm PySem.F.plainAttrs_list PySem.F.slot_list_append PySem.F.type_list_append mt_append (pv 3) (pa_cons (pv 2) pa_nil))))))
      (pss_cons (ps_expr (pe_bm0 PySem.F.plainAttrs_list PySem.F.slot_list_reverse PySem.F.type_list_reverse mt_reverse (pv 3)))
      (pss_one (ps_ret (pv 3)))))))), ?_⟩
    obtain ⟨dx, a, b, o1, o2, o3⟩ := id hw
    -- size
    refine ⟨_, rfl, p, _, dx, _, _, rfl, o1, T.c_Way, T.n_Way_second, get_Way_second _ _ _ _ _, b, _, rfl, .inl o3, ?_⟩
    rw [iN_len]
    -- behind
    refine ⟨_, rfl, _, _, rfl, rfl, _, rfl, (by omega), (by omega), fun D hD => ?_⟩
    rw [show (((Y.length : Nat) : Int) + 1).toNat = Y.length + 1 by omega]
    have sD : ∀ o, Same H (upd H D o) := fun o => Same.new hD
    refine lc_range (fun j H' => H' = upd H D (.lst (iN ((List.range j).map fun j => Wy.at_ c X Y X.length j)))) rfl ?_ ?_
    · rintro j H' hj rfl
      refine ⟨rfl, ?_⟩
      unfold tYes
      refine iteT ?_
      refine ⟨_, rfl, p, _, dx, _, _, rfl, sD _ _ _ o1, T.c_Way, T.n_Way_into, get_Way_into _ _ _ _ _, ?_⟩
      refine ⟨_, rfl, _, rfl, _, _, rfl, rfl, _, _, rfl, rfl, .inl ⟨by omega, by omega⟩, _, upd_same, ?_, ?_⟩
      · rw [iN_len, List.length_map, List.length_range]
        exact small1000 (by omega)
      · rw [upd_upd, List.range_succ, List.map_append]
        congr 2
        unfold iN
        rw [List.map_append]
        congr 1
        simp only [List.map_cons, List.map_nil]
        rw [at_bottom c X Y (Y.length - j) j (by omega), Int.natCast_mul, Int.natCast_sub (by omega)]
        simp
    rintro H' rfl
    -- rows
    refine ⟨_, rfl, (by show 1 ≤ sizeLine; decide), fun rw hrw => ?_⟩
    have hrH : H rw = none := (sD _).free hrw
    have nD : D ≠ rw := fun z => by rw [← z, upd_same] at hrw; cases hrw
    have S1 : ∀ o, Same H (upd (upd H D (.lst (iN (rowN c X Y X.length)))) rw o) := fun o => same_updN (sD _) hrH o
    have hn : (((X.length : Nat) : Int) - 1 - -1).toNat = X.length := by omega
    have rg := RgC.neg (i := ((X.length : Nat) : Int) - 1) (j := -1) (by omega) (by omega) (by decide) (by decide)
    rw [hn] at rg
    refine ⟨_, rfl, p, _, dx, _, _, rfl, S1 _ _ _ o1, T.c_Way, T.n_Way_first, get_Way_first _ _ _ _ _, a, _, rfl, .inl ((S1 _).seq o2), ?_⟩
    rw [iN_len]
    refine ⟨_, _, rfl, rfl, _, rfl, _, rfl, _, _, _, _, rfl, rg, for_rangeC (fun t σ H' => ∃ (v1 v2 : Option V) (bh : Addr) (rs : List Addr), σ = [some (.ref p), some (.int (Y.length : Nat)), some (.ref bh), some (.ref rw), v1, v2] ∧ Same H H' ∧ H' rw = some (.lst (rs.map V.ref)) ∧ rs.length = t + 1 ∧ rs[t]? = some bh ∧
        ∀ u, u ≤ t → ∃ x, rs[u]? = some x ∧ x ≠ rw ∧ H' x = some (.lst (iN (rowN c X Y (X.length - u))))) ?_ ?_ ?_⟩
    · refine ⟨none, none, D, [D], rfl, S1 _, upd_same, rfl, rfl, fun u hu => ?_⟩
      have : u = 0 := by omega
      subst this
      exact ⟨D, rfl, nD, by rw [upd_ne nD, upd_same]; rfl⟩
    · rintro t σ H' ht ⟨v1, v2, bh, rs, rfl, S, hrs, hl, hbh, hall⟩
      have ej : ((X.length : Nat) : Int) - 1 + (t : Nat) * (-1) = ((X.length - 1 - t : Nat) : Int) := by omega
      rw [ej]
      obtain ⟨x, e1, n1, ox⟩ := hall t (Nat.le_refl _)
      have : x = bh := Option.some.inj (e1.symm.trans hbh)
      subst this
      refine ⟨_, rfl, p, dx, _, rfl, S _ _ o1, no_Way_rests_from _ _ _ _ _, _, rfl, _, rfl, p, X.length - 1 - t, x, c, X, Y, rfl, hw.same S, (by omega), hY, SqL.of (by rw [ox, show X.length - 1 - t + 1 = X.length - t by omega]), fun H1 r s1 hr o => ?_⟩
      have nr : r ≠ rw := fun z => by rw [z, hrs] at hr; cases hr
      refine ⟨_, rfl, .inl ⟨rfl, _, SqL.of (s1 _ _ hrs)⟩, _, rfl, rw, _, _, rfl, rfl, s1 _ _ hrs, (by rw [List.length_map, hl]; exact small1000 (by omega)), ?_⟩
      refine ⟨_, _, r, rs ++ [r], rfl, same_updN (S.trans s1) hrH _, ?_, by simp [hl], ?_, fun u hu => ?_⟩
      · rw [upd_same, List.map_append]; rfl
      · rw [List.getElem?_append_right (by omega), hl, Nat.sub_self]; rfl
      · by_cases h : u ≤ t
        · obtain ⟨y, f1, f2, f3⟩ := hall u h
          exact ⟨y, by rw [List.getElem?_append_left (by omega)]; exact f1, f2, by rw [upd_ne f2]; exact s1 _ _ f3⟩
        · have : u = t + 1 := by omega
          subst this
          exact ⟨r, by rw [List.getElem?_append_right (by omega), hl, Nat.sub_self]; rfl, nr, by rw [upd_ne nr, o, show X.length - 1 - t = X.length - (t + 1) by omega]⟩
    · rintro σ H' ⟨v1, v2, bh, rs, rfl, S, hrs, hl, hbh, hall⟩
      refine ⟨_, rfl, .inl ⟨rfl, _, SqL.of hrs⟩, rw, _, rfl, rfl, hrs, ?_⟩
      refine ⟨_, rfl, k _ rw rs.reverse (same_updN S hrH _) hrH (by rw [upd_same, List.map_reverse]) fun i hi => ?_⟩
      obtain ⟨x, f1, f2, f3⟩ := hall (X.length - i) (by omega)
      refine ⟨x, ?_, by rw [upd_ne f2, f3, show X.length - (X.length - i) = i by omega]⟩
      rw [List.getElem?_reverse (by omega), hl, show X.length + 1 - 1 - i = X.length - i by omega]
      exact f1
end
end Ed
namespace Ed
open PySem PySem.Spec PyProof.Rows L2
section
variable {P : Program} {w : World} {K : PySem.W.Frag} {mg : Str → Option Value} {base : Heap} {A : Ad}
theorem PrsAt.snoc {H : Hp} {ts : List Addr} {ps : List (Nat × Nat)} {t : Addr} {p : Nat × Nat} (h : PrsAt H ts ps) (ht : H t = some (.tup [.int (p.1 : Nat), .int (p.2 : Nat)])) : PrsAt H (ts ++ [t]) (ps ++ [p]) := by
  refine ⟨by simp [h.1], fun n u q h1 h2 => ?_⟩
  rcases Nat.lt_or_ge n ts.length with hn | hn
  · rw [List.getElem?_append_left hn] at h1
    rw [List.getElem?_append_left (by rw [← h.1]; exact hn)] at h2
    exact h.2 n u q h1 h2
  · have l1 := (List.getElem?_eq_some_iff.mp h1).1
    rw [List.length_append, List.length_singleton] at l1
    have e : n = ts.length := by omega
    subst e
    rw [List.getElem?_append_right (Nat.le_refl _), Nat.sub_self] at h1
    rw [h.1, List.getElem?_append_right (Nat.le_refl _), Nat.sub_self] at h2
    have h1 : t = u := Option.some.inj h1
    have h2 : p = q := Option.some.inj h2
    subst h1 h2
    exact ht
def sp_Way_pairs (K : PySem.W.Frag) (A : Ad) : Sp := fun vs H Q _ => ∃ (p : Addr) (c : Si38.Costs) (X Y : List Nat), vs = [.ref p] ∧ WayAt K A H p c X Y ∧ X.length ≤ 500 ∧ Y.length ≤ 500 ∧ c.into ≤ 100 ∧
  ∀ (H' : Hp) (r : Addr) (ts : List Addr), Same H H' → H r = none → H' r = some (.lst (ts.map V.ref)) → PrsAt H' ts (Wy.prsAt c X Y 0 0) → Q (.ref r) H'
structure Walk (H H2 : Hp) (p rw fr : Addr) (c : Si38.Costs) (X Y : List Nat) (m : Nat) (σ : L2.St) (H' : Hp) : Prop where
  ex : ∃ (i j : Nat) (ts : List Addr) (ps : List (Nat × Nat)), σ = [some (.ref p), some (.ref rw), some (.int i), some (.int j), some (.ref fr)] ∧ Same H2 H' ∧ H' fr = some (.lst (ts.map V.ref)) ∧ PrsAt H' ts ps ∧ ps ++ Wy.prsAt c X Y i j = Wy.prsAt c X Y 0 0 ∧ i ≤ X.length ∧ j ≤ Y.length ∧ ps.length ≤ i ∧ m = X.length + Y.length - (i + j)
theorem ok_Way_pairs (T : Tx K mg A) : FnOk P w K mg base CX0 4 A.f_Way_pairs A.d_Way_pairs ["self"] (sp_Way_pairs K A) := by
  refine T.F_Way_pairs.ok sc_Way_pairs (fun vs H Q E h => ?_) (fun cdv A' outer s H vs Q E hr h => ?_)
  · obtain ⟨p, c, X, Y, rfl, _⟩ := h
    rfl
  · obtain ⟨p, c, X, Y, rfl, hw, hX, hY, hc, k⟩ := h
    refine ⟨_, (pss_cons (ps_set (i := 1) sc_Way_pairs.nd rfl (Or.inl rfl) (pe_meth0 (pv 0) T.c_Way T.M_Way_all_rests (ok_Way_all_rests T) (hr.mono (by decide)) T.b_Way_all_rests .nil pass0))
      (pss_cons (ps_set (i := 2) sc_Way_pairs.nd rfl (Or.inl rfl) pe_int)
      (pss_cons (ps_set (i := 3) sc_Way_pairs.nd rfl (Or.inl rfl) pe_int)
      (pss_cons (ps_set (i := 4) sc_Way_pairs.nd rfl (Or.inl rfl) (pe_lst pa_nil))
      (pss_cons (ps_while PassesOwn.never (PW.pt (pw_and (pt_cmpR op_lt (pv 2) (pe_callB call_len_seq (by rfl) T.z_len bt_len (pa_cons (pe_fld (pv 0) rfl) pa_nil)) (nomark _)) (pw_and1 (pt_cmpR op_lt (pv 3) (pe_callB call_len_seq (by rfl) T.z_len bt_len (pa_cons (pe_fld (pv 0) rfl) pa_nil)) (nomark _)))))
        (pss_one (ps_if (pt_cmpR op_eq (pe_ix ix_list (pe_ix ix_list (pv 1) (pv 2) (fun _ _ => rfl)) (pv 3) (fun _ _ => rfl)) (pe_op op_add (pe_ix ix_list (pe_ix ix_list (pv 1) (pe_op op_add (pv 2) pe_int) (fun _ _ => rfl)) (pe_op op_add (pv 3) pe_int) (fun _ _ => rfl)) (pe_meth (pv 0) T.c_Way T.M_Way_pair_cost (ok_Way_pair_cost T) (hr.mono (by decide)) T.b_Way_pair_cost .nil pass0 (pa_cons (pv 2) (pa_cons (pv 3) pa_nil)))) (nomark _)) (pss_cons (ps_expr (pe_bm PySem.F.plainAttrs_list PySem.F.slot_list_append PySem.F.type_list_append mt_append (pv 4) (pa_cons (pe_tup (pa_cons (pv 2) (pa_cons (pv 3) pa_nil))) pa_nil)))
          (pss_cons (ps_aug (i := 2) sc_Way_pairs.nd rfl (Or.inl rfl) pe_int ip_add)
          (pss_one (ps_aug (i := 3) sc_Way_pairs.nd rfl (Or.inl rfl) pe_int ip_add)))) (pss_one (ps_if (pt_cmpR op_eq (pe_ix ix_list (pe_ix ix_list (pv 1) (pv 2) (fun _ _ => rfl)) (pv 3) (fun _ _ => rfl)) (pe_op op_add (pe_ix ix_list (pe_ix ix_list (pv 1) (pe_op op_add (pv 2) pe_int) (fun _ _ => rfl)) (pv 3) (fun _ _ => rfl)) (pe_fld (pv 0) rfl)) (nomark _)) (pss_one (ps_aug (i := 2) sc_Way_pairs.nd rfl (Or.inl rfl) pe_int ip_add)) (pss_one (ps_aug (i := 3) sc_Way_pairs.nd rfl (Or.inl rfl) pe_int ip_add)))))))
      (pss_one (ps_ret (pv 4)))))))), ?_⟩
    obtain ⟨dx, a, b, o1, o2, o3⟩ := id hw
    refine ⟨_, rfl, p, dx, _, rfl, o1, no_Way_all_rests _ _ _ _ _, p, c, X, Y, rfl, hw, hX, hY, hc, fun H1 rw rs s1 hrw orw rows => ?_⟩
    refine ⟨Nat.zero_le _, fun fr hfr => ?_⟩
    have hfH : H fr = none := s1.free hfr
    refine ⟨fun m σ H' => Walk H H1 p rw fr c X Y m σ H', ⟨_, ⟨0, 0, [], [], rfl, Same.new hfr, upd_same, ⟨rfl, fun n t q h => by simp at h⟩, rfl, Nat.zero_le _, Nat.zero_le _, Nat.zero_le _, rfl⟩⟩, ?_⟩
    rintro m σ H' ⟨i, j, ts, ps, rfl, S, hfr', hps, eps, hi, hj, hle, rfl⟩
    have S0 := s1.trans S
    refine ⟨_, rfl, _, rfl, p, _, dx, _, _, rfl, S0 _ _ o1, T.c_Way, T.n_Way_first, get_Way_first _ _ _ _ _, a, _, rfl, .inl (S0.seq o2), _, _, rfl, rfl, _, rfl, ?_⟩
    rw [iN_len]
    have fin : (X.length ≤ i ∨ Y.length ≤ j) → Q (.ref fr) H' := fun h => by
      refine k H' fr ts S0 hfH hfr' ?_
      have : Wy.prsAt c X Y i j = [] := by
        rcases h with h | h
        · exact Wy.prsAt_endl c X Y h
        · exact Wy.prsAt_endr c X Y h
      rw [this, List.append_nil] at eps
      rw [← eps]
      exact hps
    refine ite2 (fun h1 => ?_) (fun h1 => ?_)
    · have h1 : i < X.length := by have := of_decide_eq_true h1; omega
      refine ⟨_, rfl, _, rfl, p, _, dx, _, _, rfl, S0 _ _ o1, T.c_Way, T.n_Way_second, get_Way_second _ _ _ _ _, b, _, rfl, .inl (S0.seq o3), _, _, rfl, rfl, _, rfl, ?_⟩
      rw [iN_len]
      refine ite2 (fun h2 => ?_) (fun h2 => ?_)
      · have h2 : j < Y.length := by have := of_decide_eq_true h2; omega
        rw [Wy.prsAt_mid c X Y h1 h2] at eps
        have row : ∀ {u v : Nat}, u ≤ X.length → v ≤ Y.length → ∃ z, (rs.map V.ref)[u]? = some (.ref z) ∧ SqL K H' z (iN (rowN c X Y u)) ∧ (iN (rowN c X Y u))[v]? = some (.int (Wy.at_ c X Y u v : Nat)) := fun {u v} hu hv => by
          obtain ⟨z, z1, z2⟩ := rows u hu
          exact ⟨z, by rw [List.getElem?_map, z1]; rfl, SqL.of (S _ _ z2), rowN_at c X Y u hv⟩
        obtain ⟨z0, y0, q0, w0⟩ := row (u := i) (v := j) (by omega) (by omega)
        obtain ⟨z1, y1, q1, w1⟩ := row (u := i + 1) (v := j + 1) (by omega) (by omega)
        obtain ⟨_, _, _, w2⟩ := row (u := i + 1) (v := j) (by omega) (by omega)
        have hrw' : SqL K H' rw (rs.map V.ref) := SqL.of (S _ _ orw)
        refine ⟨fun σ' H'' => ∃ m', m' < X.length + Y.length - (i + j) ∧ Walk H H1 p rw fr c X Y m' σ' H'', fun σ' H'' z => z, ?_⟩
        refine ⟨_, rfl, _, rfl, rw, _, _, _, rfl, rfl, hrw', atI_nat y0, _, rfl, z0, _, _, _, rfl, rfl, q0, atI_nat w0, ?_⟩
        refine ⟨_, rfl, _, rfl, _, _, rfl, rfl, rw, _, _, _, rfl, rfl, hrw', at_of (j := i + 1) rfl y1, _, rfl, _, _, rfl, rfl, z1, _, _, _, rfl, rfl, q1, at_of (j := j + 1) rfl w1, ?_⟩
        refine ⟨_, rfl, p, dx, _, rfl, S0 _ _ o1, no_Way_pair_cost _ _ _ _ _, _, rfl, _, rfl, p, i, j, c, X, Y, h1, h2, rfl, hw.same S0, _, _, rfl, rfl, rfl, _, rfl, ?_⟩
        by_cases c1 : Wy.at_ c X Y i j = Wy.at_ c X Y (i + 1) (j + 1) + Si38.pairCost c X[i] Y[j]
        · rw [if_pos c1] at eps
          refine ite2 (fun _ => ?_) (fun d => absurd (decide_eq_true (by show V.int _ = V.int _; rw [c1]; rfl)) d)
          refine ⟨_, rfl, .inl ⟨rfl, _, SqL.of hfr'⟩, _, rfl, _, rfl, (by show 2 ≤ sizeLine; decide), fun t ht => ?_⟩
          have St : Same H' (upd H' t (.tup [.int (i : Int), .int (j : Int)])) := Same.new ht
          have ntf : t ≠ fr := fun z => by rw [z, hfr'] at ht; cases ht
          have lts : ts.length ≤ i := by rw [hps.1]; exact hle
          refine ⟨fr, _, _, rfl, rfl, St _ _ hfr', (by rw [List.length_map]; exact small1000 (by omega)), ?_⟩
          refine ⟨_, rfl, _, _, rfl, rfl, _, rfl, _, _, rfl, rfl, X.length + Y.length - (i + 1 + (j + 1)), by omega, i + 1, j + 1, ts ++ [t], ps ++ [(i, j)], rfl, ?_, ?_, ?_, ?_, by omega, by omega, by simp; omega, rfl⟩
          · exact same_updN (S.trans St) hfr _
          · rw [upd_same, List.map_append]; rfl
          · refine PrsAt.snoc ⟨hps.1, fun n u q g1 g2 => ?_⟩ (by rw [upd_ne ntf, upd_same])
            have g3 := hps.2 n u q g1 g2
            have : u ≠ fr := ne_of g3 hfr' (by intro z; cases z)
            rw [upd_ne this]
            exact St _ _ g3
          · rw [List.append_assoc]; exact eps
        · rw [if_neg c1] at eps
          refine ite2 (fun d => absurd (of_decide_eq_true d) (by show ¬ V.int _ = V.int _; intro z; injection z with z; exact c1 (by omega))) (fun _ => ?_)
          refine ⟨_, rfl, _, rfl, rw, _, _, _, rfl, rfl, hrw', atI_nat y0, _, rfl, z0, _, _, _, rfl, rfl, q0, atI_nat w0, ?_⟩
          refine ⟨_, rfl, _, rfl, _, _, rfl, rfl, rw, _, _, _, rfl, rfl, hrw', at_of (j := i + 1) rfl y1, _, rfl, z1, _, _, _, rfl, rfl, q1, atI_nat w2, ?_⟩
          refine ⟨_, rfl, p, _, dx, _, _, rfl, S0 _ _ o1, T.c_Way, T.n_Way_out, get_Way_out _ _ _ _ _, _, _, rfl, rfl, rfl, _, rfl, ?_⟩
          by_cases c2 : Wy.at_ c X Y i j = Wy.at_ c X Y (i + 1) j + c.out
          · rw [if_pos c2] at eps
            refine ite2 (fun _ => ?_) (fun d => absurd (decide_eq_true (by show V.int _ = V.int _; rw [c2]; rfl)) d)
            exact ⟨_, rfl, _, _, rfl, rfl, X.length + Y.length - (i + 1 + j), by omega, i + 1, j, ts, ps, rfl, S, hfr', hps, eps, by omega, by omega, by omega, rfl⟩
          · rw [if_neg c2] at eps
            refine ite2 (fun d => absurd (of_decide_eq_true d) (by show ¬ V.int _ = V.int _; intro z; injection z with z; exact c2 (by omega))) (fun _ => ?_)
            exact ⟨_, rfl, _, _, rfl, rfl, X.length + Y.length - (i + (j + 1)), by omega, i, j + 1, ts, ps, rfl, S, hfr', hps, eps, by omega, by omega, by omega, rfl⟩
      · have h2 : ¬ (j : Int) < (Y.length : Int) := fun z => h2 (decide_eq_true z)
        exact ⟨_, rfl, fin (.inr (by omega))⟩
    · have h1 : ¬ (i : Int) < (X.length : Int) := fun z => h1 (decide_eq_true z)
      refine iteF ⟨_, rfl, fin (.inl (by omega))⟩
end
end Ed
namespace Wy
theorem prs_len (k : Si38.Costs) : ∀ (x y : List Nat) (i j : Nat), (prs k x y i j).length ≤ x.length
  | [], y, i, j => by rw [prs_nil_l]; simp
  | a :: x, [], i, j => by rw [prs_nil_r]; simp
  | a :: x, b :: y, i, j => by
    rw [prs]
    split
    · have := prs_len k x y (i + 1) (j + 1)
      simp only [List.length_cons]; omega
    · split
      · have := prs_len k x (b :: y) (i + 1) j
        simp only [List.length_cons]; omega
      · exact prs_len k (a :: x) y i (j + 1)
termination_by x y => x.length + y.length
end Wy
namespace Ed
open PySem PySem.Spec PyProof.Rows L2
theorem pg_tupK {X : Cx} {K : PySem.W.Frag} {es : List Expr} {k : Nat} {t : TGs} {n : Nat} {pos : Pos} (hK : X.K = K) (hc : X.calm = true) (h : PGs X es t)
    (hn : (assignEach es X.env).length = n := by rfl) (hst : (assignEach es X.env).findIdx? (·.1) = none := by rfl) : PG X (.Tuple es k pos) (gTup K n t) := by
  subst hK
  exact pg_tup hc h hn hst
theorem lookup_mem {i j : Nat} : ∀ {ps : List (Nat × Nat)}, Wy.Up ps → (i, j) ∈ ps → ps.lookup i = some j
  | [], _, h => by cases h
  | (a, b) :: ps, u, h => by
    have u' := List.pairwise_cons.mp u
    rcases List.mem_cons.mp h with e | m
    · cases e
      exact Wy.lookup_hit i j ps
    · have : a ≠ i := Nat.ne_of_lt (u'.1 _ m).1
      rw [Wy.lookup_miss b ps this]
      exact lookup_mem u'.2 m
theorem pts_self (s : Si47.St) (k : Nat) : (Wy.pts (Si47.pairs s k k) (Si47.edition s k).words.length).map oV = (List.range (Si47.edition s k).words.length).map fun (i : Nat) => V.int (i : Int) := by
  unfold Wy.pts
  rw [List.map_map]
  apply List.map_congr_left
  intro i hi
  have : (i, i) ∈ Si47.pairs s k k := by
    unfold Si47.pairs
    rw [if_pos rfl]
    exact List.mem_map.mpr ⟨i, hi, rfl⟩
  simp only [Function.comp]
  rw [lookup_mem (Wy.pairs_up s k k) this]
  rfl
def swp (x : Nat × Nat) : Nat × Nat := (x.2, x.1)
section
variable {P : Program} {w : World} {K : PySem.W.Frag} {mg : Str → Option Value} {base : Heap} {A : Ad}
structure EdsAt (K : PySem.W.Frag) (A : Ad) (H : Hp) (S : List Addr) (le tc : Addr) (es : List Addr) (st : Si47.St) : Prop where
  oLe : SqL K H le (es.map V.ref)
  oTc : SqT K H tc (csV st.costs)
  len : es.length = st.editions.length
  eds : ∀ (i : Nat) (e : Addr), es[i]? = some e → ∃ ed, st.editions[i]? = some ed ∧ EdAt A H S e ed
theorem EdsAt.has {H : Hp} {S : List Addr} {le tc : Addr} {es : List Addr} {st : Si47.St} (h : EdsAt K A H S le tc es st) {k : Nat} (t : Si47.there st k = true) : ∃ e, es[k]? = some e ∧ EdAt A H S e (Si47.edition st k) := by
  have hk : k < es.length := by rw [h.len]; exact of_decide_eq_true t
  obtain ⟨ed, q1, q2⟩ := h.eds k es[k] (List.getElem?_eq_getElem hk)
  rw [ed_get q1]
  exact ⟨_, List.getElem?_eq_getElem hk, q2⟩
def sp_find_partners (K : PySem.W.Frag) (A : Ad) : Sp := fun vs H Q _ => ∃ (le tc : Addr) (k m : Nat) (es S : List Addr) (st : Si47.St), vs = [.ref le, .int k, .int m, .ref tc] ∧ EdsAt K A H S le tc es st ∧ Wy.Good st ∧ Si47.there st k = true ∧ Si47.there st m = true ∧
  ∀ (H' : Hp) (r : Addr), Same H H' → H r = none → H' r = some (.lst ((Wy.pts (Si47.pairs st k m) (Si47.edition st k).words.length).map oV)) → Q (.ref r) H'
theorem ok_find_partners (T : Tx K mg A) : FnOk P w K mg base CX0 6 A.f_find_partners A.d_find_partners ["editions", "k", "m", "costs"] (sp_find_partners K A) := by
  refine T.F_find_partners.ok sc_find_partners (fun vs H Q E h => ?_) (fun cdv A' outer s H vs Q E hr h => ?_)
  · obtain ⟨le, tc, k, m, es, S, st, rfl, _⟩ := h
    rfl
  · obtain ⟨le, tc, k, m, es, S, st, rfl, h, g, tk, tm, q⟩ := h
    refine ⟨_, (pss_cons (ps_set (i := 4) sc_find_partners.nd rfl (Or.inl rfl) (pe_callB call_len_seq (by rfl) T.z_len bt_len (pa_cons (pe_fld (pe_ix ix_list (pv 0) (pv 1) (fun _ _ => rfl)) rfl) pa_nil)))
      (pss_cons (ps_if (pt_cmpR op_eq (pv 1) (pv 2) (nomark _)) (pss_one (ps_ret (pe_callTy (call_list_rng rfl) (by rfl) T.z_list bt_list (pa_cons (pe_callTy call_rng (by rfl) T.z_range bt_range (pa_cons (pv 4) pa_nil)) pa_nil)))) pss_nil)
      (pss_cons (ps_set (i := 5) sc_find_partners.nd rfl (Or.inl rfl) (pe_make T.k_Way (ok_Way_init T) (hr.mono (by decide)) rfl T.m_Way T.b_Way_init .nil pass0 (pa_cons (pe_fld (pe_ix ix_list (pv 0) (pe_callB (call_min2 rfl) (by rfl) T.z_min bt_min (pa_cons (pv 1) (pa_cons (pv 2) pa_nil))) (fun _ _ => rfl)) rfl) (pa_cons (pe_fld (pe_ix ix_list (pv 0) (pe_callB (call_max2 rfl) (by rfl) T.z_max bt_max (pa_cons (pv 1) (pa_cons (pv 2) pa_nil))) (fun _ _ => rfl)) rfl) (pa_cons (pv 3) pa_nil)))))
      (pss_cons (ps_set (i := 6) sc_find_partners.nd rfl (Or.inl rfl) (pe_meth0 (pv 5) T.c_Way T.M_Way_pairs (ok_Way_pairs T) (hr.mono (by decide)) T.b_Way_pairs .nil pass0))
      (pss_cons (ps_if (pt_cmpR op_gt (pv 1) (pv 2) (nomark _)) (pss_one (ps_setLc (i := 6) rfl sc_find_partners.nd rfl rfl (sw_true rfl rfl rfl rfl) (pi_list (pv 6)) (blkOk_by (N := ["editions", "k", "m", "costs", "size", "way", "pairs", "earlier", "later"]) (sc := defScope s_find_partners) (own := [("earlier", 7), ("later", 8)]) (by decide +kernel)) (fun _ _ _ _ _ => (pg_tupK (K := K) (n := 2) rfl rfl (pgs_cons (pg_name (i := 7) sc_find_partners.nd rfl (Or.inl rfl)) (pgs_cons (pg_name (i := 8) sc_find_partners.nd rfl (Or.inl rfl)) pgs_nil)))) (fun _ _ _ _ _ => pts_nil) (fun _ _ _ _ _ => (pe_tup (pa_cons (pv 8) (pa_cons (pv 7) pa_nil)))))) pss_nil)
      (pss_one (ps_ret (pe_call (ok_partners_by T) (hr.mono (by decide)) rfl T.m_partners_by T.F_partners_by.kp T.b_partners_by .nil pass0 (pa_cons (pv 6) (pa_cons (pv 4) pa_nil)))))))))), ?_⟩
    have at_ : ∀ {i : Nat} {e : Addr}, es[i]? = some e → (es.map V.ref)[i]? = some (.ref e) := fun h => by rw [List.getElem?_map, h]; rfl
    have ex : ∀ {i : Nat}, Si47.there st i = true → ∃ (e dx a : Addr) (b c : V), es[i]? = some e ∧ H e = some (.ins A.a_Edition dx (fs_Edition (.ref a) b c)) ∧ H a = some (.lst (iN (Si47.edition st i).words)) := fun t => by
      obtain ⟨e, h1, dx, a, b, c, o1, o2, _⟩ := h.has t
      exact ⟨e, dx, a, _, _, h1, o1, o2⟩
    obtain ⟨ek, dk, ak, bk, ck, k1, k2, k3⟩ := ex tk
    have gk := Wy.good_there g tk
    have gm := Wy.good_there g tm
    refine ⟨_, rfl, _, rfl, le, _, _, _, rfl, rfl, h.oLe, atI_nat (at_ k1), ek, _, dk, _, _, rfl, k2, T.c_Edition, T.n_Edition_words, get_Edition_words _ _ _, ak, _, rfl, .inl (SqL.of k3), ?_⟩
    rw [iN_len]
    refine ⟨_, rfl, _, rfl, rfl, _, rfl, ?_⟩
    by_cases ekm : k = m
    · subst ekm
      rw [decide_eq_true (show V.int (k : Int) = V.int (k : Int) from rfl)]
      refine iteT ⟨_, rfl, _, rfl, fun p hp => ⟨p, (Si47.edition st k).words.length, rfl, upd_same, ?_, fun l hl => ?_⟩⟩
      · have := gk.w80
        omega
      · have s1 : Same H (upd H p (.rng 0 ((Si47.edition st k).words.length : Nat))) := Same.new hp
        refine q _ l (s1.trans (Same.new hl)) (s1.free hl) ?_
        rw [upd_same, pts_self]
    · rw [decide_eq_false (show ¬ V.int (k : Int) = V.int (m : Int) by intro z; injection z with z; omega)]
      refine iteF ?_
      have lo : Si47.there st (min k m) = true := by rcases Nat.le_total k m with z | z; rw [Nat.min_eq_left z]; exact tk; rw [Nat.min_eq_right z]; exact tm
      have hi : Si47.there st (max k m) = true := by rcases Nat.le_total k m with z | z; rw [Nat.max_eq_right z]; exact tm; rw [Nat.max_eq_left z]; exact tk
      obtain ⟨e1, d1, a1, b1, c1, x1, x2, x3⟩ := ex lo
      obtain ⟨e2, d2, a2, b2, c2, y1, y2, y3⟩ := ex hi
      have glo := Wy.good_there g lo
      have ghi := Wy.good_there g hi
      refine ⟨_, rfl, _, rfl, _, rfl, _, _, rfl, le, _, _, _, rfl, rfl, h.oLe, at_of (j := min k m) (by split <;> omega) (at_ x1), e1, _, d1, _, _, rfl, x2, T.c_Edition, T.n_Edition_words, get_Edition_words _ _ _, ?_⟩
      refine ⟨_, rfl, _, rfl, _, rfl, _, _, rfl, le, _, _, _, rfl, rfl, h.oLe, at_of (j := max k m) (by split <;> omega) (at_ y1), e2, _, d2, _, _, rfl, y2, T.c_Edition, T.n_Edition_words, get_Edition_words _ _ _, ?_⟩
      refine ⟨_, rfl, ?_⟩
      intro x dx hx hdx hne
      refine ⟨x, dx, a1, a2, tc, st.costs, rfl, upd_same, ?_, fun H1 ox kx => ⟨rfl, ?_⟩⟩
      · exact Same.seqT (fun b o e => by rw [upd_ne (ne_of_none e hx), upd_ne (ne_of_none e hdx)]; exact e) h.oTc
      have s1 : Same H H1 := Same.made hx hdx kx
      have wy : WayAt K A H1 x st.costs (Si47.edition st (min k m)).words (Si47.edition st (max k m)).words := ⟨dx, a1, a2, ox, SqL.of (s1 _ _ x3), SqL.of (s1 _ _ y3)⟩
      refine ⟨_, rfl, x, dx, _, rfl, ox, no_Way_pairs _ _ _ _ _, x, st.costs, _, _, rfl, wy, by have := glo.w80; omega, by have := ghi.w80; omega, by have := g.c2; omega, fun H2 r ts s2 hr o ps => ?_⟩
      have s12 := s1.trans s2
      refine ⟨_, rfl, _, rfl, _, _, rfl, rfl, _, rfl, ?_⟩
      have bound := Wy.pairs_in st k m
      have up := Wy.pairs_up st k m
      by_cases hlt : k < m
      · refine ite2 (fun d => absurd (of_decide_eq_true d) (by show ¬ (m : Int) < (k : Int); omega)) (fun _ => ?_)
        have e : Wy.prsAt st.costs (Si47.edition st (min k m)).words (Si47.edition st (max k m)).words 0 0 = Si47.pairs st k m := by
          unfold Si47.pairs
          rw [if_neg ekm, if_pos hlt, Wy.beside_pairs, Nat.min_eq_left (by omega), Nat.max_eq_right (by omega)]
        rw [e] at ps
        refine ⟨_, rfl, _, rfl, r, ts, _, (Si47.edition st k).words.length, rfl, SqL.of o, ps, by have := gk.w80; omega, fun p hp => (bound p hp).1, fun H3 r3 s3 hr3 o3 => ?_⟩
        rw [Wy.puts_eq up] at o3
        exact q H3 r3 (s12.trans s3) (s12.free hr3) o3
      · refine ite2 (fun _ => ?_) (fun d => absurd (decide_eq_true (by show (m : Int) < (k : Int); omega)) d)
        have e : (Wy.prsAt st.costs (Si47.edition st (min k m)).words (Si47.edition st (max k m)).words 0 0).map swp = Si47.pairs st k m := by
          unfold Si47.pairs
          rw [if_neg ekm, if_neg hlt, Wy.beside_pairs, Nat.min_eq_right (by omega), Nat.max_eq_left (by omega)]
          rfl
        have plen : (Wy.prsAt st.costs (Si47.edition st (min k m)).words (Si47.edition st (max k m)).words 0 0).length ≤ 1000 := by
          have h1 := Wy.prs_len st.costs ((Si47.edition st (min k m)).words.drop 0) ((Si47.edition st (max k m)).words.drop 0) 0 0
          have h2 := glo.w80
          rw [List.drop_zero] at h1
          exact Nat.le_trans h1 (by omega)
        generalize hp0 : Wy.prsAt st.costs (Si47.edition st (min k m)).words (Si47.edition st (max k m)).words 0 0 = ps0 at *
        refine ⟨_, rfl, r, rfl, ⟨_, SqL.of o⟩, fun D hD => lc_list (xs := ts.map V.ref) (fun i H' => ∃ ts' : List Addr, Same H2 H' ∧ H' D = some (.lst (ts'.map V.ref)) ∧ PrsAt H' ts' ((ps0.take i).map swp)) ?_ ?_ ?_ ?_⟩
        · exact ⟨[], Same.new hD, upd_same, rfl, fun n t p h => by simp at h⟩
        · rintro i H' _ ⟨ts', S', _, _⟩
          exact SqL.of (S' _ _ o)
        · rintro i z H' hz ⟨ts', S', oD, pD⟩
          rw [List.getElem?_map] at hz
          cases ht : ts[i]? with
          | none => rw [ht] at hz; cases hz
          | some t =>
          rw [ht] at hz
          cases hz
          have hil : i < ps0.length := by rw [← ps.1]; exact (List.getElem?_eq_some_iff.mp ht).1
          have hpi := List.getElem?_eq_getElem hil
          have ot := ps.2 i t _ ht hpi
          refine ⟨t, _, rfl, SqT.of (S' _ _ ot), rfl, _, _, rfl, _, _, rfl, rfl, rfl, ?_⟩
          unfold tYes
          refine iteT ⟨_, rfl, _, rfl, (by show 2 ≤ sizeLine; decide), fun u hu => ?_⟩
          have nuD : u ≠ D := fun z => by rw [z, oD] at hu; cases hu
          have su : Same H' (upd H' u (.tup [.int (ps0[i].2 : Nat), .int (ps0[i].1 : Nat)])) := Same.new hu
          have l' : ts'.length ≤ i := by rw [pD.1, List.length_map, List.length_take]; omega
          refine ⟨_, su _ _ oD, (by rw [List.length_map]; exact small1000 (by omega)), ts' ++ [u], same_updN (S'.trans su) hD _, by rw [upd_same, List.map_append]; rfl, ?_⟩
          rw [List.take_add_one, hpi, List.map_append]
          refine PrsAt.snoc ⟨pD.1, fun n v p g1 g2 => ?_⟩ (by rw [upd_ne nuD, upd_same]; rfl)
          have g3 := pD.2 n v p g1 g2
          rw [upd_ne (ne_of g3 oD (by intro z; cases z))]
          exact su _ _ g3
        · rintro H' ⟨ts', S', oD, pD⟩
          rw [List.length_map, ps.1, List.take_of_length_le (Nat.le_refl _), e] at pD
          have s3 := s12.trans S'
          refine ⟨_, rfl, _, rfl, D, ts', _, (Si47.edition st k).words.length, rfl, SqL.of oD, pD, by have := gk.w80; omega, fun p hp => (bound p hp).1, fun H3 r3 s4 hr3 o3 => ?_⟩
          rw [Wy.puts_eq up] at o3
          exact q H3 r3 (s3.trans s4) (s3.free hr3) o3
end
end Ed
namespace Ed
open PySem PySem.Spec PyProof.Rows L2
theorem lookup_in {i j : Nat} : ∀ {ps : List (Nat × Nat)}, ps.lookup i = some j → (i, j) ∈ ps
  | [], h => by cases h
  | (a, b) :: ps, h => by
    by_cases e : a = i
    · subst e
      rw [Wy.lookup_hit] at h
      cases h
      exact List.mem_cons_self ..
    · rw [Wy.lookup_miss b ps e] at h
      exact List.mem_cons_of_mem _ (lookup_in h)
theorem pts_in {s : Si47.St} {k m n j : Nat} (h : some j ∈ Wy.pts (Si47.pairs s k m) n) : j < (Si47.edition s m).words.length := by
  unfold Wy.pts at h
  obtain ⟨i, _, e⟩ := List.mem_map.mp h
  exact (Wy.pairs_in s k m _ (lookup_in e)).2
theorem ints_iN (l : List Nat) : (Si47.ints l).map V.int = iN l := by unfold Si47.ints iN; rw [List.map_map]; rfl
section
variable {P : Program} {w : World} {K : PySem.W.Frag} {mg : Str → Option Value} {base : Heap} {A : Ad}
theorem does_ext {H H' : Hp} {S ex : List Addr} {sh : Addr} {st : Si47.St} {c : Si47.Call} {Q : VK} {r : Addr} (I : ShIs K A H S sh st) (k : Does K A H S sh st c ex Q) (s : Same H H') (hr : H r = none) (e1 : (Si47.step st c).1 = st) (o : H' r = some (.lst (ansL (Si47.step st c).2))) : Q (.ref r) H' := by
  refine k H' S r ?_ o hr (ne_in hr I.trk) (fun b u e _ => s b u e) fun b m => .inl m
  rw [e1]
  exact I.keep fun b _ u e => s b u e
theorem ShAt.toEds {H : Hp} {S : List Addr} {sh dx le tc : Addr} {es : List Addr} {st : Si47.St} (h : ShAt K A H S sh dx le tc es st) : EdsAt K A H S le tc es st := ⟨SqL.of h.oLe, h.oTc.seq, h.len, h.eds⟩
def sp_Shelf_has_both (K : PySem.W.Frag) (A : Ad) : Sp := fun vs H Q _ => ∃ (p : Addr) (k m : Nat) (S : List Addr) (st : Si47.St), vs = [.ref p, .int k, .int m] ∧ ShIs K A H S p st ∧ Q (.bl (Si47.there st k && Si47.there st m)) H
theorem ok_Shelf_has_both (T : Tx K mg A) : FnOk P w K mg base CX0 2 A.f_Shelf_has_both A.d_Shelf_has_both ["self", "k", "m"] (sp_Shelf_has_both K A) := by
  refine T.F_Shelf_has_both.ok sc_Shelf_has_both (fun vs H Q E h => ?_) (fun cdv A' outer s H vs Q E hr h => ?_)
  · obtain ⟨p, k, m, S, st, rfl, _⟩ := h
    rfl
  · obtain ⟨p, k, m, S, st, rfl, I, q⟩ := h
    refine ⟨_, (pss_one (ps_ret (pe_and (pe_meth (pv 0) T.c_Shelf T.M_Shelf_has_edition (ok_Shelf_has_edition T) (hr.mono (by decide)) T.b_Shelf_has_edition .nil pass0 (pa_cons (pv 1) pa_nil)) (pe_one (pe_meth (pv 0) T.c_Shelf T.M_Shelf_has_edition (ok_Shelf_has_edition T) (hr.mono (by decide)) T.b_Shelf_has_edition .nil pass0 (pa_cons (pv 2) pa_nil)))))), ?_⟩
    obtain ⟨dx, le, tc, es, h⟩ := id I
    refine ⟨_, rfl, p, dx, _, rfl, h.oSh, no_Shelf_has_edition _ _, _, rfl, p, k, S, st, rfl, I, _, rfl, ?_⟩
    cases t : Si47.there st k with
    | false =>
      rw [t] at q
      exact iteF q
    | true =>
      rw [t] at q
      refine iteT ⟨_, rfl, p, dx, _, rfl, h.oSh, no_Shelf_has_edition _ _, _, rfl, p, m, S, st, rfl, I, q⟩
def sp_Shelf_partners_of (K : PySem.W.Frag) (A : Ad) : Sp := fun vs H Q _ => ∃ (p : Addr) (k m : Nat) (S : List Addr) (st : Si47.St), vs = [.ref p, .int k, .int m] ∧ ShIs K A H S p st ∧ Wy.Good st ∧ Si47.there st k = true ∧ Si47.there st m = true ∧
  ∀ (H' : Hp) (r : Addr), Same H H' → H r = none → H' r = some (.lst ((Wy.pts (Si47.pairs st k m) (Si47.edition st k).words.length).map oV)) → Q (.ref r) H'
theorem ok_Shelf_partners_of (T : Tx K mg A) : FnOk P w K mg base CX0 7 A.f_Shelf_partners_of A.d_Shelf_partners_of ["self", "k", "m"] (sp_Shelf_partners_of K A) := by
  refine T.F_Shelf_partners_of.ok sc_Shelf_partners_of (fun vs H Q E h => ?_) (fun cdv A' outer s H vs Q E hr h => ?_)
  · obtain ⟨p, k, m, S, st, rfl, _⟩ := h
    rfl
  · obtain ⟨p, k, m, S, st, rfl, ⟨dx, le, tc, es, h⟩, g, tk, tm, q⟩ := h
    refine ⟨_, (pss_one (ps_ret (pe_call (ok_find_partners T) (hr.mono (by decide)) rfl T.m_find_partners T.F_find_partners.kp T.b_find_partners .nil pass0 (pa_cons (pe_fld (pv 0) rfl) (pa_cons (pv 1) (pa_cons (pv 2) (pa_cons (pe_fld (pv 0) rfl) pa_nil))))))), ?_⟩
    refine ⟨_, rfl, p, _, dx, _, _, rfl, h.oSh, T.c_Shelf, T.n_Shelf_editions, get_Shelf_editions _ _, _, rfl, _, rfl, ?_⟩
    exact ⟨_, rfl, p, _, dx, _, _, rfl, h.oSh, T.c_Shelf, T.n_Shelf_costs, get_Shelf_costs _ _, le, tc, k, m, es, S, st, rfl, h.toEds, g, tk, tm, q⟩
def sp_Shelf_where (K : PySem.W.Frag) (A : Ad) : Sp := fun vs H Q _ => ∃ (p : Addr) (k i : Nat) (S : List Addr) (st : Si47.St), vs = [.ref p, .int k, .int i] ∧ ShIs K A H S p st ∧ Wy.Good st ∧ Does K A H S p st (.where_ k i) [] Q
theorem ok_Shelf_where (T : Tx K mg A) : FnOk P w K mg base CX0 3 A.f_Shelf_where A.d_Shelf_where ["self", "k", "word"] (sp_Shelf_where K A) := by
  refine T.F_Shelf_where.ok sc_Shelf_where (fun vs H Q E h => ?_) (fun cdv A' outer s H vs Q E hr h => ?_)
  · obtain ⟨p, k, i, S, st, rfl, _⟩ := h
    rfl
  · obtain ⟨p, k, i, S, st, rfl, I, g, q⟩ := h
    refine ⟨_, (pss_cons (ps_if (pt_not (pt_val (pe_meth (pv 0) T.c_Shelf T.M_Shelf_has_edition (ok_Shelf_has_edition T) (hr.mono (by decide)) T.b_Shelf_has_edition .nil pass0 (pa_cons (pv 1) pa_nil)))) (pss_one (ps_ret (pe_lst (pa_cons (pe_gi rfl T.g_NO_SUCH_EDITION) pa_nil)))) pss_nil)
      (pss_cons (ps_set (i := 3) sc_Shelf_where.nd rfl (Or.inl rfl) (pe_ix ix_list (pe_fld (pv 0) rfl) (pv 1) (fun _ _ => rfl)))
      (pss_cons (ps_if (pt_not (pt_val (pe_meth (pv 3) T.c_Edition T.M_Edition_has_word (ok_Edition_has_word T) (hr.mono (by decide)) T.b_Edition_has_word .nil pass0 (pa_cons (pv 2) pa_nil)))) (pss_one (ps_ret (pe_lst (pa_cons (pe_gi rfl T.g_NO_SUCH_PLACE) pa_nil)))) pss_nil)
      (pss_one (ps_ret (pe_op op_cat (pe_lst (pa_cons pe_int pa_nil)) (pe_meth (pv 3) T.c_Edition T.M_Edition_place_of (ok_Edition_place_of T) (hr.mono (by decide)) T.b_Edition_place_of .nil pass0 (pa_cons (pv 2) pa_nil)))))))), ?_⟩
    obtain ⟨dx, le, tc, es, h⟩ := id I
    refine ⟨_, rfl, p, dx, _, rfl, h.oSh, no_Shelf_has_edition _ _, _, rfl, p, k, S, st, rfl, I, _, rfl, ?_⟩
    cases t : Si47.there st k with
    | false =>
      refine iteT ⟨(by show 1 ≤ sizeLine; decide), fun r hr => ?_⟩
      refine does_same I q hr rfl ?_
      simp [Si47.step, t, Si47.ok, ansL]
    | true =>
      obtain ⟨e, h1, hE⟩ := h.toEds.has t
      obtain ⟨de, a, b, c, o1, o2, o3, o4, m1, m2, m3, m4⟩ := id hE
      have ge := Wy.good_there g t
      refine iteF ?_
      refine ⟨_, rfl, p, _, dx, _, _, rfl, h.oSh, T.c_Shelf, T.n_Shelf_editions, get_Shelf_editions _ _, _, rfl, le, _, _, _, rfl, rfl, SqL.of h.oLe, atI_nat (by rw [List.getElem?_map, h1]; rfl), ?_⟩
      refine ⟨_, rfl, e, de, _, rfl, o1, no_Edition_has_word _ _ _, _, rfl, e, i, S, _, rfl, hE, _, rfl, ?_⟩
      by_cases hi : i < (Si47.edition st k).words.length
      · rw [decide_eq_true hi]
        refine iteF ⟨(by show 1 ≤ sizeLine; decide), fun l0 hl0 => ?_⟩
        have s0 : Same H (upd H l0 (.lst [.int 0])) := Same.new hl0
        refine ⟨_, rfl, e, de, _, rfl, s0 _ _ o1, no_Edition_place_of _ _ _, _, rfl, e, i, S, _, rfl, hE.same s0, ge, hi, fun H1 r z hz s1 hr o => ?_⟩
        refine ⟨l0, r, _, _, rfl, rfl, s1 _ _ upd_same, o, (by show 4 ≤ sizeLine; decide), fun x hx => ?_⟩
        have s01 := s0.trans s1
        refine does_ext I q (s01.trans (Same.new hx)) (s01.free hx) rfl ?_
        rw [upd_same]
        simp only [Si47.step, t, hz]
        rfl
      · rw [decide_eq_false hi]
        refine iteT ⟨(by show 1 ≤ sizeLine; decide), fun r hr => ?_⟩
        refine does_same I q hr rfl ?_
        simp [Si47.step, t, Si47.ok, ansL, Wy.spot_none ge (Nat.le_of_not_lt hi)]
end
end Ed
namespace Ed
open PySem PySem.Spec PyProof.Rows L2
theorem oV_slice (l : List (Option Nat)) {a b : Nat} (h1 : a ≤ b) (h2 : b ≤ l.length) : cutV (l.map oV) (some (a : Int)) (some (b : Int)) = ((l.drop a).take (b - a)).map oV := by
  rw [cut_ij _ (by rw [List.length_map]; omega) (by rw [List.length_map]; omega), ← List.map_drop, ← List.map_take]
theorem iN_slice (l : List Nat) {a b : Nat} (h1 : a ≤ b) (h2 : b ≤ l.length) : cutV (iN l) (some (a : Int)) (some (b : Int)) = iN ((l.drop a).take (b - a)) := by
  rw [cut_ij _ (by rw [iN_len]; omega) (by rw [iN_len]; omega), iN_drop, iN_take]
theorem oV_to (l : List (Option Nat)) (b : Nat) : cutV (l.map oV) none (some (b : Int)) = (l.take b).map oV := by
  rw [cut_to, ← List.map_take]
section
variable {P : Program} {w : World} {K : PySem.W.Frag} {mg : Str → Option Value} {base : Heap} {A : Ad}
def sp_Shelf_find_words (K : PySem.W.Frag) (A : Ad) : Sp := fun vs H Q _ => ∃ (p : Addr) (k a b m : Nat) (S : List Addr) (st : Si47.St), vs = [.ref p, .int k, .int a, .int b, .int m] ∧ ShIs K A H S p st ∧ Wy.Good st ∧ Si47.there st k = true ∧ Si47.there st m = true ∧ a ≤ b ∧ b ≤ (Si47.edition st k).words.length ∧
  ∀ (H' : Hp) (r : Addr), Same H H' → H r = none → H' r = some (.lst (ansL (Si47.foundOut (Si47.edition st m) (Si47.find st k m a (b - a))))) → Q (.ref r) H'
theorem ok_Shelf_find_words (T : Tx K mg A) : FnOk P w K mg base CX0 8 A.f_Shelf_find_words A.d_Shelf_find_words ["self", "k", "start", "end", "m"] (sp_Shelf_find_words K A) := by
  refine T.F_Shelf_find_words.ok sc_Shelf_find_words (fun vs H Q E h => ?_) (fun cdv A' outer s H vs Q E hr h => ?_)
  · obtain ⟨p, k, a, b, m, S, st, rfl, _⟩ := h
    rfl
  · obtain ⟨p, k, a, b, m, S, st, rfl, I, g, tk, tm, hab, hb, q⟩ := h
    refine ⟨_, (pss_cons (ps_set (i := 5) sc_Shelf_find_words.nd rfl (Or.inl rfl) (pe_meth (pv 0) T.c_Shelf T.M_Shelf_partners_of (ok_Shelf_partners_of T) (hr.mono (by decide)) T.b_Shelf_partners_of .nil pass0 (pa_cons (pv 1) (pa_cons (pv 4) pa_nil))))
      (pss_cons (ps_set (i := 6) sc_Shelf_find_words.nd rfl (Or.inl rfl) (pe_ix ix_list (pe_fld (pv 0) rfl) (pv 4) (fun _ _ => rfl)))
      (pss_cons (ps_set (i := 7) sc_Shelf_find_words.nd rfl (Or.inl rfl) (pe_call (ok_those_there T) (hr.mono (by decide)) rfl T.m_those_there T.F_those_there.kp T.b_those_there .nil pass0 (pa_cons (pe_slice sl_list (pv 5) (po_some (pv 2)) (po_some (pv 3))) pa_nil)))
      (pss_cons (ps_if (pt_truth (pv 7) (fun _ => rfl)) (pss_cons (ps_set (i := 8) sc_Shelf_find_words.nd rfl (Or.inl rfl) (pe_call (ok_count_same T) (hr.mono (by decide)) rfl T.m_count_same T.F_count_same.kp T.b_count_same .nil pass0 (pa_cons (pe_slice sl_list (pe_fld (pe_ix ix_list (pe_fld (pv 0) rfl) (pv 1) (fun _ _ => rfl)) rfl) (po_some (pv 2)) (po_some (pv 3))) (pa_cons (pe_slice sl_list (pv 5) (po_some (pv 2)) (po_some (pv 3))) (pa_cons (pe_fld (pv 6) rfl) pa_nil)))))
        (pss_one (ps_ret (pe_op op_cat (pe_op op_cat (pe_lst (pa_cons pe_int (pa_cons (pe_callB call_len_seq (by rfl) T.z_len bt_len (pa_cons (pv 7) pa_nil)) (pa_cons (pv 8) pa_nil)))) (pe_meth (pv 6) T.c_Edition T.M_Edition_place_of (ok_Edition_place_of T) (hr.mono (by decide)) T.b_Edition_place_of .nil pass0 (pa_cons (pe_ix ix_list (pv 7) pe_int (fun _ _ => rfl)) pa_nil))) (pe_meth (pv 6) T.c_Edition T.M_Edition_place_of (ok_Edition_place_of T) (hr.mono (by decide)) T.b_Edition_place_of .nil pass0 (pa_cons (pe_ix ix_list (pv 7) (pe_un un_neg pe_int) (fun _ _ => rfl)) pa_nil)))))) pss_nil)
      (pss_cons (ps_set (i := 9) sc_Shelf_find_words.nd rfl (Or.inl rfl) (pe_call (ok_gap_behind T) (hr.mono (by decide)) rfl T.m_gap_behind T.F_gap_behind.kp T.b_gap_behind .nil pass0 (pa_cons (pe_slice sl_list (pv 5) po_none (po_some (pv 2))) pa_nil)))
      (pss_one (ps_ret (pe_ifExp (pt_val (pe_meth (pv 6) T.c_Edition T.M_Edition_has_word (ok_Edition_has_word T) (hr.mono (by decide)) T.b_Edition_has_word .nil pass0 (pa_cons (pv 9) pa_nil))) (pe_op op_cat (pe_lst (pa_cons pe_int pa_nil)) (pe_meth (pv 6) T.c_Edition T.M_Edition_place_of (ok_Edition_place_of T) (hr.mono (by decide)) T.b_Edition_place_of .nil pass0 (pa_cons (pv 9) pa_nil))) (pe_lst (pa_cons pe_int pa_nil)))))))))), ?_⟩
    obtain ⟨dx, le, tc, es, h⟩ := id I
    obtain ⟨ek, hk1, hEk⟩ := h.toEds.has tk
    obtain ⟨em, hm1, hEm⟩ := h.toEds.has tm
    obtain ⟨dk, ak, bk, ck, k1, k2, k3, k4, _⟩ := id hEk
    obtain ⟨dm, am, bm, cm, m1, m2, m3, m4, _⟩ := id hEm
    have gk := Wy.good_there g tk
    have gm := Wy.good_there g tm
    have up := Wy.pairs_up st k m
    have bound := Wy.pairs_in st k m
    have w80 := gk.w80
    -- partners
    refine ⟨_, rfl, p, dx, _, rfl, h.oSh, no_Shelf_partners_of _ _, _, rfl, _, rfl, p, k, m, S, st, rfl, I, g, tk, tm, fun H1 r1 s1 hr1 or1 => ?_⟩
    have plen : (Wy.pts (Si47.pairs st k m) (Si47.edition st k).words.length).length = (Si47.edition st k).words.length := Wy.pts_len _ _
    have pin : ∀ j, some j ∈ Wy.pts (Si47.pairs st k m) (Si47.edition st k).words.length → j < (Si47.edition st m).words.length := fun j hj => pts_in hj
    have eth := Wy.those_pts up (n := (Si47.edition st k).words.length) (a := a) (b := b - a) (by omega)
    have ecn := Wy.cnt_pts (Si47.edition st m).words (Si47.edition st k).words up (n := (Si47.edition st k).words.length) (a := a) (b := b - a) (by omega) (Nat.le_refl _)
    have ega := Wy.those_take up (n := (Si47.edition st k).words.length) (b := a) (by omega)
    generalize hL : Wy.pts (Si47.pairs st k m) (Si47.edition st k).words.length = L at *
    -- target
    refine ⟨_, rfl, p, _, dx, _, _, rfl, s1 _ _ h.oSh, T.c_Shelf, T.n_Shelf_editions, get_Shelf_editions _ _, _, rfl, le, _, _, _, rfl, rfl, SqL.of (s1 _ _ h.oLe), atI_nat (by rw [List.getElem?_map, hm1]; rfl), ?_⟩
    -- there
    refine ⟨_, rfl, _, rfl, _, rfl, _, rfl, _, rfl, r1, _, rfl, SqL.of or1, fun x1 hx1 => ?_⟩
    rw [oV_slice L hab (by omega)]
    have s2 : Same H1 (upd H1 x1 (.lst (((L.drop a).take (b - a)).map oV))) := Same.new hx1
    refine ⟨x1, _, rfl, SqL.of upd_same, (by rw [List.length_take, List.length_drop]; omega), fun H2 r2 s3 hr2 or2 => ?_⟩
    have s12 := s1.trans (s2.trans s3)
    have s02 : Same H1 H2 := s2.trans s3
    rw [eth] at or2
    refine ⟨_, rfl, _, .inl ⟨_, SqL.of or2, rfl⟩, ?_⟩
    cases ep : Si47.pairsIn (Si47.pairs st k m) a (b - a) with
    | cons x r =>
      rw [ep] at or2
      refine iteT ?_
      -- same
      refine ⟨_, rfl, p, _, dx, _, _, rfl, s12 _ _ h.oSh, T.c_Shelf, T.n_Shelf_editions, get_Shelf_editions _ _, _, rfl, le, _, _, _, rfl, rfl, SqL.of (s12 _ _ h.oLe), atI_nat (by rw [List.getElem?_map, hk1]; rfl), ?_⟩
      refine ⟨ek, _, dk, _, _, rfl, s12 _ _ k1, T.c_Edition, T.n_Edition_words, get_Edition_words _ _ _, _, rfl, _, rfl, _, rfl, _, rfl, ak, _, rfl, SqL.of (s12 _ _ k2), fun x2 hx2 => ?_⟩
      rw [iN_slice _ hab hb]
      have s4 : Same H2 (upd H2 x2 (.lst (iN (((Si47.edition st k).words.drop a).take (b - a))))) := Same.new hx2
      refine ⟨_, rfl, _, rfl, _, rfl, _, rfl, _, rfl, r1, _, rfl, SqL.of (s4 _ _ (s02 _ _ or1)), fun x3 hx3 => ?_⟩
      rw [oV_slice L hab (by omega)]
      have s5 := Same.new (o := .lst (((L.drop a).take (b - a)).map oV)) hx3
      have s45 := s4.trans s5
      have s125 := s12.trans s45
      refine ⟨_, rfl, em, _, dm, _, _, rfl, s125 _ _ m1, T.c_Edition, T.n_Edition_words, get_Edition_words _ _ _, ?_⟩
      refine ⟨x2, x3, am, _, _, _, rfl, SqL.of (s5 _ _ upd_same), SqL.of upd_same, SqL.of (s125 _ _ m2), fun j hj => pin j (List.mem_of_mem_drop (List.mem_of_mem_take hj)), fun H3 s6 => ?_⟩
      rw [ecn]
      have s3' := s125.trans s6
      have or2' := s6 _ _ (s45 _ _ or2)
      -- the answer
      refine ⟨_, rfl, r2, _, rfl, .inl (SqL.of or2'), _, rfl, (by show 3 ≤ sizeLine; decide), fun l0 hl0 => ?_⟩
      have s7 := Same.new (o := HO.lst [.int 0, .int ((iN ((x :: r).map fun x => x.2)).length : Nat), .int (((Si47.pairsIn (Si47.pairs st k m) a (b - a)).filter fun z => (Si47.edition st k).words.getD z.1 0 == (Si47.edition st m).words.getD z.2 0).length : Nat)]) hl0
      have s07 := s3'.trans s7
      have in1 : x.2 < (Si47.edition st m).words.length := (bound x (List.mem_filter.mp (show x ∈ Si47.pairsIn (Si47.pairs st k m) a (b - a) by rw [ep]; exact List.mem_cons_self ..)).1).2
      have in2 : ((x :: r).getLast (by simp)).2 < (Si47.edition st m).words.length := (bound _ (List.mem_filter.mp (show (x :: r).getLast (by simp) ∈ Si47.pairsIn (Si47.pairs st k m) a (b - a) by rw [ep]; exact List.getLast_mem _)).1).2
      refine ⟨_, rfl, em, dm, _, rfl, s07 _ _ m1, no_Edition_place_of _ _ _, _, rfl, r2, _, _, _, rfl, rfl, SqL.of (s7 _ _ or2'), at_of (j := 0) rfl rfl, em, x.2, S, _, rfl, hEm.same s07, gm, in1, fun H4 r4 z4 hz4 s8 hr4 or4 => ?_⟩
      refine ⟨l0, r4, _, _, rfl, rfl, s8 _ _ upd_same, or4, (by show 6 ≤ sizeLine; decide), fun l1 hl1 => ?_⟩
      have s9 := Same.new (o := HO.lst ([.int 0, .int ((iN ((x :: r).map fun x => x.2)).length : Nat), .int (((Si47.pairsIn (Si47.pairs st k m) a (b - a)).filter fun z => (Si47.edition st k).words.getD z.1 0 == (Si47.edition st m).words.getD z.2 0).length : Nat)] ++ iN [z4.page, z4.line, z4.place])) hl1
      have s79 := s7.trans (s8.trans s9)
      have s09 := s3'.trans s79
      have hne : ((x :: r).map fun x => x.2) ≠ [] := by simp
      have elast : ((x :: r).map fun x => x.2).getLast hne = ((x :: r).getLast (by simp)).2 := by rw [List.getLast_map]
      refine ⟨_, rfl, em, dm, _, rfl, s09 _ _ m1, no_Edition_place_of _ _ _, _, rfl, _, rfl, r2, _, _, _, rfl, rfl, SqL.of (s79 _ _ or2'), last_at hne, em, ((x :: r).getLast (by simp)).2, S, _, by rw [elast]; rfl, hEm.same s09, gm, in2, fun H5 r5 z5 hz5 s10 hr5 or5 => ?_⟩
      refine ⟨l1, r5, _, _, rfl, rfl, s10 _ _ upd_same, or5, (by show 9 ≤ sizeLine; decide), fun l2 hl2 => ?_⟩
      have s010 := s09.trans s10
      refine q _ l2 (s010.trans (Same.new hl2)) (s010.free hl2) ?_
      rw [upd_same, Wy.find_cons ep, ep]
      unfold Si47.foundOut ansL
      simp only [hz4, hz5, Si47.spotOut]
      simp [iN, Si47.ints]
    | nil =>
      refine iteF ?_
      refine ⟨_, rfl, _, rfl, _, rfl, r1, _, rfl, SqL.of (s02 _ _ or1), fun x2 hx2 => ?_⟩
      rw [oV_to L a]
      have s4 := Same.new (o := HO.lst ((L.take a).map oV)) hx2
      refine ⟨x2, _, rfl, SqL.of upd_same, (by rw [List.length_take]; omega), fun H3 s5 => ?_⟩
      have s03 := s12.trans (s4.trans s5)
      rw [ega]
      have eg : gapOf ((Si47.pairsIn (Si47.pairs st k m) 0 a).map fun x => x.2) = Si47.ahead (Si47.pairs st k m) a := (Wy.ahead_eq _ _).symm
      rw [eg]
      refine ⟨_, rfl, em, dm, _, rfl, s03 _ _ m1, no_Edition_has_word _ _ _, _, rfl, em, Si47.ahead (Si47.pairs st k m) a, S, _, rfl, hEm.same s03, _, rfl, ?_⟩
      by_cases hg : Si47.ahead (Si47.pairs st k m) a < (Si47.edition st m).words.length
      · rw [decide_eq_true hg]
        refine iteT ⟨(by show 1 ≤ sizeLine; decide), fun l0 hl0 => ?_⟩
        have s6 := Same.new (o := HO.lst [.int 1]) hl0
        have s06 := s03.trans s6
        refine ⟨_, rfl, em, dm, _, rfl, s06 _ _ m1, no_Edition_place_of _ _ _, _, rfl, em, _, S, _, rfl, hEm.same s06, gm, hg, fun H4 r4 z4 hz4 s8 hr4 or4 => ?_⟩
        refine ⟨l0, r4, _, _, rfl, rfl, s8 _ _ upd_same, or4, (by show 4 ≤ sizeLine; decide), fun l1 hl1 => ?_⟩
        have s08 := s06.trans s8
        refine q _ l1 (s08.trans (Same.new hl1)) (s08.free hl1) ?_
        rw [upd_same, Wy.find_nil ep]
        unfold Si47.foundOut ansL
        simp only [hz4, Si47.spotOut]
        rw [List.map_cons, ints_iN]
        rfl
      · rw [decide_eq_false hg]
        refine iteF ⟨(by show 1 ≤ sizeLine; decide), fun l0 hl0 => ?_⟩
        refine q _ l0 (s03.trans (Same.new hl0)) (s03.free hl0) ?_
        rw [upd_same, Wy.find_nil ep]
        unfold Si47.foundOut ansL
        simp only [Wy.spot_none gm (Nat.le_of_not_lt hg), Si47.spotOut]
        rfl
end
end Ed
namespace Ed
open PySem PySem.Spec PyProof.Rows L2
section
variable {P : Program} {w : World} {K : PySem.W.Frag} {mg : Str → Option Value} {base : Heap} {A : Ad}
def sp_Shelf_find_line (K : PySem.W.Frag) (A : Ad) : Sp := fun vs H Q _ => ∃ (p : Addr) (k pg ln m : Nat) (S : List Addr) (st : Si47.St), vs = [.ref p, .int k, .int pg, .int ln, .int m] ∧ ShIs K A H S p st ∧ Wy.Good st ∧ Does K A H S p st (.find k pg ln m) [] Q
theorem ok_Shelf_find_line (T : Tx K mg A) : FnOk P w K mg base CX0 9 A.f_Shelf_find_line A.d_Shelf_find_line ["self", "k", "page", "line", "m"] (sp_Shelf_find_line K A) := by
  refine T.F_Shelf_find_line.ok sc_Shelf_find_line (fun vs H Q E h => ?_) (fun cdv A' outer s H vs Q E hr h => ?_)
  · obtain ⟨p, k, pg, ln, m, S, st, rfl, _⟩ := h
    rfl
  · obtain ⟨p, k, pg, ln, m, S, st, rfl, I, g, q⟩ := h
    refine ⟨_, (pss_cons (ps_if (pt_not (pt_val (pe_meth (pv 0) T.c_Shelf T.M_Shelf_has_both (ok_Shelf_has_both T) (hr.mono (by decide)) T.b_Shelf_has_both .nil pass0 (pa_cons (pv 1) (pa_cons (pv 4) pa_nil))))) (pss_one (ps_ret (pe_lst (pa_cons (pe_gi rfl T.g_NO_SUCH_EDITION) pa_nil)))) pss_nil)
      (pss_cons (ps_set (i := 5) sc_Shelf_find_line.nd rfl (Or.inl rfl) (pe_ix ix_list (pe_fld (pv 0) rfl) (pv 1) (fun _ _ => rfl)))
      (pss_cons (ps_if (pt_not (pt_val (pe_meth (pv 5) T.c_Edition T.M_Edition_has_line (ok_Edition_has_line T) (hr.mono (by decide)) T.b_Edition_has_line .nil pass0 (pa_cons (pv 2) (pa_cons (pv 3) pa_nil))))) (pss_one (ps_ret (pe_lst (pa_cons (pe_gi rfl T.g_NO_SUCH_PLACE) pa_nil)))) pss_nil)
      (pss_one (ps_ret (pe_meth (pv 0) T.c_Shelf T.M_Shelf_find_words (ok_Shelf_find_words T) (hr.mono (by decide)) T.b_Shelf_find_words .nil pass0 (pa_cons (pv 1) (pa_cons (pe_meth (pv 5) T.c_Edition T.M_Edition_line_start (ok_Edition_line_start T) (hr.mono (by decide)) T.b_Edition_line_start .nil pass0 (pa_cons (pv 2) (pa_cons (pv 3) pa_nil))) (pa_cons (pe_meth (pv 5) T.c_Edition T.M_Edition_line_start (ok_Edition_line_start T) (hr.mono (by decide)) T.b_Edition_line_start .nil pass0 (pa_cons (pv 2) (pa_cons (pe_op op_add (pv 3) pe_int) pa_nil))) (pa_cons (pv 4) pa_nil)))))))))), ?_⟩
    obtain ⟨dx, le, tc, es, h⟩ := id I
    refine ⟨_, rfl, p, dx, _, rfl, h.oSh, no_Shelf_has_both _ _, _, rfl, _, rfl, p, k, m, S, st, rfl, I, _, rfl, ?_⟩
    cases t : (Si47.there st k && Si47.there st m) with
    | false =>
      refine iteT ⟨(by show 1 ≤ sizeLine; decide), fun r hr => ?_⟩
      refine does_same I q hr rfl ?_
      simp only [Si47.step, t]
      rfl
    | true =>
      have tk := (Bool.and_eq_true_iff.mp t).1
      have tm := (Bool.and_eq_true_iff.mp t).2
      obtain ⟨e, h1, hE⟩ := h.toEds.has tk
      obtain ⟨de, a, b, c, o1, o2, o3, o4, _⟩ := id hE
      have ge := Wy.good_there g tk
      refine iteF ?_
      refine ⟨_, rfl, p, _, dx, _, _, rfl, h.oSh, T.c_Shelf, T.n_Shelf_editions, get_Shelf_editions _ _, _, rfl, le, _, _, _, rfl, rfl, SqL.of h.oLe, atI_nat (by rw [List.getElem?_map, h1]; rfl), ?_⟩
      refine ⟨_, rfl, e, de, _, rfl, o1, no_Edition_has_line _ _ _, _, rfl, _, rfl, e, pg, ln, S, _, rfl, hE, fun hin => ?_, fun hout => ?_⟩
      · refine ⟨_, rfl, iteF ?_⟩
        obtain ⟨n, g1, g2⟩ := hin
        have ws := Wy.wordsOf_some ge g1 g2
        refine ⟨_, rfl, p, dx, _, rfl, h.oSh, no_Shelf_find_words _ _, _, rfl, ?_⟩
        refine ⟨_, rfl, e, de, _, rfl, o1, no_Edition_line_start _ _ _, _, rfl, _, rfl, e, pg, ln, S, _, rfl, hE, fun H1 s1 => ?_⟩
        refine ⟨_, rfl, e, de, _, rfl, s1 _ _ o1, no_Edition_line_start _ _ _, _, rfl, _, rfl, _, _, rfl, rfl, e, pg, ln + 1, S, _, rfl, hE.same s1, fun H2 s2 => ?_⟩
        have s12 := s1.trans s2
        refine ⟨_, rfl, p, k, _, _, m, S, st, rfl, I.keep fun z _ o eo => s12 z o eo, g, tk, tm, Wy.total_take_mono _ (by omega), Wy.words_le ge _, fun H3 r s3 hr o => ?_⟩
        have s13 := s12.trans s3
        refine does_ext I q s13 (s12.free hr) rfl ?_
        rw [o]
        simp only [Si47.step, t, ws]
        rfl
      · refine ⟨_, rfl, iteT ⟨(by show 1 ≤ sizeLine; decide), fun r hr => ?_⟩⟩
        refine does_same I q hr rfl ?_
        have : Si47.wordsOf (Si47.edition st k) pg ln = none := by unfold Si47.wordsOf; rw [hout]; rfl
        simp only [Si47.step, t, this]
        rfl
def sp_Shelf_find_word (K : PySem.W.Frag) (A : Ad) : Sp := fun vs H Q _ => ∃ (p : Addr) (k i m : Nat) (S : List Addr) (st : Si47.St), vs = [.ref p, .int k, .int i, .int m] ∧ ShIs K A H S p st ∧ Wy.Good st ∧ Does K A H S p st (.word k i m) [] Q
theorem ok_Shelf_find_word (T : Tx K mg A) : FnOk P w K mg base CX0 9 A.f_Shelf_find_word A.d_Shelf_find_word ["self", "k", "word", "m"] (sp_Shelf_find_word K A) := by
  refine T.F_Shelf_find_word.ok sc_Shelf_find_word (fun vs H Q E h => ?_) (fun cdv A' outer s H vs Q E hr h => ?_)
  · obtain ⟨p, k, i, m, S, st, rfl, _⟩ := h
    rfl
  · obtain ⟨p, k, i, m, S, st, rfl, I, g, q⟩ := h
    refine ⟨_, (pss_cons (ps_if (pt_not (pt_val (pe_meth (pv 0) T.c_Shelf T.M_Shelf_has_both (ok_Shelf_has_both T) (hr.mono (by decide)) T.b_Shelf_has_both .nil pass0 (pa_cons (pv 1) (pa_cons (pv 3) pa_nil))))) (pss_one (ps_ret (pe_lst (pa_cons (pe_gi rfl T.g_NO_SUCH_EDITION) pa_nil)))) pss_nil)
      (pss_cons (ps_if (pt_not (pt_val (pe_meth (pe_ix ix_list (pe_fld (pv 0) rfl) (pv 1) (fun _ _ => rfl)) T.c_Edition T.M_Edition_has_word (ok_Edition_has_word T) (hr.mono (by decide)) T.b_Edition_has_word .nil pass0 (pa_cons (pv 2) pa_nil)))) (pss_one (ps_ret (pe_lst (pa_cons (pe_gi rfl T.g_NO_SUCH_PLACE) pa_nil)))) pss_nil)
      (pss_one (ps_ret (pe_meth (pv 0) T.c_Shelf T.M_Shelf_find_words (ok_Shelf_find_words T) (hr.mono (by decide)) T.b_Shelf_find_words .nil pass0 (pa_cons (pv 1) (pa_cons (pv 2) (pa_cons (pe_op op_add (pv 2) pe_int) (pa_cons (pv 3) pa_nil))))))))), ?_⟩
    obtain ⟨dx, le, tc, es, h⟩ := id I
    refine ⟨_, rfl, p, dx, _, rfl, h.oSh, no_Shelf_has_both _ _, _, rfl, _, rfl, p, k, m, S, st, rfl, I, _, rfl, ?_⟩
    cases t : (Si47.there st k && Si47.there st m) with
    | false =>
      refine iteT ⟨(by show 1 ≤ sizeLine; decide), fun r hr => ?_⟩
      refine does_same I q hr rfl ?_
      simp only [Si47.step, t]
      rfl
    | true =>
      have tk := (Bool.and_eq_true_iff.mp t).1
      have tm := (Bool.and_eq_true_iff.mp t).2
      obtain ⟨e, h1, hE⟩ := h.toEds.has tk
      obtain ⟨de, a, b, c, o1, o2, o3, o4, _⟩ := id hE
      refine iteF ?_
      refine ⟨_, rfl, p, _, dx, _, _, rfl, h.oSh, T.c_Shelf, T.n_Shelf_editions, get_Shelf_editions _ _, _, rfl, le, _, _, _, rfl, rfl, SqL.of h.oLe, atI_nat (by rw [List.getElem?_map, h1]; rfl), ?_⟩
      refine ⟨e, de, _, rfl, o1, no_Edition_has_word _ _ _, _, rfl, e, i, S, _, rfl, hE, _, rfl, ?_⟩
      by_cases hi : i < (Si47.edition st k).words.length
      · rw [decide_eq_true hi]
        refine iteF ⟨_, rfl, p, dx, _, rfl, h.oSh, no_Shelf_find_words _ _, _, rfl, _, rfl, _, rfl, _, _, rfl, rfl, _, rfl, p, k, i, i + 1, m, S, st, rfl, I, g, tk, tm, by omega, by omega, fun H1 r s1 hr o => ?_⟩
        refine does_ext I q s1 hr rfl ?_
        rw [o, Nat.add_sub_cancel_left]
        simp only [Si47.step, t, if_neg (show ¬ (Si47.edition st k).words.length ≤ i by omega)]
        rfl
      · rw [decide_eq_false hi]
        refine iteT ⟨(by show 1 ≤ sizeLine; decide), fun r hr => ?_⟩
        refine does_same I q hr rfl ?_
        simp only [Si47.step, t, if_pos (show (Si47.edition st k).words.length ≤ i by omega)]
        rfl
def sp_Shelf_agree (K : PySem.W.Frag) (A : Ad) : Sp := fun vs H Q _ => ∃ (p : Addr) (k m : Nat) (S : List Addr) (st : Si47.St), vs = [.ref p, .int k, .int m] ∧ ShIs K A H S p st ∧ Wy.Good st ∧ Does K A H S p st (.agree k m) [] Q
theorem ok_Shelf_agree (T : Tx K mg A) : FnOk P w K mg base CX0 8 A.f_Shelf_agree A.d_Shelf_agree ["self", "k", "m"] (sp_Shelf_agree K A) := by
  refine T.F_Shelf_agree.ok sc_Shelf_agree (fun vs H Q E h => ?_) (fun cdv A' outer s H vs Q E hr h => ?_)
  · obtain ⟨p, k, m, S, st, rfl, _⟩ := h
    rfl
  · obtain ⟨p, k, m, S, st, rfl, I, g, q⟩ := h
    refine ⟨_, (pss_cons (ps_if (pt_not (pt_val (pe_meth (pv 0) T.c_Shelf T.M_Shelf_has_both (ok_Shelf_has_both T) (hr.mono (by decide)) T.b_Shelf_has_both .nil pass0 (pa_cons (pv 1) (pa_cons (pv 2) pa_nil))))) (pss_one (ps_ret (pe_lst (pa_cons (pe_gi rfl T.g_NO_SUCH_EDITION) pa_nil)))) pss_nil)
      (pss_cons (ps_set (i := 3) sc_Shelf_agree.nd rfl (Or.inl rfl) (pe_meth (pv 0) T.c_Shelf T.M_Shelf_partners_of (ok_Shelf_partners_of T) (hr.mono (by decide)) T.b_Shelf_partners_of .nil pass0 (pa_cons (pv 1) (pa_cons (pv 2) pa_nil))))
      (pss_cons (ps_set (i := 4) sc_Shelf_agree.nd rfl (Or.inl rfl) (pe_call (ok_count_same T) (hr.mono (by decide)) rfl T.m_count_same T.F_count_same.kp T.b_count_same .nil pass0 (pa_cons (pe_fld (pe_ix ix_list (pe_fld (pv 0) rfl) (pv 1) (fun _ _ => rfl)) rfl) (pa_cons (pv 3) (pa_cons (pe_fld (pe_ix ix_list (pe_fld (pv 0) rfl) (pv 2) (fun _ _ => rfl)) rfl) pa_nil)))))
      (pss_one (ps_ret (pe_lst (pa_cons (pe_callB call_len_seq (by rfl) T.z_len bt_len (pa_cons (pe_call (ok_those_there T) (hr.mono (by decide)) rfl T.m_those_there T.F_those_there.kp T.b_those_there .nil pass0 (pa_cons (pv 3) pa_nil)) pa_nil)) (pa_cons (pv 4) pa_nil)))))))), ?_⟩
    obtain ⟨dx, le, tc, es, h⟩ := id I
    refine ⟨_, rfl, p, dx, _, rfl, h.oSh, no_Shelf_has_both _ _, _, rfl, _, rfl, p, k, m, S, st, rfl, I, _, rfl, ?_⟩
    cases t : (Si47.there st k && Si47.there st m) with
    | false =>
      refine iteT ⟨(by show 1 ≤ sizeLine; decide), fun r hr => ?_⟩
      refine does_same I q hr rfl ?_
      simp only [Si47.step, t]
      rfl
    | true =>
      have tk := (Bool.and_eq_true_iff.mp t).1
      have tm := (Bool.and_eq_true_iff.mp t).2
      obtain ⟨ek, hk1, hEk⟩ := h.toEds.has tk
      obtain ⟨em, hm1, hEm⟩ := h.toEds.has tm
      obtain ⟨dk, ak, bk, ck, k1, k2, k3, k4, _⟩ := id hEk
      obtain ⟨dm, am, bm, cm, m1, m2, m3, m4, _⟩ := id hEm
      have gk := Wy.good_there g tk
      have w80 := gk.w80
      have up := Wy.pairs_up st k m
      have bound := Wy.pairs_in st k m
      have all : Si47.pairsIn (Si47.pairs st k m) 0 (Si47.edition st k).words.length = Si47.pairs st k m := Wy.pairsIn_all fun z hz => (bound z hz).1
      refine iteF ?_
      refine ⟨_, rfl, p, dx, _, rfl, h.oSh, no_Shelf_partners_of _ _, _, rfl, _, rfl, p, k, m, S, st, rfl, I, g, tk, tm, fun H1 r1 s1 hr1 or1 => ?_⟩
      have plen : (Wy.pts (Si47.pairs st k m) (Si47.edition st k).words.length).length = (Si47.edition st k).words.length := Wy.pts_len _ _
      have pin : ∀ j, some j ∈ Wy.pts (Si47.pairs st k m) (Si47.edition st k).words.length → j < (Si47.edition st m).words.length := fun j hj => pts_in hj
      have eth := Wy.those_take up (n := (Si47.edition st k).words.length) (b := (Si47.edition st k).words.length) (Nat.le_refl _)
      have ecn := Wy.cnt_pts (Si47.edition st m).words (Si47.edition st k).words up (n := (Si47.edition st k).words.length) (a := 0) (b := (Si47.edition st k).words.length) (by omega) (Nat.le_refl _)
      rw [List.drop_zero, List.drop_zero, List.take_of_length_le (Nat.le_refl _), List.take_of_length_le (by rw [plen]; exact Nat.le_refl _), all] at ecn
      rw [List.take_of_length_le (by rw [plen]; exact Nat.le_refl _), all] at eth
      refine ⟨_, rfl, p, _, dx, _, _, rfl, s1 _ _ h.oSh, T.c_Shelf, T.n_Shelf_editions, get_Shelf_editions _ _, _, rfl, le, _, _, _, rfl, rfl, SqL.of (s1 _ _ h.oLe), atI_nat (by rw [List.getElem?_map, hk1]; rfl), ?_⟩
      refine ⟨ek, _, dk, _, _, rfl, s1 _ _ k1, T.c_Edition, T.n_Edition_words, get_Edition_words _ _ _, _, rfl, ?_⟩
      refine ⟨_, rfl, p, _, dx, _, _, rfl, s1 _ _ h.oSh, T.c_Shelf, T.n_Shelf_editions, get_Shelf_editions _ _, _, rfl, le, _, _, _, rfl, rfl, SqL.of (s1 _ _ h.oLe), atI_nat (by rw [List.getElem?_map, hm1]; rfl), ?_⟩
      refine ⟨em, _, dm, _, _, rfl, s1 _ _ m1, T.c_Edition, T.n_Edition_words, get_Edition_words _ _ _, ?_⟩
      refine ⟨ak, r1, am, _, _, _, rfl, SqL.of (s1 _ _ k2), SqL.of or1, SqL.of (s1 _ _ m2), pin, fun H2 s2 => ?_⟩
      rw [ecn]
      refine ⟨_, rfl, r1, _, rfl, SqL.of (s2 _ _ or1), by rw [plen]; omega, fun H3 r3 s3 hr3 or3 => ?_⟩
      rw [eth] at or3
      refine ⟨r3, _, rfl, .inl (SqL.of or3), _, rfl, (by show 2 ≤ sizeLine; decide), fun x hx => ?_⟩
      have s13 := s1.trans (s2.trans s3)
      refine does_ext I q (s13.trans (Same.new hx)) (s13.free hx) rfl ?_
      rw [upd_same, iN_len, List.length_map]
      simp only [Si47.step, t, Si47.agree]
      rfl
end
end Ed
namespace Ed
open PySem PySem.Spec PyProof.Rows L2
def tblF (s : Si47.St) (k m p : Nat) : Nat × Nat := match Si47.pageWords (Si47.edition s k) p with
  | none => (0, 0)
  | some x => match Si47.find s k m x.1 x.2 with
    | .words _ _ f l => (((Si47.spotOf (Si47.edition s m) f).map fun z => z.page + 1).getD 0, ((Si47.spotOf (Si47.edition s m) l).map fun z => z.page + 1).getD 0)
    | .gap _ => (0, 0)
theorem tbl_eq (s : Si47.St) (k m : Nat) : Si47.pageTable s k m = (List.range (Si47.edition s k).pages.length).map (tblF s k m) := rfl
def tblN (s : Si47.St) (k m t : Nat) : List Nat := ((List.range t).map (tblF s k m)).flatMap fun x => [x.1, x.2]
theorem tblN_succ (s : Si47.St) (k m t : Nat) : tblN s k m (t + 1) = tblN s k m t ++ [(tblF s k m t).1, (tblF s k m t).2] := by
  unfold tblN
  rw [List.range_succ, List.map_append, List.flatMap_append]
  rfl
theorem tblN_len (s : Si47.St) (k m : Nat) : ∀ t, (tblN s k m t).length = 2 * t
  | 0 => rfl
  | t + 1 => by rw [tblN_succ, List.length_append, tblN_len s k m t]; simp; omega
theorem flat_ints (l : List (Nat × Nat)) : (l.flatMap fun x => Si47.ints [x.1, x.2]).map V.int = iN (l.flatMap fun x => [x.1, x.2]) := by
  induction l with
  | nil => rfl
  | cons x l ih =>
    rw [List.flatMap_cons, List.flatMap_cons, List.map_append, ih, ints_iN]
    simp [iN]
section
variable {P : Program} {w : World} {K : PySem.W.Frag} {mg : Str → Option Value} {base : Heap} {A : Ad}
def sp_Shelf_table (K : PySem.W.Frag) (A : Ad) : Sp := fun vs H Q _ => ∃ (p : Addr) (k m : Nat) (S : List Addr) (st : Si47.St), vs = [.ref p, .int k, .int m] ∧ ShIs K A H S p st ∧ Wy.Good st ∧ Does K A H S p st (.table k m) [] Q
theorem ok_Shelf_table (T : Tx K mg A) : FnOk P w K mg base CX0 8 A.f_Shelf_table A.d_Shelf_table ["self", "k", "m"] (sp_Shelf_table K A) := by
  refine T.F_Shelf_table.ok sc_Shelf_table (fun vs H Q E h => ?_) (fun cdv A' outer s H vs Q E hr h => ?_)
  · obtain ⟨p, k, m, S, st, rfl, _⟩ := h
    rfl
  · obtain ⟨p, k, m, S, st, rfl, I, g, q⟩ := h
    refine ⟨_, (pss_cons (ps_if (pt_not (pt_val (pe_meth (pv 0) T.c_Shelf T.M_Shelf_has_both (ok_Shelf_has_both T) (hr.mono (by decide)) T.b_Shelf_has_both .nil pass0 (pa_cons (pv 1) (pa_cons (pv 2) pa_nil))))) (pss_one (ps_ret (pe_lst (pa_cons (pe_gi rfl T.g_NO_SUCH_EDITION) pa_nil)))) pss_nil)
      (pss_cons (ps_set (i := 3) sc_Shelf_table.nd rfl (Or.inl rfl) (pe_ix ix_list (pe_fld (pv 0) rfl) (pv 1) (fun _ _ => rfl)))
      (pss_cons (ps_set (i := 4) sc_Shelf_table.nd rfl (Or.inl rfl) (pe_ix ix_list (pe_fld (pv 0) rfl) (pv 2) (fun _ _ => rfl)))
      (pss_cons (ps_set (i := 5) sc_Shelf_table.nd rfl (Or.inl rfl) (pe_meth (pv 0) T.c_Shelf T.M_Shelf_partners_of (ok_Shelf_partners_of T) (hr.mono (by decide)) T.b_Shelf_partners_of .nil pass0 (pa_cons (pv 1) (pa_cons (pv 2) pa_nil))))
      (pss_cons (ps_set (i := 6) sc_Shelf_table.nd rfl (Or.inl rfl) (pe_lst (pa_cons (pe_callB call_len_seq (by rfl) T.z_len bt_len (pa_cons (pe_fld (pv 3) rfl) pa_nil)) pa_nil)))
      (pss_cons (ps_for PassesOwn.never rfl (pi_range1 (by rfl) T.z_range (pa_cons (pe_callB call_len_seq (by rfl) T.z_len bt_len (pa_cons (pe_fld (pv 3) rfl) pa_nil)) pa_nil)) (pg_name (i := 7) sc_Shelf_table.nd rfl (Or.inl rfl))
        (pss_cons (ps_set (i := 8) sc_Shelf_table.nd rfl (Or.inl rfl) (pe_call (ok_those_there T) (hr.mono (by decide)) rfl T.m_those_there T.F_those_there.kp T.b_those_there .nil pass0 (pa_cons (pe_slice sl_list (pv 5) (po_some (pe_meth (pv 3) T.c_Edition T.M_Edition_page_start (ok_Edition_page_start T) (hr.mono (by decide)) T.b_Edition_page_start .nil pass0 (pa_cons (pv 7) pa_nil))) (po_some (pe_meth (pv 3) T.c_Edition T.M_Edition_page_start (ok_Edition_page_start T) (hr.mono (by decide)) T.b_Edition_page_start .nil pass0 (pa_cons (pe_op op_add (pv 7) pe_int) pa_nil)))) pa_nil)))
        (pss_one (ps_if (pt_truth (pv 8) (fun _ => rfl)) (pss_one (ps_expr (pe_bm PySem.F.plainAttrs_list PySem.F.slot_list_extend PySem.F.type_list_extend mt_extend (pv 6) (pa_cons (pe_lst (pa_cons (pe_op op_add (pe_meth (pv 4) T.c_Edition T.M_Edition_page_of (ok_Edition_page_of T) (hr.mono (by decide)) T.b_Edition_page_of .nil pass0 (pa_cons (pe_ix ix_list (pv 8) pe_int (fun _ _ => rfl)) pa_nil)) pe_int) (pa_cons (pe_op op_add (pe_meth (pv 4) T.c_Edition T.M_Edition_page_of (ok_Edition_page_of T) (hr.mono (by decide)) T.b_Edition_page_of .nil pass0 (pa_cons (pe_ix ix_list (pv 8) (pe_un un_neg pe_int) (fun _ _ => rfl)) pa_nil)) pe_int) pa_nil))) pa_nil)))) (pss_one (ps_expr (pe_bm PySem.F.plainAttrs_list PySem.F.slot_list_extend PySem.F.type_list_extend mt_extend (pv 6) (pa_cons (pe_lst (pa_cons pe_int (pa_cons pe_int pa_nil))) pa_nil))))))))
      (pss_one (ps_ret (pv 6))))))))), ?_⟩
    obtain ⟨dx, le, tc, es, h⟩ := id I
    refine ⟨_, rfl, p, dx, _, rfl, h.oSh, no_Shelf_has_both _ _, _, rfl, _, rfl, p, k, m, S, st, rfl, I, _, rfl, ?_⟩
    cases t : (Si47.there st k && Si47.there st m) with
    | false =>
      refine iteT ⟨(by show 1 ≤ sizeLine; decide), fun r hr => ?_⟩
      refine does_same I q hr rfl ?_
      simp only [Si47.step, t]
      rfl
    | true =>
      have tk := (Bool.and_eq_true_iff.mp t).1
      have tm := (Bool.and_eq_true_iff.mp t).2
      obtain ⟨ek, hk1, hEk⟩ := h.toEds.has tk
      obtain ⟨em, hm1, hEm⟩ := h.toEds.has tm
      obtain ⟨dk, ak, bk, ck, k1, k2, k3, k4, _⟩ := id hEk
      obtain ⟨dm, am, bm, cm, m1, m2, m3, m4, _⟩ := id hEm
      have gk := Wy.good_there g tk
      have gm := Wy.good_there g tm
      have w80 := gk.w80
      have few := gk.few.2
      have up := Wy.pairs_up st k m
      have bound := Wy.pairs_in st k m
      refine iteF ?_
      refine ⟨_, rfl, p, _, dx, _, _, rfl, h.oSh, T.c_Shelf, T.n_Shelf_editions, get_Shelf_editions _ _, _, rfl, le, _, _, _, rfl, rfl, SqL.of h.oLe, atI_nat (by rw [List.getElem?_map, hk1]; rfl), ?_⟩
      refine ⟨_, rfl, p, _, dx, _, _, rfl, h.oSh, T.c_Shelf, T.n_Shelf_editions, get_Shelf_editions _ _, _, rfl, le, _, _, _, rfl, rfl, SqL.of h.oLe, atI_nat (by rw [List.getElem?_map, hm1]; rfl), ?_⟩
      refine ⟨_, rfl, p, dx, _, rfl, h.oSh, no_Shelf_partners_of _ _, _, rfl, _, rfl, p, k, m, S, st, rfl, I, g, tk, tm, fun H1 r1 s1 hr1 or1 => ?_⟩
      have plen : (Wy.pts (Si47.pairs st k m) (Si47.edition st k).words.length).length = (Si47.edition st k).words.length := Wy.pts_len _ _
      refine ⟨_, rfl, ek, _, dk, _, _, rfl, s1 _ _ k1, T.c_Edition, T.n_Edition_page_sizes, get_Edition_page_sizes _ _ _, ck, _, rfl, .inl (SqL.of (s1 _ _ k4)), (by show 1 ≤ sizeLine; decide), fun an han => ?_⟩
      rw [iN_len]
      have hanH : H an = none := s1.free han
      have s2 := Same.new (o := HO.lst [.int ((Si47.edition st k).pages.length : Nat)]) han
      have s12 := s1.trans s2
      refine ⟨_, rfl, ek, _, dk, _, _, rfl, s12 _ _ k1, T.c_Edition, T.n_Edition_page_sizes, get_Edition_page_sizes _ _ _, ck, _, rfl, .inl (SqL.of (s12 _ _ k4)), ?_⟩
      rw [iN_len]
      refine ⟨_, rfl, (by omega), (by omega), ?_⟩
      rw [Int.toNat_natCast]
      refine for_range (fun t σ H' => ∃ v1 v2, σ = [some (.ref p), some (.int k), some (.int m), some (.ref ek), some (.ref em), some (.ref r1), some (.ref an), v1, v2] ∧ Same H1 H' ∧ H' an = some (.lst (.int ((Si47.edition st k).pages.length : Nat) :: iN (tblN st k m t)))) ?_ ?_ ?_
      · exact ⟨none, none, rfl, s2, upd_same⟩
      · rintro pg σ H' hpg ⟨v1, v2, rfl, sH, oan⟩
        have s0 := s1.trans sH
        have gpg := List.getElem?_eq_getElem hpg
        have pw := Wy.pageWords_some (e := Si47.edition st k) gpg
        rw [Int.zero_add]
        refine ⟨_, rfl, ?_⟩
        refine ⟨_, rfl, ek, dk, _, rfl, s0 _ _ k1, no_Edition_page_start _ _ _, _, rfl, ek, pg, S, _, rfl, hEk.same s0, fun H2 t2 => ⟨_, rfl, ?_⟩⟩
        have s02 := s0.trans t2
        refine ⟨_, rfl, ek, dk, _, rfl, s02 _ _ k1, no_Edition_page_start _ _ _, _, rfl, _, _, rfl, rfl, ek, pg + 1, S, _, rfl, hEk.same s02, fun H3 t3 => ⟨_, rfl, ?_⟩⟩
        have s03 := s02.trans t3
        have hab : Si47.total ((Si47.edition st k).lines.take (Si47.total ((Si47.edition st k).pages.take pg))) ≤ Si47.total ((Si47.edition st k).lines.take (Si47.total ((Si47.edition st k).pages.take (pg + 1)))) := Wy.total_take_mono _ (Wy.total_take_mono _ (by omega))
        have hb := Wy.words_le gk (Si47.total ((Si47.edition st k).pages.take (pg + 1)))
        generalize ea : Si47.total ((Si47.edition st k).lines.take (Si47.total ((Si47.edition st k).pages.take pg))) = a at *
        generalize eb : Si47.total ((Si47.edition st k).lines.take (Si47.total ((Si47.edition st k).pages.take (pg + 1)))) = b at *
        have eth := Wy.those_pts up (n := (Si47.edition st k).words.length) (a := a) (b := b - a) (by omega)
        have t13 := sH.trans (t2.trans t3)
        refine ⟨r1, _, rfl, SqL.of (t13 _ _ or1), fun x1 hx1 => ?_⟩
        rw [oV_slice _ hab (by rw [plen]; exact hb)]
        have t4 := Same.new (o := HO.lst ((((Wy.pts (Si47.pairs st k m) (Si47.edition st k).words.length).drop a).take (b - a)).map oV)) hx1
        refine ⟨x1, _, rfl, SqL.of upd_same, (by rw [List.length_take, List.length_drop, plen]; omega), fun H4 r4 t5 hr4 or4 => ?_⟩
        rw [eth] at or4
        have u4 := t2.trans (t3.trans (t4.trans t5))
        have s04 := s0.trans u4
        have s14 : Same H1 H4 := sH.trans u4
        refine ⟨_, rfl, _, .inl ⟨_, SqL.of or4, rfl⟩, ?_⟩
        have len2 := tblN_len st k m pg
        cases ep : Si47.pairsIn (Si47.pairs st k m) a (b - a) with
        | nil =>
          have row : tblF st k m pg = (0, 0) := by
            unfold tblF
            rw [pw]
            simp only [Wy.find_nil ep]
          refine iteF ⟨_, rfl, .inl ⟨rfl, _, SqL.of (u4 _ _ oan)⟩, (by show 2 ≤ sizeLine; decide), fun x hx => ?_⟩
          have t6 := Same.new (o := HO.lst [.int 0, .int 0]) hx
          refine ⟨an, x, _, _, rfl, rfl, t6 _ _ (u4 _ _ oan), upd_same, ?_, _, _, rfl, same_updN (s14.trans t6) han _, ?_⟩
          · rw [List.length_cons, iN_len, len2]
            exact Nat.le_of_lt (small1000 (by simp; omega))
          · rw [upd_same, tblN_succ, row]
            simp [iN]
        | cons x r =>
          rw [ep] at or4
          have in1 : x.2 < (Si47.edition st m).words.length := (bound x (List.mem_filter.mp (show x ∈ Si47.pairsIn (Si47.pairs st k m) a (b - a) by rw [ep]; exact List.mem_cons_self ..)).1).2
          have in2 : ((x :: r).getLast (by simp)).2 < (Si47.edition st m).words.length := (bound _ (List.mem_filter.mp (show (x :: r).getLast (by simp) ∈ Si47.pairsIn (Si47.pairs st k m) a (b - a) by rw [ep]; exact List.getLast_mem _)).1).2
          have hne : ((x :: r).map fun x => x.2) ≠ [] := by simp
          have elast : ((x :: r).map fun x => x.2).getLast hne = ((x :: r).getLast (by simp)).2 := by rw [List.getLast_map]
          refine iteT ⟨_, rfl, .inl ⟨rfl, _, SqL.of (u4 _ _ oan)⟩, ?_⟩
          refine ⟨_, rfl, em, dm, _, rfl, s04 _ _ m1, no_Edition_page_of _ _ _, _, rfl, r4, _, _, _, rfl, rfl, SqL.of or4, at_of (j := 0) rfl rfl, em, x.2, S, _, rfl, hEm.same s04, gm, in1, fun z1 hz1 => ⟨_, _, rfl, rfl, ?_⟩⟩
          refine ⟨_, rfl, em, dm, _, rfl, s04 _ _ m1, no_Edition_page_of _ _ _, _, rfl, _, rfl, r4, _, _, _, rfl, rfl, SqL.of or4, last_at hne, em, ((x :: r).getLast (by simp)).2, S, _, by rw [elast]; rfl, hEm.same s04, gm, in2, fun z2 hz2 => ⟨_, _, rfl, rfl, (by show 2 ≤ sizeLine; decide), fun y hy => ?_⟩⟩
          have row : tblF st k m pg = (z1.page + 1, z2.page + 1) := by
            unfold tblF
            rw [pw]
            simp only [Wy.find_cons ep, hz1, hz2]
            rfl
          have t6 := Same.new (o := HO.lst [.int ((z1.page : Int) + 1), .int ((z2.page : Int) + 1)]) hy
          refine ⟨an, y, _, _, rfl, rfl, t6 _ _ (u4 _ _ oan), upd_same, ?_, _, _, rfl, same_updN (s14.trans t6) han _, ?_⟩
          · rw [List.length_cons, iN_len, len2]
            exact Nat.le_of_lt (small1000 (by simp; omega))
          · rw [upd_same, tblN_succ, row]
            simp [iN]
      · rintro σ H' ⟨v1, v2, rfl, sH, oan⟩
        refine ⟨_, rfl, ?_⟩
        refine does_ext I q (s1.trans sH) hanH rfl ?_
        rw [oan]
        simp only [Si47.step, t]
        show _ = some (HO.lst (List.map V.int ((((Si47.pageTable st k m).length : Nat) : Int) :: (Si47.pageTable st k m).flatMap fun x => Si47.ints [x.1, x.2])))
        rw [List.map_cons, flat_ints, tbl_eq, List.length_map, List.length_range]
        rfl
end
end Ed
namespace Ed
open PySem PySem.Spec PyProof.Rows L2
section
variable {P : Program} {w : World} {K : PySem.W.Frag} {mg : Str → Option Value} {base : Heap} {A : Ad}
theorem DoesR.read {H : Hp} {S : List Addr} {rd dx a : Addr} {n : Nat} {sh : Addr} {st : Si47.St} {c : Si47.Call} {Q : VK} (k : DoesR K A H S rd dx a n sh st c Q) (o : HO) : DoesR K A (upd H rd o) S rd dx a n sh st c Q := fun H' S' r h1 h2 h3 h4 h5 h6 h7 => by
  have nr : r ≠ rd := fun z => by rw [z, upd_same] at h3; cases h3
  rw [upd_ne nr] at h3
  refine k H' S' r h1 h2 h3 h4 h5 (fun b u e m => ?_) fun b m => ?_
  · refine h6 b u ?_ m
    rw [upd_ne (fun z : b = rd => m (z ▸ List.mem_cons_self ..))]
    exact e
  · rcases h7 b m with z | z
    · exact .inl z
    · have nb : b ≠ rd := fun y => by rw [y, upd_same] at z; cases z
      rw [upd_ne nb] at z
      exact .inr z
def sp_answer_place (K : PySem.W.Frag) (A : Ad) : Sp := fun vs H Q _ => ∃ (rd sh dx a : Addr) (n k i : Nat) (xs t : List V) (S : List Addr) (st : Si47.St), H rd = some (rdO A dx a n) ∧ SrcAt K H S rd a xs ∧ rd ∉ S ∧ ShIs K A H S sh st ∧ Wy.Good st ∧
  ((vs = [.int 5, .ref rd, .ref sh] ∧ xs.drop n = .int k :: .int i :: t ∧ DoesR K A H S rd dx a (n + 2) sh st (.where_ k i) Q) ∨
   ∃ m : Nat, vs = [.int 7, .ref rd, .ref sh] ∧ xs.drop n = .int k :: .int i :: .int m :: t ∧ DoesR K A H S rd dx a (n + 3) sh st (.word k i m) Q)
theorem ok_answer_place (T : Tx K mg A) : FnOk P w K mg base CX0 10 A.f_answer_place A.d_answer_place ["call", "reader", "shelf"] (sp_answer_place K A) := by
  refine T.F_answer_place.ok sc_answer_place (fun vs H Q E h => ?_) (fun cdv A' outer s H vs Q E hr h => ?_)
  · obtain ⟨rd, sh, dx, a, n, k, i, xs, t, S, st, _, _, _, _, _, h | ⟨m, h⟩⟩ := h
    · obtain ⟨rfl, _⟩ := h; rfl
    · obtain ⟨rfl, _⟩ := h; rfl
  · obtain ⟨rd, sh, dx, a, n, k, i, xs, t, S, st, hrd, hsrc, hrS, I, g, h⟩ := h
    refine ⟨_, (pss_cons (ps_set (i := 3) sc_answer_place.nd rfl (Or.inl rfl) (pe_meth0 (pv 1) T.c_Reader T.M_Reader_take_number (ok_Reader_take_number T) (hr.mono (by decide)) T.b_Reader_take_number .nil pass0))
      (pss_cons (ps_set (i := 4) sc_answer_place.nd rfl (Or.inl rfl) (pe_meth0 (pv 1) T.c_Reader T.M_Reader_take_number (ok_Reader_take_number T) (hr.mono (by decide)) T.b_Reader_take_number .nil pass0))
      (pss_cons (ps_if (pt_cmpR op_eq (pv 0) (pe_gi rfl T.g_WHERE) (nomark _)) (pss_one (ps_ret (pe_meth (pv 2) T.c_Shelf T.M_Shelf_where (ok_Shelf_where T) (hr.mono (by decide)) T.b_Shelf_where .nil pass0 (pa_cons (pv 3) (pa_cons (pv 4) pa_nil))))) pss_nil)
      (pss_one (ps_ret (pe_meth (pv 2) T.c_Shelf T.M_Shelf_find_word (ok_Shelf_find_word T) (hr.mono (by decide)) T.b_Shelf_find_word .nil pass0 (pa_cons (pv 3) (pa_cons (pv 4) (pa_cons (pe_meth0 (pv 1) T.c_Reader T.M_Reader_take_number (ok_Reader_take_number T) (hr.mono (by decide)) T.b_Reader_take_number .nil pass0) pa_nil))))))))), ?_⟩
    rcases h with ⟨rfl, hd, q⟩ | ⟨m, rfl, hd, q⟩
    · obtain ⟨x1, d1⟩ := drop_at hd
      obtain ⟨x2, d2⟩ := drop_at d1
      refine ⟨_, rfl, rd, dx, _, rfl, hrd, no_Reader_take_number _ _, rd, dx, a, n, xs, _, rfl, hrd, hsrc.seq, x1, ?_⟩
      refine ⟨_, rfl, rd, dx, _, rfl, upd_same, no_Reader_take_number _ _, rd, dx, a, n + 1, xs, _, rfl, upd_same, (hsrc.upd _).seq, x2, ?_⟩
      rw [upd_upd]
      have I2 : ShIs K A (upd H rd (rdO A dx a (n + 2))) S sh st := I.rd hrS
      obtain ⟨dx2, le, tc, es, h2⟩ := id I2
      refine ⟨_, rfl, rfl, _, rfl, iteT ?_⟩
      exact ⟨_, rfl, sh, dx2, _, rfl, h2.oSh, no_Shelf_where _ _, _, rfl, _, rfl, sh, k, i, S, st, rfl, I2, g, q.go ⟨_, hrd⟩ hrS⟩
    · obtain ⟨x1, d1⟩ := drop_at hd
      obtain ⟨x2, d2⟩ := drop_at d1
      obtain ⟨x3, d3⟩ := drop_at d2
      refine ⟨_, rfl, rd, dx, _, rfl, hrd, no_Reader_take_number _ _, rd, dx, a, n, xs, _, rfl, hrd, hsrc.seq, x1, ?_⟩
      refine ⟨_, rfl, rd, dx, _, rfl, upd_same, no_Reader_take_number _ _, rd, dx, a, n + 1, xs, _, rfl, upd_same, (hsrc.upd _).seq, x2, ?_⟩
      rw [upd_upd]
      have I1 : ShIs K A (upd H rd (rdO A dx a (n + 2))) S sh st := I.rd hrS
      have I2 : ShIs K A (upd H rd (rdO A dx a (n + 3))) S sh st := I.rd hrS
      obtain ⟨dx1, le, tc, es, h1⟩ := id I1
      refine ⟨_, rfl, rfl, _, rfl, iteF ?_⟩
      refine ⟨_, rfl, sh, dx1, _, rfl, h1.oSh, no_Shelf_find_word _ _, _, rfl, _, rfl, ?_⟩
      refine ⟨_, rfl, rd, dx, _, rfl, upd_same, no_Reader_take_number _ _, rd, dx, a, n + 2, xs, _, rfl, upd_same, (hsrc.upd _).seq, x3, ?_⟩
      rw [upd_upd]
      exact ⟨sh, k, i, m, S, st, rfl, I2, g, q.go ⟨_, hrd⟩ hrS⟩
def sp_answer_line (K : PySem.W.Frag) (A : Ad) : Sp := fun vs H Q _ => ∃ (rd sh dx a : Addr) (n k pg ln m : Nat) (xs t : List V) (S : List Addr) (st : Si47.St), vs = [.ref rd, .ref sh] ∧ H rd = some (rdO A dx a n) ∧ SrcAt K H S rd a xs ∧ rd ∉ S ∧ ShIs K A H S sh st ∧ Wy.Good st ∧
  xs.drop n = .int k :: .int pg :: .int ln :: .int m :: t ∧ DoesR K A H S rd dx a (n + 4) sh st (.find k pg ln m) Q
theorem ok_answer_line (T : Tx K mg A) : FnOk P w K mg base CX0 10 A.f_answer_line A.d_answer_line ["reader", "shelf"] (sp_answer_line K A) := by
  refine T.F_answer_line.ok sc_answer_line (fun vs H Q E h => ?_) (fun cdv A' outer s H vs Q E hr h => ?_)
  · obtain ⟨rd, sh, dx, a, n, k, pg, ln, m, xs, t, S, st, rfl, _⟩ := h
    rfl
  · obtain ⟨rd, sh, dx, a, n, k, pg, ln, m, xs, t, S, st, rfl, hrd, hsrc, hrS, I, g, hd, q⟩ := h
    refine ⟨_, (pss_cons (ps_set (i := 2) sc_answer_line.nd rfl (Or.inl rfl) (pe_meth0 (pv 0) T.c_Reader T.M_Reader_take_number (ok_Reader_take_number T) (hr.mono (by decide)) T.b_Reader_take_number .nil pass0))
      (pss_cons (ps_set (i := 3) sc_answer_line.nd rfl (Or.inl rfl) (pe_meth0 (pv 0) T.c_Reader T.M_Reader_take_number (ok_Reader_take_number T) (hr.mono (by decide)) T.b_Reader_take_number .nil pass0))
      (pss_cons (ps_set (i := 4) sc_answer_line.nd rfl (Or.inl rfl) (pe_meth0 (pv 0) T.c_Reader T.M_Reader_take_number (ok_Reader_take_number T) (hr.mono (by decide)) T.b_Reader_take_number .nil pass0))
      (pss_one (ps_ret (pe_meth (pv 1) T.c_Shelf T.M_Shelf_find_line (ok_Shelf_find_line T) (hr.mono (by decide)) T.b_Shelf_find_line .nil pass0 (pa_cons (pv 2) (pa_cons (pv 3) (pa_cons (pv 4) (pa_cons (pe_meth0 (pv 0) T.c_Reader T.M_Reader_take_number (ok_Reader_take_number T) (hr.mono (by decide)) T.b_Reader_take_number .nil pass0) pa_nil)))))))))), ?_⟩
    obtain ⟨x1, d1⟩ := drop_at hd
    obtain ⟨x2, d2⟩ := drop_at d1
    obtain ⟨x3, d3⟩ := drop_at d2
    obtain ⟨x4, d4⟩ := drop_at d3
    refine ⟨_, rfl, rd, dx, _, rfl, hrd, no_Reader_take_number _ _, rd, dx, a, n, xs, _, rfl, hrd, hsrc.seq, x1, ?_⟩
    refine ⟨_, rfl, rd, dx, _, rfl, upd_same, no_Reader_take_number _ _, rd, dx, a, n + 1, xs, _, rfl, upd_same, (hsrc.upd _).seq, x2, ?_⟩
    rw [upd_upd]
    refine ⟨_, rfl, rd, dx, _, rfl, upd_same, no_Reader_take_number _ _, rd, dx, a, n + 2, xs, _, rfl, upd_same, (hsrc.upd _).seq, x3, ?_⟩
    rw [upd_upd]
    have I1 : ShIs K A (upd H rd (rdO A dx a (n + 3))) S sh st := I.rd hrS
    have I2 : ShIs K A (upd H rd (rdO A dx a (n + 4))) S sh st := I.rd hrS
    obtain ⟨dx1, le, tc, es, h1⟩ := id I1
    refine ⟨_, rfl, sh, dx1, _, rfl, h1.oSh, no_Shelf_find_line _ _, _, rfl, _, rfl, _, rfl, ?_⟩
    refine ⟨_, rfl, rd, dx, _, rfl, upd_same, no_Reader_take_number _ _, rd, dx, a, n + 3, xs, _, rfl, upd_same, (hsrc.upd _).seq, x4, ?_⟩
    rw [upd_upd]
    exact ⟨sh, k, pg, ln, m, S, st, rfl, I2, g, q.go ⟨_, hrd⟩ hrS⟩
def sp_answer_whole (K : PySem.W.Frag) (A : Ad) : Sp := fun vs H Q _ => ∃ (rd sh dx a : Addr) (n k m : Nat) (xs t : List V) (S : List Addr) (st : Si47.St) (ag : Bool), vs = [.int (if ag then 9 else 8), .ref rd, .ref sh] ∧ H rd = some (rdO A dx a n) ∧ SrcAt K H S rd a xs ∧ rd ∉ S ∧ ShIs K A H S sh st ∧ Wy.Good st ∧
  xs.drop n = .int k :: .int m :: t ∧ DoesR K A H S rd dx a (n + 2) sh st (if ag then .agree k m else .table k m) Q
theorem ok_answer_whole (T : Tx K mg A) : FnOk P w K mg base CX0 9 A.f_answer_whole A.d_answer_whole ["call", "reader", "shelf"] (sp_answer_whole K A) := by
  refine T.F_answer_whole.ok sc_answer_whole (fun vs H Q E h => ?_) (fun cdv A' outer s H vs Q E hr h => ?_)
  · obtain ⟨rd, sh, dx, a, n, k, m, xs, t, S, st, ag, rfl, _⟩ := h
    rfl
  · obtain ⟨rd, sh, dx, a, n, k, m, xs, t, S, st, ag, rfl, hrd, hsrc, hrS, I, g, hd, q⟩ := h
    refine ⟨_, (pss_cons (ps_set (i := 3) sc_answer_whole.nd rfl (Or.inl rfl) (pe_meth0 (pv 1) T.c_Reader T.M_Reader_take_number (ok_Reader_take_number T) (hr.mono (by decide)) T.b_Reader_take_number .nil pass0))
      (pss_cons (ps_set (i := 4) sc_answer_whole.nd rfl (Or.inl rfl) (pe_meth0 (pv 1) T.c_Reader T.M_Reader_take_number (ok_Reader_take_number T) (hr.mono (by decide)) T.b_Reader_take_number .nil pass0))
      (pss_cons (ps_if (pt_cmpR op_eq (pv 0) (pe_gi rfl T.g_TABLE) (nomark _)) (pss_one (ps_ret (pe_meth (pv 2) T.c_Shelf T.M_Shelf_table (ok_Shelf_table T) (hr.mono (by decide)) T.b_Shelf_table .nil pass0 (pa_cons (pv 3) (pa_cons (pv 4) pa_nil))))) pss_nil)
      (pss_one (ps_ret (pe_meth (pv 2) T.c_Shelf T.M_Shelf_agree (ok_Shelf_agree T) (hr.mono (by decide)) T.b_Shelf_agree .nil pass0 (pa_cons (pv 3) (pa_cons (pv 4) pa_nil)))))))), ?_⟩
    obtain ⟨x1, d1⟩ := drop_at hd
    obtain ⟨x2, d2⟩ := drop_at d1
    refine ⟨_, rfl, rd, dx, _, rfl, hrd, no_Reader_take_number _ _, rd, dx, a, n, xs, _, rfl, hrd, hsrc.seq, x1, ?_⟩
    refine ⟨_, rfl, rd, dx, _, rfl, upd_same, no_Reader_take_number _ _, rd, dx, a, n + 1, xs, _, rfl, upd_same, (hsrc.upd _).seq, x2, ?_⟩
    rw [upd_upd]
    have I2 : ShIs K A (upd H rd (rdO A dx a (n + 2))) S sh st := I.rd hrS
    obtain ⟨dx2, le, tc, es, h2⟩ := id I2
    refine ⟨_, rfl, rfl, _, rfl, ?_⟩
    cases ag with
    | false =>
      refine iteT ?_
      exact ⟨_, rfl, sh, dx2, _, rfl, h2.oSh, no_Shelf_table _ _, _, rfl, _, rfl, sh, k, m, S, st, rfl, I2, g, q.go ⟨_, hrd⟩ hrS⟩
    | true =>
      refine iteF ?_
      exact ⟨_, rfl, sh, dx2, _, rfl, h2.oSh, no_Shelf_agree _ _, _, rfl, _, rfl, sh, k, m, S, st, rfl, I2, g, q.go ⟨_, hrd⟩ hrS⟩
inductive Asks : Int → Si47.Call → List V → Prop where
  | where_ (k i : Nat) : Asks 5 (.where_ k i) [.int k, .int i]
  | find (k p q m : Nat) : Asks 6 (.find k p q m) [.int k, .int p, .int q, .int m]
  | word (k i m : Nat) : Asks 7 (.word k i m) [.int k, .int i, .int m]
  | table (k m : Nat) : Asks 8 (.table k m) [.int k, .int m]
  | agree (k m : Nat) : Asks 9 (.agree k m) [.int k, .int m]
def sp_answer_asked (K : PySem.W.Frag) (A : Ad) : Sp := fun vs H Q _ => ∃ (rd sh dx a : Addr) (n : Nat) (xs t ys : List V) (S : List Addr) (st : Si47.St) (c : Int) (q : Si47.Call), vs = [.int c, .ref rd, .ref sh] ∧ H rd = some (rdO A dx a n) ∧ SrcAt K H S rd a xs ∧ rd ∉ S ∧ ShIs K A H S sh st ∧ Wy.Good st ∧ Asks c q ys ∧
  xs.drop n = ys ++ t ∧ DoesR K A H S rd dx a (n + ys.length) sh st q Q
theorem ok_answer_asked (T : Tx K mg A) : FnOk P w K mg base CX0 11 A.f_answer_asked A.d_answer_asked ["call", "reader", "shelf"] (sp_answer_asked K A) := by
  refine T.F_answer_asked.ok sc_answer_asked (fun vs H Q E h => ?_) (fun cdv A' outer s H vs Q E hr h => ?_)
  · obtain ⟨rd, sh, dx, a, n, xs, t, ys, S, st, c, q, rfl, _⟩ := h
    rfl
  · obtain ⟨rd, sh, dx, a, n, xs, t, ys, S, st, c, q, rfl, hrd, hsrc, hrS, I, g, ha, hd, k⟩ := h
    refine ⟨_, (pss_cons (ps_if (PW.pt (pw_or (pt_cmpR op_eq (pv 0) (pe_gi rfl T.g_WHERE) (nomark _)) (pw_or1 (pt_cmpR op_eq (pv 0) (pe_gi rfl T.g_WORD) (nomark _))))) (pss_one (ps_ret (pe_call (ok_answer_place T) (hr.mono (by decide)) rfl T.m_answer_place T.F_answer_place.kp T.b_answer_place .nil pass0 (pa_cons (pv 0) (pa_cons (pv 1) (pa_cons (pv 2) pa_nil)))))) pss_nil)
      (pss_cons (ps_if (pt_cmpR op_eq (pv 0) (pe_gi rfl T.g_FIND) (nomark _)) (pss_one (ps_ret (pe_call (ok_answer_line T) (hr.mono (by decide)) rfl T.m_answer_line T.F_answer_line.kp T.b_answer_line .nil pass0 (pa_cons (pv 1) (pa_cons (pv 2) pa_nil))))) pss_nil)
      (pss_cons (ps_if (PW.pt (pw_or (pt_cmpR op_eq (pv 0) (pe_gi rfl T.g_TABLE) (nomark _)) (pw_or1 (pt_cmpR op_eq (pv 0) (pe_gi rfl T.g_AGREE) (nomark _))))) (pss_one (ps_ret (pe_call (ok_answer_whole T) (hr.mono (by decide)) rfl T.m_answer_whole T.F_answer_whole.kp T.b_answer_whole .nil pass0 (pa_cons (pv 0) (pa_cons (pv 1) (pa_cons (pv 2) pa_nil)))))) pss_nil)
      (pss_one ps_never)))), ?_⟩
    refine ⟨_, rfl, rfl, _, rfl, ?_⟩
    cases ha with
    | where_ k1 i1 =>
      refine iteT (iteT ?_)
      exact ⟨_, rfl, _, rfl, _, rfl, rd, sh, dx, a, n, k1, i1, xs, t, S, st, hrd, hsrc, hrS, I, g, .inl ⟨rfl, hd, k⟩⟩
    | word k1 i1 m1 =>
      refine iteF ⟨_, rfl, rfl, _, rfl, iteT ?_⟩
      exact ⟨_, rfl, _, rfl, _, rfl, rd, sh, dx, a, n, k1, i1, xs, t, S, st, hrd, hsrc, hrS, I, g, .inr ⟨m1, rfl, hd, k⟩⟩
    | find k1 p1 q1 m1 =>
      refine iteF ⟨_, rfl, rfl, _, rfl, iteF ?_⟩
      refine ⟨_, rfl, rfl, _, rfl, iteT ?_⟩
      exact ⟨_, rfl, _, rfl, rd, sh, dx, a, n, k1, p1, q1, m1, xs, t, S, st, rfl, hrd, hsrc, hrS, I, g, hd, k⟩
    | table k1 m1 =>
      refine iteF ⟨_, rfl, rfl, _, rfl, iteF ?_⟩
      refine ⟨_, rfl, rfl, _, rfl, iteF ?_⟩
      refine ⟨_, rfl, rfl, _, rfl, iteT (iteT ?_)⟩
      exact ⟨_, rfl, _, rfl, _, rfl, rd, sh, dx, a, n, k1, m1, xs, t, S, st, false, rfl, hrd, hsrc, hrS, I, g, hd, k⟩
    | agree k1 m1 =>
      refine iteF ⟨_, rfl, rfl, _, rfl, iteF ?_⟩
      refine ⟨_, rfl, rfl, _, rfl, iteF ?_⟩
      refine ⟨_, rfl, rfl, _, rfl, iteF ⟨_, rfl, rfl, _, rfl, iteT ?_⟩⟩
      exact ⟨_, rfl, _, rfl, _, rfl, rd, sh, dx, a, n, k1, m1, xs, t, S, st, true, rfl, hrd, hsrc, hrS, I, g, hd, k⟩
theorem zs_iN (l : List Nat) : (Wy.zs l).map V.int = iN l := by unfold Wy.zs iN; rw [List.map_map]; rfl
theorem ok_answer_call (T : Tx K mg A) : FnOk P w K mg base CX0 12 A.f_answer_call A.d_answer_call ["reader", "shelf"] (sp_answer_call K A) := by
  refine T.F_answer_call.ok sc_answer_call (fun vs H Q E h => ?_) (fun cdv A' outer s H vs Q E hr h => ?_)
  · obtain ⟨rd, sh, dx, a, n, xs, t, S, st, c, q, rfl, _⟩ := h
    rfl
  · obtain ⟨rd, sh, dx, a, n, xs, t, S, st, c, q, rfl, hrd, hsrc, hrS, I, g, hi, hd, k⟩ := h
    refine ⟨_, (pss_cons (ps_set (i := 2) sc_answer_call.nd rfl (Or.inl rfl) (pe_meth0 (pv 0) T.c_Reader T.M_Reader_take_number (ok_Reader_take_number T) (hr.mono (by decide)) T.b_Reader_take_number .nil pass0))
      (pss_cons (ps_if (pt_cmpR op_eq (pv 2) (pe_gi rfl T.g_BEGINS) (nomark _)) (pss_one (ps_ret (pe_meth0 (pv 1) T.c_Shelf T.M_Shelf_begin (ok_Shelf_begin T) (hr.mono (by decide)) T.b_Shelf_begin .nil pass0))) pss_nil)
      (pss_cons (ps_if (pt_cmpR op_eq (pv 2) (pe_gi rfl T.g_EDITION) (nomark _)) (pss_one (ps_ret (pe_meth (pv 1) T.c_Shelf T.M_Shelf_add_edition (ok_Shelf_add_edition T) (hr.mono (by decide)) T.b_Shelf_add_edition .nil pass0 (pa_cons (pe_meth0 (pv 0) T.c_Reader T.M_Reader_take_row (ok_Reader_take_row T) (hr.mono (by decide)) T.b_Reader_take_row .nil pass0) pa_nil)))) pss_nil)
      (pss_cons (ps_if (PW.pt (pw_or (pt_cmpR op_eq (pv 2) (pe_gi rfl T.g_LINES) (nomark _)) (pw_or1 (pt_cmpR op_eq (pv 2) (pe_gi rfl T.g_PAGES) (nomark _))))) (pss_one (ps_ret (pe_call (ok_answer_counts T) (hr.mono (by decide)) rfl T.m_answer_counts T.F_answer_counts.kp T.b_answer_counts .nil pass0 (pa_cons (pv 2) (pa_cons (pv 0) (pa_cons (pv 1) pa_nil)))))) pss_nil)
      (pss_cons (ps_if (pt_cmpR op_eq (pv 2) (pe_gi rfl T.g_COSTS) (nomark _)) (pss_one (ps_ret (pe_call (ok_answer_costs T) (hr.mono (by decide)) rfl T.m_answer_costs T.F_answer_costs.kp T.b_answer_costs .nil pass0 (pa_cons (pv 0) (pa_cons (pv 1) pa_nil))))) pss_nil)
      (pss_one (ps_ret (pe_call (ok_answer_asked T) (hr.mono (by decide)) rfl T.m_answer_asked T.F_answer_asked.kp T.b_answer_asked .nil pass0 (pa_cons (pv 2) (pa_cons (pv 0) (pa_cons (pv 1) pa_nil))))))))))), ?_⟩
    have go : ∀ {z : Int} {ys : List V}, xs.drop n = .int z :: ys → xs[n]? = some (.int z) ∧ xs.drop (n + 1) = ys := fun h => drop_at h
    have I1 : ShIs K A (upd H rd (rdO A dx a (n + 1))) S sh st := I.rd hrS
    obtain ⟨dx1, le, tc, es, h1⟩ := id I1
    have src1 : SrcAt K (upd H rd (rdO A dx a (n + 1))) S rd a xs := hsrc.upd _
    have asks : ∀ {z : Int} {q : Si47.Call} {ys : List V}, Asks z q ys → xs.drop n = .int z :: (ys ++ t) → DoesR K A H S rd dx a (n + 1 + ys.length) sh st q Q → sp_answer_asked K A [.int z, .ref rd, .ref sh] (upd H rd (rdO A dx a (n + 1))) Q E := fun {z q ys} h e k =>
      ⟨rd, sh, dx, a, n + 1, xs, t, ys, S, st, z, q, rfl, upd_same, src1, hrS, I1, g, h, (drop_at e).2, k.read _⟩
    cases hi with
    | begins =>
      have hd : xs.drop n = .int 0 :: t := hd
      refine ⟨_, rfl, rd, dx, _, rfl, hrd, no_Reader_take_number _ _, rd, dx, a, n, xs, _, rfl, hrd, hsrc.seq, (drop_at hd).1, ?_⟩
      refine ⟨_, rfl, rfl, _, rfl, iteT ?_⟩
      exact ⟨_, rfl, sh, dx1, _, rfl, h1.oSh, no_Shelf_begin _ _, sh, S, st, rfl, I1, k.go ⟨_, hrd⟩ hrS⟩
    | edition l hl =>
      have hd : xs.drop n = .int 1 :: .int (l.length : Nat) :: (iN l ++ t) := by
        rw [hd]; simp [PyFlat.put1, PyFlat.putRows, PyFlat.putRow, Wy.zs_len, zs_iN]
      have k : DoesR K A H S rd dx a (n + 2 + l.length) sh st (.edition l) Q := by
        have e : n + (PyFlat.put1 [[1], Wy.zs l]).length = n + 2 + l.length := by simp [PyFlat.put1, PyFlat.putRows, PyFlat.putRow, Wy.zs_len]; omega
        rw [e] at k; exact k
      obtain ⟨x1, d1⟩ := drop_at hd
      obtain ⟨x2, d2⟩ := drop_at d1
      obtain ⟨r1, r2, r3⟩ := drop_row d2 (iN_len l) (drop_lt d1)
      refine ⟨_, rfl, rd, dx, _, rfl, hrd, no_Reader_take_number _ _, rd, dx, a, n, xs, _, rfl, hrd, hsrc.seq, x1, ?_⟩
      refine ⟨_, rfl, rfl, _, rfl, iteF ?_⟩
      refine ⟨_, rfl, rfl, _, rfl, iteT ?_⟩
      refine ⟨_, rfl, sh, dx1, _, rfl, h1.oSh, no_Shelf_add_edition _ _, _, rfl, rd, dx, _, rfl, upd_same, no_Reader_take_row _ _, rd, dx, a, n + 1, l.length, xs, rfl, upd_same, src1.seq, fun o => (src1.upd o).seq, x2, r1, fun c hc => ?_⟩
      have ncr : c ≠ rd := fun z => by rw [z, upd_same] at hc; cases hc
      rw [upd_ne ncr] at hc
      rw [upd_upd, r2]
      have I2 : ShIs K A (upd (upd H rd (rdO A dx a (n + 2 + l.length))) c (.lst (iN l))) S sh st := (I.rd hrS).new (by rw [upd_ne ncr]; exact hc)
      have hcS : c ∉ S := ne_in hc I.trk
      rw [show n + 1 + 1 + l.length = n + 2 + l.length by omega]
      exact ⟨sh, c, l, S, st, rfl, I2, upd_same, hcS, g.four, k.goL ⟨_, hrd⟩ hrS hc⟩
    | lines j l hl =>
      have hd : xs.drop n = .int 2 :: .int (j : Nat) :: .int (l.length : Nat) :: (iN l ++ t) := by
        rw [hd]; simp [PyFlat.put1, PyFlat.putRows, PyFlat.putRow, Wy.zs_len, zs_iN]
      have k : DoesR K A H S rd dx a (n + 1 + 2 + l.length) sh st (.lines j l) Q := by
        have e : n + (PyFlat.put1 [[2, (j : Int)], Wy.zs l]).length = n + 1 + 2 + l.length := by simp [PyFlat.put1, PyFlat.putRows, PyFlat.putRow, Wy.zs_len]; omega
        rw [e] at k; exact k
      refine ⟨_, rfl, rd, dx, _, rfl, hrd, no_Reader_take_number _ _, rd, dx, a, n, xs, _, rfl, hrd, hsrc.seq, (drop_at hd).1, ?_⟩
      refine ⟨_, rfl, rfl, _, rfl, iteF ?_⟩
      refine ⟨_, rfl, rfl, _, rfl, iteF ?_⟩
      refine ⟨_, rfl, rfl, _, rfl, iteT (iteT ?_)⟩
      exact ⟨_, rfl, _, rfl, _, rfl, rd, sh, dx, a, n + 1, j, xs, t, l, S, st, false, rfl, upd_same, src1, hrS, I1, (drop_at hd).2, k.read _⟩
    | pages j l hl =>
      have hd : xs.drop n = .int 3 :: .int (j : Nat) :: .int (l.length : Nat) :: (iN l ++ t) := by
        rw [hd]; simp [PyFlat.put1, PyFlat.putRows, PyFlat.putRow, Wy.zs_len, zs_iN]
      have k : DoesR K A H S rd dx a (n + 1 + 2 + l.length) sh st (.pages j l) Q := by
        have e : n + (PyFlat.put1 [[3, (j : Int)], Wy.zs l]).length = n + 1 + 2 + l.length := by simp [PyFlat.put1, PyFlat.putRows, PyFlat.putRow, Wy.zs_len]; omega
        rw [e] at k; exact k
      refine ⟨_, rfl, rd, dx, _, rfl, hrd, no_Reader_take_number _ _, rd, dx, a, n, xs, _, rfl, hrd, hsrc.seq, (drop_at hd).1, ?_⟩
      refine ⟨_, rfl, rfl, _, rfl, iteF ?_⟩
      refine ⟨_, rfl, rfl, _, rfl, iteF ?_⟩
      refine ⟨_, rfl, rfl, _, rfl, iteF ⟨_, rfl, rfl, _, rfl, iteT ?_⟩⟩
      exact ⟨_, rfl, _, rfl, _, rfl, rd, sh, dx, a, n + 1, j, xs, t, l, S, st, true, rfl, upd_same, src1, hrS, I1, (drop_at hd).2, k.read _⟩
    | costs x y z =>
      have hd : xs.drop n = .int 4 :: .int (x : Nat) :: .int (y : Nat) :: .int (z : Nat) :: t := hd
      refine ⟨_, rfl, rd, dx, _, rfl, hrd, no_Reader_take_number _ _, rd, dx, a, n, xs, _, rfl, hrd, hsrc.seq, (drop_at hd).1, ?_⟩
      refine ⟨_, rfl, rfl, _, rfl, iteF ?_⟩
      refine ⟨_, rfl, rfl, _, rfl, iteF ?_⟩
      refine ⟨_, rfl, rfl, _, rfl, iteF ⟨_, rfl, rfl, _, rfl, iteF ?_⟩⟩
      refine ⟨_, rfl, rfl, _, rfl, iteT ?_⟩
      exact ⟨_, rfl, _, rfl, rd, sh, dx, a, n + 1, x, y, z, xs, t, S, st, rfl, upd_same, src1, hrS, I1, (drop_at hd).2, k.read _⟩
    | where_ x y =>
      refine ⟨_, rfl, rd, dx, _, rfl, hrd, no_Reader_take_number _ _, rd, dx, a, n, xs, _, rfl, hrd, hsrc.seq, (drop_at hd).1, ?_⟩
      refine ⟨_, rfl, rfl, _, rfl, iteF ⟨_, rfl, rfl, _, rfl, iteF ⟨_, rfl, rfl, _, rfl, iteF ⟨_, rfl, rfl, _, rfl, iteF ⟨_, rfl, rfl, _, rfl, iteF ⟨_, rfl, _, rfl, _, rfl, asks (.where_ x y) hd k⟩⟩⟩⟩⟩⟩
    | find x y z u =>
      refine ⟨_, rfl, rd, dx, _, rfl, hrd, no_Reader_take_number _ _, rd, dx, a, n, xs, _, rfl, hrd, hsrc.seq, (drop_at hd).1, ?_⟩
      refine ⟨_, rfl, rfl, _, rfl, iteF ⟨_, rfl, rfl, _, rfl, iteF ⟨_, rfl, rfl, _, rfl, iteF ⟨_, rfl, rfl, _, rfl, iteF ⟨_, rfl, rfl, _, rfl, iteF ⟨_, rfl, _, rfl, _, rfl, asks (.find x y z u) hd k⟩⟩⟩⟩⟩⟩
    | word x y z =>
      refine ⟨_, rfl, rd, dx, _, rfl, hrd, no_Reader_take_number _ _, rd, dx, a, n, xs, _, rfl, hrd, hsrc.seq, (drop_at hd).1, ?_⟩
      refine ⟨_, rfl, rfl, _, rfl, iteF ⟨_, rfl, rfl, _, rfl, iteF ⟨_, rfl, rfl, _, rfl, iteF ⟨_, rfl, rfl, _, rfl, iteF ⟨_, rfl, rfl, _, rfl, iteF ⟨_, rfl, _, rfl, _, rfl, asks (.word x y z) hd k⟩⟩⟩⟩⟩⟩
    | table x y =>
      refine ⟨_, rfl, rd, dx, _, rfl, hrd, no_Reader_take_number _ _, rd, dx, a, n, xs, _, rfl, hrd, hsrc.seq, (drop_at hd).1, ?_⟩
      refine ⟨_, rfl, rfl, _, rfl, iteF ⟨_, rfl, rfl, _, rfl, iteF ⟨_, rfl, rfl, _, rfl, iteF ⟨_, rfl, rfl, _, rfl, iteF ⟨_, rfl, rfl, _, rfl, iteF ⟨_, rfl, _, rfl, _, rfl, asks (.table x y) hd k⟩⟩⟩⟩⟩⟩
    | agree x y =>
      refine ⟨_, rfl, rd, dx, _, rfl, hrd, no_Reader_take_number _ _, rd, dx, a, n, xs, _, rfl, hrd, hsrc.seq, (drop_at hd).1, ?_⟩
      refine ⟨_, rfl, rfl, _, rfl, iteF ⟨_, rfl, rfl, _, rfl, iteF ⟨_, rfl, rfl, _, rfl, iteF ⟨_, rfl, rfl, _, rfl, iteF ⟨_, rfl, rfl, _, rfl, iteF ⟨_, rfl, _, rfl, _, rfl, asks (.agree x y) hd k⟩⟩⟩⟩⟩⟩
end
end Ed
namespace Ed
open PySem PySem.Spec PyProof.Rows L2
theorem all_mk {P : Program} {w : World} {K : PySem.W.Frag} {h : Heap} {mg : Str → Option Value} {fa : Addr} (X : K.In h) (G : h.Ns mainGlobals mg) (hfa : mg "answers" = some (.ref fa))
    {a_Edition a_Way a_Shelf a_Reader f_start_of f_part_holding f_Edition_init f_Edition_has_word f_Edition_has_line f_Edition_line_start f_Edition_page_start f_Edition_page_of f_Edition_place_of f_Way_init f_Way_pair_cost f_Way_rests_from f_Way_all_rests f_Way_pairs f_partners_by f_find_partners f_those_there f_count_same f_gap_behind f_are_words f_make_whole f_Shelf_init f_Shelf_begin f_Shelf_has_edition f_Shelf_has_both f_Shelf_partners_of f_Shelf_add_edition f_Shelf_set_lines f_Shelf_set_pages f_Shelf_set_costs f_Shelf_where f_Shelf_find_line f_Shelf_find_word f_Shelf_find_words f_Shelf_table f_Shelf_agree f_Reader_init f_Reader_has_more f_Reader_take_number f_Reader_take_row f_answer_counts f_answer_costs f_answer_place f_answer_line f_answer_whole f_answer_asked f_answer_call f_answers t_FIRST_COSTS : Addr}
    {oc_start_of kv_start_of dc_start_of pm_start_of cd_start_of ct_start_of oc_part_holding kv_part_holding dc_part_holding pm_part_holding cd_part_holding ct_part_holding oc_Edition_init kv_Edition_init dc_Edition_init pm_Edition_init cd_Edition_init ct_Edition_init oc_Edition_has_word kv_Edition_has_word dc_Edition_has_word pm_Edition_has_word cd_Edition_has_word ct_Edition_has_word oc_Edition_has_line kv_Edition_has_line dc_Edition_has_line pm_Edition_has_line cd_Edition_has_line ct_Edition_has_line oc_Edition_line_start kv_Edition_line_start dc_Edition_line_start pm_Edition_line_start cd_Edition_line_start ct_Edition_line_start oc_Edition_page_start kv_Edition_page_start dc_Edition_page_start pm_Edition_page_start cd_Edition_page_start ct_Edition_page_start oc_Edition_page_of kv_Edition_page_of dc_Edition_page_of pm_Edition_page_of cd_Edition_page_of ct_Edition_page_of oc_Edition_place_of kv_Edition_place_of dc_Edition_place_of pm_Edition_place_of cd_Edition_place_of ct_Edition_place_of oc_Way_init kv_Way_init dc_Way_init pm_Way_init cd_Way_init ct_Way_init oc_Way_pair_cost kv_Way_pair_cost dc_Way_pair_cost pm_Way_pair_cost cd_Way_pair_cost ct_Way_pair_cost oc_Way_rests_from kv_Way_rests_from dc_Way_rests_from pm_Way_rests_from cd_Way_rests_from ct_Way_rests_from oc_Way_all_rests kv_Way_all_rests dc_Way_all_rests pm_Way_all_rests cd_Way_all_rests ct_Way_all_rests oc_Way_pairs kv_Way_pairs dc_Way_pairs pm_Way_pairs cd_Way_pairs ct_Way_pairs oc_partners_by kv_partners_by dc_partners_by pm_partners_by cd_partners_by ct_partners_by oc_find_partners kv_find_partners dc_find_partners pm_find_partners cd_find_partners ct_find_partners oc_those_there kv_those_there dc_those_there pm_those_there cd_those_there ct_those_there oc_count_same kv_count_same dc_count_same pm_count_same cd_count_same ct_count_same oc_gap_behind kv_gap_behind dc_gap_behind pm_gap_behind cd_gap_behind ct_gap_behind oc_are_words kv_are_words dc_are_words pm_are_words cd_are_words ct_are_words oc_make_whole kv_make_whole dc_make_whole pm_make_whole cd_make_whole ct_make_whole oc_Shelf_init kv_Shelf_init dc_Shelf_init pm_Shelf_init cd_Shelf_init ct_Shelf_init oc_Shelf_begin kv_Shelf_begin dc_Shelf_begin pm_Shelf_begin cd_Shelf_begin ct_Shelf_begin oc_Shelf_has_edition kv_Shelf_has_edition dc_Shelf_has_edition pm_Shelf_has_edition cd_Shelf_has_edition ct_Shelf_has_edition oc_Shelf_has_both kv_Shelf_has_both dc_Shelf_has_both pm_Shelf_has_both cd_Shelf_has_both ct_Shelf_has_both oc_Shelf_partners_of kv_Shelf_partners_of dc_Shelf_partners_of pm_Shelf_partners_of cd_Shelf_partners_of ct_Shelf_partners_of oc_Shelf_add_edition kv_Shelf_add_edition dc_Shelf_add_edition pm_Shelf_add_edition cd_Shelf_add_edition ct_Shelf_add_edition oc_Shelf_set_lines kv_Shelf_set_lines dc_Shelf_set_lines pm_Shelf_set_lines cd_Shelf_set_lines ct_Shelf_set_lines oc_Shelf_set_pages kv_Shelf_set_pages dc_Shelf_set_pages pm_Shelf_set_pages cd_Shelf_set_pages ct_Shelf_set_pages oc_Shelf_set_costs kv_Shelf_set_costs dc_Shelf_set_costs pm_Shelf_set_costs cd_Shelf_set_costs ct_Shelf_set_costs oc_Shelf_where kv_Shelf_where dc_Shelf_where pm_Shelf_where cd_Shelf_where ct_Shelf_where oc_Shelf_find_line kv_Shelf_find_line dc_Shelf_find_line pm_Shelf_find_line cd_Shelf_find_line ct_Shelf_find_line oc_Shelf_find_word kv_Shelf_find_word dc_Shelf_find_word pm_Shelf_find_word cd_Shelf_find_word ct_Shelf_find_word oc_Shelf_find_words kv_Shelf_find_words dc_Shelf_find_words pm_Shelf_find_words cd_Shelf_find_words ct_Shelf_find_words oc_Shelf_table kv_Shelf_table dc_Shelf_table pm_Shelf_table cd_Shelf_table ct_Shelf_table oc_Shelf_agree kv_Shelf_agree dc_Shelf_agree pm_Shelf_agree cd_Shelf_agree ct_Shelf_agree oc_Reader_init kv_Reader_init dc_Reader_init pm_Reader_init cd_Reader_init ct_Reader_init oc_Reader_has_more kv_Reader_has_more dc_Reader_has_more pm_Reader_has_more cd_Reader_has_more ct_Reader_has_more oc_Reader_take_number kv_Reader_take_number dc_Reader_take_number pm_Reader_take_number cd_Reader_take_number ct_Reader_take_number oc_Reader_take_row kv_Reader_take_row dc_Reader_take_row pm_Reader_take_row cd_Reader_take_row ct_Reader_take_row oc_answer_counts kv_answer_counts dc_answer_counts pm_answer_counts cd_answer_counts ct_answer_counts oc_answer_costs kv_answer_costs dc_answer_costs pm_answer_costs cd_answer_costs ct_answer_costs oc_answer_place kv_answer_place dc_answer_place pm_answer_place cd_answer_place ct_answer_place oc_answer_line kv_answer_line dc_answer_line pm_answer_line cd_answer_line ct_answer_line oc_answer_whole kv_answer_whole dc_answer_whole pm_answer_whole cd_answer_whole ct_answer_whole oc_answer_asked kv_answer_asked dc_answer_asked pm_answer_asked cd_answer_asked ct_answer_asked oc_answer_call kv_answer_call dc_answer_call pm_answer_call cd_answer_call ct_answer_call oc_answers kv_answers dc_answers pm_answers cd_answers ct_answers : Value}
    {od_start_of an_start_of od_part_holding an_part_holding od_Edition_init an_Edition_init od_Edition_has_word an_Edition_has_word od_Edition_has_line an_Edition_has_line od_Edition_line_start an_Edition_line_start od_Edition_page_start an_Edition_page_start od_Edition_page_of an_Edition_page_of od_Edition_place_of an_Edition_place_of od_Way_init an_Way_init od_Way_pair_cost an_Way_pair_cost od_Way_rests_from an_Way_rests_from od_Way_all_rests an_Way_all_rests od_Way_pairs an_Way_pairs od_partners_by an_partners_by od_find_partners an_find_partners od_those_there an_those_there od_count_same an_count_same od_gap_behind an_gap_behind od_are_words an_are_words od_make_whole an_make_whole od_Shelf_init an_Shelf_init od_Shelf_begin an_Shelf_begin od_Shelf_has_edition an_Shelf_has_edition od_Shelf_has_both an_Shelf_has_both od_Shelf_partners_of an_Shelf_partners_of od_Shelf_add_edition an_Shelf_add_edition od_Shelf_set_lines an_Shelf_set_lines od_Shelf_set_pages an_Shelf_set_pages od_Shelf_set_costs an_Shelf_set_costs od_Shelf_where an_Shelf_where od_Shelf_find_line an_Shelf_find_line od_Shelf_find_word an_Shelf_find_word od_Shelf_find_words an_Shelf_find_words od_Shelf_table an_Shelf_table od_Shelf_agree an_Shelf_agree od_Reader_init an_Reader_init od_Reader_has_more an_Reader_has_more od_Reader_take_number an_Reader_take_number od_Reader_take_row an_Reader_take_row od_answer_counts an_answer_counts od_answer_costs an_answer_costs od_answer_place an_answer_place od_answer_line an_answer_line od_answer_whole an_answer_whole od_answer_asked an_answer_asked od_answer_call an_answer_call od_answers an_answers od_FIRST_COSTS : Option Addr}
    {sl_start_of sl_part_holding sl_Edition_init sl_Edition_has_word sl_Edition_has_line sl_Edition_line_start sl_Edition_page_start sl_Edition_page_of sl_Edition_place_of sl_Way_init sl_Way_pair_cost sl_Way_rests_from sl_Way_all_rests sl_Way_pairs sl_partners_by sl_find_partners sl_those_there sl_count_same sl_gap_behind sl_are_words sl_make_whole sl_Shelf_init sl_Shelf_begin sl_Shelf_has_edition sl_Shelf_has_both sl_Shelf_partners_of sl_Shelf_add_edition sl_Shelf_set_lines sl_Shelf_set_pages sl_Shelf_set_costs sl_Shelf_where sl_Shelf_find_line sl_Shelf_find_word sl_Shelf_find_words sl_Shelf_table sl_Shelf_agree sl_Reader_init sl_Reader_has_more sl_Reader_take_number sl_Reader_take_row sl_answer_counts sl_answer_costs sl_answer_place sl_answer_line sl_answer_whole sl_answer_asked sl_answer_call sl_answers sl_FIRST_COSTS : Array (Option Value)}
    {t_MOST_EDITIONS t_MOST_WORDS t_LARGEST_WORD t_LARGEST_COST t_WRONG_FORM t_NO_SUCH_EDITION t_NO_ROOM t_NO_SUCH_PLACE t_BEGINS t_EDITION t_LINES t_PAGES t_COSTS t_WHERE t_FIND t_WORD t_TABLE t_AGREE t_FIRST_COSTS_0 t_FIRST_COSTS_1 t_FIRST_COSTS_2 : Tok}
    {n_FIRST_COSTS : Nat}
    (x_Edition : PySem.W.nsIn K mainGlobals "Edition" = some (some (.ref a_Edition)))
    (pg_Edition : PySem.W.plainGet K a_Edition Str.empty = true)
    (hd_Edition : PySem.W.hasDictIn K a_Edition = true)
    (po_Edition : PySem.W.plainOver K a_Edition = true)
    (sa_Edition : PySem.W.findIn K (.ref a_Edition) "__setattr__" = some (some (.builtin "object.__setattr__")))
    (mk_Edition : PySem.W.makesIn K a_Edition = true)
    (kc_Edition : PySem.W.keepIn K (.ref a_Edition) = true)
    (n_Edition_line_sizes : PySem.W.findIn K (.ref a_Edition) "line_sizes" = some none)
    (n_Edition_page_sizes : PySem.W.findIn K (.ref a_Edition) "page_sizes" = some none)
    (n_Edition_words : PySem.W.findIn K (.ref a_Edition) "words" = some none)
    (x_Way : PySem.W.nsIn K mainGlobals "Way" = some (some (.ref a_Way)))
    (pg_Way : PySem.W.plainGet K a_Way Str.empty = true)
    (hd_Way : PySem.W.hasDictIn K a_Way = true)
    (po_Way : PySem.W.plainOver K a_Way = true)
    (sa_Way : PySem.W.findIn K (.ref a_Way) "__setattr__" = some (some (.builtin "object.__setattr__")))
    (mk_Way : PySem.W.makesIn K a_Way = true)
    (kc_Way : PySem.W.keepIn K (.ref a_Way) = true)
    (n_Way_first : PySem.W.findIn K (.ref a_Way) "first" = some none)
    (n_Way_into : PySem.W.findIn K (.ref a_Way) "into" = some none)
    (n_Way_other : PySem.W.findIn K (.ref a_Way) "other" = some none)
    (n_Way_out : PySem.W.findIn K (.ref a_Way) "out" = some none)
    (n_Way_second : PySem.W.findIn K (.ref a_Way) "second" = some none)
    (x_Shelf : PySem.W.nsIn K mainGlobals "Shelf" = some (some (.ref a_Shelf)))
    (pg_Shelf : PySem.W.plainGet K a_Shelf Str.empty = true)
    (hd_Shelf : PySem.W.hasDictIn K a_Shelf = true)
    (po_Shelf : PySem.W.plainOver K a_Shelf = true)
    (sa_Shelf : PySem.W.findIn K (.ref a_Shelf) "__setattr__" = some (some (.builtin "object.__setattr__")))
    (mk_Shelf : PySem.W.makesIn K a_Shelf = true)
    (kc_Shelf : PySem.W.keepIn K (.ref a_Shelf) = true)
    (n_Shelf_costs : PySem.W.findIn K (.ref a_Shelf) "costs" = some none)
    (n_Shelf_editions : PySem.W.findIn K (.ref a_Shelf) "editions" = some none)
    (x_Reader : PySem.W.nsIn K mainGlobals "Reader" = some (some (.ref a_Reader)))
    (pg_Reader : PySem.W.plainGet K a_Reader Str.empty = true)
    (hd_Reader : PySem.W.hasDictIn K a_Reader = true)
    (po_Reader : PySem.W.plainOver K a_Reader = true)
    (sa_Reader : PySem.W.findIn K (.ref a_Reader) "__setattr__" = some (some (.builtin "object.__setattr__")))
    (mk_Reader : PySem.W.makesIn K a_Reader = true)
    (kc_Reader : PySem.W.keepIn K (.ref a_Reader) = true)
    (n_Reader_calls : PySem.W.findIn K (.ref a_Reader) "calls" = some none)
    (n_Reader_position : PySem.W.findIn K (.ref a_Reader) "position" = some none)
    (x_start_of : PySem.W.nsIn K mainGlobals "start_of" = some (some (.ref f_start_of)))
    (l_start_of : K.lookup f_start_of = some ⟨oc_start_of, od_start_of, .func (PySem.W.fnOf "start_of" "start_of" (defArgs s_start_of) (defBody s_start_of) (defScope s_start_of) .none kv_start_of dc_start_of pm_start_of an_start_of cd_start_of ct_start_of), sl_start_of⟩)
    (c_start_of : PySem.W.codeIn K cd_start_of "start_of" = true)
    (k_start_of : PySem.W.keepIn K (.ref f_start_of) = true)
    (x_part_holding : PySem.W.nsIn K mainGlobals "part_holding" = some (some (.ref f_part_holding)))
    (l_part_holding : K.lookup f_part_holding = some ⟨oc_part_holding, od_part_holding, .func (PySem.W.fnOf "part_holding" "part_holding" (defArgs s_part_holding) (defBody s_part_holding) (defScope s_part_holding) .none kv_part_holding dc_part_holding pm_part_holding an_part_holding cd_part_holding ct_part_holding), sl_part_holding⟩)
    (c_part_holding : PySem.W.codeIn K cd_part_holding "part_holding" = true)
    (k_part_holding : PySem.W.keepIn K (.ref f_part_holding) = true)
    (x_Edition_init : PySem.W.findIn K (.ref a_Edition) "__init__" = some (some (.ref f_Edition_init)))
    (i_Edition_init : PySem.W.isFn K (.ref f_Edition_init) = true)
    (l_Edition_init : K.lookup f_Edition_init = some ⟨oc_Edition_init, od_Edition_init, .func (PySem.W.fnOf "__init__" "Edition.__init__" (defArgs s_Edition_init) (defBody s_Edition_init) (defScope s_Edition_init) .none kv_Edition_init dc_Edition_init pm_Edition_init an_Edition_init cd_Edition_init ct_Edition_init), sl_Edition_init⟩)
    (c_Edition_init : PySem.W.codeIn K cd_Edition_init "Edition.__init__" = true)
    (k_Edition_init : PySem.W.keepIn K (.ref f_Edition_init) = true)
    (x_Edition_has_word : PySem.W.findIn K (.ref a_Edition) "has_word" = some (some (.ref f_Edition_has_word)))
    (i_Edition_has_word : PySem.W.isFn K (.ref f_Edition_has_word) = true)
    (l_Edition_has_word : K.lookup f_Edition_has_word = some ⟨oc_Edition_has_word, od_Edition_has_word, .func (PySem.W.fnOf "has_word" "Edition.has_word" (defArgs s_Edition_has_word) (defBody s_Edition_has_word) (defScope s_Edition_has_word) .none kv_Edition_has_word dc_Edition_has_word pm_Edition_has_word an_Edition_has_word cd_Edition_has_word ct_Edition_has_word), sl_Edition_has_word⟩)
    (c_Edition_has_word : PySem.W.codeIn K cd_Edition_has_word "Edition.has_word" = true)
    (k_Edition_has_word : PySem.W.keepIn K (.ref f_Edition_has_word) = true)
    (x_Edition_has_line : PySem.W.findIn K (.ref a_Edition) "has_line" = some (some (.ref f_Edition_has_line)))
    (i_Edition_has_line : PySem.W.isFn K (.ref f_Edition_has_line) = true)
    (l_Edition_has_line : K.lookup f_Edition_has_line = some ⟨oc_Edition_has_line, od_Edition_has_line, .func (PySem.W.fnOf "has_line" "Edition.has_line" (defArgs s_Edition_has_line) (defBody s_Edition_has_line) (defScope s_Edition_has_line) .none kv_Edition_has_line dc_Edition_has_line pm_Edition_has_line an_Edition_has_line cd_Edition_has_line ct_Edition_has_line), sl_Edition_has_line⟩)
    (c_Edition_has_line : PySem.W.codeIn K cd_Edition_has_line "Edition.has_line" = true)
    (k_Edition_has_line : PySem.W.keepIn K (.ref f_Edition_has_line) = true)
    (x_Edition_line_start : PySem.W.findIn K (.ref a_Edition) "line_start" = some (some (.ref f_Edition_line_start)))
    (i_Edition_line_start : PySem.W.isFn K (.ref f_Edition_line_start) = true)
    (l_Edition_line_start : K.lookup f_Edition_line_start = some ⟨oc_Edition_line_start, od_Edition_line_start, .func (PySem.W.fnOf "line_start" "Edition.line_start" (defArgs s_Edition_line_start) (defBody s_Edition_line_start) (defScope s_Edition_line_start) .none kv_Edition_line_start dc_Edition_line_start pm_Edition_line_start an_Edition_line_start cd_Edition_line_start ct_Edition_line_start), sl_Edition_line_start⟩)
    (c_Edition_line_start : PySem.W.codeIn K cd_Edition_line_start "Edition.line_start" = true)
    (k_Edition_line_start : PySem.W.keepIn K (.ref f_Edition_line_start) = true)
    (x_Edition_page_start : PySem.W.findIn K (.ref a_Edition) "page_start" = some (some (.ref f_Edition_page_start)))
    (i_Edition_page_start : PySem.W.isFn K (.ref f_Edition_page_start) = true)
    (l_Edition_page_start : K.lookup f_Edition_page_start = some ⟨oc_Edition_page_start, od_Edition_page_start, .func (PySem.W.fnOf "page_start" "Edition.page_start" (defArgs s_Edition_page_start) (defBody s_Edition_page_start) (defScope s_Edition_page_start) .none kv_Edition_page_start dc_Edition_page_start pm_Edition_page_start an_Edition_page_start cd_Edition_page_start ct_Edition_page_start), sl_Edition_page_start⟩)
    (c_Edition_page_start : PySem.W.codeIn K cd_Edition_page_start "Edition.page_start" = true)
    (k_Edition_page_start : PySem.W.keepIn K (.ref f_Edition_page_start) = true)
    (x_Edition_page_of : PySem.W.findIn K (.ref a_Edition) "page_of" = some (some (.ref f_Edition_page_of)))
    (i_Edition_page_of : PySem.W.isFn K (.ref f_Edition_page_of) = true)
    (l_Edition_page_of : K.lookup f_Edition_page_of = some ⟨oc_Edition_page_of, od_Edition_page_of, .func (PySem.W.fnOf "page_of" "Edition.page_of" (defArgs s_Edition_page_of) (defBody s_Edition_page_of) (defScope s_Edition_page_of) .none kv_Edition_page_of dc_Edition_page_of pm_Edition_page_of an_Edition_page_of cd_Edition_page_of ct_Edition_page_of), sl_Edition_page_of⟩)
    (c_Edition_page_of : PySem.W.codeIn K cd_Edition_page_of "Edition.page_of" = true)
    (k_Edition_page_of : PySem.W.keepIn K (.ref f_Edition_page_of) = true)
    (x_Edition_place_of : PySem.W.findIn K (.ref a_Edition) "place_of" = some (some (.ref f_Edition_place_of)))
    (i_Edition_place_of : PySem.W.isFn K (.ref f_Edition_place_of) = true)
    (l_Edition_place_of : K.lookup f_Edition_place_of = some ⟨oc_Edition_place_of, od_Edition_place_of, .func (PySem.W.fnOf "place_of" "Edition.place_of" (defArgs s_Edition_place_of) (defBody s_Edition_place_of) (defScope s_Edition_place_of) .none kv_Edition_place_of dc_Edition_place_of pm_Edition_place_of an_Edition_place_of cd_Edition_place_of ct_Edition_place_of), sl_Edition_place_of⟩)
    (c_Edition_place_of : PySem.W.codeIn K cd_Edition_place_of "Edition.place_of" = true)
    (k_Edition_place_of : PySem.W.keepIn K (.ref f_Edition_place_of) = true)
    (x_Way_init : PySem.W.findIn K (.ref a_Way) "__init__" = some (some (.ref f_Way_init)))
    (i_Way_init : PySem.W.isFn K (.ref f_Way_init) = true)
    (l_Way_init : K.lookup f_Way_init = some ⟨oc_Way_init, od_Way_init, .func (PySem.W.fnOf "__init__" "Way.__init__" (defArgs s_Way_init) (defBody s_Way_init) (defScope s_Way_init) .none kv_Way_init dc_Way_init pm_Way_init an_Way_init cd_Way_init ct_Way_init), sl_Way_init⟩)
    (c_Way_init : PySem.W.codeIn K cd_Way_init "Way.__init__" = true)
    (k_Way_init : PySem.W.keepIn K (.ref f_Way_init) = true)
    (x_Way_pair_cost : PySem.W.findIn K (.ref a_Way) "pair_cost" = some (some (.ref f_Way_pair_cost)))
    (i_Way_pair_cost : PySem.W.isFn K (.ref f_Way_pair_cost) = true)
    (l_Way_pair_cost : K.lookup f_Way_pair_cost = some ⟨oc_Way_pair_cost, od_Way_pair_cost, .func (PySem.W.fnOf "pair_cost" "Way.pair_cost" (defArgs s_Way_pair_cost) (defBody s_Way_pair_cost) (defScope s_Way_pair_cost) .none kv_Way_pair_cost dc_Way_pair_cost pm_Way_pair_cost an_Way_pair_cost cd_Way_pair_cost ct_Way_pair_cost), sl_Way_pair_cost⟩)
    (c_Way_pair_cost : PySem.W.codeIn K cd_Way_pair_cost "Way.pair_cost" = true)
    (k_Way_pair_cost : PySem.W.keepIn K (.ref f_Way_pair_cost) = true)
    (x_Way_rests_from : PySem.W.findIn K (.ref a_Way) "rests_from" = some (some (.ref f_Way_rests_from)))
    (i_Way_rests_from : PySem.W.isFn K (.ref f_Way_rests_from) = true)
    (l_Way_rests_from : K.lookup f_Way_rests_from = some ⟨oc_Way_rests_from, od_Way_rests_from, .func (PySem.W.fnOf "rests_from" "Way.rests_from" (defArgs s_Way_rests_from) (defBody s_Way_rests_from) (defScope s_Way_rests_from) .none kv_Way_rests_from dc_Way_rests_from pm_Way_rests_from an_Way_rests_from cd_Way_rests_from ct_Way_rests_from), sl_Way_rests_from⟩)
    (c_Way_rests_from : PySem.W.codeIn K cd_Way_rests_from "Way.rests_from" = true)
    (k_Way_rests_from : PySem.W.keepIn K (.ref f_Way_rests_from) = true)
    (x_Way_all_rests : PySem.W.findIn K (.ref a_Way) "all_rests" = some (some (.ref f_Way_all_rests)))
    (i_Way_all_rests : PySem.W.isFn K (.ref f_Way_all_rests) = true)
    (l_Way_all_rests : K.lookup f_Way_all_rests = some ⟨oc_Way_all_rests, od_Way_all_rests, .func (PySem.W.fnOf "all_rests" "Way.all_rests" (defArgs s_Way_all_rests) (defBody s_Way_all_rests) (defScope s_Way_all_rests) .none kv_Way_all_rests dc_Way_all_rests pm_Way_all_rests an_Way_all_rests cd_Way_all_rests ct_Way_all_rests), sl_Way_all_rests⟩)
    (c_Way_all_rests : PySem.W.codeIn K cd_Way_all_rests "Way.all_rests" = true)
    (k_Way_all_rests : PySem.W.keepIn K (.ref f_Way_all_rests) = true)
    (x_Way_pairs : PySem.W.findIn K (.ref a_Way) "pairs" = some (some (.ref f_Way_pairs)))
    (i_Way_pairs : PySem.W.isFn K (.ref f_Way_pairs) = true)
    (l_Way_pairs : K.lookup f_Way_pairs = some ⟨oc_Way_pairs, od_Way_pairs, .func (PySem.W.fnOf "pairs" "Way.pairs" (defArgs s_Way_pairs) (defBody s_Way_pairs) (defScope s_Way_pairs) .none kv_Way_pairs dc_Way_pairs pm_Way_pairs an_Way_pairs cd_Way_pairs ct_Way_pairs), sl_Way_pairs⟩)
    (c_Way_pairs : PySem.W.codeIn K cd_Way_pairs "Way.pairs" = true)
    (k_Way_pairs : PySem.W.keepIn K (.ref f_Way_pairs) = true)
    (x_partners_by : PySem.W.nsIn K mainGlobals "partners_by" = some (some (.ref f_partners_by)))
    (l_partners_by : K.lookup f_partners_by = some ⟨oc_partners_by, od_partners_by, .func (PySem.W.fnOf "partners_by" "partners_by" (defArgs s_partners_by) (defBody s_partners_by) (defScope s_partners_by) .none kv_partners_by dc_partners_by pm_partners_by an_partners_by cd_partners_by ct_partners_by), sl_partners_by⟩)
    (c_partners_by : PySem.W.codeIn K cd_partners_by "partners_by" = true)
    (k_partners_by : PySem.W.keepIn K (.ref f_partners_by) = true)
    (x_find_partners : PySem.W.nsIn K mainGlobals "find_partners" = some (some (.ref f_find_partners)))
    (l_find_partners : K.lookup f_find_partners = some ⟨oc_find_partners, od_find_partners, .func (PySem.W.fnOf "find_partners" "find_partners" (defArgs s_find_partners) (defBody s_find_partners) (defScope s_find_partners) .none kv_find_partners dc_find_partners pm_find_partners an_find_partners cd_find_partners ct_find_partners), sl_find_partners⟩)
    (c_find_partners : PySem.W.codeIn K cd_find_partners "find_partners" = true)
    (k_find_partners : PySem.W.keepIn K (.ref f_find_partners) = true)
    (x_those_there : PySem.W.nsIn K mainGlobals "those_there" = some (some (.ref f_those_there)))
    (l_those_there : K.lookup f_those_there = some ⟨oc_those_there, od_those_there, .func (PySem.W.fnOf "those_there" "those_there" (defArgs s_those_there) (defBody s_those_there) (defScope s_those_there) .none kv_those_there dc_those_there pm_those_there an_those_there cd_those_there ct_those_there), sl_those_there⟩)
    (c_those_there : PySem.W.codeIn K cd_those_there "those_there" = true)
    (k_those_there : PySem.W.keepIn K (.ref f_those_there) = true)
    (x_count_same : PySem.W.nsIn K mainGlobals "count_same" = some (some (.ref f_count_same)))
    (l_count_same : K.lookup f_count_same = some ⟨oc_count_same, od_count_same, .func (PySem.W.fnOf "count_same" "count_same" (defArgs s_count_same) (defBody s_count_same) (defScope s_count_same) .none kv_count_same dc_count_same pm_count_same an_count_same cd_count_same ct_count_same), sl_count_same⟩)
    (c_count_same : PySem.W.codeIn K cd_count_same "count_same" = true)
    (k_count_same : PySem.W.keepIn K (.ref f_count_same) = true)
    (x_gap_behind : PySem.W.nsIn K mainGlobals "gap_behind" = some (some (.ref f_gap_behind)))
    (l_gap_behind : K.lookup f_gap_behind = some ⟨oc_gap_behind, od_gap_behind, .func (PySem.W.fnOf "gap_behind" "gap_behind" (defArgs s_gap_behind) (defBody s_gap_behind) (defScope s_gap_behind) .none kv_gap_behind dc_gap_behind pm_gap_behind an_gap_behind cd_gap_behind ct_gap_behind), sl_gap_behind⟩)
    (c_gap_behind : PySem.W.codeIn K cd_gap_behind "gap_behind" = true)
    (k_gap_behind : PySem.W.keepIn K (.ref f_gap_behind) = true)
    (x_are_words : PySem.W.nsIn K mainGlobals "are_words" = some (some (.ref f_are_words)))
    (l_are_words : K.lookup f_are_words = some ⟨oc_are_words, od_are_words, .func (PySem.W.fnOf "are_words" "are_words" (defArgs s_are_words) (defBody s_are_words) (defScope s_are_words) .none kv_are_words dc_are_words pm_are_words an_are_words cd_are_words ct_are_words), sl_are_words⟩)
    (c_are_words : PySem.W.codeIn K cd_are_words "are_words" = true)
    (k_are_words : PySem.W.keepIn K (.ref f_are_words) = true)
    (x_make_whole : PySem.W.nsIn K mainGlobals "make_whole" = some (some (.ref f_make_whole)))
    (l_make_whole : K.lookup f_make_whole = some ⟨oc_make_whole, od_make_whole, .func (PySem.W.fnOf "make_whole" "make_whole" (defArgs s_make_whole) (defBody s_make_whole) (defScope s_make_whole) .none kv_make_whole dc_make_whole pm_make_whole an_make_whole cd_make_whole ct_make_whole), sl_make_whole⟩)
    (c_make_whole : PySem.W.codeIn K cd_make_whole "make_whole" = true)
    (k_make_whole : PySem.W.keepIn K (.ref f_make_whole) = true)
    (x_Shelf_init : PySem.W.findIn K (.ref a_Shelf) "__init__" = some (some (.ref f_Shelf_init)))
    (i_Shelf_init : PySem.W.isFn K (.ref f_Shelf_init) = true)
    (l_Shelf_init : K.lookup f_Shelf_init = some ⟨oc_Shelf_init, od_Shelf_init, .func (PySem.W.fnOf "__init__" "Shelf.__init__" (defArgs s_Shelf_init) (defBody s_Shelf_init) (defScope s_Shelf_init) .none kv_Shelf_init dc_Shelf_init pm_Shelf_init an_Shelf_init cd_Shelf_init ct_Shelf_init), sl_Shelf_init⟩)
    (c_Shelf_init : PySem.W.codeIn K cd_Shelf_init "Shelf.__init__" = true)
    (k_Shelf_init : PySem.W.keepIn K (.ref f_Shelf_init) = true)
    (x_Shelf_begin : PySem.W.findIn K (.ref a_Shelf) "begin" = some (some (.ref f_Shelf_begin)))
    (i_Shelf_begin : PySem.W.isFn K (.ref f_Shelf_begin) = true)
    (l_Shelf_begin : K.lookup f_Shelf_begin = some ⟨oc_Shelf_begin, od_Shelf_begin, .func (PySem.W.fnOf "begin" "Shelf.begin" (defArgs s_Shelf_begin) (defBody s_Shelf_begin) (defScope s_Shelf_begin) .none kv_Shelf_begin dc_Shelf_begin pm_Shelf_begin an_Shelf_begin cd_Shelf_begin ct_Shelf_begin), sl_Shelf_begin⟩)
    (c_Shelf_begin : PySem.W.codeIn K cd_Shelf_begin "Shelf.begin" = true)
    (k_Shelf_begin : PySem.W.keepIn K (.ref f_Shelf_begin) = true)
    (x_Shelf_has_edition : PySem.W.findIn K (.ref a_Shelf) "has_edition" = some (some (.ref f_Shelf_has_edition)))
    (i_Shelf_has_edition : PySem.W.isFn K (.ref f_Shelf_has_edition) = true)
    (l_Shelf_has_edition : K.lookup f_Shelf_has_edition = some ⟨oc_Shelf_has_edition, od_Shelf_has_edition, .func (PySem.W.fnOf "has_edition" "Shelf.has_edition" (defArgs s_Shelf_has_edition) (defBody s_Shelf_has_edition) (defScope s_Shelf_has_edition) .none kv_Shelf_has_edition dc_Shelf_has_edition pm_Shelf_has_edition an_Shelf_has_edition cd_Shelf_has_edition ct_Shelf_has_edition), sl_Shelf_has_edition⟩)
    (c_Shelf_has_edition : PySem.W.codeIn K cd_Shelf_has_edition "Shelf.has_edition" = true)
    (k_Shelf_has_edition : PySem.W.keepIn K (.ref f_Shelf_has_edition) = true)
    (x_Shelf_has_both : PySem.W.findIn K (.ref a_Shelf) "has_both" = some (some (.ref f_Shelf_has_both)))
    (i_Shelf_has_both : PySem.W.isFn K (.ref f_Shelf_has_both) = true)
    (l_Shelf_has_both : K.lookup f_Shelf_has_both = some ⟨oc_Shelf_has_both, od_Shelf_has_both, .func (PySem.W.fnOf "has_both" "Shelf.has_both" (defArgs s_Shelf_has_both) (defBody s_Shelf_has_both) (defScope s_Shelf_has_both) .none kv_Shelf_has_both dc_Shelf_has_both pm_Shelf_has_both an_Shelf_has_both cd_Shelf_has_both ct_Shelf_has_both), sl_Shelf_has_both⟩)
    (c_Shelf_has_both : PySem.W.codeIn K cd_Shelf_has_both "Shelf.has_both" = true)
    (k_Shelf_has_both : PySem.W.keepIn K (.ref f_Shelf_has_both) = true)
    (x_Shelf_partners_of : PySem.W.findIn K (.ref a_Shelf) "partners_of" = some (some (.ref f_Shelf_partners_of)))
    (i_Shelf_partners_of : PySem.W.isFn K (.ref f_Shelf_partners_of) = true)
    (l_Shelf_partners_of : K.lookup f_Shelf_partners_of = some ⟨oc_Shelf_partners_of, od_Shelf_partners_of, .func (PySem.W.fnOf "partners_of" "Shelf.partners_of" (defArgs s_Shelf_partners_of) (defBody s_Shelf_partners_of) (defScope s_Shelf_partners_of) .none kv_Shelf_partners_of dc_Shelf_partners_of pm_Shelf_partners_of an_Shelf_partners_of cd_Shelf_partners_of ct_Shelf_partners_of), sl_Shelf_partners_of⟩)
    (c_Shelf_partners_of : PySem.W.codeIn K cd_Shelf_partners_of "Shelf.partners_of" = true)
    (k_Shelf_partners_of : PySem.W.keepIn K (.ref f_Shelf_partners_of) = true)
    (x_Shelf_add_edition : PySem.W.findIn K (.ref a_Shelf) "add_edition" = some (some (.ref f_Shelf_add_edition)))
    (i_Shelf_add_edition : PySem.W.isFn K (.ref f_Shelf_add_edition) = true)
    (l_Shelf_add_edition : K.lookup f_Shelf_add_edition = some ⟨oc_Shelf_add_edition, od_Shelf_add_edition, .func (PySem.W.fnOf "add_edition" "Shelf.add_edition" (defArgs s_Shelf_add_edition) (defBody s_Shelf_add_edition) (defScope s_Shelf_add_edition) .none kv_Shelf_add_edition dc_Shelf_add_edition pm_Shelf_add_edition an_Shelf_add_edition cd_Shelf_add_edition ct_Shelf_add_edition), sl_Shelf_add_edition⟩)
    (c_Shelf_add_edition : PySem.W.codeIn K cd_Shelf_add_edition "Shelf.add_edition" = true)
    (k_Shelf_add_edition : PySem.W.keepIn K (.ref f_Shelf_add_edition) = true)
    (x_Shelf_set_lines : PySem.W.findIn K (.ref a_Shelf) "set_lines" = some (some (.ref f_Shelf_set_lines)))
    (i_Shelf_set_lines : PySem.W.isFn K (.ref f_Shelf_set_lines) = true)
    (l_Shelf_set_lines : K.lookup f_Shelf_set_lines = some ⟨oc_Shelf_set_lines, od_Shelf_set_lines, .func (PySem.W.fnOf "set_lines" "Shelf.set_lines" (defArgs s_Shelf_set_lines) (defBody s_Shelf_set_lines) (defScope s_Shelf_set_lines) .none kv_Shelf_set_lines dc_Shelf_set_lines pm_Shelf_set_lines an_Shelf_set_lines cd_Shelf_set_lines ct_Shelf_set_lines), sl_Shelf_set_lines⟩)
    (c_Shelf_set_lines : PySem.W.codeIn K cd_Shelf_set_lines "Shelf.set_lines" = true)
    (k_Shelf_set_lines : PySem.W.keepIn K (.ref f_Shelf_set_lines) = true)
    (x_Shelf_set_pages : PySem.W.findIn K (.ref a_Shelf) "set_pages" = some (some (.ref f_Shelf_set_pages)))
    (i_Shelf_set_pages : PySem.W.isFn K (.ref f_Shelf_set_pages) = true)
    (l_Shelf_set_pages : K.lookup f_Shelf_set_pages = some ⟨oc_Shelf_set_pages, od_Shelf_set_pages, .func (PySem.W.fnOf "set_pages" "Shelf.set_pages" (defArgs s_Shelf_set_pages) (defBody s_Shelf_set_pages) (defScope s_Shelf_set_pages) .none kv_Shelf_set_pages dc_Shelf_set_pages pm_Shelf_set_pages an_Shelf_set_pages cd_Shelf_set_pages ct_Shelf_set_pages), sl_Shelf_set_pages⟩)
    (c_Shelf_set_pages : PySem.W.codeIn K cd_Shelf_set_pages "Shelf.set_pages" = true)
    (k_Shelf_set_pages : PySem.W.keepIn K (.ref f_Shelf_set_pages) = true)
    (x_Shelf_set_costs : PySem.W.findIn K (.ref a_Shelf) "set_costs" = some (some (.ref f_Shelf_set_costs)))
    (i_Shelf_set_costs : PySem.W.isFn K (.ref f_Shelf_set_costs) = true)
    (l_Shelf_set_costs : K.lookup f_Shelf_set_costs = some ⟨oc_Shelf_set_costs, od_Shelf_set_costs, .func (PySem.W.fnOf "set_costs" "Shelf.set_costs" (defArgs s_Shelf_set_costs) (defBody s_Shelf_set_costs) (defScope s_Shelf_set_costs) .none kv_Shelf_set_costs dc_Shelf_set_costs pm_Shelf_set_costs an_Shelf_set_costs cd_Shelf_set_costs ct_Shelf_set_costs), sl_Shelf_set_costs⟩)
    (c_Shelf_set_costs : PySem.W.codeIn K cd_Shelf_set_costs "Shelf.set_costs" = true)
    (k_Shelf_set_costs : PySem.W.keepIn K (.ref f_Shelf_set_costs) = true)
    (x_Shelf_where : PySem.W.findIn K (.ref a_Shelf) "where" = some (some (.ref f_Shelf_where)))
    (i_Shelf_where : PySem.W.isFn K (.ref f_Shelf_where) = true)
    (l_Shelf_where : K.lookup f_Shelf_where = some ⟨oc_Shelf_where, od_Shelf_where, .func (PySem.W.fnOf "where" "Shelf.where" (defArgs s_Shelf_where) (defBody s_Shelf_where) (defScope s_Shelf_where) .none kv_Shelf_where dc_Shelf_where pm_Shelf_where an_Shelf_where cd_Shelf_where ct_Shelf_where), sl_Shelf_where⟩)
    (c_Shelf_where : PySem.W.codeIn K cd_Shelf_where "Shelf.where" = true)
    (k_Shelf_where : PySem.W.keepIn K (.ref f_Shelf_where) = true)
    (x_Shelf_find_line : PySem.W.findIn K (.ref a_Shelf) "find_line" = some (some (.ref f_Shelf_find_line)))
    (i_Shelf_find_line : PySem.W.isFn K (.ref f_Shelf_find_line) = true)
    (l_Shelf_find_line : K.lookup f_Shelf_find_line = some ⟨oc_Shelf_find_line, od_Shelf_find_line, .func (PySem.W.fnOf "find_line" "Shelf.find_line" (defArgs s_Shelf_find_line) (defBody s_Shelf_find_line) (defScope s_Shelf_find_line) .none kv_Shelf_find_line dc_Shelf_find_line pm_Shelf_find_line an_Shelf_find_line cd_Shelf_find_line ct_Shelf_find_line), sl_Shelf_find_line⟩)
    (c_Shelf_find_line : PySem.W.codeIn K cd_Shelf_find_line "Shelf.find_line" = true)
    (k_Shelf_find_line : PySem.W.keepIn K (.ref f_Shelf_find_line) = true)
    (x_Shelf_find_word : PySem.W.findIn K (.ref a_Shelf) "find_word" = some (some (.ref f_Shelf_find_word)))
    (i_Shelf_find_word : PySem.W.isFn K (.ref f_Shelf_find_word) = true)
    (l_Shelf_find_word : K.lookup f_Shelf_find_word = some ⟨oc_Shelf_find_word, od_Shelf_find_word, .func (PySem.W.fnOf "find_word" "Shelf.find_word" (defArgs s_Shelf_find_word) (defBody s_Shelf_find_word) (defScope s_Shelf_find_word) .none kv_Shelf_find_word dc_Shelf_find_word pm_Shelf_find_word an_Shelf_find_word cd_Shelf_find_word ct_Shelf_find_word), sl_Shelf_find_word⟩)
    (c_Shelf_find_word : PySem.W.codeIn K cd_Shelf_find_word "Shelf.find_word" = true)
    (k_Shelf_find_word : PySem.W.keepIn K (.ref f_Shelf_find_word) = true)
    (x_Shelf_find_words : PySem.W.findIn K (.ref a_Shelf) "find_words" = some (some (.ref f_Shelf_find_words)))
    (i_Shelf_find_words : PySem.W.isFn K (.ref f_Shelf_find_words) = true)
    (l_Shelf_find_words : K.lookup f_Shelf_find_words = some ⟨oc_Shelf_find_words, od_Shelf_find_words, .func (PySem.W.fnOf "find_words" "Shelf.find_words" (defArgs s_Shelf_find_words) (defBody s_Shelf_find_words) (defScope s_Shelf_find_words) .none kv_Shelf_find_words dc_Shelf_find_words pm_Shelf_find_words an_Shelf_find_words cd_Shelf_find_words ct_Shelf_find_words), sl_Shelf_find_words⟩)
    (c_Shelf_find_words : PySem.W.codeIn K cd_Shelf_find_words "Shelf.find_words" = true)
    (k_Shelf_find_words : PySem.W.keepIn K (.ref f_Shelf_find_words) = true)
    (x_Shelf_table : PySem.W.findIn K (.ref a_Shelf) "table" = some (some (.ref f_Shelf_table)))
    (i_Shelf_table : PySem.W.isFn K (.ref f_Shelf_table) = true)
    (l_Shelf_table : K.lookup f_Shelf_table = some ⟨oc_Shelf_table, od_Shelf_table, .func (PySem.W.fnOf "table" "Shelf.table" (defArgs s_Shelf_table) (defBody s_Shelf_table) (defScope s_Shelf_table) .none kv_Shelf_table dc_Shelf_table pm_Shelf_table an_Shelf_table cd_Shelf_table ct_Shelf_table), sl_Shelf_table⟩)
    (c_Shelf_table : PySem.W.codeIn K cd_Shelf_table "Shelf.table" = true)
    (k_Shelf_table : PySem.W.keepIn K (.ref f_Shelf_table) = true)
    (x_Shelf_agree : PySem.W.findIn K (.ref a_Shelf) "agree" = some (some (.ref f_Shelf_agree)))
    (i_Shelf_agree : PySem.W.isFn K (.ref f_Shelf_agree) = true)
    (l_Shelf_agree : K.lookup f_Shelf_agree = some ⟨oc_Shelf_agree, od_Shelf_agree, .func (PySem.W.fnOf "agree" "Shelf.agree" (defArgs s_Shelf_agree) (defBody s_Shelf_agree) (defScope s_Shelf_agree) .none kv_Shelf_agree dc_Shelf_agree pm_Shelf_agree an_Shelf_agree cd_Shelf_agree ct_Shelf_agree), sl_Shelf_agree⟩)
    (c_Shelf_agree : PySem.W.codeIn K cd_Shelf_agree "Shelf.agree" = true)
    (k_Shelf_agree : PySem.W.keepIn K (.ref f_Shelf_agree) = true)
    (x_Reader_init : PySem.W.findIn K (.ref a_Reader) "__init__" = some (some (.ref f_Reader_init)))
    (i_Reader_init : PySem.W.isFn K (.ref f_Reader_init) = true)
    (l_Reader_init : K.lookup f_Reader_init = some ⟨oc_Reader_init, od_Reader_init, .func (PySem.W.fnOf "__init__" "Reader.__init__" (defArgs s_Reader_init) (defBody s_Reader_init) (defScope s_Reader_init) .none kv_Reader_init dc_Reader_init pm_Reader_init an_Reader_init cd_Reader_init ct_Reader_init), sl_Reader_init⟩)
    (c_Reader_init : PySem.W.codeIn K cd_Reader_init "Reader.__init__" = true)
    (k_Reader_init : PySem.W.keepIn K (.ref f_Reader_init) = true)
    (x_Reader_has_more : PySem.W.findIn K (.ref a_Reader) "has_more" = some (some (.ref f_Reader_has_more)))
    (i_Reader_has_more : PySem.W.isFn K (.ref f_Reader_has_more) = true)
    (l_Reader_has_more : K.lookup f_Reader_has_more = some ⟨oc_Reader_has_more, od_Reader_has_more, .func (PySem.W.fnOf "has_more" "Reader.has_more" (defArgs s_Reader_has_more) (defBody s_Reader_has_more) (defScope s_Reader_has_more) .none kv_Reader_has_more dc_Reader_has_more pm_Reader_has_more an_Reader_has_more cd_Reader_has_more ct_Reader_has_more), sl_Reader_has_more⟩)
    (c_Reader_has_more : PySem.W.codeIn K cd_Reader_has_more "Reader.has_more" = true)
    (k_Reader_has_more : PySem.W.keepIn K (.ref f_Reader_has_more) = true)
    (x_Reader_take_number : PySem.W.findIn K (.ref a_Reader) "take_number" = some (some (.ref f_Reader_take_number)))
    (i_Reader_take_number : PySem.W.isFn K (.ref f_Reader_take_number) = true)
    (l_Reader_take_number : K.lookup f_Reader_take_number = some ⟨oc_Reader_take_number, od_Reader_take_number, .func (PySem.W.fnOf "take_number" "Reader.take_number" (defArgs s_Reader_take_number) (defBody s_Reader_take_number) (defScope s_Reader_take_number) .none kv_Reader_take_number dc_Reader_take_number pm_Reader_take_number an_Reader_take_number cd_Reader_take_number ct_Reader_take_number), sl_Reader_take_number⟩)
    (c_Reader_take_number : PySem.W.codeIn K cd_Reader_take_number "Reader.take_number" = true)
    (k_Reader_take_number : PySem.W.keepIn K (.ref f_Reader_take_number) = true)
    (x_Reader_take_row : PySem.W.findIn K (.ref a_Reader) "take_row" = some (some (.ref f_Reader_take_row)))
    (i_Reader_take_row : PySem.W.isFn K (.ref f_Reader_take_row) = true)
    (l_Reader_take_row : K.lookup f_Reader_take_row = some ⟨oc_Reader_take_row, od_Reader_take_row, .func (PySem.W.fnOf "take_row" "Reader.take_row" (defArgs s_Reader_take_row) (defBody s_Reader_take_row) (defScope s_Reader_take_row) .none kv_Reader_take_row dc_Reader_take_row pm_Reader_take_row an_Reader_take_row cd_Reader_take_row ct_Reader_take_row), sl_Reader_take_row⟩)
    (c_Reader_take_row : PySem.W.codeIn K cd_Reader_take_row "Reader.take_row" = true)
    (k_Reader_take_row : PySem.W.keepIn K (.ref f_Reader_take_row) = true)
    (x_answer_counts : PySem.W.nsIn K mainGlobals "answer_counts" = some (some (.ref f_answer_counts)))
    (l_answer_counts : K.lookup f_answer_counts = some ⟨oc_answer_counts, od_answer_counts, .func (PySem.W.fnOf "answer_counts" "answer_counts" (defArgs s_answer_counts) (defBody s_answer_counts) (defScope s_answer_counts) .none kv_answer_counts dc_answer_counts pm_answer_counts an_answer_counts cd_answer_counts ct_answer_counts), sl_answer_counts⟩)
    (c_answer_counts : PySem.W.codeIn K cd_answer_counts "answer_counts" = true)
    (k_answer_counts : PySem.W.keepIn K (.ref f_answer_counts) = true)
    (x_answer_costs : PySem.W.nsIn K mainGlobals "answer_costs" = some (some (.ref f_answer_costs)))
    (l_answer_costs : K.lookup f_answer_costs = some ⟨oc_answer_costs, od_answer_costs, .func (PySem.W.fnOf "answer_costs" "answer_costs" (defArgs s_answer_costs) (defBody s_answer_costs) (defScope s_answer_costs) .none kv_answer_costs dc_answer_costs pm_answer_costs an_answer_costs cd_answer_costs ct_answer_costs), sl_answer_costs⟩)
    (c_answer_costs : PySem.W.codeIn K cd_answer_costs "answer_costs" = true)
    (k_answer_costs : PySem.W.keepIn K (.ref f_answer_costs) = true)
    (x_answer_place : PySem.W.nsIn K mainGlobals "answer_place" = some (some (.ref f_answer_place)))
    (l_answer_place : K.lookup f_answer_place = some ⟨oc_answer_place, od_answer_place, .func (PySem.W.fnOf "answer_place" "answer_place" (defArgs s_answer_place) (defBody s_answer_place) (defScope s_answer_place) .none kv_answer_place dc_answer_place pm_answer_place an_answer_place cd_answer_place ct_answer_place), sl_answer_place⟩)
    (c_answer_place : PySem.W.codeIn K cd_answer_place "answer_place" = true)
    (k_answer_place : PySem.W.keepIn K (.ref f_answer_place) = true)
    (x_answer_line : PySem.W.nsIn K mainGlobals "answer_line" = some (some (.ref f_answer_line)))
    (l_answer_line : K.lookup f_answer_line = some ⟨oc_answer_line, od_answer_line, .func (PySem.W.fnOf "answer_line" "answer_line" (defArgs s_answer_line) (defBody s_answer_line) (defScope s_answer_line) .none kv_answer_line dc_answer_line pm_answer_line an_answer_line cd_answer_line ct_answer_line), sl_answer_line⟩)
    (c_answer_line : PySem.W.codeIn K cd_answer_line "answer_line" = true)
    (k_answer_line : PySem.W.keepIn K (.ref f_answer_line) = true)
    (x_answer_whole : PySem.W.nsIn K mainGlobals "answer_whole" = some (some (.ref f_answer_whole)))
    (l_answer_whole : K.lookup f_answer_whole = some ⟨oc_answer_whole, od_answer_whole, .func (PySem.W.fnOf "answer_whole" "answer_whole" (defArgs s_answer_whole) (defBody s_answer_whole) (defScope s_answer_whole) .none kv_answer_whole dc_answer_whole pm_answer_whole an_answer_whole cd_answer_whole ct_answer_whole), sl_answer_whole⟩)
    (c_answer_whole : PySem.W.codeIn K cd_answer_whole "answer_whole" = true)
    (k_answer_whole : PySem.W.keepIn K (.ref f_answer_whole) = true)
    (x_answer_asked : PySem.W.nsIn K mainGlobals "answer_asked" = some (some (.ref f_answer_asked)))
    (l_answer_asked : K.lookup f_answer_asked = some ⟨oc_answer_asked, od_answer_asked, .func (PySem.W.fnOf "answer_asked" "answer_asked" (defArgs s_answer_asked) (defBody s_answer_asked) (defScope s_answer_asked) .none kv_answer_asked dc_answer_asked pm_answer_asked an_answer_asked cd_answer_asked ct_answer_asked), sl_answer_asked⟩)
    (c_answer_asked : PySem.W.codeIn K cd_answer_asked "answer_asked" = true)
    (k_answer_asked : PySem.W.keepIn K (.ref f_answer_asked) = true)
    (x_answer_call : PySem.W.nsIn K mainGlobals "answer_call" = some (some (.ref f_answer_call)))
    (l_answer_call : K.lookup f_answer_call = some ⟨oc_answer_call, od_answer_call, .func (PySem.W.fnOf "answer_call" "answer_call" (defArgs s_answer_call) (defBody s_answer_call) (defScope s_answer_call) .none kv_answer_call dc_answer_call pm_answer_call an_answer_call cd_answer_call ct_answer_call), sl_answer_call⟩)
    (c_answer_call : PySem.W.codeIn K cd_answer_call "answer_call" = true)
    (k_answer_call : PySem.W.keepIn K (.ref f_answer_call) = true)
    (x_answers : PySem.W.nsIn K mainGlobals "answers" = some (some (.ref f_answers)))
    (l_answers : K.lookup f_answers = some ⟨oc_answers, od_answers, .func (PySem.W.fnOf "answers" "answers" (defArgs s_answers) (defBody s_answers) (defScope s_answers) .none kv_answers dc_answers pm_answers an_answers cd_answers ct_answers), sl_answers⟩)
    (c_answers : PySem.W.codeIn K cd_answers "answers" = true)
    (k_answers : PySem.W.keepIn K (.ref f_answers) = true)
    (g_MOST_EDITIONS : PySem.W.nsIn K mainGlobals "MOST_EDITIONS" = some (some (.int (4) t_MOST_EDITIONS)))
    (g_MOST_WORDS : PySem.W.nsIn K mainGlobals "MOST_WORDS" = some (some (.int (80) t_MOST_WORDS)))
    (g_LARGEST_WORD : PySem.W.nsIn K mainGlobals "LARGEST_WORD" = some (some (.int (99999) t_LARGEST_WORD)))
    (g_LARGEST_COST : PySem.W.nsIn K mainGlobals "LARGEST_COST" = some (some (.int (100) t_LARGEST_COST)))
    (g_WRONG_FORM : PySem.W.nsIn K mainGlobals "WRONG_FORM" = some (some (.int (-1) t_WRONG_FORM)))
    (g_NO_SUCH_EDITION : PySem.W.nsIn K mainGlobals "NO_SUCH_EDITION" = some (some (.int (-2) t_NO_SUCH_EDITION)))
    (g_NO_ROOM : PySem.W.nsIn K mainGlobals "NO_ROOM" = some (some (.int (-5) t_NO_ROOM)))
    (g_NO_SUCH_PLACE : PySem.W.nsIn K mainGlobals "NO_SUCH_PLACE" = some (some (.int (-6) t_NO_SUCH_PLACE)))
    (g_BEGINS : PySem.W.nsIn K mainGlobals "BEGINS" = some (some (.int (0) t_BEGINS)))
    (g_EDITION : PySem.W.nsIn K mainGlobals "EDITION" = some (some (.int (1) t_EDITION)))
    (g_LINES : PySem.W.nsIn K mainGlobals "LINES" = some (some (.int (2) t_LINES)))
    (g_PAGES : PySem.W.nsIn K mainGlobals "PAGES" = some (some (.int (3) t_PAGES)))
    (g_COSTS : PySem.W.nsIn K mainGlobals "COSTS" = some (some (.int (4) t_COSTS)))
    (g_WHERE : PySem.W.nsIn K mainGlobals "WHERE" = some (some (.int (5) t_WHERE)))
    (g_FIND : PySem.W.nsIn K mainGlobals "FIND" = some (some (.int (6) t_FIND)))
    (g_WORD : PySem.W.nsIn K mainGlobals "WORD" = some (some (.int (7) t_WORD)))
    (g_TABLE : PySem.W.nsIn K mainGlobals "TABLE" = some (some (.int (8) t_TABLE)))
    (g_AGREE : PySem.W.nsIn K mainGlobals "AGREE" = some (some (.int (9) t_AGREE)))
    (g_FIRST_COSTS : PySem.W.nsIn K mainGlobals "FIRST_COSTS" = some (some (.ref t_FIRST_COSTS)))
    (q_FIRST_COSTS : K.lookup t_FIRST_COSTS = some ⟨.type "tuple", od_FIRST_COSTS, .seq #[.int (2) t_FIRST_COSTS_0, .int (2) t_FIRST_COSTS_1, .int (2) t_FIRST_COSTS_2] n_FIRST_COSTS, sl_FIRST_COSTS⟩)
    (z_len : PySem.W.nsIn K mainGlobals "len" = some none)
    (z_list : PySem.W.nsIn K mainGlobals "list" = some none)
    (z_max : PySem.W.nsIn K mainGlobals "max" = some none)
    (z_min : PySem.W.nsIn K mainGlobals "min" = some none)
    (z_range : PySem.W.nsIn K mainGlobals "range" = some none)
    (z_sum : PySem.W.nsIn K mainGlobals "sum" = some none)
    (z_zip : PySem.W.nsIn K mainGlobals "zip" = some none)
    : ∃ fd : FuncData, (∀ (s : Shared) (us : List Value), us.length = (["calls"] : List Str).length → BindsTo s fd ⟨us, []⟩ ((["calls"] : List Str).zip us)) ∧ ∀ base : Heap, K.In base → base.Ns mainGlobals mg → FnOk P w K mg base CX0 21 fa fd ["calls"] (sp_answers K) := by
  have e := hfa.symm.trans (PySem.W.mg_of X G x_answers)
  cases e
  have F_start_of := fun_mk (st := s_start_of) l_start_of c_start_of k_start_of
  have b_start_of := F_start_of.binds (ps := ["sizes", "part"]) fun _ _ _ _ _ _ us hl => match us, hl with | [_, _], _ => rfl
  have F_part_holding := fun_mk (st := s_part_holding) l_part_holding c_part_holding k_part_holding
  have b_part_holding := F_part_holding.binds (ps := ["sizes", "number"]) fun _ _ _ _ _ _ us hl => match us, hl with | [_, _], _ => rfl
  have F_Edition_init := fun_mk (st := s_Edition_init) l_Edition_init c_Edition_init k_Edition_init
  have b_Edition_init := F_Edition_init.binds (ps := ["self", "words"]) fun _ _ _ _ _ _ us hl => match us, hl with | [_, _], _ => rfl
  have F_Edition_has_word := fun_mk (st := s_Edition_has_word) l_Edition_has_word c_Edition_has_word k_Edition_has_word
  have b_Edition_has_word := F_Edition_has_word.binds (ps := ["self", "word"]) fun _ _ _ _ _ _ us hl => match us, hl with | [_, _], _ => rfl
  have F_Edition_has_line := fun_mk (st := s_Edition_has_line) l_Edition_has_line c_Edition_has_line k_Edition_has_line
  have b_Edition_has_line := F_Edition_has_line.binds (ps := ["self", "page", "line"]) fun _ _ _ _ _ _ us hl => match us, hl with | [_, _, _], _ => rfl
  have F_Edition_line_start := fun_mk (st := s_Edition_line_start) l_Edition_line_start c_Edition_line_start k_Edition_line_start
  have b_Edition_line_start := F_Edition_line_start.binds (ps := ["self", "page", "line"]) fun _ _ _ _ _ _ us hl => match us, hl with | [_, _, _], _ => rfl
  have F_Edition_page_start := fun_mk (st := s_Edition_page_start) l_Edition_page_start c_Edition_page_start k_Edition_page_start
  have b_Edition_page_start := F_Edition_page_start.binds (ps := ["self", "page"]) fun _ _ _ _ _ _ us hl => match us, hl with | [_, _], _ => rfl
  have F_Edition_page_of := fun_mk (st := s_Edition_page_of) l_Edition_page_of c_Edition_page_of k_Edition_page_of
  have b_Edition_page_of := F_Edition_page_of.binds (ps := ["self", "word"]) fun _ _ _ _ _ _ us hl => match us, hl with | [_, _], _ => rfl
  have F_Edition_place_of := fun_mk (st := s_Edition_place_of) l_Edition_place_of c_Edition_place_of k_Edition_place_of
  have b_Edition_place_of := F_Edition_place_of.binds (ps := ["self", "word"]) fun _ _ _ _ _ _ us hl => match us, hl with | [_, _], _ => rfl
  have F_Way_init := fun_mk (st := s_Way_init) l_Way_init c_Way_init k_Way_init
  have b_Way_init := F_Way_init.binds (ps := ["self", "first", "second", "costs"]) fun _ _ _ _ _ _ us hl => match us, hl with | [_, _, _, _], _ => rfl
  have F_Way_pair_cost := fun_mk (st := s_Way_pair_cost) l_Way_pair_cost c_Way_pair_cost k_Way_pair_cost
  have b_Way_pair_cost := F_Way_pair_cost.binds (ps := ["self", "i", "j"]) fun _ _ _ _ _ _ us hl => match us, hl with | [_, _, _], _ => rfl
  have F_Way_rests_from := fun_mk (st := s_Way_rests_from) l_Way_rests_from c_Way_rests_from k_Way_rests_from
  have b_Way_rests_from := F_Way_rests_from.binds (ps := ["self", "i", "behind"]) fun _ _ _ _ _ _ us hl => match us, hl with | [_, _, _], _ => rfl
  have F_Way_all_rests := fun_mk (st := s_Way_all_rests) l_Way_all_rests c_Way_all_rests k_Way_all_rests
  have b_Way_all_rests := F_Way_all_rests.binds (ps := ["self"]) fun _ _ _ _ _ _ us hl => match us, hl with | [_], _ => rfl
  have F_Way_pairs := fun_mk (st := s_Way_pairs) l_Way_pairs c_Way_pairs k_Way_pairs
  have b_Way_pairs := F_Way_pairs.binds (ps := ["self"]) fun _ _ _ _ _ _ us hl => match us, hl with | [_], _ => rfl
  have F_partners_by := fun_mk (st := s_partners_by) l_partners_by c_partners_by k_partners_by
  have b_partners_by := F_partners_by.binds (ps := ["pairs", "size"]) fun _ _ _ _ _ _ us hl => match us, hl with | [_, _], _ => rfl
  have F_find_partners := fun_mk (st := s_find_partners) l_find_partners c_find_partners k_find_partners
  have b_find_partners := F_find_partners.binds (ps := ["editions", "k", "m", "costs"]) fun _ _ _ _ _ _ us hl => match us, hl with | [_, _, _, _], _ => rfl
  have F_those_there := fun_mk (st := s_those_there) l_those_there c_those_there k_those_there
  have b_those_there := F_those_there.binds (ps := ["partners"]) fun _ _ _ _ _ _ us hl => match us, hl with | [_], _ => rfl
  have F_count_same := fun_mk (st := s_count_same) l_count_same c_count_same k_count_same
  have b_count_same := F_count_same.binds (ps := ["words", "partners", "other_words"]) fun _ _ _ _ _ _ us hl => match us, hl with | [_, _, _], _ => rfl
  have F_gap_behind := fun_mk (st := s_gap_behind) l_gap_behind c_gap_behind k_gap_behind
  have b_gap_behind := F_gap_behind.binds (ps := ["partners"]) fun _ _ _ _ _ _ us hl => match us, hl with | [_], _ => rfl
  have F_are_words := fun_mk (st := s_are_words) l_are_words c_are_words k_are_words
  have b_are_words := F_are_words.binds (ps := ["words"]) fun _ _ _ _ _ _ us hl => match us, hl with | [_], _ => rfl
  have F_make_whole := fun_mk (st := s_make_whole) l_make_whole c_make_whole k_make_whole
  have b_make_whole := F_make_whole.binds (ps := ["sizes", "whole"]) fun _ _ _ _ _ _ us hl => match us, hl with | [_, _], _ => rfl
  have F_Shelf_init := fun_mk (st := s_Shelf_init) l_Shelf_init c_Shelf_init k_Shelf_init
  have b_Shelf_init := F_Shelf_init.binds (ps := ["self"]) fun _ _ _ _ _ _ us hl => match us, hl with | [_], _ => rfl
  have F_Shelf_begin := fun_mk (st := s_Shelf_begin) l_Shelf_begin c_Shelf_begin k_Shelf_begin
  have b_Shelf_begin := F_Shelf_begin.binds (ps := ["self"]) fun _ _ _ _ _ _ us hl => match us, hl with | [_], _ => rfl
  have F_Shelf_has_edition := fun_mk (st := s_Shelf_has_edition) l_Shelf_has_edition c_Shelf_has_edition k_Shelf_has_edition
  have b_Shelf_has_edition := F_Shelf_has_edition.binds (ps := ["self", "k"]) fun _ _ _ _ _ _ us hl => match us, hl with | [_, _], _ => rfl
  have F_Shelf_has_both := fun_mk (st := s_Shelf_has_both) l_Shelf_has_both c_Shelf_has_both k_Shelf_has_both
  have b_Shelf_has_both := F_Shelf_has_both.binds (ps := ["self", "k", "m"]) fun _ _ _ _ _ _ us hl => match us, hl with | [_, _, _], _ => rfl
  have F_Shelf_partners_of := fun_mk (st := s_Shelf_partners_of) l_Shelf_partners_of c_Shelf_partners_of k_Shelf_partners_of
  have b_Shelf_partners_of := F_Shelf_partners_of.binds (ps := ["self", "k", "m"]) fun _ _ _ _ _ _ us hl => match us, hl with | [_, _, _], _ => rfl
  have F_Shelf_add_edition := fun_mk (st := s_Shelf_add_edition) l_Shelf_add_edition c_Shelf_add_edition k_Shelf_add_edition
  have b_Shelf_add_edition := F_Shelf_add_edition.binds (ps := ["self", "words"]) fun _ _ _ _ _ _ us hl => match us, hl with | [_, _], _ => rfl
  have F_Shelf_set_lines := fun_mk (st := s_Shelf_set_lines) l_Shelf_set_lines c_Shelf_set_lines k_Shelf_set_lines
  have b_Shelf_set_lines := F_Shelf_set_lines.binds (ps := ["self", "k", "counts"]) fun _ _ _ _ _ _ us hl => match us, hl with | [_, _, _], _ => rfl
  have F_Shelf_set_pages := fun_mk (st := s_Shelf_set_pages) l_Shelf_set_pages c_Shelf_set_pages k_Shelf_set_pages
  have b_Shelf_set_pages := F_Shelf_set_pages.binds (ps := ["self", "k", "counts"]) fun _ _ _ _ _ _ us hl => match us, hl with | [_, _, _], _ => rfl
  have F_Shelf_set_costs := fun_mk (st := s_Shelf_set_costs) l_Shelf_set_costs c_Shelf_set_costs k_Shelf_set_costs
  have b_Shelf_set_costs := F_Shelf_set_costs.binds (ps := ["self", "other", "out", "into"]) fun _ _ _ _ _ _ us hl => match us, hl with | [_, _, _, _], _ => rfl
  have F_Shelf_where := fun_mk (st := s_Shelf_where) l_Shelf_where c_Shelf_where k_Shelf_where
  have b_Shelf_where := F_Shelf_where.binds (ps := ["self", "k", "word"]) fun _ _ _ _ _ _ us hl => match us, hl with | [_, _, _], _ => rfl
  have F_Shelf_find_line := fun_mk (st := s_Shelf_find_line) l_Shelf_find_line c_Shelf_find_line k_Shelf_find_line
  have b_Shelf_find_line := F_Shelf_find_line.binds (ps := ["self", "k", "page", "line", "m"]) fun _ _ _ _ _ _ us hl => match us, hl with | [_, _, _, _, _], _ => rfl
  have F_Shelf_find_word := fun_mk (st := s_Shelf_find_word) l_Shelf_find_word c_Shelf_find_word k_Shelf_find_word
  have b_Shelf_find_word := F_Shelf_find_word.binds (ps := ["self", "k", "word", "m"]) fun _ _ _ _ _ _ us hl => match us, hl with | [_, _, _, _], _ => rfl
  have F_Shelf_find_words := fun_mk (st := s_Shelf_find_words) l_Shelf_find_words c_Shelf_find_words k_Shelf_find_words
  have b_Shelf_find_words := F_Shelf_find_words.binds (ps := ["self", "k", "start", "end", "m"]) fun _ _ _ _ _ _ us hl => match us, hl with | [_, _, _, _, _], _ => rfl
  have F_Shelf_table := fun_mk (st := s_Shelf_table) l_Shelf_table c_Shelf_table k_Shelf_table
  have b_Shelf_table := F_Shelf_table.binds (ps := ["self", "k", "m"]) fun _ _ _ _ _ _ us hl => match us, hl with | [_, _, _], _ => rfl
  have F_Shelf_agree := fun_mk (st := s_Shelf_agree) l_Shelf_agree c_Shelf_agree k_Shelf_agree
  have b_Shelf_agree := F_Shelf_agree.binds (ps := ["self", "k", "m"]) fun _ _ _ _ _ _ us hl => match us, hl with | [_, _, _], _ => rfl
  have F_Reader_init := fun_mk (st := s_Reader_init) l_Reader_init c_Reader_init k_Reader_init
  have b_Reader_init := F_Reader_init.binds (ps := ["self", "calls"]) fun _ _ _ _ _ _ us hl => match us, hl with | [_, _], _ => rfl
  have F_Reader_has_more := fun_mk (st := s_Reader_has_more) l_Reader_has_more c_Reader_has_more k_Reader_has_more
  have b_Reader_has_more := F_Reader_has_more.binds (ps := ["self"]) fun _ _ _ _ _ _ us hl => match us, hl with | [_], _ => rfl
  have F_Reader_take_number := fun_mk (st := s_Reader_take_number) l_Reader_take_number c_Reader_take_number k_Reader_take_number
  have b_Reader_take_number := F_Reader_take_number.binds (ps := ["self"]) fun _ _ _ _ _ _ us hl => match us, hl with | [_], _ => rfl
  have F_Reader_take_row := fun_mk (st := s_Reader_take_row) l_Reader_take_row c_Reader_take_row k_Reader_take_row
  have b_Reader_take_row := F_Reader_take_row.binds (ps := ["self"]) fun _ _ _ _ _ _ us hl => match us, hl with | [_], _ => rfl
  have F_answer_counts := fun_mk (st := s_answer_counts) l_answer_counts c_answer_counts k_answer_counts
  have b_answer_counts := F_answer_counts.binds (ps := ["call", "reader", "shelf"]) fun _ _ _ _ _ _ us hl => match us, hl with | [_, _, _], _ => rfl
  have F_answer_costs := fun_mk (st := s_answer_costs) l_answer_costs c_answer_costs k_answer_costs
  have b_answer_costs := F_answer_costs.binds (ps := ["reader", "shelf"]) fun _ _ _ _ _ _ us hl => match us, hl with | [_, _], _ => rfl
  have F_answer_place := fun_mk (st := s_answer_place) l_answer_place c_answer_place k_answer_place
  have b_answer_place := F_answer_place.binds (ps := ["call", "reader", "shelf"]) fun _ _ _ _ _ _ us hl => match us, hl with | [_, _, _], _ => rfl
  have F_answer_line := fun_mk (st := s_answer_line) l_answer_line c_answer_line k_answer_line
  have b_answer_line := F_answer_line.binds (ps := ["reader", "shelf"]) fun _ _ _ _ _ _ us hl => match us, hl with | [_, _], _ => rfl
  have F_answer_whole := fun_mk (st := s_answer_whole) l_answer_whole c_answer_whole k_answer_whole
  have b_answer_whole := F_answer_whole.binds (ps := ["call", "reader", "shelf"]) fun _ _ _ _ _ _ us hl => match us, hl with | [_, _, _], _ => rfl
  have F_answer_asked := fun_mk (st := s_answer_asked) l_answer_asked c_answer_asked k_answer_asked
  have b_answer_asked := F_answer_asked.binds (ps := ["call", "reader", "shelf"]) fun _ _ _ _ _ _ us hl => match us, hl with | [_, _, _], _ => rfl
  have F_answer_call := fun_mk (st := s_answer_call) l_answer_call c_answer_call k_answer_call
  have b_answer_call := F_answer_call.binds (ps := ["reader", "shelf"]) fun _ _ _ _ _ _ us hl => match us, hl with | [_, _], _ => rfl
  have F_answers := fun_mk (st := s_answers) l_answers c_answers k_answers
  have b_answers := F_answers.binds (ps := ["calls"]) fun _ _ _ _ _ _ us hl => match us, hl with | [_], _ => rfl
  have T : Tx K mg ⟨a_Edition, a_Way, a_Shelf, a_Reader, t_FIRST_COSTS, f_start_of, (PySem.W.fnOf "start_of" "start_of" (defArgs s_start_of) (defBody s_start_of) (defScope s_start_of) .none kv_start_of dc_start_of pm_start_of an_start_of cd_start_of ct_start_of), f_part_holding, (PySem.W.fnOf "part_holding" "part_holding" (defArgs s_part_holding) (defBody s_part_holding) (defScope s_part_holding) .none kv_part_holding dc_part_holding pm_part_holding an_part_holding cd_part_holding ct_part_holding), f_Edition_init, (PySem.W.fnOf "__init__" "Edition.__init__" (defArgs s_Edition_init) (defBody s_Edition_init) (defScope s_Edition_init) .none kv_Edition_init dc_Edition_init pm_Edition_init an_Edition_init cd_Edition_init ct_Edition_init), f_Edition_has_word, (PySem.W.fnOf "has_word" "Edition.has_word" (defArgs s_Edition_has_word) (defBody s_Edition_has_word) (defScope s_Edition_has_word) .none kv_Edition_has_word dc_Edition_has_word pm_Edition_has_word an_Edition_has_word cd_Edition_has_word ct_Edition_has_word), f_Edition_has_line, (PySem.W.fnOf "has_line" "Edition.has_line" (defArgs s_Edition_has_line) (defBody s_Edition_has_line) (defScope s_Edition_has_line) .none kv_Edition_has_line dc_Edition_has_line pm_Edition_has_line an_Edition_has_line cd_Edition_has_line ct_Edition_has_line), f_Edition_line_start, (PySem.W.fnOf "line_start" "Edition.line_start" (defArgs s_Edition_line_start) (defBody s_Edition_line_start) (defScope s_Edition_line_start) .none kv_Edition_line_start dc_Edition_line_start pm_Edition_line_start an_Edition_line_start cd_Edition_line_start ct_Edition_line_start), f_Edition_page_start, (PySem.W.fnOf "page_start" "Edition.page_start" (defArgs s_Edition_page_start) (defBody s_Edition_page_start) (defScope s_Edition_page_start) .none kv_Edition_page_start dc_Edition_page_start pm_Edition_page_start an_Edition_page_start cd_Edition_page_start ct_Edition_page_start), f_Edition_page_of, (PySem.W.fnOf "page_of" "Edition.page_of" (defArgs s_Edition_page_of) (defBody s_Edition_page_of) (defScope s_Edition_page_of) .none kv_Edition_page_of dc_Edition_page_of pm_Edition_page_of an_Edition_page_of cd_Edition_page_of ct_Edition_page_of), f_Edition_place_of, (PySem.W.fnOf "place_of" "Edition.place_of" (defArgs s_Edition_place_of) (defBody s_Edition_place_of) (defScope s_Edition_place_of) .none kv_Edition_place_of dc_Edition_place_of pm_Edition_place_of an_Edition_place_of cd_Edition_place_of ct_Edition_place_of), f_Way_init, (PySem.W.fnOf "__init__" "Way.__init__" (defArgs s_Way_init) (defBody s_Way_init) (defScope s_Way_init) .none kv_Way_init dc_Way_init pm_Way_init an_Way_init cd_Way_init ct_Way_init), f_Way_pair_cost, (PySem.W.fnOf "pair_cost" "Way.pair_cost" (defArgs s_Way_pair_cost) (defBody s_Way_pair_cost) (defScope s_Way_pair_cost) .none kv_Way_pair_cost dc_Way_pair_cost pm_Way_pair_cost an_Way_pair_cost cd_Way_pair_cost ct_Way_pair_cost), f_Way_rests_from, (PySem.W.fnOf "rests_from" "Way.rests_from" (defArgs s_Way_rests_from) (defBody s_Way_rests_from) (defScope s_Way_rests_from) .none kv_Way_rests_from dc_Way_rests_from pm_Way_rests_from an_Way_rests_from cd_Way_rests_from ct_Way_rests_from), f_Way_all_rests, (PySem.W.fnOf "all_rests" "Way.all_rests" (defArgs s_Way_all_rests) (defBody s_Way_all_rests) (defScope s_Way_all_rests) .none kv_Way_all_rests dc_Way_all_rests pm_Way_all_rests an_Way_all_rests cd_Way_all_rests ct_Way_all_rests), f_Way_pairs, (PySem.W.fnOf "pairs" "Way.pairs" (defArgs s_Way_pairs) (defBody s_Way_pairs) (defScope s_Way_pairs) .none kv_Way_pairs dc_Way_pairs pm_Way_pairs an_Way_pairs cd_Way_pairs ct_Way_pairs), f_partners_by, (PySem.W.fnOf "partners_by" "partners_by" (defArgs s_partners_by) (defBody s_partners_by) (defScope s_partners_by) .none kv_partners_by dc_partners_by pm_partners_by an_partners_by cd_partners_by ct_partners_by), f_find_partners, (PySem.W.fnOf "find_partners" "find_partners" (defArgs s_find_partners) (defBody s_find_partners) (defScope s_find_partners) .none kv_find_partners dc_find_partners pm_find_partners an_find_partners cd_find_partners ct_find_partners), f_those_there, (PySem.W.fnOf "those_there" "those_there" (defArgs s_those_there) (defBody s_those_there) (defScope s_those_there) .none kv_those_there dc_those_there pm_those_there an_those_there cd_those_there ct_those_there), f_count_same, (PySem.W.fnOf "count_same" "count_same" (defArgs s_count_same) (defBody s_count_same) (defScope s_count_same) .none kv_count_same dc_count_same pm_count_same an_count_same cd_count_same ct_count_same), f_gap_behind, (PySem.W.fnOf "gap_behind" "gap_behind" (defArgs s_gap_behind) (defBody s_gap_behind) (defScope s_gap_behind) .none kv_gap_behind dc_gap_behind pm_gap_behind an_gap_behind cd_gap_behind ct_gap_behind), f_are_words, (PySem.W.fnOf "are_words" "are_words" (defArgs s_are_words) (defBody s_are_words) (defScope s_are_words) .none kv_are_words dc_are_words pm_are_words an_are_words cd_are_words ct_are_words), f_make_whole, (PySem.W.fnOf "make_whole" "make_whole" (defArgs s_make_whole) (defBody s_make_whole) (defScope s_make_whole) .none kv_make_whole dc_make_whole pm_make_whole an_make_whole cd_make_whole ct_make_whole), f_Shelf_init, (PySem.W.fnOf "__init__" "Shelf.__init__" (defArgs s_Shelf_init) (defBody s_Shelf_init) (defScope s_Shelf_init) .none kv_Shelf_init dc_Shelf_init pm_Shelf_init an_Shelf_init cd_Shelf_init ct_Shelf_init), f_Shelf_begin, (PySem.W.fnOf "begin" "Shelf.begin" (defArgs s_Shelf_begin) (defBody s_Shelf_begin) (defScope s_Shelf_begin) .none kv_Shelf_begin dc_Shelf_begin pm_Shelf_begin an_Shelf_begin cd_Shelf_begin ct_Shelf_begin), f_Shelf_has_edition, (PySem.W.fnOf "has_edition" "Shelf.has_edition" (defArgs s_Shelf_has_edition) (defBody s_Shelf_has_edition) (defScope s_Shelf_has_edition) .none kv_Shelf_has_edition dc_Shelf_has_edition pm_Shelf_has_edition an_Shelf_has_edition cd_Shelf_has_edition ct_Shelf_has_edition), f_Shelf_has_both, (PySem.W.fnOf "has_both" "Shelf.has_both" (defArgs s_Shelf_has_both) (defBody s_Shelf_has_both) (defScope s_Shelf_has_both) .none kv_Shelf_has_both dc_Shelf_has_both pm_Shelf_has_both an_Shelf_has_both cd_Shelf_has_both ct_Shelf_has_both), f_Shelf_partners_of, (PySem.W.fnOf "partners_of" "Shelf.partners_of" (defArgs s_Shelf_partners_of) (defBody s_Shelf_partners_of) (defScope s_Shelf_partners_of) .none kv_Shelf_partners_of dc_Shelf_partners_of pm_Shelf_partners_of an_Shelf_partners_of cd_Shelf_partners_of ct_Shelf_partners_of), f_Shelf_add_edition, (PySem.W.fnOf "add_edition" "Shelf.add_edition" (defArgs s_Shelf_add_edition) (defBody s_Shelf_add_edition) (defScope s_Shelf_add_edition) .none kv_Shelf_add_edition dc_Shelf_add_edition pm_Shelf_add_edition an_Shelf_add_edition cd_Shelf_add_edition ct_Shelf_add_edition), f_Shelf_set_lines, (PySem.W.fnOf "set_lines" "Shelf.set_lines" (defArgs s_Shelf_set_lines) (defBody s_Shelf_set_lines) (defScope s_Shelf_set_lines) .none kv_Shelf_set_lines dc_Shelf_set_lines pm_Shelf_set_lines an_Shelf_set_lines cd_Shelf_set_lines ct_Shelf_set_lines), f_Shelf_set_pages, (PySem.W.fnOf "set_pages" "Shelf.set_pages" (defArgs s_Shelf_set_pages) (defBody s_Shelf_set_pages) (defScope s_Shelf_set_pages) .none kv_Shelf_set_pages dc_Shelf_set_pages pm_Shelf_set_pages an_Shelf_set_pages cd_Shelf_set_pages ct_Shelf_set_pages), f_Shelf_set_costs, (PySem.W.fnOf "set_costs" "Shelf.set_costs" (defArgs s_Shelf_set_costs) (defBody s_Shelf_set_costs) (defScope s_Shelf_set_costs) .none kv_Shelf_set_costs dc_Shelf_set_costs pm_Shelf_set_costs an_Shelf_set_costs cd_Shelf_set_costs ct_Shelf_set_costs), f_Shelf_where, (PySem.W.fnOf "where" "Shelf.where" (defArgs s_Shelf_where) (defBody s_Shelf_where) (defScope s_Shelf_where) .none kv_Shelf_where dc_Shelf_where pm_Shelf_where an_Shelf_where cd_Shelf_where ct_Shelf_where), f_Shelf_find_line, (PySem.W.fnOf "find_line" "Shelf.find_line" (defArgs s_Shelf_find_line) (defBody s_Shelf_find_line) (defScope s_Shelf_find_line) .none kv_Shelf_find_line dc_Shelf_find_line pm_Shelf_find_line an_Shelf_find_line cd_Shelf_find_line ct_Shelf_find_line), f_Shelf_find_word, (PySem.W.fnOf "find_word" "Shelf.find_word" (defArgs s_Shelf_find_word) (defBody s_Shelf_find_word) (defScope s_Shelf_find_word) .none kv_Shelf_find_word dc_Shelf_find_word pm_Shelf_find_word an_Shelf_find_word cd_Shelf_find_word ct_Shelf_find_word), f_Shelf_find_words, (PySem.W.fnOf "find_words" "Shelf.find_words" (defArgs s_Shelf_find_words) (defBody s_Shelf_find_words) (defScope s_Shelf_find_words) .none kv_Shelf_find_words dc_Shelf_find_words pm_Shelf_find_words an_Shelf_find_words cd_Shelf_find_words ct_Shelf_find_words), f_Shelf_table, (PySem.W.fnOf "table" "Shelf.table" (defArgs s_Shelf_table) (defBody s_Shelf_table) (defScope s_Shelf_table) .none kv_Shelf_table dc_Shelf_table pm_Shelf_table an_Shelf_table cd_Shelf_table ct_Shelf_table), f_Shelf_agree, (PySem.W.fnOf "agree" "Shelf.agree" (defArgs s_Shelf_agree) (defBody s_Shelf_agree) (defScope s_Shelf_agree) .none kv_Shelf_agree dc_Shelf_agree pm_Shelf_agree an_Shelf_agree cd_Shelf_agree ct_Shelf_agree), f_Reader_init, (PySem.W.fnOf "__init__" "Reader.__init__" (defArgs s_Reader_init) (defBody s_Reader_init) (defScope s_Reader_init) .none kv_Reader_init dc_Reader_init pm_Reader_init an_Reader_init cd_Reader_init ct_Reader_init), f_Reader_has_more, (PySem.W.fnOf "has_more" "Reader.has_more" (defArgs s_Reader_has_more) (defBody s_Reader_has_more) (defScope s_Reader_has_more) .none kv_Reader_has_more dc_Reader_has_more pm_Reader_has_more an_Reader_has_more cd_Reader_has_more ct_Reader_has_more), f_Reader_take_number, (PySem.W.fnOf "take_number" "Reader.take_number" (defArgs s_Reader_take_number) (defBody s_Reader_take_number) (defScope s_Reader_take_number) .none kv_Reader_take_number dc_Reader_take_number pm_Reader_take_number an_Reader_take_number cd_Reader_take_number ct_Reader_take_number), f_Reader_take_row, (PySem.W.fnOf "take_row" "Reader.take_row" (defArgs s_Reader_take_row) (defBody s_Reader_take_row) (defScope s_Reader_take_row) .none kv_Reader_take_row dc_Reader_take_row pm_Reader_take_row an_Reader_take_row cd_Reader_take_row ct_Reader_take_row), f_answer_counts, (PySem.W.fnOf "answer_counts" "answer_counts" (defArgs s_answer_counts) (defBody s_answer_counts) (defScope s_answer_counts) .none kv_answer_counts dc_answer_counts pm_answer_counts an_answer_counts cd_answer_counts ct_answer_counts), f_answer_costs, (PySem.W.fnOf "answer_costs" "answer_costs" (defArgs s_answer_costs) (defBody s_answer_costs) (defScope s_answer_costs) .none kv_answer_costs dc_answer_costs pm_answer_costs an_answer_costs cd_answer_costs ct_answer_costs), f_answer_place, (PySem.W.fnOf "answer_place" "answer_place" (defArgs s_answer_place) (defBody s_answer_place) (defScope s_answer_place) .none kv_answer_place dc_answer_place pm_answer_place an_answer_place cd_answer_place ct_answer_place), f_answer_line, (PySem.W.fnOf "answer_line" "answer_line" (defArgs s_answer_line) (defBody s_answer_line) (defScope s_answer_line) .none kv_answer_line dc_answer_line pm_answer_line an_answer_line cd_answer_line ct_answer_line), f_answer_whole, (PySem.W.fnOf "answer_whole" "answer_whole" (defArgs s_answer_whole) (defBody s_answer_whole) (defScope s_answer_whole) .none kv_answer_whole dc_answer_whole pm_answer_whole an_answer_whole cd_answer_whole ct_answer_whole), f_answer_asked, (PySem.W.fnOf "answer_asked" "answer_asked" (defArgs s_answer_asked) (defBody s_answer_asked) (defScope s_answer_asked) .none kv_answer_asked dc_answer_asked pm_answer_asked an_answer_asked cd_answer_asked ct_answer_asked), f_answer_call, (PySem.W.fnOf "answer_call" "answer_call" (defArgs s_answer_call) (defBody s_answer_call) (defScope s_answer_call) .none kv_answer_call dc_answer_call pm_answer_call an_answer_call cd_answer_call ct_answer_call), fa, (PySem.W.fnOf "answers" "answers" (defArgs s_answers) (defBody s_answers) (defScope s_answers) .none kv_answers dc_answers pm_answers an_answers cd_answers ct_answers)⟩ := by
    exact ⟨⟨pg_Edition, hd_Edition, po_Edition, sa_Edition⟩,
      PySem.W.mg_of X G x_Edition,
      ⟨mk_Edition, x_Edition_init, i_Edition_init, kc_Edition⟩,
      n_Edition_line_sizes,
      n_Edition_page_sizes,
      n_Edition_words,
      ⟨pg_Way, hd_Way, po_Way, sa_Way⟩,
      PySem.W.mg_of X G x_Way,
      ⟨mk_Way, x_Way_init, i_Way_init, kc_Way⟩,
      n_Way_first,
      n_Way_into,
      n_Way_other,
      n_Way_out,
      n_Way_second,
      ⟨pg_Shelf, hd_Shelf, po_Shelf, sa_Shelf⟩,
      PySem.W.mg_of X G x_Shelf,
      ⟨mk_Shelf, x_Shelf_init, i_Shelf_init, kc_Shelf⟩,
      n_Shelf_costs,
      n_Shelf_editions,
      ⟨pg_Reader, hd_Reader, po_Reader, sa_Reader⟩,
      PySem.W.mg_of X G x_Reader,
      ⟨mk_Reader, x_Reader_init, i_Reader_init, kc_Reader⟩,
      n_Reader_calls,
      n_Reader_position,
      F_start_of,
      b_start_of,
      PySem.W.mg_of X G x_start_of,
      F_part_holding,
      b_part_holding,
      PySem.W.mg_of X G x_part_holding,
      F_Edition_init,
      b_Edition_init,
      F_Edition_has_word,
      b_Edition_has_word,
      ⟨x_Edition_has_word, i_Edition_has_word, k_Edition_has_word⟩,
      F_Edition_has_line,
      b_Edition_has_line,
      ⟨x_Edition_has_line, i_Edition_has_line, k_Edition_has_line⟩,
      F_Edition_line_start,
      b_Edition_line_start,
      ⟨x_Edition_line_start, i_Edition_line_start, k_Edition_line_start⟩,
      F_Edition_page_start,
      b_Edition_page_start,
      ⟨x_Edition_page_start, i_Edition_page_start, k_Edition_page_start⟩,
      F_Edition_page_of,
      b_Edition_page_of,
      ⟨x_Edition_page_of, i_Edition_page_of, k_Edition_page_of⟩,
      F_Edition_place_of,
      b_Edition_place_of,
      ⟨x_Edition_place_of, i_Edition_place_of, k_Edition_place_of⟩,
      F_Way_init,
      b_Way_init,
      F_Way_pair_cost,
      b_Way_pair_cost,
      ⟨x_Way_pair_cost, i_Way_pair_cost, k_Way_pair_cost⟩,
      F_Way_rests_from,
      b_Way_rests_from,
      ⟨x_Way_rests_from, i_Way_rests_from, k_Way_rests_from⟩,
      F_Way_all_rests,
      b_Way_all_rests,
      ⟨x_Way_all_rests, i_Way_all_rests, k_Way_all_rests⟩,
      F_Way_pairs,
      b_Way_pairs,
      ⟨x_Way_pairs, i_Way_pairs, k_Way_pairs⟩,
      F_partners_by,
      b_partners_by,
      PySem.W.mg_of X G x_partners_by,
      F_find_partners,
      b_find_partners,
      PySem.W.mg_of X G x_find_partners,
      F_those_there,
      b_those_there,
      PySem.W.mg_of X G x_those_there,
      F_count_same,
      b_count_same,
      PySem.W.mg_of X G x_count_same,
      F_gap_behind,
      b_gap_behind,
      PySem.W.mg_of X G x_gap_behind,
      F_are_words,
      b_are_words,
      PySem.W.mg_of X G x_are_words,
      F_make_whole,
      b_make_whole,
      PySem.W.mg_of X G x_make_whole,
      F_Shelf_init,
      b_Shelf_init,
      F_Shelf_begin,
      b_Shelf_begin,
      ⟨x_Shelf_begin, i_Shelf_begin, k_Shelf_begin⟩,
      F_Shelf_has_edition,
      b_Shelf_has_edition,
      ⟨x_Shelf_has_edition, i_Shelf_has_edition, k_Shelf_has_edition⟩,
      F_Shelf_has_both,
      b_Shelf_has_both,
      ⟨x_Shelf_has_both, i_Shelf_has_both, k_Shelf_has_both⟩,
      F_Shelf_partners_of,
      b_Shelf_partners_of,
      ⟨x_Shelf_partners_of, i_Shelf_partners_of, k_Shelf_partners_of⟩,
      F_Shelf_add_edition,
      b_Shelf_add_edition,
      ⟨x_Shelf_add_edition, i_Shelf_add_edition, k_Shelf_add_edition⟩,
      F_Shelf_set_lines,
      b_Shelf_set_lines,
      ⟨x_Shelf_set_lines, i_Shelf_set_lines, k_Shelf_set_lines⟩,
      F_Shelf_set_pages,
      b_Shelf_set_pages,
      ⟨x_Shelf_set_pages, i_Shelf_set_pages, k_Shelf_set_pages⟩,
      F_Shelf_set_costs,
      b_Shelf_set_costs,
      ⟨x_Shelf_set_costs, i_Shelf_set_costs, k_Shelf_set_costs⟩,
      F_Shelf_where,
      b_Shelf_where,
      ⟨x_Shelf_where, i_Shelf_where, k_Shelf_where⟩,
      F_Shelf_find_line,
      b_Shelf_find_line,
      ⟨x_Shelf_find_line, i_Shelf_find_line, k_Shelf_find_line⟩,
      F_Shelf_find_word,
      b_Shelf_find_word,
      ⟨x_Shelf_find_word, i_Shelf_find_word, k_Shelf_find_word⟩,
      F_Shelf_find_words,
      b_Shelf_find_words,
      ⟨x_Shelf_find_words, i_Shelf_find_words, k_Shelf_find_words⟩,
      F_Shelf_table,
      b_Shelf_table,
      ⟨x_Shelf_table, i_Shelf_table, k_Shelf_table⟩,
      F_Shelf_agree,
      b_Shelf_agree,
      ⟨x_Shelf_agree, i_Shelf_agree, k_Shelf_agree⟩,
      F_Reader_init,
      b_Reader_init,
      F_Reader_has_more,
      b_Reader_has_more,
      ⟨x_Reader_has_more, i_Reader_has_more, k_Reader_has_more⟩,
      F_Reader_take_number,
      b_Reader_take_number,
      ⟨x_Reader_take_number, i_Reader_take_number, k_Reader_take_number⟩,
      F_Reader_take_row,
      b_Reader_take_row,
      ⟨x_Reader_take_row, i_Reader_take_row, k_Reader_take_row⟩,
      F_answer_counts,
      b_answer_counts,
      PySem.W.mg_of X G x_answer_counts,
      F_answer_costs,
      b_answer_costs,
      PySem.W.mg_of X G x_answer_costs,
      F_answer_place,
      b_answer_place,
      PySem.W.mg_of X G x_answer_place,
      F_answer_line,
      b_answer_line,
      PySem.W.mg_of X G x_answer_line,
      F_answer_whole,
      b_answer_whole,
      PySem.W.mg_of X G x_answer_whole,
      F_answer_asked,
      b_answer_asked,
      PySem.W.mg_of X G x_answer_asked,
      F_answer_call,
      b_answer_call,
      PySem.W.mg_of X G x_answer_call,
      F_answers,
      b_answers,
      PySem.W.mg_of X G x_answers,
      ⟨_, PySem.W.mg_of X G g_MOST_EDITIONS⟩,
      ⟨_, PySem.W.mg_of X G g_MOST_WORDS⟩,
      ⟨_, PySem.W.mg_of X G g_LARGEST_WORD⟩,
      ⟨_, PySem.W.mg_of X G g_LARGEST_COST⟩,
      ⟨_, PySem.W.mg_of X G g_WRONG_FORM⟩,
      ⟨_, PySem.W.mg_of X G g_NO_SUCH_EDITION⟩,
      ⟨_, PySem.W.mg_of X G g_NO_ROOM⟩,
      ⟨_, PySem.W.mg_of X G g_NO_SUCH_PLACE⟩,
      ⟨_, PySem.W.mg_of X G g_BEGINS⟩,
      ⟨_, PySem.W.mg_of X G g_EDITION⟩,
      ⟨_, PySem.W.mg_of X G g_LINES⟩,
      ⟨_, PySem.W.mg_of X G g_PAGES⟩,
      ⟨_, PySem.W.mg_of X G g_COSTS⟩,
      ⟨_, PySem.W.mg_of X G g_WHERE⟩,
      ⟨_, PySem.W.mg_of X G g_FIND⟩,
      ⟨_, PySem.W.mg_of X G g_WORD⟩,
      ⟨_, PySem.W.mg_of X G g_TABLE⟩,
      ⟨_, PySem.W.mg_of X G g_AGREE⟩,
      PySem.W.mg_of X G g_FIRST_COSTS,
      fun H => .inr ⟨_, _, _, q_FIRST_COSTS, rfl, rfl, by show 3 ≤ sizeLine; decide, .cons ⟨_, rfl⟩ (.cons ⟨_, rfl⟩ (.cons ⟨_, rfl⟩ (.nil)))⟩,
      PySem.W.mg_none_of X G z_len,
      PySem.W.mg_none_of X G z_list,
      PySem.W.mg_none_of X G z_max,
      PySem.W.mg_none_of X G z_min,
      PySem.W.mg_none_of X G z_range,
      PySem.W.mg_none_of X G z_sum,
      PySem.W.mg_none_of X G z_zip⟩
  exact ⟨_, fun s us hu => match us, hu with | [_], _ => .of_eq rfl, fun base _ _ => ok_answers T (by decide) (ok_answer_call T)⟩
end Ed
def PySem.W.Fast.tw17900998141399483522 : Nat := 0
def PySem.W.Fast.tw13274697597337075234 : Nat := 0
def PySem.W.Fast.tw10104338493434937799 : Nat := 0
def PySem.W.Fast.tw11786690162663846180 : Nat := 0
def PySem.W.Fast.tw1802941206102987760 : Nat := 0
def PySem.W.Fast.tw547088898918557202 : Nat := 0
def PySem.W.Fast.tw4469337884967117823 : Nat := 0
def PySem.W.Fast.tw10978966314136442683 : Nat := 0
def PySem.W.Fast.tw8048525931046472226 : Nat := 0
def PySem.W.Fast.tw995486206382718777 : Nat := 0
def PySem.W.Fast.tw14911580487721791079 : Nat := 0
def PySem.W.Fast.tw15695059145151586695 : Nat := 0
open PySem PySem.W PyProof.Rows
set_option maxRecDepth 100000 in
set_option maxHeartbeats 0 in
theorem PySem.Challenge.cw_twoeditions_s01_answers_holds : PySem.Challenge.rw_twoeditions_s01_answers.Holds := by
  w_on; k_headS; (case hw => exact ⟨[.list [.int 0]], by decide +kernel, by decide +kernel⟩)
  k_fillS
  refine L2.walk_specK (r := PySem.Challenge.rw_twoeditions_s01_answers) (k := 21) (CX := L2.CX0) (ps := ["calls"]) (sp := Ed.sp_answers) (by decide +kernel) rfl rfl ⟨rfl, by decide, by decide⟩ (fun w h Y => PySem.W.kIn_of Y) ?F ?S (fun _ _ _ _ z => z)
  case F =>
    intro w mg fa h Y KX G hmg
    refine' Ed.all_mk KX G hmg ?x_Edition ?pg_Edition ?hd_Edition ?po_Edition ?sa_Edition ?mk_Edition ?kc_Edition ?n_Edition_line_sizes ?n_Edition_page_sizes ?n_Edition_words ?x_Way ?pg_Way ?hd_Way ?po_Way ?sa_Way ?mk_Way ?kc_Way ?n_Way_first ?n_Way_into ?n_Way_other ?n_Way_out ?n_Way_second ?x_Shelf ?pg_Shelf ?hd_Shelf ?po_Shelf ?sa_Shelf ?mk_Shelf ?kc_Shelf ?n_Shelf_costs ?n_Shelf_editions ?x_Reader ?pg_Reader ?hd_Reader ?po_Reader ?sa_Reader ?mk_Reader ?kc_Reader ?n_Reader_calls ?n_Reader_position ?x_start_of ?l_start_of ?c_start_of ?k_start_of ?x_part_holding ?l_part_holding ?c_part_holding ?k_part_holding ?x_Edition_init ?i_Edition_init ?l_Edition_init ?c_Edition_init ?k_Edition_init ?x_Edition_has_word ?i_Edition_has_word ?l_Edition_has_word ?c_Edition_has_word ?k_Edition_has_word ?x_Edition_has_line ?i_Edition_has_line ?l_Edition_has_line ?c_Edition_has_line ?k_Edition_has_line ?x_Edition_line_start ?i_Edition_line_start ?l_Edition_line_start ?c_Edition_line_start ?k_Edition_line_start ?x_Edition_page_start ?i_Edition_page_start ?l_Edition_page_start ?c_Edition_page_start ?k_Edition_page_start ?x_Edition_page_of ?i_Edition_page_of ?l_Edition_page_of ?c_Edition_page_of ?k_Edition_page_of ?x_Edition_place_of ?i_Edition_place_of ?l_Edition_place_of ?c_Edition_place_of ?k_Edition_place_of ?x_Way_init ?i_Way_init ?l_Way_init ?c_Way_init ?k_Way_init ?x_Way_pair_cost ?i_Way_pair_cost ?l_Way_pair_cost ?c_Way_pair_cost ?k_Way_pair_cost ?x_Way_rests_from ?i_Way_rests_from ?l_Way_rests_from ?c_Way_rests_from ?k_Way_rests_from ?x_Way_all_rests ?i_Way_all_rests ?l_Way_all_rests ?c_Way_all_rests ?k_Way_all_rests ?x_Way_pairs ?i_Way_pairs ?l_Way_pairs ?c_Way_pairs ?k_Way_pairs ?x_partners_by ?l_partners_by ?c_partners_by ?k_partners_by ?x_find_partners ?l_find_partners ?c_find_partners ?k_find_partners ?x_those_there ?l_those_there ?c_those_there ?k_those_there ?x_count_same ?l_count_same ?c_count_same ?k_count_same ?x_gap_behind ?l_gap_behind ?c_gap_behind ?k_gap_behind ?x_are_words ?l_are_words ?c_are_words ?k_are_words ?x_make_whole ?l_make_whole ?c_make_whole ?k_make_whole ?x_Shelf_init ?i_Shelf_init ?l_Shelf_init ?c_Shelf_init ?k_Shelf_init ?x_Shelf_begin ?i_Shelf_begin ?l_Shelf_begin ?c_Shelf_begin ?k_Shelf_begin ?x_Shelf_has_edition ?i_Shelf_has_edition ?l_Shelf_has_edition ?c_Shelf_has_edition ?k_Shelf_has_edition ?x_Shelf_has_both ?i_Shelf_has_both ?l_Shelf_has_both ?c_Shelf_has_both ?k_Shelf_has_both ?x_Shelf_partners_of ?i_Shelf_partners_of ?l_Shelf_partners_of ?c_Shelf_partners_of ?k_Shelf_partners_of ?x_Shelf_add_edition ?i_Shelf_add_edition ?l_Shelf_add_edition ?c_Shelf_add_edition ?k_Shelf_add_edition ?x_Shelf_set_lines ?i_Shelf_set_lines ?l_Shelf_set_lines ?c_Shelf_set_lines ?k_Shelf_set_lines ?x_Shelf_set_pages ?i_Shelf_set_pages ?l_Shelf_set_pages ?c_Shelf_set_pages ?k_Shelf_set_pages ?x_Shelf_set_costs ?i_Shelf_set_costs ?l_Shelf_set_costs ?c_Shelf_set_costs ?k_Shelf_set_costs ?x_Shelf_where ?i_Shelf_where ?l_Shelf_where ?c_Shelf_where ?k_Shelf_where ?x_Shelf_find_line ?i_Shelf_find_line ?l_Shelf_find_line ?c_Shelf_find_line ?k_Shelf_find_line ?x_Shelf_find_word ?i_Shelf_find_word ?l_Shelf_find_word ?c_Shelf_find_word ?k_Shelf_find_word ?x_Shelf_find_words ?i_Shelf_find_words ?l_Shelf_find_words ?c_Shelf_find_words ?k_Shelf_find_words ?x_Shelf_table ?i_Shelf_table ?l_Shelf_table ?c_Shelf_table ?k_Shelf_table ?x_Shelf_agree ?i_Shelf_agree ?l_Shelf_agree ?c_Shelf_agree ?k_Shelf_agree ?x_Reader_init ?i_Reader_init ?l_Reader_init ?c_Reader_init ?k_Reader_init ?x_Reader_has_more ?i_Reader_has_more ?l_Reader_has_more ?c_Reader_has_more ?k_Reader_has_more ?x_Reader_take_number ?i_Reader_take_number ?l_Reader_take_number ?c_Reader_take_number ?k_Reader_take_number ?x_Reader_take_row ?i_Reader_take_row ?l_Reader_take_row ?c_Reader_take_row ?k_Reader_take_row ?x_answer_counts ?l_answer_counts ?c_answer_counts ?k_answer_counts ?x_answer_costs ?l_answer_costs ?c_answer_costs ?k_answer_costs ?x_answer_place ?l_answer_place ?c_answer_place ?k_answer_place ?x_answer_line ?l_answer_line ?c_answer_line ?k_answer_line ?x_answer_whole ?l_answer_whole ?c_answer_whole ?k_answer_whole ?x_answer_asked ?l_answer_asked ?c_answer_asked ?k_answer_asked ?x_answer_call ?l_answer_call ?c_answer_call ?k_answer_call ?x_answers ?l_answers ?c_answers ?k_answers ?g_MOST_EDITIONS ?g_MOST_WORDS ?g_LARGEST_WORD ?g_LARGEST_COST ?g_WRONG_FORM ?g_NO_SUCH_EDITION ?g_NO_ROOM ?g_NO_SUCH_PLACE ?g_BEGINS ?g_EDITION ?g_LINES ?g_PAGES ?g_COSTS ?g_WHERE ?g_FIND ?g_WORD ?g_TABLE ?g_AGREE ?g_FIRST_COSTS ?q_FIRST_COSTS ?z_len ?z_list ?z_max ?z_min ?z_range ?z_sum ?z_zip
    (case x_Edition => k_is)
    (case pg_Edition => k_is)
    (case hd_Edition => k_is)
    (case po_Edition => k_is)
    (case sa_Edition => k_is)
    (case mk_Edition => k_is)
    (case kc_Edition => k_is)
    (case n_Edition_line_sizes => k_is)
    (case n_Edition_page_sizes => k_is)
    (case n_Edition_words => k_is)
    (case x_Way => k_is)
    (case pg_Way => k_is)
    (case hd_Way => k_is)
    (case po_Way => k_is)
    (case sa_Way => k_is)
    (case mk_Way => k_is)
    (case kc_Way => k_is)
    (case n_Way_first => k_is)
    (case n_Way_into => k_is)
    (case n_Way_other => k_is)
    (case n_Way_out => k_is)
    (case n_Way_second => k_is)
    (case x_Shelf => k_is)
    (case pg_Shelf => k_is)
    (case hd_Shelf => k_is)
    (case po_Shelf => k_is)
    (case sa_Shelf => k_is)
    (case mk_Shelf => k_is)
    (case kc_Shelf => k_is)
    (case n_Shelf_costs => k_is)
    (case n_Shelf_editions => k_is)
    (case x_Reader => k_is)
    (case pg_Reader => k_is)
    (case hd_Reader => k_is)
    (case po_Reader => k_is)
    (case sa_Reader => k_is)
    (case mk_Reader => k_is)
    (case kc_Reader => k_is)
    (case n_Reader_calls => k_is)
    (case n_Reader_position => k_is)
    (case x_start_of => k_is)
    (case l_start_of => k_is)
    (case c_start_of => k_is)
    (case k_start_of => k_is)
    (case x_part_holding => k_is)
    (case l_part_holding => k_is)
    (case c_part_holding => k_is)
    (case k_part_holding => k_is)
    (case x_Edition_init => k_is)
    (case i_Edition_init => k_is)
    (case l_Edition_init => k_is)
    (case c_Edition_init => k_is)
    (case k_Edition_init => k_is)
    (case x_Edition_has_word => k_is)
    (case i_Edition_has_word => k_is)
    (case l_Edition_has_word => k_is)
    (case c_Edition_has_word => k_is)
    (case k_Edition_has_word => k_is)
    (case x_Edition_has_line => k_is)
    (case i_Edition_has_line => k_is)
    (case l_Edition_has_line => k_is)
    (case c_Edition_has_line => k_is)
    (case k_Edition_has_line => k_is)
    (case x_Edition_line_start => k_is)
    (case i_Edition_line_start => k_is)
    (case l_Edition_line_start => k_is)
    (case c_Edition_line_start => k_is)
    (case k_Edition_line_start => k_is)
    (case x_Edition_page_start => k_is)
    (case i_Edition_page_start => k_is)
    (case l_Edition_page_start => k_is)
    (case c_Edition_page_start => k_is)
    (case k_Edition_page_start => k_is)
    (case x_Edition_page_of => k_is)
    (case i_Edition_page_of => k_is)
    (case l_Edition_page_of => k_is)
    (case c_Edition_page_of => k_is)
    (case k_Edition_page_of => k_is)
    (case x_Edition_place_of => k_is)
    (case i_Edition_place_of => k_is)
    (case l_Edition_place_of => k_is)
    (case c_Edition_place_of => k_is)
    (case k_Edition_place_of => k_is)
    (case x_Way_init => k_is)
    (case i_Way_init => k_is)
    (case l_Way_init => k_is)
    (case c_Way_init => k_is)
    (case k_Way_init => k_is)
    (case x_Way_pair_cost => k_is)
    (case i_Way_pair_cost => k_is)
    (case l_Way_pair_cost => k_is)
    (case c_Way_pair_cost => k_is)
    (case k_Way_pair_cost => k_is)
    (case x_Way_rests_from => k_is)
    (case i_Way_rests_from => k_is)
    (case l_Way_rests_from => k_is)
    (case c_Way_rests_from => k_is)
    (case k_Way_rests_from => k_is)
    (case x_Way_all_rests => k_is)
    (case i_Way_all_rests => k_is)
    (case l_Way_all_rests => k_is)
    (case c_Way_all_rests => k_is)
    (case k_Way_all_rests => k_is)
    (case x_Way_pairs => k_is)
    (case i_Way_pairs => k_is)
    (case l_Way_pairs => k_is)
    (case c_Way_pairs => k_is)
    (case k_Way_pairs => k_is)
    (case x_partners_by => k_is)
    (case l_partners_by => k_is)
    (case c_partners_by => k_is)
    (case k_partners_by => k_is)
    (case x_find_partners => k_is)
    (case l_find_partners => k_is)
    (case c_find_partners => k_is)
    (case k_find_partners => k_is)
    (case x_those_there => k_is)
    (case l_those_there => k_is)
    (case c_those_there => k_is)
    (case k_those_there => k_is)
    (case x_count_same => k_is)
    (case l_count_same => k_is)
    (case c_count_same => k_is)
    (case k_count_same => k_is)
    (case x_gap_behind => k_is)
    (case l_gap_behind => k_is)
    (case c_gap_behind => k_is)
    (case k_gap_behind => k_is)
    (case x_are_words => k_is)
    (case l_are_words => k_is)
    (case c_are_words => k_is)
    (case k_are_words => k_is)
    (case x_make_whole => k_is)
    (case l_make_whole => k_is)
    (case c_make_whole => k_is)
    (case k_make_whole => k_is)
    (case x_Shelf_init => k_is)
    (case i_Shelf_init => k_is)
    (case l_Shelf_init => k_is)
    (case c_Shelf_init => k_is)
    (case k_Shelf_init => k_is)
    (case x_Shelf_begin => k_is)
    (case i_Shelf_begin => k_is)
    (case l_Shelf_begin => k_is)
    (case c_Shelf_begin => k_is)
    (case k_Shelf_begin => k_is)
    (case x_Shelf_has_edition => k_is)
    (case i_Shelf_has_edition => k_is)
    (case l_Shelf_has_edition => k_is)
    (case c_Shelf_has_edition => k_is)
    (case k_Shelf_has_edition => k_is)
    (case x_Shelf_has_both => k_is)
    (case i_Shelf_has_both => k_is)
    (case l_Shelf_has_both => k_is)
    (case c_Shelf_has_both => k_is)
    (case k_Shelf_has_both => k_is)
    (case x_Shelf_partners_of => k_is)
    (case i_Shelf_partners_of => k_is)
    (case l_Shelf_partners_of => k_is)
    (case c_Shelf_partners_of => k_is)
    (case k_Shelf_partners_of => k_is)
    (case x_Shelf_add_edition => k_is)
    (case i_Shelf_add_edition => k_is)
    (case l_Shelf_add_edition => k_is)
    (case c_Shelf_add_edition => k_is)
    (case k_Shelf_add_edition => k_is)
    (case x_Shelf_set_lines => k_is)
    (case i_Shelf_set_lines => k_is)
    (case l_Shelf_set_lines => k_is)
    (case c_Shelf_set_lines => k_is)
    (case k_Shelf_set_lines => k_is)
    (case x_Shelf_set_pages => k_is)
    (case i_Shelf_set_pages => k_is)
    (case l_Shelf_set_pages => k_is)
    (case c_Shelf_set_pages => k_is)
    (case k_Shelf_set_pages => k_is)
    (case x_Shelf_set_costs => k_is)
    (case i_Shelf_set_costs => k_is)
    (case l_Shelf_set_costs => k_is)
    (case c_Shelf_set_costs => k_is)
    (case k_Shelf_set_costs => k_is)
    (case x_Shelf_where => k_is)
    (case i_Shelf_where => k_is)
    (case l_Shelf_where => k_is)
    (case c_Shelf_where => k_is)
    (case k_Shelf_where => k_is)
    (case x_Shelf_find_line => k_is)
    (case i_Shelf_find_line => k_is)
    (case l_Shelf_find_line => k_is)
    (case c_Shelf_find_line => k_is)
    (case k_Shelf_find_line => k_is)
    (case x_Shelf_find_word => k_is)
    (case i_Shelf_find_word => k_is)
    (case l_Shelf_find_word => k_is)
    (case c_Shelf_find_word => k_is)
    (case k_Shelf_find_word => k_is)
    (case x_Shelf_find_words => k_is)
    (case i_Shelf_find_words => k_is)
    (case l_Shelf_find_words => k_is)
    (case c_Shelf_find_words => k_is)
    (case k_Shelf_find_words => k_is)
    (case x_Shelf_table => k_is)
    (case i_Shelf_table => k_is)
    (case l_Shelf_table => k_is)
    (case c_Shelf_table => k_is)
    (case k_Shelf_table => k_is)
    (case x_Shelf_agree => k_is)
    (case i_Shelf_agree => k_is)
    (case l_Shelf_agree => k_is)
    (case c_Shelf_agree => k_is)
    (case k_Shelf_agree => k_is)
    (case x_Reader_init => k_is)
    (case i_Reader_init => k_is)
    (case l_Reader_init => k_is)
    (case c_Reader_init => k_is)
    (case k_Reader_init => k_is)
    (case x_Reader_has_more => k_is)
    (case i_Reader_has_more => k_is)
    (case l_Reader_has_more => k_is)
    (case c_Reader_has_more => k_is)
    (case k_Reader_has_more => k_is)
    (case x_Reader_take_number => k_is)
    (case i_Reader_take_number => k_is)
    (case l_Reader_take_number => k_is)
    (case c_Reader_take_number => k_is)
    (case k_Reader_take_number => k_is)
    (case x_Reader_take_row => k_is)
    (case i_Reader_take_row => k_is)
    (case l_Reader_take_row => k_is)
    (case c_Reader_take_row => k_is)
    (case k_Reader_take_row => k_is)
    (case x_answer_counts => k_is)
    (case l_answer_counts => k_is)
    (case c_answer_counts => k_is)
    (case k_answer_counts => k_is)
    (case x_answer_costs => k_is)
    (case l_answer_costs => k_is)
    (case c_answer_costs => k_is)
    (case k_answer_costs => k_is)
    (case x_answer_place => k_is)
    (case l_answer_place => k_is)
    (case c_answer_place => k_is)
    (case k_answer_place => k_is)
    (case x_answer_line => k_is)
    (case l_answer_line => k_is)
    (case c_answer_line => k_is)
    (case k_answer_line => k_is)
    (case x_answer_whole => k_is)
    (case l_answer_whole => k_is)
    (case c_answer_whole => k_is)
    (case k_answer_whole => k_is)
    (case x_answer_asked => k_is)
    (case l_answer_asked => k_is)
    (case c_answer_asked => k_is)
    (case k_answer_asked => k_is)
    (case x_answer_call => k_is)
    (case l_answer_call => k_is)
    (case c_answer_call => k_is)
    (case k_answer_call => k_is)
    (case x_answers => k_is)
    (case l_answers => k_is)
    (case c_answers => k_is)
    (case k_answers => k_is)
    (case g_MOST_EDITIONS => k_is)
    (case g_MOST_WORDS => k_is)
    (case g_LARGEST_WORD => k_is)
    (case g_LARGEST_COST => k_is)
    (case g_WRONG_FORM => k_is)
    (case g_NO_SUCH_EDITION => k_is)
    (case g_NO_ROOM => k_is)
    (case g_NO_SUCH_PLACE => k_is)
    (case g_BEGINS => k_is)
    (case g_EDITION => k_is)
    (case g_LINES => k_is)
    (case g_PAGES => k_is)
    (case g_COSTS => k_is)
    (case g_WHERE => k_is)
    (case g_FIND => k_is)
    (case g_WORD => k_is)
    (case g_TABLE => k_is)
    (case g_AGREE => k_is)
    (case g_FIRST_COSTS => k_is)
    (case q_FIRST_COSTS => k_is)
    (case z_len => k_is)
    (case z_list => k_is)
    (case z_max => k_is)
    (case z_min => k_is)
    (case z_range => k_is)
    (case z_sum => k_is)
    (case z_zip => k_is)
  case S =>
    intro K H xs a hO hwi hask hx
    cases hx with
    | cons h1 h2 =>
      cases h2
      cases h1 with
      | lst hs ha =>
        have e := L2.ints_dw a.1 _ ha
        subst e
        refine ⟨_, a.1, rfl, ?_, hask, fun H' p hp => .lst (L2.SqL.of hp) (L2.dw_ints _)⟩
        rcases hs with (hs | ⟨o, hs⟩) | hs
        · rcases hO _ with z | ⟨o, u, z⟩
          · rw [hs] at z; cases z
          · rw [hs] at z; cases z
        · exact .inl ⟨o, hs⟩
        · exact .inr fun H' => .inr hs
#print axioms PySem.Challenge.cw_twoeditions_s01_answers_holds
