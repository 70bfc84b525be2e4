import PyProof.Rows.All
import Wide.All
import OpenK.AllK
import Wide.FinOn
import PyProof.EqAt
import PyProof.EqKinds
import PyProof.TupleCall
import KE.BitLaws
import KE.OsGo
import KE.OsEnd
import Open.SpecLaws
import PySem.Challenge.RW_pulsevoice_s01_answers
set_option Elab.async false
set_option linter.all false
set_option maxRecDepth 100000
namespace L2
open PySem PySem.Spec PyProof.Rows
abbrev Key := Sum Int Str
def keyIs : Key → Value → Bool
  | .inl k, v => Value.isInt k v
  | .inr x, v => Value.isStrOf x v
def keyH (w : World) : Key → Int
  | .inl k => hashInt k
  | .inr x => hashStr w x
theorem keyIs_shape : ∀ {k : Key} {v : Value}, keyIs k v = true → (∃ i t, k = Sum.inl i ∧ v = Value.int i t) ∨ (∃ x t, k = Sum.inr x ∧ v = Value.str x t)
  | .inl i, v, h => by
    obtain ⟨t, e⟩ := Value.isInt_shape (k := i) (v := v) h
    exact .inl ⟨i, t, rfl, e⟩
  | .inr x, v, h => by
    obtain ⟨t, e⟩ := Value.isStrOf_shape (x := x) (v := v) h
    exact .inr ⟨x, t, rfl, e⟩
theorem key_ll (a b : Int) : decide ((Sum.inl a : Key) = Sum.inl b) = (a == b) := by
  by_cases e : a = b
  · subst e; simp
  · have h : ¬ (Sum.inl a : Key) = Sum.inl b := fun q => e (Sum.inl.inj q)
    rw [decide_eq_false h]
    exact (beq_eq_false_iff_ne.mpr e).symm
theorem key_rr (a b : Str) : decide ((Sum.inr a : Key) = Sum.inr b) = decide (a = b) := by
  by_cases e : a = b
  · subst e; simp
  · have h : ¬ (Sum.inr a : Key) = Sum.inr b := fun q => e (Sum.inr.inj q)
    rw [decide_eq_false h, decide_eq_false e]
theorem key_lr (a : Int) (b : Str) : decide ((Sum.inl a : Key) = Sum.inr b) = false := decide_eq_false (fun q => nomatch q)
theorem key_rl (a : Str) (b : Int) : decide ((Sum.inr a : Key) = Sum.inl b) = false := decide_eq_false (fun q => nomatch q)
def mixKind (prog : Program) (w : World) : PySem.KeyKind prog w Key where
  is := keyIs
  hash := keyH w
  inj := fun v a b ha hb => by
    rcases keyIs_shape ha with ⟨i, t, rfl, rfl⟩ | ⟨x, t, rfl, rfl⟩
    · rcases keyIs_shape hb with ⟨j, u, rfl, e⟩ | ⟨y, u, rfl, e⟩
      · injection e with e1 _; rw [e1]
      · exact nomatch e
    · rcases keyIs_shape hb with ⟨j, u, rfl, e⟩ | ⟨y, u, rfl, e⟩
      · exact nomatch e
      · injection e with e1 _; rw [e1]
  byValue := fun k v h => by
    rcases keyIs_shape h with ⟨i, t, rfl, rfl⟩ | ⟨x, t, rfl, rfl⟩ <;> rfl
  pyHash := fun hv h => by
    rcases keyIs_shape hv with ⟨i, t, rfl, rfl⟩ | ⟨x, t, rfl, rfl⟩
    · exact wpAny_pyHash_int h
    · exact wpAny_pyHash_str h
  eqBool := fun hu hv h => by
    rcases keyIs_shape hu with ⟨i, t, rfl, rfl⟩ | ⟨x, t, rfl, rfl⟩
    · rcases keyIs_shape hv with ⟨j, u, rfl, rfl⟩ | ⟨y, u, rfl, rfl⟩
      · rw [key_ll] at h; exact wpAny_eqBool_int h
      · rw [key_lr] at h; exact SeqAt.EqAt.int_str i t y u _ _ _ _ h
    · rcases keyIs_shape hv with ⟨j, u, rfl, rfl⟩ | ⟨y, u, rfl, rfl⟩
      · rw [key_rl] at h; exact SeqAt.EqAt.str_int x t j u _ _ _ _ h
      · rw [key_rr] at h; exact wpAny_eqBool_str h
  «strs» := fun k x t v h => by
    rcases keyIs_shape h with ⟨i, u, rfl, e⟩ | ⟨y, u, rfl, e⟩
    · exact nomatch e
    · injection e with e1 _
      subst e1
      cases v <;> rfl
end L2
namespace L2
open PySem PySem.Spec PyProof.Rows
inductive V where
  | non | bl (b : Bool) | int (i : Int) | str (x : Str) | byt (b : Array UInt8) | flt (b : UInt64) | ref (a : Addr) | ty (n : String)
  deriving DecidableEq
def RelV : V → Value → Prop
  | .non, u => u = Value.none
  | .bl b, u => u = Value.bool b
  | .int i, u => ∃ t, u = Value.int i t
  | .str x, u => ∃ t, u = Value.str x t
  | .byt b, u => ∃ t, u = Value.bytes b t
  | .flt b, u => ∃ t, u = Value.float b t
  | .ref a, u => u = Value.ref a
  | .ty n, u => u = Value.type n
abbrev Vals : List V → List Value → Prop := Paired RelV
theorem Vals.length {xs : List V} {us : List Value} (r : Vals xs us) : xs.length = us.length := Paired.length r
theorem Vals.get : ∀ {xs : List V} {us : List Value} {i : Nat} {x : V}, Vals xs us → xs[i]? = some x → ∃ u, us[i]? = some u ∧ RelV x u
  | _, _, _, _, .nil, e => by simp at e
  | _, _, 0, _, .cons r _, e => by simp at e; subst e; exact ⟨_, rfl, r⟩
  | _, _, i + 1, x, .cons _ t, e => by
    obtain ⟨u, h1, h2⟩ := Vals.get (i := i) (x := x) t (by simpa using e)
    exact ⟨u, by simpa using h1, h2⟩
theorem Vals.set {x : V} {u : Value} (r : RelV x u) : ∀ {xs : List V} {us : List Value} (i : Nat), Vals xs us → Vals (xs.set i x) (us.set i u)
  | _, _, _, .nil => .nil
  | _, _, 0, .cons _ t => .cons r t
  | _, _, i + 1, .cons q t => .cons q (Vals.set r i t)
theorem Vals.append : ∀ {xs ys : List V} {us ws : List Value}, Vals xs us → Vals ys ws → Vals (xs ++ ys) (us ++ ws)
  | _, _, _, _, .nil, s => s
  | _, _, _, _, .cons r t, s => .cons r (Vals.append t s)
theorem Vals.take : ∀ {xs : List V} {us : List Value} (n : Nat), Vals xs us → Vals (xs.take n) (us.take n)
  | _, _, 0, _ => .nil
  | _, _, _ + 1, .nil => .nil
  | _, _, n + 1, .cons r t => .cons r (Vals.take n t)
theorem Vals.drop : ∀ {xs : List V} {us : List Value} (n : Nat), Vals xs us → Vals (xs.drop n) (us.drop n)
  | _, _, 0, r => r
  | _, _, _ + 1, .nil => .nil
  | _, _, n + 1, .cons _ t => Vals.drop n t
def RelO : Option V → Option Value → Prop
  | some v, some u => RelV v u
  | none, none => True
  | _, _ => False
def KV {κ : Type} : List (κ × V) → List (κ × Value) → Prop := Paired fun (p : κ × V) (q : κ × Value) => p.1 = q.1 ∧ RelV p.2 q.2
def kV : Key → V
  | .inl i => .int i
  | .inr x => .str x
inductive HO where
  /-- a list -/
  | lst (xs : List V)
  /-- a tuple (never changes) -/
  | tup (xs : List V)
  /-- a dict whose keys are ints and texts; one whose keys are tuples of ints and texts (the empty one is both) -/
  | dK (kvs : List (Key × V)) | dT (kvs : List (List Key × V))
  /-- a set of ints: its members, its size -/
  | set (S : Int → Bool) (n : Nat)
  /-- an instance of the class at C, its dict at dx, its attributes -/
  | ins (C dx : Addr) (fs : List (Str × V))
  /-- the dict of the instance at x -/
  | own (x : Addr)
  /-- the dict of an exception -/
  | xd (fs : List (Str × V))
  /-- a bound method, f of x -/
  | met (f x : Addr)
  /-- a range object lo, lo + 1, .. below hi -/
  | rng (lo hi : Int)
  /-- a thing that is known to the object (the script; a dict while a loop walks it): read, never written while it is so -/
  | frz (o : Obj) (u : HO)
  /-- a code object's table -/
  | tbl (ps : Array Value)
  /-- any other thing, by what is true of its one object (a def of one's own: SetO a S n := HO.ext fun h => ..) -/
  | ext (φ : Heap → Prop)
abbrev Hp := Addr → Option HO
def upd (H : Hp) (a : Addr) (o : HO) : Hp := fun b => if b = a then some o else H b
theorem upd_same {H : Hp} {a : Addr} {o : HO} : upd H a o a = some o := by unfold upd; rw [if_pos rfl]
theorem upd_ne {H : Hp} {a b : Addr} {o : HO} (h : b ≠ a) : upd H a o b = H b := by unfold upd; rw [if_neg h]
theorem upd_upd {H : Hp} {a : Addr} {o u : HO} : upd (upd H a o) a u = upd H a u := by
  funext b; unfold upd; split <;> rfl
theorem ne_of {H : Hp} {a b : Addr} {o u : HO} (h : H a = some o) (h' : H b = some u) (d : o ≠ u) : a ≠ b := by
  intro e; subst e; rw [h] at h'; exact d (Option.some.inj h')
theorem ne_of_none {H : Hp} {a b : Addr} {o : HO} (h : H a = some o) (h' : H b = none) : a ≠ b := by
  intro e; subst e; rw [h] at h'; cases h'
section
variable (P : Program) (w : World)
def ObjOk (H : Hp) (h : Heap) (a : Addr) : HO → Prop
  | .lst xs => xs.length ≤ sizeLine ∧ ∃ (its : List Value) (n : Nat), Vals xs its ∧ h.get? a = some { cls := .type "list", data := .seq its.toArray n }
  | .tup xs => xs.length ≤ sizeLine ∧ ∃ its : List Value, Vals xs its ∧ IsTup h a its.toArray
  | .dK kvs => kvs.length ≤ sizeLine ∧ (a == sysModules) = false ∧ ∃ vs, KV kvs vs ∧ h.DictOf (mixKind P w) a vs
  | .dT kvs => kvs.length ≤ sizeLine ∧ (a == sysModules) = false ∧ ∃ xs : List (List Key × Addr × Value),
      Paired (fun (p : List Key × V) (q : List Key × Addr × Value) => p.1 = q.1 ∧ H q.2.1 = some (.tup (p.1.map kV)) ∧ RelV p.2 q.2.2) kvs xs ∧
      ∃ o es ep, h.get? a = some o ∧ o.ExactDict ∧ o.data = .dict es ep ∧ es.toList = xs.map (entryOfKey (tupleKind (mixKind P w))) ∧ (xs.map (·.1)).Nodup
  | .set S n => h.SetOf (intKind P w) a S n
  | .ins C dx fs => H dx = some (.own a) ∧ fs.length ≤ 1000 ∧ dx ≠ a ∧ h.get? a = some (PySem.W.instObj C dx) ∧
      ∃ mA, h.Ns1 dx mA ∧ (∀ f, RelO (fs.lookup f) (mA f)) ∧ PySem.Within mA (fs.map (·.1))
  | .own _ => ∃ o, h.get? a = some o
  | .xd fs => ∃ mA, h.Ns1 a mA ∧ ∀ f, RelO (fs.lookup f) (mA f)
  | .rng lo hi => ∃ t u v, h.get? a = some { cls := .type "range", data := .fields #[.int lo t, .int hi u, .int 1 v] }
  | .frz o u => h.get? a = some o ∧ ObjOk H h a u
  | .tbl ps => h.get? a = some { cls := .none, data := .fields ps }
  | .met f x => h.get? a = some (PySem.W.methodObj (.ref f) (.ref x))
  | .ext φ => φ h ∧ (∃ o, h.get? a = some o) ∧ ∀ h1 h2 : Heap, φ h1 → (∀ o, h1.get? a = some o → h2.get? a = some o) → φ h2
def HOk (H : Hp) (h : Heap) : Prop := ∀ a o, H a = some o → ObjOk P w H h a o
end
section
variable {P : Program} {w : World} {H H' : Hp} {h h' : Heap} {a : Addr} {o : HO}
theorem ObjOk.lt (x : ObjOk P w H h a o) : a < h.objs.size := by
  cases o with
  | lst xs => obtain ⟨_, _, _, _, e⟩ := x; exact Heap.lt_size e
  | tup xs => obtain ⟨_, _, _, p⟩ := x; exact p.lt
  | dK kvs => obtain ⟨_, _, _, _, o, _, _, e, _⟩ := x; exact Heap.lt_size e
  | dT kvs => obtain ⟨_, _, _, _, o, _, _, e, _⟩ := x; exact Heap.lt_size e
  | set S n => obtain ⟨o, _, _, _, e, _⟩ := x; exact Heap.lt_size e
  | ins C dx fs => obtain ⟨_, _, _, e, _⟩ := x; exact Heap.lt_size e
  | own y => obtain ⟨_, e⟩ := x; exact Heap.lt_size e
  | xd fs => obtain ⟨_, ⟨_, _, _, e, _⟩, _⟩ := x; exact Heap.lt_size e
  | rng lo hi => obtain ⟨_, _, _, e⟩ := x; exact Heap.lt_size e
  | frz ob u => obtain ⟨e, _⟩ := x; exact Heap.lt_size e
  | tbl ps => exact Heap.lt_size (show h.get? a = some _ from x)
  | met f y => exact Heap.lt_size (show h.get? a = some _ from x)
  | ext φ => obtain ⟨_, ⟨_, e⟩, _⟩ := x; exact Heap.lt_size e
theorem Paired.mapP {α β : Type} {F G : α → β → Prop} : ∀ {l₁ : List α} {l₂ : List β}, Paired F l₁ l₂ → (∀ a b, F a b → G a b) → Paired G l₁ l₂
  | _, _, .nil, _ => .nil
  | _, _, .cons r t, f => .cons (f _ _ r) (Paired.mapP t f)
theorem ObjOk.stay (x : ObjOk P w H h a o) (k : ∀ b u, (b = a ∨ H b = some (.own a)) → h.get? b = some u → h'.get? b = some u)
    (ho : ∀ b, H b = some (.own a) → H' b = some (.own a)) (ht : ∀ b xs, H b = some (.tup xs) → H' b = some (.tup xs)) : ObjOk P w H' h' a o := by
  induction o with
  | lst xs => obtain ⟨z, its, n, r, e⟩ := x; exact ⟨z, its, n, r, k _ _ (.inl rfl) e⟩
  | tup xs => obtain ⟨z, its, r, ob, e, c⟩ := x; exact ⟨z, its, r, ob, k _ _ (.inl rfl) e, c⟩
  | dK kvs => obtain ⟨z, y, vs, r, ob, es, ep, e, c⟩ := x; exact ⟨z, y, vs, r, ob, es, ep, k _ _ (.inl rfl) e, c⟩
  | dT kvs =>
    obtain ⟨z, y, xs, r, ob, es, ep, e, c⟩ := x
    exact ⟨z, y, xs, Paired.mapP r fun p q z => ⟨z.1, ht _ _ z.2.1, z.2.2⟩, ob, es, ep, k _ _ (.inl rfl) e, c⟩
  | set S n => obtain ⟨ob, es, ep, t, e, c⟩ := x; exact ⟨ob, es, ep, t, k _ _ (.inl rfl) e, c⟩
  | ins C dx fs =>
    obtain ⟨d, z, ne, e, mA, ⟨od, es, ep, e2, c⟩, r⟩ := x
    exact ⟨ho _ d, z, ne, k _ _ (.inl rfl) e, mA, ⟨od, es, ep, k _ _ (.inr d) e2, c⟩, r⟩
  | own y => obtain ⟨ob, e⟩ := x; exact ⟨ob, k _ _ (.inl rfl) e⟩
  | xd fs => obtain ⟨mA, ⟨od, es, ep, e, c⟩, r⟩ := x; exact ⟨mA, ⟨od, es, ep, k _ _ (.inl rfl) e, c⟩, r⟩
  | rng lo hi => obtain ⟨t, u, v, e⟩ := x; exact ⟨t, u, v, k _ _ (.inl rfl) e⟩
  | frz ob u ih => obtain ⟨e, q⟩ := x; exact ⟨k _ _ (.inl rfl) e, ih q⟩
  | tbl ps =>
    have e : h.get? a = some { cls := .none, data := .fields ps } := x
    show h'.get? a = some { cls := .none, data := .fields ps }
    exact k a _ (.inl rfl) e
  | met f y =>
    have e : h.get? a = some (PySem.W.methodObj (.ref f) (.ref y)) := x
    show h'.get? a = some (PySem.W.methodObj (.ref f) (.ref y))
    exact k a _ (.inl rfl) e
  | ext φ => obtain ⟨p, ⟨o, e⟩, st⟩ := x; exact ⟨st _ _ p fun o q => k _ _ (.inl rfl) q, ⟨o, k _ _ (.inl rfl) e⟩, st⟩
theorem HOk.lt (x : HOk P w H h) (e : H a = some o) : a < h.objs.size := (x a o e).lt
theorem HOk.fresh (x : HOk P w H h) (e : h.objs.size ≤ a) : H a = none := by
  cases q : H a with
  | none => rfl
  | some u => exact absurd (Nat.lt_of_lt_of_le (x.lt q) e) (Nat.lt_irrefl _)
theorem HOk.kept (x : HOk P w H h) (k : ∀ b u, h.get? b = some u → h'.get? b = some u) : HOk P w H h' := fun a o e =>
  (x a o e).stay (fun b u _ q => k b u q) (fun _ q => q) fun _ _ q => q
theorem HOk.laid (x : HOk P w H h) (k : ∀ b u, h.get? b = some u → h'.get? b = some u) (hp : h.objs.size ≤ a) (new : ObjOk P w (upd H a o) h' a o) : HOk P w (upd H a o) h' := fun b u e => by
  have hn := x.fresh hp
  by_cases hb : b = a
  · subst hb; rw [upd_same] at e; cases e; exact new
  · rw [upd_ne hb] at e
    exact (x b u e).stay (fun c v _ q => k c v q) (fun c q => by rw [upd_ne (ne_of_none q hn)]; exact q) fun c xs q => by rw [upd_ne (ne_of_none q hn)]; exact q
end
def Rd (H : Hp) (a : Addr) (u : HO) : Prop := H a = some u ∨ ∃ o, H a = some (.frz o u)
theorem Rd.ok {P : Program} {w : World} {H : Hp} {h : Heap} {a : Addr} {u : HO} (r : Rd H a u) (x : HOk P w H h) : ObjOk P w H h a u := by
  rcases r with r | ⟨o, r⟩
  · exact x a u r
  · obtain ⟨_, q⟩ := x a _ r
    exact q
def Mut : Option HO → Prop
  | some (.lst _) => True
  | some (.dK _) => True
  | some (.dT _) => True
  | some (.set _ _) => True
  | some (.ins _ _ _) => True
  | some (.ext _) => True
  | _ => False
section
variable {P : Program} {w : World} {H : Hp} {h h' : Heap} {x e : Addr} {o' : HO}
theorem HOk.write (ok : HOk P w H h) (mu : Mut (H x)) (he : e = x ∨ H e = some (.own x)) (k : ∀ b u, b ≠ e → h.get? b = some u → h'.get? b = some u) (heo : ∃ u, h'.get? e = some u)
    (new : ObjOk P w (upd H x o') h' x o') : HOk P w (upd H x o') h' := fun b u q => by
  have nown : ∀ c y, H c = some (.own y) → c ≠ x := fun c y r z => by subst z; rw [r] at mu; exact mu
  have ntup : ∀ c xs, H c = some (.tup xs) → c ≠ x := fun c xs r z => by subst z; rw [r] at mu; exact mu
  by_cases hb : b = x
  · subst hb; rw [upd_same] at q; cases q; exact new
  · rw [upd_ne hb] at q
    by_cases hbe : b = e
    · have q' : H b = some (.own x) := by
        rcases he with z | z
        · exact absurd (hbe.trans z) hb
        · rw [hbe]; exact z
      rw [q] at q'; cases q'
      obtain ⟨v, hv⟩ := heo
      exact ⟨v, by rw [hbe]; exact hv⟩
    · refine (ok b u q).stay (fun c v hc r => k c v ?_ r) (fun c r => by rw [upd_ne (nown c b r)]; exact r) fun c xs r => by rw [upd_ne (ntup c xs r)]; exact r
      rcases hc with rfl | hc
      · exact hbe
      · rintro rfl
        rcases he with z | z
        · exact nown c b hc z
        · rw [hc] at z; cases z; exact hb rfl
end
structure Un (fs ex : List Addr) (H H' : Hp) (h h' : Heap) : Prop where
  keep : ∀ b o, h.get? b = some o → H b = none → b ∉ fs → b ∉ ex → h'.get? b = some o
  slot : ∀ b o, h.get? b = some o → H b = none → b ∈ fs → b ∉ ex → ∃ sl, h'.get? b = some { o with slots := sl }
  free : ∀ b o, h.get? b = some o → H b = none → b ∉ ex → H' b = none
  there : ∀ b o, h.get? b = some o → b ∉ ex → ∃ o', h'.get? b = some o'
  tups : ∀ b xs, H b = some (.tup xs) → H' b = some (.tup xs)
  frzs : ∀ b o u, H b = some (.frz o u) → H' b = some (.frz o u)
  tbls : ∀ b ps, H b = some (.tbl ps) → ∃ more, H' b = some (.tbl (ps ++ more))
section
variable {fs fs' ex ex' : List Addr} {H H1 H2 : Hp} {h h1 h2 h' : Heap} {a x e : Addr} {o : HO}
theorem Un.any (u : Un fs ex H H1 h h1) {b : Addr} {ob : Obj} (q : h.get? b = some ob) (n : H b = none) (hx : b ∉ ex) : ∃ sl, h1.get? b = some { ob with slots := sl } := by
  by_cases hb : b ∈ fs
  · exact u.slot b ob q n hb hx
  · exact ⟨ob.slots, u.keep b ob q n hb hx⟩
theorem Un.kept (k : ∀ b u, h.get? b = some u → h'.get? b = some u) : Un fs ex H H h h' :=
  ⟨fun b ob q _ _ _ => k b ob q, fun b ob q _ _ _ => ⟨ob.slots, k b ob q⟩, fun _ _ _ n _ => n, fun b ob q _ => ⟨ob, k b ob q⟩, fun _ _ q => q, fun _ _ _ q => q, fun _ ps q => ⟨#[], by rw [q]; simp⟩⟩
theorem Un.refl : Un fs ex H H h h := Un.kept fun _ _ q => q
theorem Un.laid (k : ∀ b u, h.get? b = some u → h'.get? b = some u) (hp : h.objs.size ≤ a) (hn : H a = none) : Un fs ex H (upd H a o) h h' where
  keep := fun b u q _ _ _ => k b u q
  slot := fun b u q _ _ _ => ⟨u.slots, k b u q⟩
  free := fun b u q n _ => by rw [upd_ne (Nat.ne_of_lt (Nat.lt_of_lt_of_le (Heap.lt_size q) hp))]; exact n
  there := fun b u q _ => ⟨u, k b u q⟩
  tups := fun b xs q => by rw [upd_ne (ne_of_none q hn)]; exact q
  frzs := fun b u xs q => by rw [upd_ne (ne_of_none q hn)]; exact q
  tbls := fun b ps q => ⟨#[], by rw [upd_ne (ne_of_none q hn), q]; simp⟩
theorem Un.write (mu : Mut (H x)) (he : e = x ∨ H e = some (.own x)) (k : ∀ b u, b ≠ e → h.get? b = some u → h'.get? b = some u) (heo : ∃ u, h'.get? e = some u) : Un fs ex H (upd H x o) h h' := by
  have hx : ∀ b, H b = none → b ≠ x := fun b n z => by subst z; rw [n] at mu; exact mu
  have hb : ∀ b, H b = none → b ≠ e := fun b n z => by
    subst z
    rcases he with r | r
    · exact hx b n r
    · rw [n] at r; cases r
  have hm : ∀ b u, H b = some u → ¬ Mut (some u) → b ≠ x := fun b u q nm z => by subst z; rw [q] at mu; exact nm mu
  refine ⟨fun b u q n _ _ => k b u (hb b n) q, fun b u q n _ _ => ⟨u.slots, k b u (hb b n) q⟩, fun b u q n _ => by rw [upd_ne (hx b n)]; exact n, fun b u q _ => ?_,
    fun b xs q => by rw [upd_ne (hm b _ q fun z => z)]; exact q, fun b u xs q => by rw [upd_ne (hm b _ q fun z => z)]; exact q, fun b ps q => ⟨#[], by rw [upd_ne (hm b _ q fun z => z), q]; simp⟩⟩
  by_cases hbe : b = e
  · subst hbe; exact heo
  · exact ⟨u, k b u hbe q⟩
end
def trk (h : Heap) (H : Hp) : List Addr := (List.range h.objs.size).filter fun a => (H a).isSome
def hidT (h : Heap) (H : Hp) : Heap := PySem.W.hideAll h (trk h H)
theorem hidT_size (h : Heap) (H : Hp) : (hidT h H).objs.size = h.objs.size := PySem.W.hideAll_size _ _
theorem hidT_get {h : Heap} {H : Hp} {b : Addr} {o : Obj} (e : h.get? b = some o) (n : H b = none) : (hidT h H).get? b = some o :=
  PySem.W.hideAll_get _ e fun hm => by
    have q : (H b).isSome = true := (List.mem_filter.mp hm).2
    rw [n] at q; simp at q
theorem of_hidT {h : Heap} {H : Hp} {b : Addr} {o : Obj} (e : (hidT h H).get? b = some o) : h.get? b = some o ∧ H b = none := by
  have e' : h.get? b = some o := PySem.W.of_hideAll (trk h H) e
  refine ⟨e', ?_⟩
  cases q : H b with
  | none => rfl
  | some x =>
    have hm : b ∈ trk h H := List.mem_filter.mpr ⟨List.mem_range.mpr (Heap.lt_size e'), by simp [q]⟩
    have z : (hidT h H).get? b = none := PySem.W.hideAll_none (trk h H) hm
    rw [z] at e; cases e
end L2
namespace L2
open PySem PySem.Spec PyProof.Rows
structure Mod (K : PySem.W.Frag) (mg : Str → Option Value) (base : Heap) : Prop where
  kin : K.In base
  glob : base.Ns mainGlobals mg
  blt : ∃ mb, base.Ns builtinsNs mb ∧ ∀ x : Str, x ≠ "__name__" → mb x = bootBuiltins x
  nolimit : base.NoLimit
structure Cx where
  prog : Program
  w : World
  K : PySem.W.Frag
  mg : Str → Option Value
  base : Heap
  A : Around
  N : List Str
  s₀ : Shared
  H₀ : Hp
  env : Env
  outer : List Env
  stack : List Env
  ex : List Addr
  fn : Str → Bool
  calm : Bool
  pn : List (Addr × Obj)
  xe : Value → Shared → Prop
def frs (l : List Env) : List Addr := l.filterMap (·.frame)
abbrev Cx.fs (X : Cx) : List Addr := frs X.outer
def Vis (sc : Scope) (x : Str) : Prop := sc.names.lookup x = some .local ∨ sc.names.lookup x = some .cell ∨ sc.names.lookup x = some .free
def Loc (sc : Scope) (x : Str) : Prop := sc.names.lookup x = some .local ∨ sc.names.lookup x = some .cell
def Look (env : Env) (h : Heap) (m : Str → Option Value) (x : Str) (u : Value) : Prop :=
  (env.kindOf x = some .local ∧ m x = some u) ∨ ((env.kindOf x = some .cell ∨ env.kindOf x = some .free) ∧ ∃ c, env.cells.lookup x = some c ∧ h.IsCell c (some u))
structure Cx.Ok (X : Cx) : Prop where
  mod : Mod X.K X.mg X.base
  kind : X.env.scope.kind = .function
  glob : X.env.globals = mainGlobals
  blt : X.env.builtins = builtinsNs
  above : X.s₀.heap.objs.size ≤ X.env.locals
  inj : ∀ x y c, X.env.cells.lookup x = some c → X.env.cells.lookup y = some c → x = y
  has : ∀ x, (X.env.kindOf x = some .cell ∨ X.env.kindOf x = some .free) → ∃ c, X.env.cells.lookup x = some c
  cab : ∀ x c, X.fn x = true → X.env.cells.lookup x = some c → X.s₀.heap.objs.size ≤ c
  hd : X.calm = true → X.A.handled = none
  frames : X.A.frames = some X.stack
  stk : X.stack = X.outer ∨ (X.stack = X.env :: X.outer ∧ X.env.frame = some X.env.locals)
  exf : ∀ b ∈ X.ex, b ≠ X.env.locals ∧ ∀ x c, X.env.cells.lookup x = some c → c ≠ b
  bs : ∀ b o, X.base.get? b = some o → X.s₀.heap.get? b = some o ∧ X.H₀ b = none
  bsz : X.base.objs.size ≤ X.s₀.heap.objs.size
  noex : ∀ b o, X.base.get? b = some o → b ∉ X.ex
  exfs : ∀ b ∈ X.ex, b ∉ X.fs
  funs : X.s₀.heap.FunFrames X.base X.outer
  frf : ∀ b ∈ X.fs, X.H₀ b = none
structure Inv (X : Cx) (pins : List (Addr × Obj)) (σ : List (Option V)) (H : Hp) (s : Shared) : Prop where
  ok : X.Ok
  os : s.os = X.s₀.os
  bare : AllBare s.gens
  base : Un X.fs X.ex X.H₀ H X.s₀.heap s.heap
  loc : ∃ m, s.heap.Ns X.env.locals m ∧ ∀ (i : Nat) (x : Str) (v : V), X.N[i]? = some x → σ[i]? = some (some v) → Vis X.env.scope x → ∃ u, RelV v u ∧ Look X.env s.heap m x u
  cell : ∀ x c, X.env.cells.lookup x = some c → ∃ v, s.heap.IsCell c v
  free : H X.env.locals = none
  freeC : ∀ x c, X.env.cells.lookup x = some c → H c = none
  pin : ∀ p ∈ X.pn ++ pins, s.heap.get? p.1 = some p.2 ∧ H p.1 = none ∧ p.1 ≠ X.env.locals ∧ p.1 ∉ X.fs ∧ ∀ v, p.2.data ≠ .cell v
  hok : HOk X.prog X.w H s.heap
  len : σ.length = X.N.length
section
variable {X : Cx} {pins : List (Addr × Obj)} {σ : List (Option V)} {H H' : Hp} {s : Shared} {h' : Heap}
theorem Cx.Ok.nofr (ok : X.Ok) {b : Addr} {o : Obj} (e : X.base.get? b = some o) : b ∉ X.fs := fun hb => by
  have := (ok.funs.mem hb).1
  rw [e] at this; cases this
theorem Inv.bs (I : Inv X pins σ H s) : ∀ b o, X.base.get? b = some o → s.heap.get? b = some o ∧ H b = none := fun b o e =>
  ⟨I.base.keep b o (I.ok.bs b o e).1 (I.ok.bs b o e).2 (I.ok.nofr e) (I.ok.noex b o e), I.base.free b o (I.ok.bs b o e).1 (I.ok.bs b o e).2 (I.ok.noex b o e)⟩
theorem Inv.bk (I : Inv X pins σ H s) : ∀ b o, X.base.get? b = some o → s.heap.get? b = some o := fun b o e => (I.bs b o e).1
theorem Inv.mod (I : Inv X pins σ H s) : Mod X.K X.mg X.base := I.ok.mod
theorem Inv.kIn (I : Inv X pins σ H s) : X.K.In s.heap := I.ok.mod.kin.keeps I.bk
theorem Inv.lt (I : Inv X pins σ H s) : X.env.locals < s.heap.objs.size := let ⟨_, hn, _⟩ := I.loc; hn.lt
theorem Inv.sz (I : Inv X pins σ H s) : X.s₀.heap.objs.size ≤ s.heap.objs.size := Nat.le_trans I.ok.above (Nat.le_of_lt I.lt)
theorem Inv.nofs (I : Inv X pins σ H s) {a : Addr} (h : s.heap.objs.size ≤ a) : a ∉ X.fs := fun hb => by
  obtain ⟨_, o, ho, _⟩ := I.ok.funs.mem hb
  exact absurd (Nat.lt_of_lt_of_le (Heap.lt_size ho) (Nat.le_trans I.sz h)) (Nat.lt_irrefl _)
theorem Inv.cne (I : Inv X pins σ H s) : ∀ x c, X.env.cells.lookup x = some c → c ≠ X.env.locals := fun x c e z => by
  obtain ⟨v, o, ho, hd⟩ := I.cell x c e
  obtain ⟨m, ⟨o', es, ep, ho', hd', _⟩, _⟩ := I.loc
  rw [z, ho'] at ho; cases ho; rw [hd'] at hd; cases hd
theorem Inv.funs (I : Inv X pins σ H s) : s.heap.FunFrames X.base X.outer := by
  have all : ∀ (l : List Env), (∀ b ∈ frs l, b ∈ X.fs) → X.s₀.heap.FunFrames X.base l → s.heap.FunFrames X.base l := by
    intro l
    induction l with
    | nil => intro _ _; trivial
    | cons env r ih =>
      intro hs hl
      obtain ⟨hk, ⟨L, o, hf, hn, ho, hd⟩, hr⟩ := hl
      have hL : L ∈ X.fs := hs L (by unfold frs; rw [List.filterMap_cons, hf]; exact List.mem_cons_self)
      obtain ⟨sl, e⟩ := I.base.slot L o ho (I.ok.frf L hL) hL fun z => I.ok.exfs L z hL
      exact ⟨hk, ⟨L, _, hf, hn, e, hd⟩, ih (fun b hb => hs b (by unfold frs; rw [List.filterMap_cons, hf]; exact List.mem_cons_of_mem _ hb)) hr⟩
  exact all X.outer (fun _ hb => hb) I.ok.funs
theorem Inv.stack (I : Inv X pins σ H s) : s.heap.FunFrames X.base X.stack := by
  rcases I.ok.stk with e | ⟨e, hf⟩
  · rw [e]; exact I.funs
  · rw [e]
    obtain ⟨m, hn, _⟩ := I.loc
    refine .cons (by rw [I.ok.kind]; decide) hf hn ?_ I.funs
    exact Heap.get?_none_of_le (Nat.le_trans I.ok.bsz I.ok.above)
theorem Inv.stkSub (I : Inv X pins σ H s) : ∀ b ∈ frs X.stack, b ∈ X.env.locals :: X.fs := fun b hb => by
  rcases I.ok.stk with e | ⟨e, hf⟩
  · rw [e] at hb; exact List.mem_cons_of_mem _ hb
  · rw [e] at hb
    unfold frs at hb
    rw [List.filterMap_cons, hf] at hb
    exact hb
theorem Inv.stkFree (I : Inv X pins σ H s) : ∀ b ∈ frs X.stack, H b = none := fun b hb => by
  rcases List.mem_cons.mp (I.stkSub b hb) with e | hb
  · rw [e]; exact I.free
  · obtain ⟨_, o, ho, _⟩ := I.ok.funs.mem hb
    exact I.base.free b o ho (I.ok.frf b hb) fun z => I.ok.exfs b z hb
theorem Inv.step {g' : Array GenState} {t' : Nat} {d' : Drawn} {ch : List Addr} (I : Inv X pins σ H s)
    (hch : ∀ b ∈ ch, (b ∈ X.ex ∨ X.s₀.heap.objs.size ≤ b) ∧ b ≠ X.env.locals ∧ (∀ x c, X.env.cells.lookup x = some c → c ≠ b) ∧ ∀ p ∈ X.pn ++ pins, p.1 ≠ b)
    (keep : ∀ b o, b ≠ X.env.locals → b ∉ X.fs → b ∉ ch → s.heap.get? b = some o → H b = none → h'.get? b = some o)
    (slot : ∀ b o, b ≠ X.env.locals → b ∈ X.fs → b ∉ ch → s.heap.get? b = some o → H b = none → ∃ sl, h'.get? b = some { o with slots := sl }) (free : ∀ b o, b ∉ ch → s.heap.get? b = some o → H b = none → H' b = none)
    (there : ∀ b o, b ∉ ch → s.heap.get? b = some o → ∃ o', h'.get? b = some o')
    (tups : ∀ b xs, H b = some (.tup xs) → H' b = some (.tup xs)) (frzs : ∀ b o u, H b = some (.frz o u) → H' b = some (.frz o u)) (tbls : ∀ b ps, H b = some (.tbl ps) → ∃ more, H' b = some (.tbl (ps ++ more)))
    (ns : ∀ m, s.heap.Ns X.env.locals m → h'.Ns X.env.locals m) (hok : HOk X.prog X.w H' h') (hg : AllBare g') :
    Inv X pins σ H' { s with heap := h', gens := g', drawn := d', toks := t' } := by
  have neL : ∀ b o, X.s₀.heap.get? b = some o → b ≠ X.env.locals := fun b o e => Nat.ne_of_lt (Nat.lt_of_lt_of_le (Heap.lt_size e) I.ok.above)
  have neC : ∀ b o, X.s₀.heap.get? b = some o → b ∉ X.ex → b ∉ ch := fun b o e hx hb => by
    rcases (hch b hb).1 with z | z
    · exact hx z
    · exact absurd (Nat.lt_of_lt_of_le (Heap.lt_size e) z) (Nat.lt_irrefl _)
  have cellK : ∀ x c, X.env.cells.lookup x = some c → ∀ v, s.heap.IsCell c v → h'.IsCell c v := fun x c e v ⟨o, ho, hd⟩ => by
    have nch : c ∉ ch := fun z => (hch c z).2.2.1 x c e rfl
    by_cases hc : c ∈ X.fs
    · obtain ⟨sl, q⟩ := slot c o (I.cne x c e) hc nch ho (I.freeC x c e)
      exact ⟨_, q, hd⟩
    · exact ⟨o, keep c o (I.cne x c e) hc nch ho (I.freeC x c e), hd⟩
  refine ⟨I.ok, I.os, hg, ⟨fun b o e n hb hx => ?_, fun b o e n hb hx => ?_, fun b o e n hx => ?_, fun b o e hx => ?_, fun b xs e => tups b xs (I.base.tups b xs e), fun b o xs e => frzs b o xs (I.base.frzs b o xs e), fun b ps e => ?_⟩, ?_, fun x c e => ?_, ?_, fun x c e => ?_, fun p hp => ?_, hok, I.len⟩
  · exact keep b o (neL b o e) hb (neC b o e hx) (I.base.keep b o e n hb hx) (I.base.free b o e n hx)
  · obtain ⟨sl, e1⟩ := I.base.slot b o e n hb hx
    obtain ⟨sl', e2⟩ := slot b _ (neL b o e) hb (neC b o e hx) e1 (I.base.free b o e n hx)
    exact ⟨sl', e2⟩
  · obtain ⟨o', e1⟩ := I.base.there b o e hx
    exact free b o' (neC b o e hx) e1 (I.base.free b o e n hx)
  · obtain ⟨o', e1⟩ := I.base.there b o e hx
    exact there b o' (neC b o e hx) e1
  · obtain ⟨m1, e1⟩ := I.base.tbls b ps e
    obtain ⟨m2, e2⟩ := tbls b _ e1
    exact ⟨m1 ++ m2, by rw [e2, Array.append_assoc]⟩
  · obtain ⟨m, hn, hl⟩ := I.loc
    refine ⟨m, ns m hn, fun i x v e1 e2 e3 => ?_⟩
    obtain ⟨u, r, l⟩ := hl i x v e1 e2 e3
    refine ⟨u, r, ?_⟩
    rcases l with l | ⟨k, c, e, z⟩
    · exact .inl l
    · exact .inr ⟨k, c, e, cellK x c e _ z⟩
  · obtain ⟨v, z⟩ := I.cell x c e
    exact ⟨v, cellK x c e v z⟩
  · obtain ⟨m, ⟨o, _, _, ho, _⟩, _⟩ := I.loc
    exact free _ o (fun z => (hch _ z).2.1 rfl) ho I.free
  · obtain ⟨v, o, ho, hd⟩ := I.cell x c e
    exact free c o (fun z => (hch c z).2.2.1 x c e rfl) ho (I.freeC x c e)
  · obtain ⟨e, n, ne, nf, d⟩ := I.pin p hp
    have nch : p.1 ∉ ch := fun z => (hch p.1 z).2.2.2 p hp rfl
    exact ⟨keep p.1 p.2 ne nf nch e n, free p.1 p.2 nch e n, ne, nf, d⟩
theorem Inv.un {t' : Nat} (I : Inv X pins σ H s) (u : Un X.fs [] H H' s.heap h') (hok : HOk X.prog X.w H' h') : Inv X pins σ H' { s with heap := h', toks := t' } := by
  obtain ⟨m, ⟨o, es, ep, ho, r⟩, _⟩ := id I.loc
  obtain ⟨sl, hL⟩ := u.any ho I.free (by simp)
  exact I.step (g' := s.gens) (d' := s.drawn) (ch := []) (fun _ z => nomatch z) (fun b o _ hb _ e n => u.keep b o e n hb (by simp)) (fun b o _ hb _ e n => u.slot b o e n hb (by simp)) (fun b o _ e n => u.free b o e n (by simp)) (fun b o _ e => u.there b o e (by simp)) u.tups u.frzs u.tbls (fun m' hm => by
    obtain ⟨o', es', ep', ho', r'⟩ := hm
    rw [ho] at ho'; cases ho'
    exact ⟨_, es', ep', hL, r'⟩) hok I.bare
theorem Inv.call {g' : Array GenState} {t' : Nat} {d' : Drawn} {ch : List Addr} (I : Inv X pins σ H s) (u : Un (frs X.stack) ch H H' s.heap h') (hok : HOk X.prog X.w H' h') (hg : AllBare g')
    (hch : ∀ b ∈ ch, (b ∈ X.ex ∨ X.s₀.heap.objs.size ≤ b) ∧ b ≠ X.env.locals ∧ (∀ x c, X.env.cells.lookup x = some c → c ≠ b) ∧ ∀ p ∈ X.pn ++ pins, p.1 ≠ b) :
    Inv X pins σ H' { s with heap := h', gens := g', drawn := d', toks := t' } := by
  obtain ⟨m, ⟨o, es, ep, ho, r⟩, _⟩ := id I.loc
  obtain ⟨sl, hL⟩ := u.any ho I.free fun z => (hch _ z).2.1 rfl
  exact I.step (ch := ch) hch (fun b o hL hb hc e n => u.keep b o e n (fun z => (List.mem_cons.mp (I.stkSub b z)).elim hL hb) hc) (fun b o _ _ hc e n => u.any e n hc) (fun b o hc e n => u.free b o e n hc) (fun b o hc e => u.there b o e hc) u.tups u.frzs u.tbls (fun m' hm => by
    obtain ⟨o', es', ep', ho', r'⟩ := hm
    rw [ho] at ho'; cases ho'
    exact ⟨_, es', ep', hL, r'⟩) hok hg
theorem Inv.turned {t' : Nat} {it : Addr} (I : Inv X pins σ H s) (k : ∀ b o, b ≠ it → s.heap.get? b = some o → h'.get? b = some o) (hn : H it = none) (hL : it ≠ X.env.locals)
    (h1 : it ∈ X.ex ∨ X.s₀.heap.objs.size ≤ it) (h2 : ∀ x c, X.env.cells.lookup x = some c → c ≠ it) (h3 : ∀ p ∈ X.pn ++ pins, p.1 ≠ it) : Inv X pins σ H { s with heap := h', toks := t' } := by
  have nit : ∀ b u, H b = some u → b ≠ it := fun b u e z => by rw [z, hn] at e; cases e
  refine I.step (g' := s.gens) (d' := s.drawn) (ch := [it]) (fun b hb => ?_) (fun b o _ _ hc e _ => k b o (fun z => hc (by simp [z])) e) (fun b o _ _ hc e _ => ⟨o.slots, k b o (fun z => hc (by simp [z])) e⟩) (fun _ _ _ _ n => n)
    (fun b o hc e => ⟨o, k b o (fun z => hc (by simp [z])) e⟩) (fun _ _ e => e) (fun _ _ _ e => e) (fun b ps e => ⟨#[], by rw [e]; simp⟩) (fun m hm => ?_) (fun b u e => ?_) I.bare
  · have e : b = it := by simpa using hb
    subst e
    exact ⟨h1, hL, h2, h3⟩
  · obtain ⟨o, es, ep, ho, r⟩ := hm
    exact ⟨o, es, ep, k _ o (Ne.symm hL) ho, r⟩
  · refine (I.hok b u e).stay (fun c v hc q => k c v ?_ q) (fun _ q => q) fun _ _ q => q
    rcases hc with z | z
    · rw [z]; exact nit b u e
    · exact nit c _ z
theorem Inv.tok (I : Inv X pins σ H s) (t : Nat) : Inv X pins σ H { s with toks := t } := I.un (h' := s.heap) (t' := t) Un.refl I.hok
theorem Inv.kept {t' : Nat} (I : Inv X pins σ H s) (k : ∀ b u, s.heap.get? b = some u → h'.get? b = some u) : Inv X pins σ H { s with heap := h', toks := t' } := I.un (Un.kept k) (I.hok.kept k)
theorem Inv.laid {a : Addr} {o : HO} {t' : Nat} (I : Inv X pins σ H s) (k : ∀ b u, s.heap.get? b = some u → h'.get? b = some u) (hp : s.heap.objs.size ≤ a) (new : ObjOk X.prog X.w (upd H a o) h' a o) :
    Inv X pins σ (upd H a o) { s with heap := h', toks := t' } := I.un (Un.laid k hp (I.hok.fresh hp)) (I.hok.laid k hp new)
theorem Inv.write {x e : Addr} {o : HO} {t' : Nat} (I : Inv X pins σ H s) (mu : Mut (H x)) (he : e = x ∨ H e = some (.own x)) (k : ∀ b u, b ≠ e → s.heap.get? b = some u → h'.get? b = some u) (heo : ∃ u, h'.get? e = some u)
    (new : ObjOk X.prog X.w (upd H x o) h' x o) : Inv X pins σ (upd H x o) { s with heap := h', toks := t' } := I.un (Un.write mu he k heo) (I.hok.write mu he k heo new)
theorem Inv.weak {σ' : List (Option V)} (I : Inv X pins σ H s) (hl : σ'.length = σ.length) (w : ∀ (i : Nat) v, σ'[i]? = some (some v) → σ[i]? = some (some v)) : Inv X pins σ' H s :=
  ⟨I.ok, I.os, I.bare, I.base, let ⟨m, hn, hl'⟩ := I.loc; ⟨m, hn, fun i x v e1 e2 e3 => hl' i x v e1 (w i v e2) e3⟩, I.cell, I.free, I.freeC, I.pin, I.hok, hl.trans I.len⟩
theorem Inv.pins_of {pins' : List (Addr × Obj)} (I : Inv X pins σ H s) (h : ∀ p ∈ pins', s.heap.get? p.1 = some p.2 ∧ H p.1 = none ∧ p.1 ≠ X.env.locals ∧ p.1 ∉ X.fs ∧ ∀ v, p.2.data ≠ .cell v) : Inv X pins' σ H s :=
  ⟨I.ok, I.os, I.bare, I.base, I.loc, I.cell, I.free, I.freeC, fun p hp => (List.mem_append.mp hp).elim (fun z => I.pin p (List.mem_append_left _ z)) (h p), I.hok, I.len⟩
theorem nodup_ix {N : List Str} (hN : N.Nodup) {i j : Nat} {x : Str} (a : N[i]? = some x) (b : N[j]? = some x) : i = j := by
  obtain ⟨h1, e1⟩ := List.getElem?_eq_some_iff.mp a
  obtain ⟨h2, e2⟩ := List.getElem?_eq_some_iff.mp b
  exact (List.getElem_inj hN).mp (e1.trans e2.symm)
theorem store_ok2 {M : Model} {A : Around} {E : Value → Shared → Prop} {i : Nat} {x : Str} {v : V} {u : Value} {Q : Unit → Shared → Prop} (I : Inv X pins σ H s) (hN : X.N.Nodup) (hi : X.N[i]? = some x) (hx : Loc X.env.scope x) (r : RelV v u)
    (h : ∀ s', Inv X pins (σ.set i (some v)) H s' → (∃ a, Heap.SameBut a s.heap s'.heap ∧ (a = X.env.locals ∨ X.env.cells.lookup x = some a)) → Q () s') (hf : X.fn x = true ∨ X.env.scope.names.lookup x = some .local := by first | exact .inl rfl | exact .inr rfl | assumption) : wpAny M A (storeName X.env x u) Q E s := by
  obtain ⟨m, hn, hl⟩ := id I.loc
  have hcls : (X.env.scope.kind == .class || (X.env.scope.kind == .module && X.env.locals != X.env.globals)) = false := by rw [I.ok.kind]; rfl
  have hiσ : i < σ.length := by rw [I.len]; exact (List.getElem?_eq_some_iff.mp hi).1
  have cne := I.cne
  have tracked : ∀ {a : Addr} {h' : Heap}, (∃ o, s.heap.get? a = some o ∧ H a = none) → Heap.SameBut a s.heap h' → HOk X.prog X.w H h' := fun {a h'} ha hs b ob e => by
    obtain ⟨_, _, hfree⟩ := ha
    refine (I.hok b ob e).stay (fun c w' hc q => (hs.2 c ?_).trans q) (fun _ q => q) fun _ _ q => q
    rintro rfl
    rcases hc with rfl | hc
    · rw [hfree] at e; cases e
    · rw [hfree] at hc; cases hc
  rcases hx with hk | hk
  · refine wpAny_storeName_local hk hn (fun h' hn' hs => ?_) hcls
    obtain ⟨oL, _, _, hoL, _⟩ := id hn
    refine h _ ⟨I.ok, I.os, I.bare, ⟨fun b o e n hb hx => ?_, fun b o e n hb hx => ?_, I.base.free, fun b o e hx => ?_, I.base.tups, I.base.frzs, I.base.tbls⟩, ⟨_, hn', fun j y v' e1 e2 e3 => ?_⟩, fun y c e => ?_, I.free, I.freeC, fun p hp => ?_, tracked ⟨oL, hoL, I.free⟩ hs, by simpa using I.len⟩ ⟨_, hs, .inl rfl⟩
    · exact (hs.2 b (Nat.ne_of_lt (Nat.lt_of_lt_of_le (Heap.lt_size e) I.ok.above))).trans (I.base.keep b o e n hb hx)
    · obtain ⟨sl, e1⟩ := I.base.slot b o e n hb hx
      exact ⟨sl, (hs.2 b (Nat.ne_of_lt (Nat.lt_of_lt_of_le (Heap.lt_size e) I.ok.above))).trans e1⟩
    · obtain ⟨o', e1⟩ := I.base.there b o e hx
      exact ⟨o', (hs.2 b (Nat.ne_of_lt (Nat.lt_of_lt_of_le (Heap.lt_size e) I.ok.above))).trans e1⟩
    · by_cases hj : j = i
      · subst hj
        rw [hi] at e1; cases e1
        rw [List.getElem?_set_self hiσ] at e2
        cases e2
        exact ⟨u, r, .inl ⟨hk, by simp⟩⟩
      · rw [List.getElem?_set_ne (Ne.symm hj)] at e2
        obtain ⟨u', r', q⟩ := hl j y v' e1 e2 e3
        refine ⟨u', r', ?_⟩
        rcases q with ⟨k, e⟩ | ⟨k, c, e, z⟩
        · refine .inl ⟨k, ?_⟩
          have : y ≠ x := fun e => hj (nodup_ix hN e1 (e ▸ hi))
          simp [this, e]
        · exact .inr ⟨k, c, e, z.sameBut hs (cne y c e)⟩
    · obtain ⟨w', z⟩ := I.cell y c e
      exact ⟨w', z.sameBut hs (cne y c e)⟩
    · obtain ⟨e, n, ne, nf, d⟩ := I.pin p hp
      exact ⟨(hs.2 p.1 ne).trans e, n, ne, nf, d⟩
  · have hfn : X.fn x = true := by
      rcases hf with z | z
      · exact z
      · rw [z] at hk; cases hk
    obtain ⟨c, hc⟩ := I.ok.has x (.inl hk)
    obtain ⟨w', z⟩ := I.cell x c hc
    refine wpAny_storeName_cell I.ok.kind hk hc z (fun h' hc' hs => ?_)
    obtain ⟨oc, hoc, hocd⟩ := id z
    refine h { s with heap := h' } ⟨I.ok, I.os, I.bare, ⟨fun b o e n hb hx => ?_, fun b o e n hb hx => ?_, I.base.free, fun b o e hx => ?_, I.base.tups, I.base.frzs, I.base.tbls⟩, ⟨m, hn.sameBut hs (Ne.symm (cne x c hc)), fun j y v' e1 e2 e3 => ?_⟩, fun y c' e => ?_, I.free, I.freeC, fun p hp => ?_, tracked ⟨oc, hoc, I.freeC x c hc⟩ hs, by simpa using I.len⟩ ⟨c, hs, .inr hc⟩
    · exact (hs.2 b (Nat.ne_of_lt (Nat.lt_of_lt_of_le (Heap.lt_size e) (I.ok.cab x c hfn hc)))).trans (I.base.keep b o e n hb hx)
    · obtain ⟨sl, e1⟩ := I.base.slot b o e n hb hx
      exact ⟨sl, (hs.2 b (Nat.ne_of_lt (Nat.lt_of_lt_of_le (Heap.lt_size e) (I.ok.cab x c hfn hc)))).trans e1⟩
    · obtain ⟨o', e1⟩ := I.base.there b o e hx
      exact ⟨o', (hs.2 b (Nat.ne_of_lt (Nat.lt_of_lt_of_le (Heap.lt_size e) (I.ok.cab x c hfn hc)))).trans e1⟩
    · by_cases hj : j = i
      · subst hj
        rw [hi] at e1; cases e1
        rw [List.getElem?_set_self hiσ] at e2
        cases e2
        exact ⟨u, r, .inr ⟨.inl hk, c, hc, hc'⟩⟩
      · rw [List.getElem?_set_ne (Ne.symm hj)] at e2
        obtain ⟨u', r', q⟩ := hl j y v' e1 e2 e3
        refine ⟨u', r', ?_⟩
        rcases q with q | ⟨k, c', e, z'⟩
        · exact .inl q
        · refine .inr ⟨k, c', e, z'.sameBut hs ?_⟩
          rintro rfl
          exact hj (nodup_ix hN e1 (I.ok.inj _ _ _ e hc ▸ hi))
    · by_cases hcc : c' = c
      · subst hcc; exact ⟨_, hc'⟩
      · obtain ⟨w2, z2⟩ := I.cell y c' e
        exact ⟨w2, z2.sameBut hs hcc⟩
    · obtain ⟨e, n, ne, nf, d⟩ := I.pin p hp
      refine ⟨(hs.2 p.1 ?_).trans e, n, ne, nf, d⟩
      intro q
      rw [q, hoc] at e
      have q' : oc = p.2 := Option.some.inj e
      exact d w' (by rw [← q']; exact hocd)
theorem store_ok {M : Model} {A : Around} {E : Value → Shared → Prop} {i : Nat} {x : Str} {v : V} {u : Value} {Q : Unit → Shared → Prop} (I : Inv X pins σ H s) (hN : X.N.Nodup) (hi : X.N[i]? = some x) (hx : Loc X.env.scope x) (r : RelV v u)
    (h : ∀ s', Inv X pins (σ.set i (some v)) H s' → Q () s') (hf : X.fn x = true ∨ X.env.scope.names.lookup x = some .local := by first | exact .inl rfl | exact .inr rfl | assumption) : wpAny M A (storeName X.env x u) Q E s :=
  store_ok2 I hN hi hx r (fun s' I' _ => h s' I') hf
theorem Inv.call' {s' : Shared} {ch : List Addr} (I : Inv X pins σ H s) (ho : s'.os = s.os) (u : Un (frs X.stack) ch H H' s.heap s'.heap) (hok : HOk X.prog X.w H' s'.heap) (hg : AllBare s'.gens)
    (hch : ∀ b ∈ ch, (b ∈ X.ex ∨ X.s₀.heap.objs.size ≤ b) ∧ b ≠ X.env.locals ∧ (∀ x c, X.env.cells.lookup x = some c → c ≠ b) ∧ ∀ p ∈ X.pn ++ pins, p.1 ≠ b) : Inv X pins σ H' s' := by
  obtain ⟨h', g', d', t', o'⟩ := s'
  have e : o' = s.os := ho
  subst e
  exact I.call (g' := g') (t' := t') (d' := d') u hok hg hch
end
abbrev XK := Value → Option Addr → Hp → Prop
abbrev St := List (Option V)
abbrev VK := V → Hp → Prop
abbrev TE := St → Hp → VK → Prop
abbrev TT := St → Hp → (Bool → Hp → Prop) → Prop
abbrev TA := St → Hp → (List V → Hp → Prop) → Prop
structure Ends where
  nx : St → Hp → Prop
  rt : VK
  bk : St → Hp → Prop := fun _ _ => False
  ct : St → Hp → Prop := fun _ _ => False
abbrev TS := Ends → St → Hp → Prop
def EP (X : Cx) (pins : List (Addr × Obj)) (σ : St) (Q : VK) (u : Value) (s' : Shared) : Prop := ∃ v H', Inv X pins σ H' s' ∧ RelV v u ∧ Q v H'
def TP (X : Cx) (pins : List (Addr × Obj)) (σ : St) (Q : Bool → Hp → Prop) (b : Bool) (s' : Shared) : Prop := ∃ H', Inv X pins σ H' s' ∧ Q b H'
def AP (X : Cx) (pins : List (Addr × Obj)) (σ : St) (Q : List V → Hp → Prop) (us : List Value) (s' : Shared) : Prop := ∃ vs H', Inv X pins σ H' s' ∧ Vals vs us ∧ Q vs H'
def SP (X : Cx) (pins : List (Addr × Obj)) (D : Ends) (f : Flow) (s' : Shared) : Prop :=
  match f with
  | .next => ∃ σ' H', Inv X pins σ' H' s' ∧ D.nx σ' H'
  | .brk => ∃ σ' H', Inv X pins σ' H' s' ∧ D.bk σ' H'
  | .cont => ∃ σ' H', Inv X pins σ' H' s' ∧ D.ct σ' H'
  | .ret u => ∃ v σ' H', Inv X pins σ' H' s' ∧ RelV v u ∧ D.rt v H'
def PE (X : Cx) (e : Expr) (t : TE) : Prop :=
  ∀ (pins : List (Addr × Obj)) (s : Shared) (σ : St) (H : Hp) (Q : VK), Inv X pins σ H s → t σ H Q → wpAny (model X.prog X.w) X.A (eval e X.env) (EP X pins σ Q) X.xe s
def PT (X : Cx) (e : Expr) (t : TT) : Prop :=
  ∀ (pins : List (Addr × Obj)) (s : Shared) (σ : St) (H : Hp) (Q : Bool → Hp → Prop), Inv X pins σ H s → t σ H Q → wpAny (model X.prog X.w) X.A (isTrue e X.env (eval e X.env)) (TP X pins σ Q) X.xe s
def PW (X : Cx) (e : Expr) (t : TT) : Prop :=
  ∀ (whole : Sem Value) (pins : List (Addr × Obj)) (s : Shared) (σ : St) (H : Hp) (Q : Bool → Hp → Prop), Inv X pins σ H s → t σ H Q → wpAny (model X.prog X.w) X.A (isTrue e X.env whole) (TP X pins σ Q) X.xe s
theorem PW.pt {X : Cx} {e : Expr} {t : TT} (h : PW X e t) : PT X e t := h _
def PA (X : Cx) (es : List Expr) (t : TA) : Prop :=
  ∀ (pos : Pos) (pins : List (Addr × Obj)) (s : Shared) (σ : St) (H : Hp) (Q : List V → Hp → Prop), Inv X pins σ H s → t σ H Q → wpAny (model X.prog X.w) X.A (spliced (backTo pos (starEach es X.env))) (AP X pins σ Q) X.xe s
def PS (X : Cx) (st : Stmt) (t : TS) : Prop :=
  ∀ (pins : List (Addr × Obj)) (s : Shared) (σ : St) (H : Hp) (D : Ends), Inv X pins σ H s → t D σ H → wpAny (model X.prog X.w) X.A (exec st X.env) (SP X pins D) X.xe s
def PSs (X : Cx) (st : List Stmt) (t : TS) : Prop :=
  ∀ (pins : List (Addr × Obj)) (s : Shared) (σ : St) (H : Hp) (D : Ends), Inv X pins σ H s → t D σ H → wpAny (model X.prog X.w) X.A (execs st X.env) (SP X pins D) X.xe s
theorem thn {α : Type} {t : Sem α} {Q Q' : α → Shared → Prop} {M : Model} {A : Around} {E : Value → Shared → Prop} {s : Shared} (h : wpAny M A t Q E s) (hQ : ∀ a s, Q a s → Q' a s) : wpAny M A t Q' E s := wpAny_mono h hQ fun _ _ x => x
end L2
namespace L2
open PySem PySem.Spec PyProof.Rows
section
variable {X : Cx}
def tVar (i : Nat) : TE := fun σ H Q => ∃ v, σ[i]? = some (some v) ∧ Q v H
def tC (v : V) : TE := fun _ H Q => Q v H
theorem pe_var {i : Nat} {x : Str} {pos : Pos} (hN : X.N[i]? = some x) (hv : Vis X.env.scope x) (hd : (x == ("__debug__" : Str)) = false := by decide) (hcd : (x == ("__classdict__" : Str)) = false := by decide) : PE X (.Name x pos) (tVar i) := by
  intro pins s σ H Q I h
  obtain ⟨v, e, h⟩ := h
  obtain ⟨m, hn, hl⟩ := I.loc
  obtain ⟨u, r, l⟩ := hl i x v hN e hv
  have fin : EP X pins σ Q u s := ⟨v, H, I, r, h⟩
  rcases l with ⟨hk, hm⟩ | ⟨hk, c, hc, hcell⟩
  · exact wpAny_Name (wpAny_loadName_local I.ok.kind hk hn hm fin) hd
  · rcases hk with hk | hk
    · exact wpAny_Name (wpAny_loadName_cell I.ok.kind hk hc hcell fin) hd
    · exact wpAny_Name (wpAny_loadName_free I.ok.kind hk hc hcell fin hcd) hd
theorem pe_int {i j pos} : PE X (.Constant (.int i) j pos) (tC (.int i)) := fun _ _ _ H _ I h => wpAny_Constant_int ⟨.int i, H, I.tok _, ⟨_, rfl⟩, h⟩
def Gl (X : Cx) (x : Str) : Prop := X.env.kindOf x = some .globalImplicit
theorem ld_glob {E : Value → Shared → Prop} {pins : List (Addr × Obj)} {s : Shared} {σ : St} {H : Hp} {x : Str} {u : Value} {pos : Pos} {Q : Value → Shared → Prop} (I : Inv X pins σ H s) (hg : Gl X x) (hm : X.mg x = some u) (h : Q u s)
    (hd : (x == ("__debug__" : Str)) = false := by decide) : wpAny (model X.prog X.w) X.A (eval (.Name x pos) X.env) Q E s :=
  Calls.Name_function_global I.ok.kind hg (Calls.loadGlobal_global (by rw [I.ok.glob]; exact I.mod.glob.keeps I.bk) hm h) hd
theorem ld_blt {E : Value → Shared → Prop} {pins : List (Addr × Obj)} {s : Shared} {σ : St} {H : Hp} {x : Str} {u : Value} {pos : Pos} {Q : Value → Shared → Prop} (I : Inv X pins σ H s) (hg : Gl X x) (hm : X.mg x = none) (hv : bootBuiltins x = some u) (h : Q u s)
    (hn : x ≠ "__name__" := by decide) (hd : (x == ("__debug__" : Str)) = false := by decide) : wpAny (model X.prog X.w) X.A (eval (.Name x pos) X.env) Q E s := by
  obtain ⟨mb, h1, h2⟩ := I.mod.blt
  exact Calls.Name_function_global I.ok.kind hg (Calls.loadGlobal_builtin (by rw [I.ok.glob]; exact I.mod.glob.keeps I.bk) hm (by rw [I.ok.blt]; exact h1.keeps I.bk) ((h2 x hn).trans hv) h) hd
theorem pe_glob {x : Str} {v : V} {u : Value} {pos : Pos} (hg : Gl X x) (hm : X.mg x = some u) (r : RelV v u) (hd : (x == ("__debug__" : Str)) = false := by decide) : PE X (.Name x pos) (tC v) :=
  fun _ _ _ H _ I h => ld_glob I hg hm ⟨v, H, I, r, h⟩ hd
variable {a b : Expr} {ta tb : TE} {pos : Pos}
def tB (t : TE) : TT := fun σ H Q => t σ H fun x H1 => ∃ c, x = .bl c ∧ Q c H1
theorem pt_val {e : Expr} {t : TE} (h : PE X e t) (he : ∀ whole, isTrue e X.env whole = (do let v ← whole; standAt e.pos; holding [v] (truthy v)) := by intro _; rfl) : PT X e (tB t) := by
  intro pins s σ H Q I hw
  refine isTrue_plain (thn (h pins s σ H _ I hw) fun v s1 ⟨x, H1, I1, r1, q1⟩ => ?_) (he _)
  obtain ⟨d, rfl, q⟩ := q1
  cases r1
  exact wpAny_truthy_bool ⟨H1, I1, q⟩
variable {tA tB' : TT} {rest : List Expr}
def tAnd (t u : TT) : TT := fun σ H Q => t σ H fun c H1 => if c = true then u σ H1 Q else Q false H1
def tNot (t : TT) : TT := fun σ H Q => t σ H fun c H1 => Q (!c) H1
theorem pw_and1 (ha : PT X a tA) : PW X (.BoolOp .And [a] pos) tA := by
  intro wh pins s σ H Q I h
  refine isTrue_and (thn (ha pins s σ H Q I h) fun c s1 e => ?_)
  cases c with
  | true => exact isTrue_and_nil e
  | false => exact e
theorem pw_and (ha : PT X a tA) (hb : PW X (.BoolOp .And (b :: rest) pos) tB') : PW X (.BoolOp .And (a :: b :: rest) pos) (tAnd tA tB') := by
  intro wh pins s σ H Q I h
  refine isTrue_and (thn (ha pins s σ H _ I h) fun c s1 ⟨H1, I1, q1⟩ => ?_)
  cases c with
  | true => exact hb wh pins s1 σ H1 Q I1 q1
  | false => exact ⟨H1, I1, q1⟩
theorem pt_not (ha : PT X a tA) : PT X (.UnaryOp .Not a pos) (tNot tA) := by
  intro pins s σ H Q I h
  exact isTrue_not (ha pins s σ H (fun c H1 => Q (!c) H1) I h)
end
end L2
namespace L2
open PySem PySem.Spec PyProof.Rows
def SqL (K : PySem.W.Frag) (H : Hp) (a : Addr) (xs : List V) : Prop :=
  Rd H a (.lst xs) ∨
    ∃ (o : Obj) (its : Array Value) (n : Nat), K.lookup a = some o ∧ o.cls = .type "list" ∧ o.dict = none ∧ o.data = .seq its n ∧ its.size ≤ sizeLine ∧ Vals xs its.toList
def SqT (K : PySem.W.Frag) (H : Hp) (a : Addr) (xs : List V) : Prop :=
  Rd H a (.tup xs) ∨
    ∃ (o : Obj) (its : Array Value) (n : Nat), K.lookup a = some o ∧ o.cls = .type "tuple" ∧ o.data = .seq its n ∧ its.size ≤ sizeLine ∧ Vals xs its.toList
def absV : Value → Option V
  | .none => some .non
  | .bool b => some (.bl b)
  | .int i _ => some (.int i)
  | .str x _ => some (.str x)
  | .bytes b _ => some (.byt b)
  | .float b _ => some (.flt b)
  | .ref a => some (.ref a)
  | .type n => some (.ty n)
  | _ => none
theorem RelV.abs {x : V} {u : Value} (r : RelV x u) : absV u = some x := by
  cases x with
  | non => cases r; rfl
  | bl _ => cases r; rfl
  | int _ => obtain ⟨t, rfl⟩ := r; rfl
  | str _ => obtain ⟨t, rfl⟩ := r; rfl
  | byt _ => obtain ⟨t, rfl⟩ := r; rfl
  | flt _ => obtain ⟨t, rfl⟩ := r; rfl
  | ref _ => cases r; rfl
  | ty _ => cases r; rfl
theorem RelV.inj {x y : V} {u : Value} (r : RelV x u) (q : RelV y u) : x = y := Option.some.inj (r.abs.symm.trans q.abs)
theorem Vals.inj : ∀ {xs ys : List V} {us : List Value}, Vals xs us → Vals ys us → xs = ys
  | _, _, _, .nil, .nil => rfl
  | _, _, _, .cons r t, .cons r' t' => by rw [r.inj r', Vals.inj t t']
section
variable {X : Cx} {pins : List (Addr × Obj)} {σ : St} {H : Hp} {s : Shared} {a : Addr} {xs ys : List V}
theorem SqL.of {K : PySem.W.Frag} (h : H a = some (.lst xs)) : SqL K H a xs := .inl (.inl h)
theorem SqT.of {K : PySem.W.Frag} (h : H a = some (.tup xs)) : SqT K H a xs := .inl (.inl h)
theorem Inv.list (I : Inv X pins σ H s) (h : SqL X.K H a xs) : ∃ its : List Value, Vals xs its ∧ PlainL s.heap a its.toArray ∧ xs.length ≤ sizeLine := by
  rcases h with h | ⟨o, its, n, hk, hc, hd, hs, hz, r⟩
  · obtain ⟨z, its, n, r, e⟩ := h.ok I.hok
    exact ⟨its, r, ⟨_, n, e, rfl, rfl, rfl⟩, z⟩
  · refine ⟨its.toList, r, ⟨o, n, I.kIn a o hk, hc, hd, by simpa using hs⟩, ?_⟩
    have e := r.length
    simp only [Array.length_toList] at e
    omega
theorem Inv.tuple (I : Inv X pins σ H s) (h : SqT X.K H a xs) : ∃ its : List Value, Vals xs its ∧ IsTup s.heap a its.toArray ∧ xs.length ≤ sizeLine := by
  rcases h with h | ⟨o, its, n, hk, hc, hs, hz, r⟩
  · obtain ⟨z, its, r, p⟩ := h.ok I.hok
    exact ⟨its, r, p, z⟩
  · refine ⟨its.toList, r, ⟨o, I.kIn a o hk, hc, n, by simpa using hs⟩, ?_⟩
    have e := r.length
    simp only [Array.length_toList] at e
    omega
theorem Inv.list_inj (I : Inv X pins σ H s) (h : SqL X.K H a xs) (h' : SqL X.K H a ys) : xs = ys := by
  obtain ⟨its, r, ⟨o, n, e, _, _, d⟩, _⟩ := I.list h
  obtain ⟨its', r', ⟨o', n', e', _, _, d'⟩, _⟩ := I.list h'
  rw [e] at e'; cases e'
  rw [d] at d'
  injection d' with d1 _
  have : its = its' := by simpa using congrArg Array.toList d1
  subst this
  exact r.inj r'
theorem Inv.tuple_inj (I : Inv X pins σ H s) (h : SqT X.K H a xs) (h' : SqT X.K H a ys) : xs = ys := by
  obtain ⟨its, r, ⟨o, e, _, n, d⟩, _⟩ := I.tuple h
  obtain ⟨its', r', ⟨o', e', _, n', d'⟩, _⟩ := I.tuple h'
  rw [e] at e'; cases e'
  rw [d] at d'
  injection d' with d1 _
  have : its = its' := by simpa using congrArg Array.toList d1
  subst this
  exact r.inj r'
end
abbrev Cx.wish (X : Cx) (E : Value → Shared → Prop) : Cx := { X with xe := E }
abbrev Cx.nox (X : Cx) : Cx := X.wish fun _ _ => False
theorem Cx.Ok.wish {X : Cx} (ok : X.Ok) (E : Value → Shared → Prop) : (X.wish E).Ok :=
  ⟨ok.mod, ok.kind, ok.glob, ok.blt, ok.above, ok.inj, ok.has, ok.cab, ok.hd, ok.frames, ok.stk, ok.exf, ok.bs, ok.bsz, ok.noex, ok.exfs, ok.funs, ok.frf⟩
theorem Cx.Ok.unwish {X : Cx} {E : Value → Shared → Prop} (ok : (X.wish E).Ok) : X.Ok :=
  ⟨ok.mod, ok.kind, ok.glob, ok.blt, ok.above, ok.inj, ok.has, ok.cab, ok.hd, ok.frames, ok.stk, ok.exf, ok.bs, ok.bsz, ok.noex, ok.exfs, ok.funs, ok.frf⟩
section
variable {X : Cx} {pins : List (Addr × Obj)} {σ : St} {H : Hp} {s : Shared} {E : Value → Shared → Prop}
theorem Inv.wish (I : Inv X pins σ H s) (E : Value → Shared → Prop) : Inv (X.wish E) pins σ H s := ⟨I.ok.wish E, I.os, I.bare, I.base, I.loc, I.cell, I.free, I.freeC, I.pin, I.hok, I.len⟩
theorem Inv.unwish (I : Inv (X.wish E) pins σ H s) : Inv X pins σ H s := ⟨I.ok.unwish, I.os, I.bare, I.base, I.loc, I.cell, I.free, I.freeC, I.pin, I.hok, I.len⟩
theorem SP.unwish {D : Ends} {f : Flow} {s' : Shared} (h : SP (X.wish E) pins D f s') : SP X pins D f s' := by
  cases f with
  | next => obtain ⟨σ', H', I, q⟩ := h; exact ⟨σ', H', I.unwish, q⟩
  | brk => obtain ⟨σ', H', I, q⟩ := h; exact ⟨σ', H', I.unwish, q⟩
  | cont => obtain ⟨σ', H', I, q⟩ := h; exact ⟨σ', H', I.unwish, q⟩
  | ret u => obtain ⟨v, σ', H', I, r, q⟩ := h; exact ⟨v, σ', H', I.unwish, r, q⟩
theorem PSs.nox {st : List Stmt} {t : TS} (h : PSs X.nox st t) : PSs X st t := fun pins s σ H D I hw =>
  wpAny_mono (h pins s σ H D (I.wish _) hw) (fun _ _ q => q.unwish) fun _ _ z => False.elim z
end
section
variable {X : Cx} {st : Stmt} {rest : List Stmt} {t u : TS} {e : Expr} {te : TE} {pos : Pos}
def tNext : TS := fun D σ H => D.nx σ H
def tSeq (t u : TS) : TS := fun D σ H => t { D with nx := u D } σ H
theorem pss_nil : PSs X [] tNext := fun _ _ σ H _ I h => wpAny_execs_nil ⟨σ, H, I, h⟩
theorem pss_cons (h1 : PS X st t) (h2 : PSs X rest u) : PSs X (st :: rest) (tSeq t u) := by
  intro pins s σ H D I h
  refine wpAny_execs_cons (thn (h1 pins s σ H { D with nx := u D } I h) fun f s1 q => ?_)
  cases f with
  | next =>
    obtain ⟨σ', H', I', q⟩ := q
    exact h2 pins s1 σ' H' D I' q
  | ret v => exact q
  | brk => exact q
  | cont => exact q
theorem pss_one (h1 : PS X st t) : PSs X [st] t := by
  intro pins s σ H D I h
  refine wpAny_execs_cons (thn (h1 pins s σ H D I h) fun f s1 q => ?_)
  cases f with
  | next => exact wpAny_execs_nil q
  | ret v => exact q
  | brk => exact q
  | cont => exact q
theorem Inv.quiet {pins : List (Addr × Obj)} {σ : St} {H : Hp} {s : Shared} (I : Inv X pins σ H s) : interactive X.env = false := by simp [interactive, I.ok.kind]
def tDrop (te : TE) : TS := fun D σ H => te σ H fun _ H1 => D.nx σ H1
theorem ps_expr (he : PE X e te) (hs : swapsWith e none pos.line X.env = pure false := by rfl) : PS X (.Expr e pos) (tDrop te) := by
  intro pins s σ H D I h
  exact wpAny_Expr_any (thn (he pins s σ H _ I h) fun v s1 ⟨x, H1, I1, r1, q1⟩ => ⟨σ, H1, I1, q1⟩) I.quiet hs
def tRet (te : TE) : TS := fun D σ H => te σ H D.rt
theorem ps_ret (he : PE X e te) : PS X (.Return (some e) pos) (tRet te) := by
  intro pins s σ H D I h
  exact wpAny_Return_some (thn (he pins s σ H _ I h) fun v s1 ⟨x, H1, I1, r1, q1⟩ => ⟨x, σ, H1, I1, r1, q1⟩)
def tIfS (c : TT) (t u : TS) : TS := fun D σ H => c σ H fun b H1 => if b = true then t D σ H1 else u D σ H1
theorem ps_if {c : Expr} {a b : List Stmt} {tc : TT} (hc : PT X c tc) (ha : PSs X a t) (hb : PSs X b u) : PS X (.If c a b pos) (tIfS tc t u) := by
  intro pins s σ H D I h
  refine wpAny_If (thn (hc pins s σ H _ I h) fun d s1 ⟨H1, I1, q1⟩ => ?_)
  cases d with
  | true => exact ha pins s1 σ H1 D I1 q1
  | false => exact hb pins s1 σ H1 D I1 q1
end
abbrev TG := V → St → Hp → (St → Hp → Prop) → Prop
abbrev TGs := List V → St → Hp → (St → Hp → Prop) → Prop
def PG (X : Cx) (target : Expr) (t : TG) : Prop :=
  ∀ (pins : List (Addr × Obj)) (s : Shared) (σ : St) (H : Hp) (v : V) (u : Value) (Q : St → Hp → Prop), Inv X pins σ H s → RelV v u → t v σ H Q →
    wpAny (model X.prog X.w) X.A (assign target X.env u) (fun _ s' => ∃ σ' H', Inv X pins σ' H' s' ∧ Q σ' H') X.xe s
def PGs (X : Cx) (ts : List Expr) (t : TGs) : Prop :=
  ∀ (pins : List (Addr × Obj)) (s : Shared) (σ : St) (H : Hp) (vs : List V) (us : List Value) (Q : St → Hp → Prop), Inv X pins σ H s → Vals vs us → t vs σ H Q →
    wpAny (model X.prog X.w) X.A (assignInOrder ((assignEach ts X.env).map (·.2)) us) (fun _ s' => ∃ σ' H', Inv X pins σ' H' s' ∧ Q σ' H') X.xe s
abbrev TSet := V → V → V → Hp → (Hp → Prop) → Prop
def PSet (X : Cx) (t : TSet) : Prop :=
  ∀ (pins : List (Addr × Obj)) (s : Shared) (σ : St) (H : Hp) (o i v : V) (ov iv u : Value) (Q : Hp → Prop), Inv X pins σ H s → RelV o ov → RelV i iv → RelV v u → t o i v H Q →
    wpAny (model X.prog X.w) X.A (setItem ov iv u) (fun _ s' => ∃ H', Inv X pins σ H' s' ∧ Q H') X.xe s
abbrev TIp := V → V → Hp → VK → Prop
def PIp (X : Cx) (op : Operator) (t : TIp) : Prop :=
  ∀ (pins : List (Addr × Obj)) (s : Shared) (σ : St) (H : Hp) (x y : V) (v u : Value) (Q : VK), Inv X pins σ H s → RelV x v → RelV y u → t x y H Q →
    wpAny (model X.prog X.w) X.A (inplaceOp op v u) (EP X pins σ Q) X.xe s
section
variable {X : Cx} {pos : Pos}
def gName (i : Nat) : TG := fun v σ H Q => Q (σ.set i (some v)) H
theorem pg_name {i : Nat} {x : Str} (hN : X.N.Nodup) (hi : X.N[i]? = some x) (hx : Loc X.env.scope x) (hf : X.fn x = true ∨ X.env.scope.names.lookup x = some .local := by first | exact .inl rfl | exact .inr rfl | assumption) : PG X (.Name x pos) (gName i) := by
  intro pins s σ H v u Q I r h
  exact wpAny_assign_Name (store_ok I hN hi hx r (fun s' I' => ⟨_, H, I', h⟩) hf)
def gNil : TGs := fun vs σ H Q => vs = [] ∧ Q σ H
def gCons (t : TG) (u : TGs) : TGs := fun vs σ H Q => ∃ v r, vs = v :: r ∧ t v σ H fun σ' H' => u r σ' H' Q
theorem pgs_nil : PGs X [] gNil := by
  intro pins s σ H vs us Q I r h
  obtain ⟨e, h⟩ := h
  subst e
  cases r
  exact assignInOrder_nil ⟨σ, H, I, h⟩
theorem pgs_cons {e : Expr} {es : List Expr} {t : TG} {u : TGs} (h1 : PG X e t) (h2 : PGs X es u)
    (hs : (assignEach (e :: es) X.env).map (·.2) = assign e X.env :: (assignEach es X.env).map (·.2) := by rfl) : PGs X (e :: es) (gCons t u) := by
  intro pins s σ H vs us Q I r h
  obtain ⟨v, vr, e1, h⟩ := h
  subst e1
  cases r with
  | cons r rr =>
    rw [hs]
    refine assignInOrder_cons (thn (h1 pins s σ H _ _ _ I r h) fun _ s1 ⟨σ1, H1, I1, q1⟩ => ?_)
    exact h2 pins s1 σ1 H1 _ _ Q I1 rr q1
def gTup (K : PySem.W.Frag) (n : Nat) (t : TGs) : TG := fun v σ H Q => ∃ a xs, v = .ref a ∧ SqT K H a xs ∧ xs.length = n ∧ t xs σ H Q
theorem pg_tup {es : List Expr} {k : Nat} {t : TGs} {n : Nat} (hc : X.calm = true) (h : PGs X es t)
    (hn : (assignEach es X.env).length = n := by rfl) (hst : (assignEach es X.env).findIdx? (·.1) = none := by rfl) : PG X (.Tuple es k pos) (gTup X.K n t) := by
  intro pins s σ H v u Q I r hw
  obtain ⟨a, xs, e1, hq, hl, hw⟩ := hw
  subst e1
  cases r
  obtain ⟨its, rv, ht, hz⟩ := I.tuple hq
  refine assign_Tuple_tuple (I.ok.hd hc) ht (by simp [hn, ← hl, rv.length]) hst fun h' hx => ?_
  have I1 : Inv X pins σ H { s with heap := h' } := I.kept (t' := s.toks) fun b o e => hx b o (Nat.ne_of_lt (Heap.lt_size e)) e
  exact h pins _ σ H xs _ Q I1 (by simpa using rv) hw
def gSub (to ti : TE) (t : TSet) : TG := fun v σ H Q => to σ H fun o H1 => ti σ H1 fun i H2 => t o i v H2 fun H3 => Q σ H3
theorem pg_sub {o i : Expr} {to ti : TE} {t : TSet} (ho : PE X o to) (hi : PE X i ti) (hs : PSet X t)
    (ha : ∀ v, assign (.Subscript o i pos) X.env v = (do
      let ov ← holding [v] (eval o X.env)
      let iv ← holding [v, ov] (eval i X.env)
      standAt pos
      holding [v, ov, iv] (setItem ov iv v)
      release [v, ov, iv] []) := by intro _; rfl) : PG X (.Subscript o i pos) (gSub to ti t) := by
  intro pins s σ H v u Q I r h
  rw [ha]
  refine wpAny_bind (wpAny_holding (thn (ho pins s σ H _ I h) fun ov s1 ⟨x, H1, I1, r1, q1⟩ => ?_))
  refine wpAny_bind (wpAny_holding (thn (hi pins s1 σ H1 _ I1 q1) fun iv s2 ⟨y, H2, I2, r2, q2⟩ => ?_))
  refine wpAny_bind (wpAny_standAt (wpAny_bind (wpAny_holding (thn (hs pins s2 σ H2 x y v ov iv u _ I2 r1 r2 r q2) fun _ s3 ⟨H3, I3, q3⟩ => ?_))))
  exact wpAny_release ⟨σ, H3, I3, q3⟩
def tAsg (te : TE) (g : TG) : TS := fun D σ H => te σ H fun x H1 => g x σ H1 D.nx
theorem ps_asg {tg e : Expr} {te : TE} {g : TG} (he : PE X e te) (hg : PG X tg g) (hs : swapsWithSole [tg] e pos.line X.env = pure false := by rfl) (hw : swappedStores [tg] e X.env = pure none := by rfl)
    (h1 : (assignEach [tg] X.env).map (·.2) = [assign tg X.env] := by rfl) : PS X (.Assign [tg] e pos) (tAsg te g) := by
  intro pins s σ H D I h
  refine wpAny_Assign_stores (thn (he pins s σ H _ I h) fun v s1 ⟨x, H1, I1, r1, q1⟩ => ?_) hs hw
  rw [h1]
  exact thn (hg pins s1 σ H1 x v _ I1 r1 q1) fun _ s2 q => q
theorem ps_set {i : Nat} {x : Str} {e : Expr} {te : TE} {pos' : Pos} (hN : X.N.Nodup) (hi : X.N[i]? = some x) (hx : Loc X.env.scope x) (he : PE X e te) (hs : swapsWith e (some (.Name x pos')) pos.line X.env = pure false := by rfl) (hf : X.fn x = true ∨ X.env.scope.names.lookup x = some .local := by first | exact .inl rfl | exact .inr rfl | assumption) :
    PS X (.Assign [.Name x pos'] e pos) (tAsg te (gName i)) := by
  intro pins s σ H D I h
  refine wpAny_Assign_Name (thn (he pins s σ H _ I h) fun v s1 ⟨y, H1, I1, r1, q1⟩ => ?_) hs
  exact store_ok I1 hN hi hx r1 (fun s2 I2 => ⟨_, H1, I2, q1⟩) hf
def tAug (i : Nat) (te : TE) (ti : TIp) : TS := fun D σ H => ∃ x, σ[i]? = some (some x) ∧ te σ H fun y H1 => ti x y H1 fun z H2 => D.nx (σ.set i (some z)) H2
theorem ps_aug {i : Nat} {x : Str} {e : Expr} {te : TE} {op : Operator} {ti : TIp} {pos' : Pos} (hN : X.N.Nodup) (hi : X.N[i]? = some x) (hx : Loc X.env.scope x) (he : PE X e te) (ho : PIp X op ti) (hf : X.fn x = true ∨ X.env.scope.names.lookup x = some .local := by first | exact .inl rfl | exact .inr rfl | assumption) :
    PS X (.AugAssign (.Name x pos') op e pos) (tAug i te ti) := by
  intro pins s σ H D I h
  obtain ⟨v, e1, h⟩ := h
  obtain ⟨m, hn, hl⟩ := I.loc
  have vis : Vis X.env.scope x := by rcases hx with k | k; exact .inl k; exact .inr (.inl k)
  obtain ⟨u, r, l⟩ := hl i x v hi e1 vis
  refine wpAny_AugAssign_Name ?_
  have go : wpAny (model X.prog X.w) X.A (eval e X.env) (fun w s₂ => wpAny (model X.prog X.w) X.A (inplaceOp op u w) (fun r s₃ => wpAny (model X.prog X.w) X.A (storeName X.env x r) (fun _ => SP X pins D .next) X.xe s₃) X.xe s₂) X.xe s := by
    refine thn (he pins s σ H _ I h) fun w s1 ⟨y, H1, I1, r1, q1⟩ => ?_
    refine thn (ho pins s1 σ H1 v y u w _ I1 r r1 q1) fun z s2 ⟨zv, H2, I2, r2, q2⟩ => ?_
    exact store_ok I2 hN hi hx r2 (fun s3 I3 => ⟨_, H2, I3, q2⟩) hf
  rcases l with ⟨hk, hm⟩ | ⟨hk, c, hc, hcell⟩
  · exact wpAny_loadName_local I.ok.kind hk hn hm go
  · rcases hk with hk | hk
    · exact wpAny_loadName_cell I.ok.kind hk hc hcell go
    · rcases hx with k | k
      · have : X.env.scope.names.lookup x = some .free := hk
        rw [k] at this; cases this
      · have : X.env.scope.names.lookup x = some .free := hk
        rw [k] at this; cases this
def ipI (f : Int → Int → Int) : TIp := fun x y H Q => ∃ i j, x = .int i ∧ y = .int j ∧ Q (.int (f i j)) H
theorem ip_add : PIp X .Add (ipI fun i j => i + j) := by
  intro pins s σ H x y v u Q I r1 r2 h
  obtain ⟨i, j, e1, e2, q⟩ := h
  subst e1; subst e2
  obtain ⟨t, rfl⟩ := r1
  obtain ⟨t', rfl⟩ := r2
  exact iadd_int ⟨.int _, H, I.tok _, ⟨_, rfl⟩, q⟩
theorem ip_sub : PIp X .Sub (ipI fun i j => i - j) := by
  intro pins s σ H x y v u Q I r1 r2 h
  obtain ⟨i, j, e1, e2, q⟩ := h
  subst e1; subst e2
  obtain ⟨t, rfl⟩ := r1
  obtain ⟨t', rfl⟩ := r2
  exact isub_int ⟨.int _, H, I.tok _, ⟨_, rfl⟩, q⟩
end
section
variable {X : Cx} {pos : Pos}
def tWhile (c : TT) (tb : TS) : TS := fun D σ H => ∃ W : Nat → St → Hp → Prop, (∃ m, W m σ H) ∧ ∀ m σ H, W m σ H →
  c σ H fun b H1 => if b = true then ∃ N : St → Hp → Prop, (∀ σ' H', N σ' H' → ∃ m', m' < m ∧ W m' σ' H') ∧ tb { D with nx := N, ct := N, bk := D.nx } σ H1 else D.nx σ H1
theorem ps_while {c : Expr} {body : List Stmt} {tc : TT} {tb : TS} (hp : PassesOwn (model X.prog X.w) X.A X.env X.xe) (hc : PT X c tc) (hb : PSs X body tb) : PS X (.While c body [] pos) (tWhile tc tb) := by
  intro pins s σ H D I h
  obtain ⟨W, ⟨m0, w0⟩, turn⟩ := h
  refine wpAny_While (codeAny_whileLoop (fun n s' => ∃ σ' H', Inv X pins σ' H' s' ∧ W n σ' H') ?_ m0 ⟨σ, H, I, w0⟩)
  rintro n s1 ⟨σ1, H1, I1, w1⟩
  refine wpAny_passesOwn hp (thn (hc pins s1 σ1 H1 _ I1 (turn n σ1 H1 w1)) fun b s2 ⟨H2, I2, q2⟩ => ?_)
  cases b with
  | true =>
    obtain ⟨N, hN, q2⟩ := q2
    rw [if_pos rfl]
    refine wpAny_passesOwn hp (thn (hb pins s2 σ1 H2 _ I2 q2) fun f s3 q3 => ?_)
    cases f with
    | next =>
      obtain ⟨σ3, H3, I3, n3⟩ := q3
      obtain ⟨m', hm, w3⟩ := hN σ3 H3 n3
      exact ⟨m', hm, σ3, H3, I3, w3⟩
    | cont =>
      obtain ⟨σ3, H3, I3, n3⟩ := q3
      obtain ⟨m', hm, w3⟩ := hN σ3 H3 n3
      exact ⟨m', hm, σ3, H3, I3, w3⟩
    | brk => exact q3
    | ret v => exact q3
  | false =>
    rw [if_neg Bool.false_ne_true]
    exact wpAny_execs_nil ⟨σ1, H2, I2, q2⟩
end
structure It where
  go : Nat → Hp → Prop
  yld : Nat → Hp → V → Hp → Prop
  stop : Nat → Hp → Prop
def FpOk (X : Cx) (pins : List (Addr × Obj)) (H : Hp) (b : Addr) : Prop :=
  H b = none ∧ b ≠ X.env.locals ∧ b ∉ X.fs ∧ (b ∈ X.ex ∨ X.s₀.heap.objs.size ≤ b) ∧ (∀ x c, X.env.cells.lookup x = some c → c ≠ b) ∧ ∀ p ∈ X.pn ++ pins, p.1 ≠ b
theorem Inv.fpOk {X : Cx} {pins : List (Addr × Obj)} {σ : St} {H H' : Hp} {s : Shared} {b : Addr} (I : Inv X pins σ H s) (hb : s.heap.objs.size ≤ b) (hn : H' b = none) : FpOk X pins H' b := by
  refine ⟨hn, Nat.ne_of_gt (Nat.lt_of_lt_of_le I.lt hb), I.nofs hb, .inr (Nat.le_trans I.sz hb), fun x c e z => ?_, fun p hp z => ?_⟩
  · obtain ⟨v, q⟩ := I.cell x c e
    exact absurd (Nat.lt_of_lt_of_le q.lt (by rw [z]; exact hb)) (Nat.lt_irrefl _)
  · exact absurd (Nat.lt_of_lt_of_le (Heap.lt_size (I.pin p hp).1) (by rw [z]; exact hb)) (Nat.lt_irrefl _)
structure Turn (P : Program) (w : World) (K : PySem.W.Frag) (tg : Expr) (J : It) (fp : List Addr) (it : Addr) (tn : Nat → Heap → Prop) : Prop where
  mem : it ∈ fp
  obj : ∀ i h, tn i h → ∀ b ∈ fp, ∃ o, h.get? b = some o ∧ ∀ v, o.data ≠ .cell v
  keep : ∀ i h h', tn i h → (∀ b ∈ fp, ∀ o, h.get? b = some o → h'.get? b = some o) → tn i h'
  item : ∀ (X : Cx), X.prog = P → X.w = w → X.K = K → X.calm = true → ∀ (i : Nat) (pins : List (Addr × Obj)) (s : Shared) (σ : St) (H : Hp) (E : Value → Shared → Prop), Inv X pins σ H s → (∀ b ∈ fp, FpOk X pins H b) → tn i s.heap → J.go i H →
    wpAny (model P w) X.A (pyNext (.ref it)) (fun r s1 => ∃ u, r = some u ∧
      wpAny (model P w) X.A (letOwnedTupleGo tg (.ref it) u) (fun _ s2 => ∃ x H', Inv X pins σ H' s2 ∧ RelV x u ∧ J.yld i H x H' ∧ tn (i + 1) s2.heap ∧ ∀ b ∈ fp, H' b = none) E s1) E s
  done : ∀ (X : Cx), X.prog = P → X.w = w → X.K = K → X.calm = true → ∀ (i : Nat) (pins : List (Addr × Obj)) (s : Shared) (σ : St) (H : Hp) (E : Value → Shared → Prop), Inv X pins σ H s → (∀ b ∈ fp, FpOk X pins H b) → tn i s.heap → J.stop i H →
    wpAny (model P w) X.A (pyNext (.ref it)) (fun r s1 => r = none ∧ Inv X pins σ H s1) E s
  self : ∀ (A : Around) (i : Nat) (s : Shared) (Q : Value → Shared → Prop) (E : Value → Shared → Prop), tn i s.heap → Q (.ref it) s → wpAny (model P w) A (pyIter (.ref it)) Q E s
abbrev TI := St → Hp → (It → Hp → Prop) → Prop
def PIE (X : Cx) (pins : List (Addr × Obj)) (σ : St) (tg : Expr) (R : It → Hp → Prop) (itv : Value) (s2 : Shared) : Prop :=
  ∃ (it : Addr) (fp : List Addr) (tn : Nat → Heap → Prop) (J : It) (H' : Hp), itv = .ref it ∧ Inv X pins σ H' s2 ∧ Turn X.prog X.w X.K tg J fp it tn ∧ tn 0 s2.heap ∧ (∀ b ∈ fp, FpOk X pins H' b) ∧ R J H'
def PI (X : Cx) (tg iter : Expr) (wi : TI) : Prop :=
  ∀ (pins : List (Addr × Obj)) (s : Shared) (σ : St) (H : Hp) (R : It → Hp → Prop), Inv X pins σ H s → wi σ H R →
    wpAny (model X.prog X.w) X.A (eval iter X.env) (fun v s1 => wpAny (model X.prog X.w) X.A (pyIter v) (PIE X pins σ tg R) X.xe s1) X.xe s
theorem go_of {M : Model} {A : Around} {E : Value → Shared → Prop} {s : Shared} {tg : Expr} {it : Addr} {u : Value} {o : Obj} {n : String} {vs : Array Value} {Q : Unit → Shared → Prop} (ho : s.heap.get? it = some o) (hc : o.cls = .type n) (hd : o.data = .fields vs)
    (hn : ["enumerate", "zip", "dict_itemiterator", "dict_reverseitemiterator", "odict_iterator", "itertools.zip_longest", "itertools.pairwise"].contains n = false) (hQ : Q () s) : wpAny M A (letOwnedTupleGo tg (.ref it) u) Q E s := by
  unfold letOwnedTupleGo
  cases tg <;> first
    | exact wpAny_pure hQ
    | (cases u <;> first
        | exact wpAny_pure hQ
        | (refine wpAny_bind (wpAny_load ho ?_)
           rw [hc, hd]
           show wpAny M A (if (["enumerate", "zip", "dict_itemiterator", "dict_reverseitemiterator", "odict_iterator", "itertools.zip_longest", "itertools.pairwise"].contains n && vs[0]? == some (rawInt _)) = true then _ else _) Q E s
           rw [if_neg (by intro h; rw [hn, Bool.false_and] at h; cases h)]
           exact wpAny_pure hQ))
def Itl (K : PySem.W.Frag) (a : Addr) : It :=
  ⟨fun i H => ∃ xs x, SqL K H a xs ∧ xs[i]? = some x, fun i H x H' => H' = H ∧ ∀ xs, SqL K H a xs → xs[i]? = some x, fun i H => ∃ xs, SqL K H a xs ∧ xs.length ≤ i⟩
def Itt (K : PySem.W.Frag) (a : Addr) : It :=
  ⟨fun i H => ∃ xs x, SqT K H a xs ∧ xs[i]? = some x, fun i H x H' => H' = H ∧ ∀ xs, SqT K H a xs → xs[i]? = some x, fun i H => ∃ xs, SqT K H a xs ∧ xs.length ≤ i⟩
def Itr (lo : Int) (n : Nat) : It := ⟨fun i _ => i < n, fun i H x H' => H' = H ∧ x = .int (lo + i), fun i _ => n ≤ i⟩
theorem turn_list {P : Program} {w : World} {K : PySem.W.Frag} {tg : Expr} (a it : Addr) : Turn P w K tg (Itl K a) [it] it (fun i h => h.IsListIter it a i) where
  mem := by simp
  obj := fun i h st b hb => by
    have e : b = it := by simpa using hb
    subst e
    obtain ⟨o, e, c, d⟩ := st
    exact ⟨o, e, fun v z => by rw [d] at z; cases z⟩
  keep := fun i h h' st k => st.at fun o e => k it (by simp) o e
  item := by
    intro X hP hw hK hc i pins s σ H E I hf st hg
    subst hP hw hK
    obtain ⟨xs, x, hq, hx⟩ := hg
    obtain ⟨its, rv, p, hz⟩ := I.list hq
    obtain ⟨u, hu, ru⟩ := rv.get hx
    obtain ⟨f0, f1, f2, f3, f4, f5⟩ := hf it (by simp)
    refine wpAny_pyNext_list_item st p.isList (x := u) (by simpa using hu) fun h' st' sb => ?_
    have I1 : Inv X pins σ H { s with heap := h' } := I.turned (t' := s.toks) (fun b o hb e => (sb.2 b hb).trans e) f0 f1 f3 f4 f5
    obtain ⟨o, e, c, d⟩ := id st'
    exact ⟨u, rfl, go_of (s := { s with heap := h' }) e c d (by decide) ⟨x, H, I1, ru, ⟨rfl, fun ys hy => by rw [I.list_inj hy hq]; exact hx⟩, st', fun b hb => (hf b hb).1⟩⟩
  done := by
    intro X hP hw hK hc i pins s σ H E I hf st hg
    subst hP hw hK
    obtain ⟨xs, hq, hx⟩ := hg
    obtain ⟨its, rv, p, hz⟩ := I.list hq
    obtain ⟨f0, f1, f2, f3, f4, f5⟩ := hf it (by simp)
    have hl := rv.length
    exact wpAny_pyNext_list_end (I.ok.hd hc) st p.isList (by simp; omega) fun h' eb => ⟨rfl, I.turned (t' := s.toks) (fun b o hb e => eb b o hb e) f0 f1 f3 f4 f5⟩
  self := fun _ _ _ _ _ st h => wpAny_pyIter_listiter st h
theorem turn_tuple {P : Program} {w : World} {K : PySem.W.Frag} {tg : Expr} (a it : Addr) : Turn P w K tg (Itt K a) [it] it (fun i h => h.IsTupleIter it a i) where
  mem := by simp
  obj := fun i h st b hb => by
    have e : b = it := by simpa using hb
    subst e
    obtain ⟨o, e, c, d⟩ := st
    exact ⟨o, e, fun v z => by rw [d] at z; cases z⟩
  keep := fun i h h' st k => st.at fun o e => k it (by simp) o e
  item := by
    intro X hP hw hK hc i pins s σ H E I hf st hg
    subst hP hw hK
    obtain ⟨xs, x, hq, hx⟩ := hg
    obtain ⟨its, rv, p, hz⟩ := I.tuple hq
    obtain ⟨u, hu, ru⟩ := rv.get hx
    obtain ⟨f0, f1, f2, f3, f4, f5⟩ := hf it (by simp)
    refine wpAny_pyNext_tuple_item st (show s.heap.IsTuple a its.toArray from p) (x := u) (by simpa using hu) fun h' st' sb => ?_
    have I1 : Inv X pins σ H { s with heap := h' } := I.turned (t' := s.toks) (fun b o hb e => (sb.2 b hb).trans e) f0 f1 f3 f4 f5
    obtain ⟨o, e, c, d⟩ := id st'
    exact ⟨u, rfl, go_of (s := { s with heap := h' }) e c d (by decide) ⟨x, H, I1, ru, ⟨rfl, fun ys hy => by rw [I.tuple_inj hy hq]; exact hx⟩, st', fun b hb => (hf b hb).1⟩⟩
  done := by
    intro X hP hw hK hc i pins s σ H E I hf st hg
    subst hP hw hK
    obtain ⟨xs, hq, hx⟩ := hg
    obtain ⟨its, rv, p, hz⟩ := I.tuple hq
    obtain ⟨f0, f1, f2, f3, f4, f5⟩ := hf it (by simp)
    have hl := rv.length
    exact wpAny_pyNext_tuple_end (I.ok.hd hc) st (show s.heap.IsTuple a its.toArray from p) (by simp; omega) fun h' eb => ⟨rfl, I.turned (t' := s.toks) (fun b o hb e => eb b o hb e) f0 f1 f3 f4 f5⟩
  self := fun _ _ _ _ _ st h => wpAny_pyIter_tupleiter st h
theorem turn_range {P : Program} {w : World} {K : PySem.W.Frag} {tg : Expr} (it : Addr) (lo : Int) (n : Nat) : Turn P w K tg (Itr lo n) [it] it (fun i h => IsRangeIter h it (lo + (i : Nat) * 1) ((n : Int) - (i : Nat)) 1) where
  mem := by simp
  obj := fun i h st b hb => by
    have e : b = it := by simpa using hb
    subst e
    exact ⟨_, st, fun v z => by
      have z' : Data.fields _ = Data.cell v := z
      cases z'⟩
  keep := fun i h h' st k => k it (by simp) _ st
  item := by
    intro X hP hw hK hc i pins s σ H E I hf st hg
    subst hP hw hK
    obtain ⟨f0, f1, f2, f3, f4, f5⟩ := hf it (by simp)
    have W := Walks.range (prog := X.prog) (w := X.w) (I.ok.hd hc) it lo 1 n
    refine W.item i s _ _ hg st fun v h' tk hv st' kk => ?_
    obtain ⟨t, rfl⟩ := hv
    have I1 : Inv X pins σ H { s with heap := h', toks := tk } := I.turned (fun b o hb e => kk b o (by simpa using hb) e) f0 f1 f3 f4 f5
    refine ⟨_, rfl, go_of (s := { s with heap := h', toks := tk }) (n := "range_iterator") st' rfl rfl (by decide) ⟨.int (lo + i), H, I1, ⟨t, ?_⟩, ⟨rfl, rfl⟩, st', fun b hb => (hf b hb).1⟩⟩
    rw [Int.mul_one]
  done := by
    intro X hP hw hK hc i pins s σ H E I hf st hg
    subst hP hw hK
    obtain ⟨f0, f1, f2, f3, f4, f5⟩ := hf it (by simp)
    exact wpAny_pyNext_range_end (I.ok.hd hc) st (by have : n ≤ i := hg; omega) fun h' eb => ⟨rfl, I.turned (t' := s.toks) (fun b o hb e => eb b o hb e) f0 f1 f3 f4 f5⟩
  self := fun _ _ _ _ _ st h => wpAny_pyIter_rangeiter st h
end L2
namespace L2
open PySem PySem.Spec PyProof.Rows
section
variable {X : Cx} {tg : Expr}
def iList (K : PySem.W.Frag) (tl : TE) : TI := fun σ H R => tl σ H fun x H1 => ∃ a, x = .ref a ∧ (∃ xs, SqL K H1 a xs) ∧ R (Itl K a) H1
def iTup (K : PySem.W.Frag) (tl : TE) : TI := fun σ H R => tl σ H fun x H1 => ∃ a, x = .ref a ∧ (∃ xs, SqT K H1 a xs) ∧ R (Itt K a) H1
theorem pi_list {l : Expr} {tl : TE} (hl : PE X l tl) : PI X tg l (iList X.K tl) := by
  intro pins s σ H R I h
  refine thn (hl pins s σ H _ I h) fun v s1 ⟨x, H1, I1, r1, q1⟩ => ?_
  obtain ⟨a, e, ⟨xs, hq⟩, q⟩ := q1
  subst e
  cases r1
  obtain ⟨its, rv, p, hz⟩ := I1.list hq
  refine wpAny_pyIter_list p.isList ?_
  refine ⟨s1.heap.objs.size, [s1.heap.objs.size], _, _, H1, rfl, I1.kept (t' := s1.toks) fun b o e => Heap.get?_push_of_some _ e, turn_list a _, ⟨_, Heap.get?_push_size _ rfl, rfl, rfl⟩, fun b hb => ?_, q⟩
  have e : b = s1.heap.objs.size := by simpa using hb
  subst e
  exact I1.fpOk (Nat.le_refl _) (I1.hok.fresh (Nat.le_refl _))
theorem pi_tup {l : Expr} {tl : TE} (hl : PE X l tl) : PI X tg l (iTup X.K tl) := by
  intro pins s σ H R I h
  refine thn (hl pins s σ H _ I h) fun v s1 ⟨x, H1, I1, r1, q1⟩ => ?_
  obtain ⟨a, e, ⟨xs, hq⟩, q⟩ := q1
  subst e
  cases r1
  obtain ⟨its, rv, p, hz⟩ := I1.tuple hq
  refine wpAny_pyIter_tuple (show s1.heap.IsTuple a its.toArray from p) ?_
  refine ⟨s1.heap.objs.size, [s1.heap.objs.size], _, _, H1, rfl, I1.kept (t' := s1.toks) fun b o e => Heap.get?_push_of_some _ e, turn_tuple a _, ⟨_, Heap.get?_push_size _ rfl, rfl, rfl⟩, fun b hb => ?_, q⟩
  have e : b = s1.heap.objs.size := by simpa using hb
  subst e
  exact I1.fpOk (Nat.le_refl _) (I1.hok.fresh (Nat.le_refl _))
theorem range_it {pins : List (Addr × Obj)} {σ : St} {H : Hp} {s : Shared} {R : It → Hp → Prop} {E : Value → Shared → Prop} {lo hi : Int} {t u v : Tok} {tk : Nat} (I : Inv X pins σ H s) (h1 : -(2 ^ 62) ≤ lo) (h2 : lo < 2 ^ 62) (h3 : -(2 ^ 62) ≤ hi) (h4 : hi < 2 ^ 62)
    (q : R (Itr lo (hi - lo).toNat) H) : wpAny (model X.prog X.w) X.A (pyIter (.ref s.heap.objs.size)) (PIE X pins σ tg R) E { s with heap := s.heap.push { cls := .type "range", data := .fields #[.int lo t, .int hi u, .int 1 v] }, toks := tk } := by
  refine wpAny_pyIter_range (IsRange.new ..) (small_one h1 h2 h3 h4) ?_
  have I1 : Inv X pins σ H { s with heap := s.heap.push { cls := .type "range", data := .fields #[.int lo t, .int hi u, .int 1 v] }, toks := tk } := I.kept fun b o e => Heap.get?_push_of_some _ e
  refine ⟨(s.heap.push { cls := .type "range", data := .fields #[.int lo t, .int hi u, .int 1 v] }).objs.size, [(s.heap.push { cls := .type "range", data := .fields #[.int lo t, .int hi u, .int 1 v] }).objs.size], _, _, H, rfl,
    I1.kept (t' := tk) fun b o e => Heap.get?_push_of_some _ e, turn_range _ lo (hi - lo).toNat, ?_, fun b hb => ?_, q⟩
  · have e1 : lo + ((0 : Nat) : Int) * 1 = lo := by simp
    have e2 : (((hi - lo).toNat : Nat) : Int) - ((0 : Nat) : Int) = Builtin.Range.rangeSize lo hi 1 := by rw [rangeSize_one]; split <;> omega
    show IsRangeIter _ _ (lo + ((0 : Nat) : Int) * 1) ((((hi - lo).toNat : Nat) : Int) - ((0 : Nat) : Int)) 1
    rw [e1, e2]
    exact Heap.get?_push_size _ rfl
  · have e : b = (s.heap.push { cls := .type "range", data := .fields #[.int lo t, .int hi u, .int 1 v] }).objs.size := by simpa using hb
    subst e
    exact I1.fpOk (Nat.le_refl _) (I1.hok.fresh (Nat.le_refl _))
def iRng1 (ta : TA) : TI := fun σ H R => ta σ H fun vs H1 => ∃ j : Int, vs = [.int j] ∧ -(2 ^ 62) ≤ j ∧ j < 2 ^ 62 ∧ R (Itr 0 j.toNat) H1
def iRng2 (ta : TA) : TI := fun σ H R => ta σ H fun vs H1 => ∃ i j : Int, vs = [.int i, .int j] ∧ (-(2 ^ 62) ≤ i ∧ i < 2 ^ 62 ∧ -(2 ^ 62) ≤ j ∧ j < 2 ^ 62) ∧ R (Itr i (j - i).toNat) H1
theorem pi_range1 {a : Expr} {ta : TA} {p pos : Pos} (hg : Gl X "range") (hm : X.mg "range" = none) (ha : PA X [a] ta) (hs : starEach [a] X.env = [(false, eval a X.env)] := by rfl) : PI X tg (.Call (.Name "range" p) [a] [] pos) (iRng1 ta) := by
  intro pins s σ H R I h
  refine Call_ (ld_blt I hg hm boot_range (PyProof.Rows.callWith_type1 (thn (ha pos pins s σ H _ I h) fun us s1 ⟨vs, H1, I1, r1, q1⟩ => ?_) hs rfl))
  obtain ⟨j, e, q1, q2, q⟩ := q1
  subst e
  cases r1 with
  | cons r rr =>
    cases rr
    obtain ⟨t, rfl⟩ := r
    exact call_range_1 (range_it I1 (by omega) (by omega) q1 q2 (by simpa using q))
theorem pi_range2 {a b : Expr} {ta : TA} {p pos : Pos} (hg : Gl X "range") (hm : X.mg "range" = none) (ha : PA X [a, b] ta) (hs : starEach [a, b] X.env = [(false, eval a X.env), (false, eval b X.env)] := by rfl) (hs2 : starEach [b] X.env = [(false, eval b X.env)] := by rfl) :
    PI X tg (.Call (.Name "range" p) [a, b] [] pos) (iRng2 ta) := by
  intro pins s σ H R I h
  refine Call_ (ld_blt I hg hm boot_range (PyProof.Rows.callWith_type1 (thn (ha pos pins s σ H _ I h) fun us s1 ⟨vs, H1, I1, r1, q1⟩ => ?_) (by rw [hs, hs2]) (by rw [hs2]; rfl)))
  obtain ⟨i, j, e, ⟨q1, q2, q3, q4⟩, q⟩ := q1
  subst e
  cases r1 with
  | cons r rr =>
    cases rr with
    | cons r' rr =>
      cases rr
      obtain ⟨t, rfl⟩ := r
      obtain ⟨t', rfl⟩ := r'
      exact call_range_2 (range_it I1 q1 q2 q3 q4 q)
def tFor (wi : TI) (g : TG) (tb : TS) : TS := fun D σ H => wi σ H fun J H1 => ∃ W : Nat → Nat → St → Hp → Prop, (∃ m, W 0 m σ H1) ∧ ∀ i m σ H, W i m σ H →
  (J.stop i H ∧ D.nx σ H) ∨ (J.go i H ∧ ∃ N : St → Hp → Prop, (∀ σ' H', N σ' H' → ∃ m', m' < m ∧ W (i + 1) m' σ' H') ∧ ∀ x H', J.yld i H x H' → g x σ H' fun σ2 H2 => tb { D with nx := N, ct := N, bk := D.nx } σ2 H2)
def pinsAt (fp : List Addr) (h : Heap) : List (Addr × Obj) := fp.filterMap fun b => (h.get? b).map fun o => (b, o)
theorem mem_pinsAt {fp : List Addr} {h : Heap} {b : Addr} {o : Obj} (hb : b ∈ fp) (e : h.get? b = some o) : (b, o) ∈ pinsAt fp h := List.mem_filterMap.mpr ⟨b, hb, by rw [e]; rfl⟩
theorem of_pinsAt {fp : List Addr} {h : Heap} {p : Addr × Obj} (hp : p ∈ pinsAt fp h) : p.1 ∈ fp ∧ h.get? p.1 = some p.2 := by
  obtain ⟨b, hb, e⟩ := List.mem_filterMap.mp hp
  cases q : h.get? b with
  | none => rw [q] at e; cases e
  | some o =>
    rw [q] at e
    have e' : (b, o) = p := Option.some.inj e
    subst e'
    exact ⟨hb, q⟩
theorem Inv.pinned {pins : List (Addr × Obj)} {σ : St} {H : Hp} {s : Shared} {fp : List Addr} (I : Inv X pins σ H s) (hf : ∀ b ∈ fp, FpOk X pins H b) (ho : ∀ b ∈ fp, ∃ o, s.heap.get? b = some o ∧ ∀ v, o.data ≠ .cell v) : Inv X (pins ++ pinsAt fp s.heap) σ H s :=
  I.pins_of fun p hp => (List.mem_append.mp hp).elim (fun z => I.pin p (List.mem_append_right _ z)) fun z => by
    obtain ⟨hb, e⟩ := of_pinsAt z
    obtain ⟨f0, f1, f2, _⟩ := hf p.1 hb
    obtain ⟨o, e', d⟩ := ho p.1 hb
    rw [e] at e'; cases e'
    exact ⟨e, f0, f1, f2, d⟩
theorem Inv.unpinned {pins pl : List (Addr × Obj)} {σ : St} {H : Hp} {s : Shared} (I : Inv X (pins ++ pl) σ H s) : Inv X pins σ H s := I.pins_of fun p hp => I.pin p (List.mem_append_right _ (List.mem_append_left _ hp))
theorem ps_for {iter : Expr} {body : List Stmt} {wi : TI} {g : TG} {tb : TS} {pos : Pos} (hp : PassesOwn (model X.prog X.w) X.A X.env X.xe) (hc : X.calm = true) (hi : PI X tg iter wi) (hg : PG X tg g) (hb : PSs X body tb)
    (hs : ∀ x, foldedSetIterable iter X.env x = pure x := by intro _; rfl) : PS X (.For tg iter body [] pos) (tFor wi g tb) := by
  intro pins s σ H D I h
  refine wpAny_For (thn (hi pins s σ H _ I h) fun v s1 h1 => thn h1 fun itv s2 h2 => ?_) hs
  obtain ⟨it, fp, tn, J, H2, e, I2, T, st2, f2, W, ⟨m0, w0⟩, turn⟩ := h2
  subst e
  have stat : ∀ {H' : Hp}, (∀ b ∈ fp, H' b = none) → ∀ b ∈ fp, FpOk X pins H' b := fun hn b hb => ⟨hn b hb, (f2 b hb).2⟩
  refine codeAny_forLoop_any (fun n s' => ∃ i σ' H', Inv X pins σ' H' s' ∧ tn i s'.heap ∧ (∀ b ∈ fp, H' b = none) ∧ W i n σ' H') ?_ m0 ⟨0, σ, H2, I2, st2, fun b hb => (f2 b hb).1, w0⟩
  rintro n s3 ⟨i, σ3, H3, I3, st3, fr3, w3⟩
  rcases turn i n σ3 H3 w3 with ⟨stop, qn⟩ | ⟨go, N, hN, step⟩
  · refine wpAny_passesOwn hp (thn (T.done X rfl rfl rfl hc i pins s3 σ3 H3 X.xe I3 (stat fr3) st3 stop) fun r s4 ⟨hr, I4⟩ => ?_)
    subst hr
    exact wpAny_execs_nil ⟨σ3, H3, I4, qn⟩
  · refine wpAny_passesOwn hp (thn (T.item X rfl rfl rfl hc i pins s3 σ3 H3 X.xe I3 (stat fr3) st3 go) fun r s4 ⟨u, hr, h4⟩ => ?_)
    subst hr
    refine wpAny_passesOwn hp (thn h4 fun _ s5 ⟨x, H5, I5, r5, y5, st5, fr5⟩ => ?_)
    have I5' := I5.pinned (stat fr5) (T.obj _ _ st5)
    refine wpAny_passesOwn hp (thn (hg _ s5 σ3 H5 x u _ I5' r5 (step x H5 y5)) fun _ s6 ⟨σ6, H6, I6, q6⟩ => ?_)
    refine wpAny_passesOwn hp (thn (hb _ s6 σ6 H6 _ I6 q6) fun f s7 q7 => ?_)
    have again : ∀ {σ7 : St} {H7 : Hp}, Inv X (pins ++ pinsAt fp s5.heap) σ7 H7 s7 → N σ7 H7 → ∃ m, m < n ∧ ∃ i σ' H', Inv X pins σ' H' s7 ∧ tn i s7.heap ∧ (∀ b ∈ fp, H' b = none) ∧ W i m σ' H' := fun {σ7 H7} I7 n7 => by
      obtain ⟨m', hm, w7⟩ := hN σ7 H7 n7
      refine ⟨m', hm, i + 1, σ7, H7, I7.unpinned, T.keep _ _ _ st5 fun b hb o e => (I7.pin (b, o) (List.mem_append_right _ (List.mem_append_right _ (mem_pinsAt hb e)))).1, fun b hb => ?_, w7⟩
      obtain ⟨o, e, d⟩ := T.obj _ _ st5 b hb
      exact (I7.pin (b, o) (List.mem_append_right _ (List.mem_append_right _ (mem_pinsAt hb e)))).2.1
    cases f with
    | next => obtain ⟨σ7, H7, I7, n7⟩ := q7; exact again I7 n7
    | cont => obtain ⟨σ7, H7, I7, n7⟩ := q7; exact again I7 n7
    | brk => obtain ⟨σ7, H7, I7, q7⟩ := q7; exact ⟨σ7, H7, I7.unpinned, q7⟩
    | ret v => obtain ⟨x7, σ7, H7, I7, r7, q7⟩ := q7; exact ⟨x7, σ7, H7, I7.unpinned, r7, q7⟩
end
theorem for_list {K : PySem.W.Frag} {a : Addr} {xs : List V} {g : TG} {tb : TS} {D : Ends} {σ : St} {H : Hp} (Pv : Nat → St → Hp → Prop) (h0 : Pv 0 σ H) (hl : ∀ i σ H, i ≤ xs.length → Pv i σ H → SqL K H a xs)
    (hs : ∀ i x σ H, xs[i]? = some x → Pv i σ H → g x σ H fun σ2 H2 => tb { D with nx := Pv (i + 1), ct := Pv (i + 1), bk := D.nx } σ2 H2) (hd : ∀ σ H, Pv xs.length σ H → D.nx σ H) :
    ∃ W : Nat → Nat → St → Hp → Prop, (∃ m, W 0 m σ H) ∧ ∀ i m σ H, W i m σ H →
      ((Itl K a).stop i H ∧ D.nx σ H) ∨ ((Itl K a).go i H ∧ ∃ N : St → Hp → Prop, (∀ σ' H', N σ' H' → ∃ m', m' < m ∧ W (i + 1) m' σ' H') ∧ ∀ x H', (Itl K a).yld i H x H' → g x σ H' fun σ2 H2 => tb { D with nx := N, ct := N, bk := D.nx } σ2 H2) := by
  refine ⟨fun i m σ H => m = xs.length - i ∧ i ≤ xs.length ∧ Pv i σ H, ⟨xs.length, by simp, Nat.zero_le _, h0⟩, ?_⟩
  rintro i m σ H ⟨rfl, hi, p⟩
  have q := hl i σ H hi p
  by_cases hlt : i < xs.length
  · refine .inr ⟨⟨xs, xs[i], q, by simp [hlt]⟩, Pv (i + 1), fun σ' H' p' => ⟨xs.length - (i + 1), by omega, rfl, hlt, p'⟩, fun x H' y => ?_⟩
    obtain ⟨e, y⟩ := y
    subst e
    exact hs i x σ _ (y xs q) p
  · have e : i = xs.length := by omega
    subst e
    exact .inl ⟨⟨xs, q, Nat.le_refl _⟩, hd σ H p⟩
theorem for_tup {K : PySem.W.Frag} {a : Addr} {xs : List V} {g : TG} {tb : TS} {D : Ends} {σ : St} {H : Hp} (Pv : Nat → St → Hp → Prop) (h0 : Pv 0 σ H) (hl : ∀ i σ H, i ≤ xs.length → Pv i σ H → SqT K H a xs)
    (hs : ∀ i x σ H, xs[i]? = some x → Pv i σ H → g x σ H fun σ2 H2 => tb { D with nx := Pv (i + 1), ct := Pv (i + 1), bk := D.nx } σ2 H2) (hd : ∀ σ H, Pv xs.length σ H → D.nx σ H) :
    ∃ W : Nat → Nat → St → Hp → Prop, (∃ m, W 0 m σ H) ∧ ∀ i m σ H, W i m σ H →
      ((Itt K a).stop i H ∧ D.nx σ H) ∨ ((Itt K a).go i H ∧ ∃ N : St → Hp → Prop, (∀ σ' H', N σ' H' → ∃ m', m' < m ∧ W (i + 1) m' σ' H') ∧ ∀ x H', (Itt K a).yld i H x H' → g x σ H' fun σ2 H2 => tb { D with nx := N, ct := N, bk := D.nx } σ2 H2) := by
  refine ⟨fun i m σ H => m = xs.length - i ∧ i ≤ xs.length ∧ Pv i σ H, ⟨xs.length, by simp, Nat.zero_le _, h0⟩, ?_⟩
  rintro i m σ H ⟨rfl, hi, p⟩
  have q := hl i σ H hi p
  by_cases hlt : i < xs.length
  · refine .inr ⟨⟨xs, xs[i], q, by simp [hlt]⟩, Pv (i + 1), fun σ' H' p' => ⟨xs.length - (i + 1), by omega, rfl, hlt, p'⟩, fun x H' y => ?_⟩
    obtain ⟨e, y⟩ := y
    subst e
    exact hs i x σ _ (y xs q) p
  · have e : i = xs.length := by omega
    subst e
    exact .inl ⟨⟨xs, q, Nat.le_refl _⟩, hd σ H p⟩
theorem for_range {lo : Int} {n : Nat} {g : TG} {tb : TS} {D : Ends} {σ : St} {H : Hp} (Pv : Nat → St → Hp → Prop) (h0 : Pv 0 σ H)
    (hs : ∀ i σ H, i < n → Pv i σ H → g (.int (lo + i)) σ H fun σ2 H2 => tb { D with nx := Pv (i + 1), ct := Pv (i + 1), bk := D.nx } σ2 H2) (hd : ∀ σ H, Pv n σ H → D.nx σ H) :
    ∃ W : Nat → Nat → St → Hp → Prop, (∃ m, W 0 m σ H) ∧ ∀ i m σ H, W i m σ H →
      ((Itr lo n).stop i H ∧ D.nx σ H) ∨ ((Itr lo n).go i H ∧ ∃ N : St → Hp → Prop, (∀ σ' H', N σ' H' → ∃ m', m' < m ∧ W (i + 1) m' σ' H') ∧ ∀ x H', (Itr lo n).yld i H x H' → g x σ H' fun σ2 H2 => tb { D with nx := N, ct := N, bk := D.nx } σ2 H2) := by
  refine ⟨fun i m σ H => m = n - i ∧ i ≤ n ∧ Pv i σ H, ⟨n, by simp, Nat.zero_le _, h0⟩, ?_⟩
  rintro i m σ H ⟨rfl, hi, p⟩
  by_cases hlt : i < n
  · refine .inr ⟨hlt, Pv (i + 1), fun σ' H' p' => ⟨n - (i + 1), by omega, rfl, hlt, p'⟩, fun x H' y => ?_⟩
    obtain ⟨e, y⟩ := y
    subst e y
    exact hs i σ _ hlt p
  · have e : i = n := by omega
    subst e
    exact .inl ⟨Nat.le_refl _, hd σ H p⟩
theorem while_by {c : TT} {tb : TS} {D : Ends} {σ : St} {H : Hp} (Pv : St → Hp → Prop) (μ : St → Hp → Nat) (h0 : Pv σ H)
    (hs : ∀ σ H, Pv σ H → c σ H fun b H1 => if b = true then tb { D with nx := fun σ' H' => Pv σ' H' ∧ μ σ' H' < μ σ H, ct := fun σ' H' => Pv σ' H' ∧ μ σ' H' < μ σ H, bk := D.nx } σ H1 else D.nx σ H1)
    (mono : ∀ σ H Q Q', (∀ b H1, Q b H1 → Q' b H1) → c σ H Q → c σ H Q') : tWhile c tb D σ H := by
  refine ⟨fun m σ H => m = μ σ H ∧ Pv σ H, ⟨_, rfl, h0⟩, ?_⟩
  rintro m σ H ⟨rfl, p⟩
  refine mono σ H _ _ (fun b H1 q => ?_) (hs σ H p)
  cases b with
  | true => exact ⟨_, fun σ' H' ⟨p', l⟩ => ⟨_, l, rfl, p'⟩, q⟩
  | false => exact q
end L2
namespace L2
open PySem PySem.Spec PyProof.Rows
abbrev R2 := V → V → Hp → VK → Prop
def OpR (X : Cx) (f : Value → Value → Sem Value) (r : R2) : Prop :=
  ∀ (pins : List (Addr × Obj)) (s : Shared) (σ : St) (H : Hp) (x y : V) (v u : Value) (Q : VK), Inv X pins σ H s → RelV x v → RelV y u → r x y H Q →
    wpAny (model X.prog X.w) X.A (f v u) (EP X pins σ Q) X.xe s
def UnR (X : Cx) (f : Value → Sem Value) (r : V → Hp → VK → Prop) : Prop :=
  ∀ (pins : List (Addr × Obj)) (s : Shared) (σ : St) (H : Hp) (x : V) (v : Value) (Q : VK), Inv X pins σ H s → RelV x v → r x H Q →
    wpAny (model X.prog X.w) X.A (f v) (EP X pins σ Q) X.xe s
def CallR (X : Cx) (f : Value) (r : List V → Hp → VK → Prop) : Prop :=
  ∀ (pins : List (Addr × Obj)) (s : Shared) (σ : St) (H : Hp) (xs : List V) (us : List Value) (Q : VK), Inv X pins σ H s → Vals xs us → r xs H Q →
    wpAny (model X.prog X.w) X.A (call f us) (EP X pins σ Q) X.xe s
def tOp (r : R2) (ta tb : TE) : TE := fun σ H Q => ta σ H fun x H1 => tb σ H1 fun y H2 => r x y H2 Q
def tUn (r : V → Hp → VK → Prop) (ta : TE) : TE := fun σ H Q => ta σ H fun x H1 => r x H1 Q
def rI (C : Int → Int → Prop) (g : Int → Int → V) : R2 := fun x y H Q => ∃ i j, x = .int i ∧ y = .int j ∧ C i j ∧ Q (g i j) H
def rI0 (g : Int → Int → V) : R2 := fun x y H Q => ∃ i j, x = .int i ∧ y = .int j ∧ Q (g i j) H
def rU (g : Int → V) : V → Hp → VK → Prop := fun x H Q => ∃ i, x = .int i ∧ Q (g i) H
section
variable {X : Cx} {a b c : Expr} {ta tb tc : TE} {pos : Pos}
theorem binT (ha : PE X a ta) (hb : PE X b tb) {pins : List (Addr × Obj)} {s : Shared} {σ : St} {H : Hp} {R : V → V → Hp → Prop} (I : Inv X pins σ H s)
    (h : ta σ H fun x H1 => tb σ H1 fun y H2 => R x y H2) {Q : Value → Shared → Prop} {f : Value → Value → Sem Value}
    (hf : ∀ v u s2 x y H2, Inv X pins σ H2 s2 → RelV x v → RelV y u → R x y H2 → wpAny (model X.prog X.w) X.A (f v u) Q X.xe s2) :
    wpAny (model X.prog X.w) X.A (eval a X.env) (fun v s₁ => wpAny (model X.prog X.w) X.A (eval b X.env) (fun u s₂ => wpAny (model X.prog X.w) X.A (f v u) Q X.xe s₂) X.xe s₁) X.xe s := by
  refine thn (ha pins s σ H _ I h) fun v s1 ⟨x, H1, I1, r1, q1⟩ => ?_
  refine thn (hb pins s1 σ H1 _ I1 q1) fun u s2 ⟨y, H2, I2, r2, q2⟩ => ?_
  exact hf v u s2 x y H2 I2 r1 r2 q2
theorem pe_op {op : Operator} {r : R2} (ho : OpR X (binaryOp op) r) (ha : PE X a ta) (hb : PE X b tb) : PE X (.BinOp a op b pos) (tOp r ta tb) := by
  intro pins s σ H Q I h
  exact wpAny_BinOp (binT ha hb I h fun v u s2 x y H2 I2 rx ry q => ho pins s2 σ H2 x y v u Q I2 rx ry q)
theorem pe_un {op : UnaryOp} {r : V → Hp → VK → Prop} (ho : UnR X (unaryOp op) r) (ha : PE X a ta) : PE X (.UnaryOp op a pos) (tUn r ta) := by
  intro pins s σ H Q I h
  exact UnaryOp_ (thn (ha pins s σ H _ I h) fun v s1 ⟨x, H1, I1, r1, q1⟩ => ho pins s1 σ H1 x v Q I1 r1 q1)
theorem opI {f : Value → Value → Sem Value} {C : Int → Int → Prop} {g : Int → Int → Int}
    (rule : ∀ (i j : Int) (t u : Tok) (s : Shared) (Q : Value → Shared → Prop) (E : Value → Shared → Prop), C i j → Q (.int (g i j) s.toks) { s with toks := s.toks + 1 } → wpAny (model X.prog X.w) X.A (f (.int i t) (.int j u)) Q E s) :
    OpR X f (rI C fun i j => .int (g i j)) := by
  intro pins s σ H x y v u Q I rx ry h
  obtain ⟨i, j, rfl, rfl, hc, q⟩ := h
  obtain ⟨t, rfl⟩ := rx
  obtain ⟨t', rfl⟩ := ry
  exact rule i j t t' s _ _ hc ⟨.int (g i j), H, I.tok _, ⟨_, rfl⟩, q⟩
theorem opI0 {f : Value → Value → Sem Value} {g : Int → Int → Int}
    (rule : ∀ (i j : Int) (t u : Tok) (s : Shared) (Q : Value → Shared → Prop) (E : Value → Shared → Prop), Q (.int (g i j) s.toks) { s with toks := s.toks + 1 } → wpAny (model X.prog X.w) X.A (f (.int i t) (.int j u)) Q E s) :
    OpR X f (rI0 fun i j => .int (g i j)) := by
  intro pins s σ H x y v u Q I rx ry h
  obtain ⟨i, j, rfl, rfl, q⟩ := h
  obtain ⟨t, rfl⟩ := rx
  obtain ⟨t', rfl⟩ := ry
  exact rule i j t t' s _ _ ⟨.int (g i j), H, I.tok _, ⟨_, rfl⟩, q⟩
theorem opB0 {f : Value → Value → Sem Value} {g : Int → Int → Bool}
    (rule : ∀ (i j : Int) (t u : Tok) (s : Shared) (Q : Value → Shared → Prop) (E : Value → Shared → Prop), Q (.bool (g i j)) s → wpAny (model X.prog X.w) X.A (f (.int i t) (.int j u)) Q E s) :
    OpR X f (rI0 fun i j => .bl (g i j)) := by
  intro pins s σ H x y v u Q I rx ry h
  obtain ⟨i, j, rfl, rfl, q⟩ := h
  obtain ⟨t, rfl⟩ := rx
  obtain ⟨t', rfl⟩ := ry
  exact rule i j t t' s _ _ ⟨.bl (g i j), H, I, rfl, q⟩
def CDiv (i j : Int) : Prop := 0 < j ∧ j < 1073741824
def CMul (i j : Int) : Prop := (-(2 ^ 64) < i ∧ i < 2 ^ 64) ∨ (-(2 ^ 64) < j ∧ j < 2 ^ 64)
theorem CMul.ok {i j : Int} (h : CMul i j) : IntMulOk i j := by
  rcases h with ⟨h1, h2⟩ | ⟨h1, h2⟩
  · exact .of_left (intBits_le_64 h1 h2)
  · exact .of_right (intBits_le_64 h1 h2)
theorem two_pow_nn (k : Nat) : (0 : Int) ≤ 2 ^ k := by
  rw [two_pow_cast]
  exact Int.natCast_nonneg _
theorem op_add : OpR X (binaryOp .Add) (rI0 fun i j => .int (i + j)) := opI0 fun _ _ _ _ _ _ _ q => add_int q
theorem op_sub : OpR X (binaryOp .Sub) (rI0 fun i j => .int (i - j)) := opI0 fun _ _ _ _ _ _ _ q => sub_int q
theorem op_mul : OpR X (binaryOp .Mult) (rI CMul fun i j => .int (i * j)) := opI fun _ _ _ _ _ _ _ hc q => mul_int q hc.ok
theorem op_fdiv : OpR X (binaryOp .FloorDiv) (rI CDiv fun i j => .int (i / j)) := opI fun i j _ _ _ _ _ hc q => by
  have h1 : (0 : Int) < j := hc.1
  have h2 : j < 1073741824 := hc.2
  exact floordiv_int (by omega) (by rw [Int.fdiv_eq_ediv_of_nonneg i (by omega)]; exact q) (.inl (PyProof.noPylong_small (by omega)))
theorem op_shr : OpR X (binaryOp .RShift) (rI (fun _ j => 0 ≤ j) fun i j => .int (i / 2 ^ j.toNat)) := opI fun i j _ _ _ _ _ hc q =>
  rshift_int hc (by rw [Int.fdiv_eq_ediv_of_nonneg i (two_pow_nn _)]; exact q)
theorem op_and : OpR X (binaryOp .BitAnd) (rI0 fun i j => .int (Builtin.bitAnd i j)) := opI0 fun _ _ _ _ _ _ _ q => and_int q
theorem op_or : OpR X (binaryOp .BitOr) (rI0 fun i j => .int (Builtin.bitOr i j)) := opI0 fun _ _ _ _ _ _ _ q => or_int q
theorem unI {f : Value → Sem Value} {g : Int → Int}
    (rule : ∀ (i : Int) (t : Tok) (s : Shared) (Q : Value → Shared → Prop) (E : Value → Shared → Prop), Q (.int (g i) s.toks) { s with toks := s.toks + 1 } → wpAny (model X.prog X.w) X.A (f (.int i t)) Q E s) :
    UnR X f (rU fun i => .int (g i)) := by
  intro pins s σ H x v Q I rx h
  obtain ⟨i, rfl, q⟩ := h
  obtain ⟨t, rfl⟩ := rx
  exact rule i t s _ _ ⟨.int (g i), H, I.tok _, ⟨_, rfl⟩, q⟩
theorem un_neg : UnR X (unaryOp .USub) (rU fun i => .int (-i)) := unI fun _ _ _ _ _ q => neg_int q
theorem un_inv : UnR X (unaryOp .Invert) (rU fun i => .int (Builtin.bitNot i)) := unI fun _ _ _ _ _ q => invert_int q
end
def scal : V → V → Bool
  | .non, .non => true | .non, .int _ => true | .int _, .non => true | .non, .bl _ => true | .bl _, .non => true | .non, .str _ => true | .str _, .non => true
  | .int _, .int _ => true | .bl _, .bl _ => true | .str _, .str _ => true | .byt _, .byt _ => true
  | .int _, .str _ => true | .str _, .int _ => true | .bl _, .str _ => true | .str _, .bl _ => true
  | _, _ => false
def rEq : R2 := fun x y H Q => scal x y = true ∧ Q (.bl (decide (x = y))) H
def rNe : R2 := fun x y H Q => scal x y = true ∧ Q (.bl (!decide (x = y))) H
theorem dec_int {i j : Int} : decide (V.int i = V.int j) = (i == j) := by
  rw [Bool.eq_iff_iff]
  simp
theorem dec_bl {i j : Bool} : decide (V.bl i = V.bl j) = (i == j) := by
  rw [Bool.eq_iff_iff]
  simp
theorem dec_str {i j : Str} : decide (V.str i = V.str j) = (i == j) := by
  rw [Bool.eq_iff_iff]
  simp
theorem dec_byt {i j : Array UInt8} : decide (V.byt i = V.byt j) = (i.toList == j.toList) := by
  rw [Bool.eq_iff_iff]
  cases i
  cases j
  simp
section
variable {X : Cx} {a b c : Expr} {ta tb tc : TE} {pos : Pos}
theorem fin_bl {pins : List (Addr × Obj)} {σ : St} {H : Hp} {s : Shared} {Q : VK} {k k' : Bool} (I : Inv X pins σ H s) (q : Q (.bl k) H) (e : k = k') : EP X pins σ Q (.bool k') s := by
  subst e
  exact ⟨.bl k, H, I, rfl, q⟩
theorem op_eq : OpR X (compareOp .Eq) rEq := by
  intro pins s σ H x y v u Q I rx ry h
  obtain ⟨hs, q⟩ := h
  cases x with
  | non =>
    cases rx
    cases y with
    | non => cases ry; exact PySem.EqNone.eq_none_none (fin_bl I q (by simp))
    | bl j => cases ry; exact PySem.EqNone.eq_none_bool (fin_bl I q (by simp))
    | int j => obtain ⟨t', rfl⟩ := ry; exact PySem.EqNone.eq_none_int (fin_bl I q (by simp))
    | str j => obtain ⟨t', rfl⟩ := ry; exact PySem.EqNone.eq_none_str (fin_bl I q (by simp))
    | _ => exact absurd (show false = true from hs) Bool.false_ne_true
  | bl i =>
    cases rx
    cases y with
    | non => cases ry; exact PySem.EqNone.eq_bool_none (fin_bl I q (by simp))
    | bl j => cases ry; exact eq_bool (fin_bl I q dec_bl)
    | str j => obtain ⟨t', rfl⟩ := ry; exact PySem.EqMixed.eq_bool_str (fin_bl I q (by simp))
    | _ => exact absurd (show false = true from hs) Bool.false_ne_true
  | int i =>
    obtain ⟨t, rfl⟩ := rx
    cases y with
    | non => cases ry; exact PySem.EqNone.eq_int_none (fin_bl I q (by simp))
    | int j => obtain ⟨t', rfl⟩ := ry; exact eq_int (fin_bl I q dec_int)
    | str j => obtain ⟨t', rfl⟩ := ry; exact PySem.EqMixed.eq_int_str (fin_bl I q (by simp))
    | _ => exact absurd (show false = true from hs) Bool.false_ne_true
  | str i =>
    obtain ⟨t, rfl⟩ := rx
    cases y with
    | non => cases ry; exact PySem.EqNone.eq_str_none (fin_bl I q (by simp))
    | bl j => cases ry; exact PySem.EqMixed.eq_str_bool (fin_bl I q (by simp))
    | int j => obtain ⟨t', rfl⟩ := ry; exact PySem.EqMixed.eq_str_int (fin_bl I q (by simp))
    | str j => obtain ⟨t', rfl⟩ := ry; exact eq_str (fin_bl I q dec_str)
    | _ => exact absurd (show false = true from hs) Bool.false_ne_true
  | byt i =>
    obtain ⟨t, rfl⟩ := rx
    cases y with
    | byt j => obtain ⟨t', rfl⟩ := ry; exact PySem.W.eq_bytes (fin_bl I q dec_byt)
    | _ => exact absurd (show false = true from hs) Bool.false_ne_true
  | _ => cases y <;> exact absurd (show false = true from hs) Bool.false_ne_true
theorem op_ne : OpR X (compareOp .NotEq) rNe := by
  intro pins s σ H x y v u Q I rx ry h
  obtain ⟨hs, q⟩ := h
  cases x with
  | non =>
    cases rx
    cases y with
    | non => cases ry; exact PySem.EqNone.ne_none_none (fin_bl I q (by simp))
    | bl j => cases ry; exact PySem.EqNone.ne_none_bool (fin_bl I q (by simp))
    | int j => obtain ⟨t', rfl⟩ := ry; exact PySem.EqNone.ne_none_int (fin_bl I q (by simp))
    | str j => obtain ⟨t', rfl⟩ := ry; exact PySem.EqNone.ne_none_str (fin_bl I q (by simp))
    | _ => exact absurd (show false = true from hs) Bool.false_ne_true
  | bl i =>
    cases rx
    cases y with
    | non => cases ry; exact PySem.EqNone.ne_bool_none (fin_bl I q (by simp))
    | bl j => cases ry; exact ne_bool (fin_bl I q (congrArg not dec_bl))
    | str j => obtain ⟨t', rfl⟩ := ry; exact PySem.EqMixed.ne_bool_str (fin_bl I q (by simp))
    | _ => exact absurd (show false = true from hs) Bool.false_ne_true
  | int i =>
    obtain ⟨t, rfl⟩ := rx
    cases y with
    | non => cases ry; exact PySem.EqNone.ne_int_none (fin_bl I q (by simp))
    | int j => obtain ⟨t', rfl⟩ := ry; exact ne_int (fin_bl I q (congrArg not dec_int))
    | str j => obtain ⟨t', rfl⟩ := ry; exact PySem.EqMixed.ne_int_str (fin_bl I q (by simp))
    | _ => exact absurd (show false = true from hs) Bool.false_ne_true
  | str i =>
    obtain ⟨t, rfl⟩ := rx
    cases y with
    | non => cases ry; exact PySem.EqNone.ne_str_none (fin_bl I q (by simp))
    | bl j => cases ry; exact PySem.EqMixed.ne_str_bool (fin_bl I q (by simp))
    | int j => obtain ⟨t', rfl⟩ := ry; exact PySem.EqMixed.ne_str_int (fin_bl I q (by simp))
    | str j => obtain ⟨t', rfl⟩ := ry; exact ne_str (fin_bl I q (congrArg not dec_str))
    | _ => exact absurd (show false = true from hs) Bool.false_ne_true
  | byt i =>
    obtain ⟨t, rfl⟩ := rx
    cases y with
    | byt j => obtain ⟨t', rfl⟩ := ry; exact PySem.W.ne_bytes (fin_bl I q (congrArg not dec_byt))
    | _ => exact absurd (show false = true from hs) Bool.false_ne_true
  | _ => cases y <;> exact absurd (show false = true from hs) Bool.false_ne_true
theorem op_lt : OpR X (compareOp .Lt) (rI0 fun i j => .bl (decide (i < j))) := opB0 fun _ _ _ _ _ _ _ q => lt_int q
theorem op_le : OpR X (compareOp .LtE) (rI0 fun i j => .bl (decide (i ≤ j))) := opB0 fun _ _ _ _ _ _ _ q => le_int q
theorem op_gt : OpR X (compareOp .Gt) (rI0 fun i j => .bl (decide (j < i))) := opB0 fun _ _ _ _ _ _ _ q => gt_int q
theorem op_ge : OpR X (compareOp .GtE) (rI0 fun i j => .bl (decide (j ≤ i))) := opB0 fun _ _ _ _ _ _ _ q => ge_int q
theorem nomark (b : Expr) {op : CmpOp} (h : op ≠ .In := by decide) (h2 : op ≠ .NotIn := by decide) : behindInMarks op b = false := by
  have e1 : (op == CmpOp.In) = false := by cases op <;> first | rfl | exact absurd rfl h
  have e2 : (op == CmpOp.NotIn) = false := by cases op <;> first | rfl | exact absurd rfl h2
  cases b <;> simp [behindInMarks, e1, e2]
theorem pe_cmpR {op : CmpOp} {r : R2} (ho : OpR X (compareOp op) r) (ha : PE X a ta) (hb : PE X b tb) (hm : behindInMarks op b = false) : PE X (.Compare a [op] [b] pos) (tOp r ta tb) := by
  intro pins s σ H Q I h
  exact wpAny_Compare1 (binT ha hb I h fun v u s2 x y H2 I2 rx ry q => ho pins s2 σ H2 x y v u Q I2 rx ry q) hm
def tTest (t : TE) : TT := fun σ H Q => t σ H fun x H' => ∃ k, x = .bl k ∧ Q k H'
theorem pt_cmpR {op : CmpOp} {r : R2} (ho : OpR X (compareOp op) r) (ha : PE X a ta) (hb : PE X b tb) (hm : behindInMarks op b = false) : PT X (.Compare a [op] [b] pos) (tTest (tOp r ta tb)) := by
  intro pins s σ H Q I h
  refine wpAny_isTrue_Compare1 (thn (ha pins s σ H _ I h) fun v s1 ⟨x, H1, I1, r1, q1⟩ => thn (hb pins s1 σ H1 _ I1 q1) fun u s2 ⟨y, H2, I2, r2, q2⟩ =>
    thn (ho pins s2 σ H2 x y v u _ I2 r1 r2 q2) fun c s3 ⟨z, H3, I3, r3, k, e, q3⟩ => ?_) hm
  subst e
  cases r3
  exact wpAny_truthy_bool ⟨H3, I3, q3⟩
def tChain (r r' : R2) (ta tb tc : TE) : TE := fun σ H Q => ta σ H fun x H1 => tb σ H1 fun y H2 => r x y H2 fun z H3 => ∃ k, z = .bl k ∧
  (if k = true then tc σ H3 fun w' H4 => r' y w' H4 Q else Q (.bl false) H3)
theorem pt_chain {op op' : CmpOp} {r r' : R2} (ho : OpR X (compareOp op) r) (ho' : OpR X (compareOp op') r') (ha : PE X a ta) (hb : PE X b tb) (hc : PE X c tc)
    (hm : lastMarks [op, op'] [b, c] = false := by with_unfolding_all rfl) : PT X (.Compare a [op, op'] [b, c] pos) (tTest (tChain r r' ta tb tc)) := by
  intro pins s σ H Q I h
  refine isTrue_chain (thn (ha pins s σ H _ I h) fun v s1 ⟨x, H1, I1, r1, q1⟩ => test_link (thn (hb pins s1 σ H1 _ I1 q1) fun u s2 ⟨y, H2, I2, r2, q2⟩ =>
    thn (ho pins s2 σ H2 x y v u _ I2 r1 r2 q2) fun d s3 ⟨z, H3, I3, r3, k, e, q3⟩ => ?_)) hm
  subst e
  cases r3
  refine wpAny_truthy_bool ?_
  cases k with
  | false =>
    obtain ⟨k', e', q'⟩ := q3
    cases e'
    exact ite_ff ⟨H3, I3, q'⟩
  | true =>
    refine ite_tt (test_last (thn (hc pins s3 σ H3 _ I3 q3) fun w' s4 ⟨z', H4, I4, r4, q4⟩ => thn (ho' pins s4 σ H4 y z' u w' _ I4 r2 r4 q4) fun d' s5 ⟨z2, H5, I5, r5, k2, e2, q5⟩ => ?_))
    subst e2
    cases r5
    exact wpAny_truthy_bool ⟨H5, I5, q5⟩
theorem line63 : (sizeLine : Nat) < 2 ^ 63 := by rw [sizeLine_eq]; decide
theorem vals1 {x : V} {us : List Value} (r : Vals [x] us) : ∃ u, us = [u] ∧ RelV x u := by
  cases r with
  | cons r1 r2 => cases r2; exact ⟨_, rfl, r1⟩
theorem vals2 {x y : V} {us : List Value} (r : Vals [x, y] us) : ∃ u w', us = [u, w'] ∧ RelV x u ∧ RelV y w' := by
  cases r with
  | cons r1 r2 =>
    cases r2 with
    | cons r3 r4 => cases r4; exact ⟨_, _, rfl, r1, r3⟩
theorem call_abs : CallR X (.builtin "abs") (fun xs H Q => ∃ i, xs = [.int i] ∧ Q (.int (if i < 0 then -i else i)) H) := by
  intro pins s σ H xs us Q I r h
  obtain ⟨i, rfl, q⟩ := h
  obtain ⟨u, rfl, t, rfl⟩ := vals1 r
  exact call_abs_int fun u tk => ⟨.int (if i < 0 then -i else i), H, I.tok _, ⟨_, rfl⟩, q⟩
theorem call_max2 (hc : X.calm = true) : CallR X (.builtin "max") (fun xs H Q => ∃ i j, xs = [.int i, .int j] ∧ Q (.int (if j > i then j else i)) H) := by
  intro pins s σ H xs us Q I r h
  obtain ⟨i, j, rfl, q⟩ := h
  obtain ⟨u, w', rfl, ⟨t, rfl⟩, ⟨t', rfl⟩⟩ := vals2 r
  refine max_two_ints (I.ok.hd hc) fun h' tk k => ⟨_, H, I.kept k, ?_, q⟩
  by_cases hj : j > i
  · rw [if_pos hj, if_pos hj]; exact ⟨_, rfl⟩
  · rw [if_neg hj, if_neg hj]; exact ⟨_, rfl⟩
theorem call_min2 (hc : X.calm = true) : CallR X (.builtin "min") (fun xs H Q => ∃ i j, xs = [.int i, .int j] ∧ Q (.int (if j < i then j else i)) H) := by
  intro pins s σ H xs us Q I r h
  obtain ⟨i, j, rfl, q⟩ := h
  obtain ⟨u, w', rfl, ⟨t, rfl⟩, ⟨t', rfl⟩⟩ := vals2 r
  refine min_two_ints (I.ok.hd hc) fun h' tk k => ⟨_, H, I.kept k, ?_, q⟩
  by_cases hj : j < i
  · rw [if_pos hj, if_pos hj]; exact ⟨_, rfl⟩
  · rw [if_neg hj, if_neg hj]; exact ⟨_, rfl⟩
end
end L2
namespace L2
open PySem PySem.Spec PyProof.Rows
structure ObjM (h : Heap) (x dx C : Addr) (mA : Str → Option Value) : Prop where
  obj : h.get? x = some (PySem.W.instObj C dx)
  ns : h.Ns1 dx mA
  ne : dx ≠ x
theorem lookIn_ns {h : Heap} {dx : Addr} {mA : Str → Option Value} (n : h.Ns1 dx mA) : ∃ od, h.get? dx = some od ∧ ∀ name, PySem.W.lookIn name od = some (mA name) := by
  obtain ⟨o, es, ep, ho, hd, hk, _, hm⟩ := n
  refine ⟨o, ho, fun name => ?_⟩
  have e := hm name
  unfold nsFind findBy at e
  rw [← Array.find?_toList] at e
  unfold PySem.W.lookIn
  rw [hd]
  dsimp only
  split
  · rename_i y q
    rw [q] at e
    exact congrArg some e
  · rename_i q
    rw [q] at e
    have a : es.toList.any (·.refKey) = false := by
      rw [List.any_eq_false]
      intro y hy
      obtain ⟨z, t, hkey⟩ := hk y (Array.mem_toList_iff.mp hy)
      simp [DictEntry.refKey, hkey]
    have a' : ¬ es.toList.any (·.refKey) = true := by rw [a]; exact Bool.false_ne_true
    rw [if_neg a']
    exact congrArg some e
theorem ObjM.look {h : Heap} {x dx C : Addr} {mA : Str → Option Value} (I : ObjM h x dx C mA) : ∃ od, PySem.W.InstAt h x (PySem.W.instObj C dx) C (some od) ∧ ∀ name, PySem.W.lookIn name od = some (mA name) :=
  let ⟨od, ho, hl⟩ := lookIn_ns I.ns
  ⟨od, ⟨I.obj, rfl, rfl, ho⟩, hl⟩
section
variable {prog : Program} {w : World} {A : Around} {E : Value → Shared → Prop} {s : Shared} {K : PySem.W.Frag} {x dx C f : Addr} {mA : Str → Option Value} {name : Str} {v : Value}
theorem get_map {expr : Bool} {Q : Value → Shared → Prop} (X : K.In s.heap) (I : ObjM s.heap x dx C mA) (hg : PySem.W.plainGet K C name = true) (hh : PySem.W.hasDictIn K C = true)
    (ha : PySem.W.findIn K (.ref C) name = some none) (hv : mA name = some v) (hv' : PySem.W.handedIn v = true) (h : Q v { s with toks := s.toks + 1 }) :
    wpAny (model prog w) A (getAttr (.ref x) name expr) Q E s := by
  obtain ⟨od, J, hl⟩ := I.look
  exact PySem.W.get_value X J (PySem.W.plainGet_of hg).1 (PySem.W.findObj_own hh ha rfl (by rw [hl, hv])) hv' h
theorem get_meth {pl : Sem Bool} {Q : Value × List Value → Shared → Prop} (X : K.In s.heap) (I : ObjM s.heap x dx C mA) (hg : PySem.W.plainGet K C name = true)
    (hf : PySem.W.findIn K (.ref C) name = some (some (.ref f))) (ht : PySem.W.isFn K (.ref f) = true) (hv : mA name = none) (h : Q (.ref f, [.ref x]) s) :
    wpAny (model prog w) A (getMethod (.ref x) name pl) Q E s := by
  obtain ⟨od, J, hl⟩ := I.look
  exact PySem.W.method_fn X J (PySem.W.plainGet_of hg).1 (PySem.W.plainGet_of hg).2 hf (beq_iff_eq.mp ht) (by show (PySem.W.lookIn name od).map (·.isSome) = some false; rw [hl, hv]; rfl) h
theorem set_map {ns : List Str} {Q : Unit → Shared → Prop} (X : K.In s.heap) (I : ObjM s.heap x dx C mA)
    (hs : PySem.W.findIn K (.ref C) "__setattr__" = some (some (.builtin "object.__setattr__"))) (hp : PySem.W.plainOver K C = true) (ht : PySem.W.takerIn K C name = some none) (hh : PySem.W.hasDictIn K C = true)
    (hw : PySem.Within mA ns) (hsz : ns.length ≤ sizeLine)
    (h : ∀ h', ObjM h' x dx C (fun y => if y = name then some v else mA y) → Heap.SameBut dx s.heap h' → Q () { s with heap := h', toks := s.toks + 2 }) :
    wpAny (model prog w) A (setAttr (.ref x) name v) Q E s := by
  obtain ⟨od, J, hl⟩ := I.look
  refine PySem.W.set_plain X J hs (PySem.W.osa_open (s := { s with toks := s.toks + 1 }) (r := none) X J hp ht fun b => ?_)
  obtain ⟨cd, hc, hd'⟩ := PySem.W.any_some hh
  have hx : s.heap.get? x = some ⟨.ref C, some dx, .plain, #[]⟩ := I.obj
  refine wpAny_bind (wpAny_pure (wpAny_bind (wpAny_bind (wpAny_loadPart hx (wpAny_bind (PySem.W.Looks.here (s := { s with toks := s.toks + 1 }) (PySem.W.looks_clsIn X hc) ?_))))))
  rw [hd']
  refine wpAny_pure (a := some dx) (wpAny_bind (wpAny_pure (wpAny_bind ?_)))
  refine wpAny_nsSet1 (s := { s with toks := s.toks + 1 }) I.ns fun h' hn2 hs2 => ?_
  obtain ⟨oD, esD, epD, hoD, hdD, hcD⟩ := hn2.count (PySem.Within.cons name v hw)
  refine wpAny_bind (wpAny_lookBehind hoD (by rw [hdD]; exact pastItsLine_dict (Nat.le_trans hcD (by rw [List.length_cons]; omega))) ?_)
  exact wpAny_pure (h _ ⟨(hs2.2 _ (Ne.symm I.ne)).trans I.obj, hn2, I.ne⟩ hs2)
theorem make_map {R : Result → Shared → Prop} {vs : List Value} {kw : List (Str × Value)} (X : K.In s.heap) (hm : PySem.W.makesIn K C = true)
    (hi : PySem.W.findIn K (.ref C) "__init__" = some (some (.ref f))) (hf : PySem.W.typeIn K (.ref f) = some (.type "function"))
    (h : codeAny (model prog w) (A.under (.builtin "type.__call__" ⟨.ref C :: vs, kw⟩)) (.call (.ref f) ⟨.ref (s.heap.objs.size + 1) :: vs, kw⟩) (PySem.W.InitBack (s.heap.objs.size + 1) R)
      { s with heap := (s.heap.push PySem.W.emptyDict).push (PySem.W.instObj C s.heap.objs.size) }) :
    codeAny (model prog w) A (.call (.ref C) ⟨vs, kw⟩) R s := by
  obtain ⟨hh, g, d, t, os⟩ := s
  exact PySem.W.make_core (PySem.W.makes_of X hm) (PySem.W.looks_findIn X hi) (fun self => PySem.W.bind_fn X self hf) (.inl rfl) h
end
def putF (f : Str) (v : V) : List (Str × V) → List (Str × V)
  | [] => [(f, v)]
  | (g, x) :: r => if g = f then (g, v) :: r else (g, x) :: putF f v r
theorem lookup_putF (f g : Str) (v : V) : ∀ fs : List (Str × V), (putF f v fs).lookup g = if g = f then some v else fs.lookup g
  | [] => by
    show List.lookup g [(f, v)] = _
    by_cases h : g = f
    · have hb : (g == f) = true := beq_iff_eq.mpr h
      simp only [List.lookup, hb, if_pos h]
    · have hb : (g == f) = false := beq_eq_false_iff_ne.mpr h
      simp only [List.lookup, hb, if_neg h]
  | (k, x) :: r => by
    have ih := lookup_putF f g v r
    rw [show putF f v ((k, x) :: r) = (if k = f then (k, v) :: r else (k, x) :: putF f v r) from rfl]
    by_cases hk : k = f
    · rw [if_pos hk]
      by_cases h : g = k
      · have hb : (g == k) = true := beq_iff_eq.mpr h
        simp only [List.lookup, hb, if_pos (h.trans hk)]
      · have hb : (g == k) = false := beq_eq_false_iff_ne.mpr h
        simp only [List.lookup, hb, if_neg (fun e : g = f => h (e.trans hk.symm))]
    · rw [if_neg hk]
      by_cases h : g = k
      · have hb : (g == k) = true := beq_iff_eq.mpr h
        simp only [List.lookup, hb, if_neg (fun e : g = f => hk (h.symm.trans e))]
      · have hb : (g == k) = false := beq_eq_false_iff_ne.mpr h
        simp only [List.lookup, hb]
        exact ih
theorem keys_putF (f : Str) (v : V) : ∀ fs : List (Str × V), f ∈ (putF f v fs).map (·.1) ∧ ∀ g, g ∈ fs.map (·.1) → g ∈ (putF f v fs).map (·.1)
  | [] => ⟨by simp [putF], fun g h => by simp at h⟩
  | (k, x) :: r => by
    obtain ⟨i1, i2⟩ := keys_putF f v r
    rw [show putF f v ((k, x) :: r) = (if k = f then (k, v) :: r else (k, x) :: putF f v r) from rfl]
    by_cases hk : k = f
    · rw [if_pos hk]
      subst hk
      exact ⟨by simp, fun g h => by simpa using h⟩
    · rw [if_neg hk]
      refine ⟨?_, fun g h => ?_⟩
      · rw [List.map_cons]
        exact List.mem_cons_of_mem _ i1
      · rw [List.map_cons] at h ⊢
        rcases List.mem_cons.mp h with e | e
        · exact List.mem_cons.mpr (.inl e)
        · exact List.mem_cons_of_mem _ (i2 g e)
theorem length_putF (f : Str) (v : V) : ∀ fs : List (Str × V), (putF f v fs).length ≤ fs.length + 1
  | [] => by simp [putF]
  | (k, x) :: r => by
    have ih := length_putF f v r
    rw [show putF f v ((k, x) :: r) = (if k = f then (k, v) :: r else (k, x) :: putF f v r) from rfl]
    by_cases hk : k = f
    · rw [if_pos hk, List.length_cons, List.length_cons]; omega
    · rw [if_neg hk, List.length_cons, List.length_cons]; omega
theorem RelO.some_of {v : V} {o : Option Value} (r : RelO (some v) o) : ∃ u, o = some u ∧ RelV v u := by
  cases o with
  | none => exact (show False from r).elim
  | some u => exact ⟨u, rfl, r⟩
theorem RelO.none_of {o : Option Value} (r : RelO none o) : o = none := by
  cases o with
  | none => rfl
  | some u => exact (show False from r).elim
theorem handed_of {v : V} {u : Value} (r : RelV v u) : PySem.W.handedIn u = true := by
  cases v with
  | non => cases (show u = Value.none from r); rfl
  | bl b => cases (show u = Value.bool b from r); rfl
  | int i => obtain ⟨t, e⟩ := (show ∃ t, u = Value.int i t from r); cases e; rfl
  | str x => obtain ⟨t, e⟩ := (show ∃ t, u = Value.str x t from r); cases e; rfl
  | byt b => obtain ⟨t, e⟩ := (show ∃ t, u = Value.bytes b t from r); cases e; rfl
  | flt b => obtain ⟨t, e⟩ := (show ∃ t, u = Value.float b t from r); cases e; rfl
  | ref a => cases (show u = Value.ref a from r); rfl
  | ty n => cases (show u = Value.type n from r); rfl
section
variable {P : Program} {w : World} {H H' : Hp} {h h' : Heap} {a C dx : Addr} {fs fs' : List (Str × V)}
theorem ins_get (hok : HOk P w H h) (e : H a = some (.ins C dx fs)) : ∃ mA, ObjM h a dx C mA ∧ (∀ f, RelO (fs.lookup f) (mA f)) ∧ PySem.Within mA (fs.map (·.1)) ∧ fs.length ≤ 1000 ∧ H dx = some (.own a) := by
  obtain ⟨d, z, ne, ob, mA, n, r, q⟩ := (show ObjOk P w H h a (.ins C dx fs) from hok a _ e)
  exact ⟨mA, ⟨ob, n, ne⟩, r, q, z, d⟩
end
structure Cls (K : PySem.W.Frag) (C : Addr) : Prop where
  pg : PySem.W.plainGet K C Str.empty = true
  hd : PySem.W.hasDictIn K C = true
  po : PySem.W.plainOver K C = true
  sa : PySem.W.findIn K (.ref C) "__setattr__" = some (some (.builtin "object.__setattr__"))
theorem Cls.get {K : PySem.W.Frag} {C : Addr} (c : Cls K C) (f : Str) : PySem.W.plainGet K C f = true := c.pg
def NoAttr (K : PySem.W.Frag) (C : Addr) (f : Str) : Prop := PySem.W.findIn K (.ref C) f = some none
theorem NoAttr.taker {K : PySem.W.Frag} {C : Addr} {f : Str} (n : NoAttr K C f) : PySem.W.takerIn K C f = some none := by
  unfold PySem.W.takerIn
  rw [show PySem.W.findIn K (.ref C) f = some none from n]
  rfl
structure Meth (K : PySem.W.Frag) (C : Addr) (m : Str) (f : Addr) : Prop where
  at_ : PySem.W.findIn K (.ref C) m = some (some (.ref f))
  fn : PySem.W.isFn K (.ref f) = true
  kp : PySem.W.keepIn K (.ref f) = true
section
variable {X : Cx} {pins : List (Addr × Obj)} {σ : St} {H : Hp} {s : Shared} {a C dx : Addr} {fs : List (Str × V)} {f : Str} {v : V} {A : Around} {E : Value → Shared → Prop}
theorem getattr_ok {b : Bool} {Q : Value → Shared → Prop} (I : Inv X pins σ H s) (e : H a = some (.ins C dx fs)) (c : Cls X.K C) (n : NoAttr X.K C f) (l : fs.lookup f = some v)
    (h : ∀ u s', Inv X pins σ H s' → RelV v u → Q u s') : wpAny (model X.prog X.w) A (getAttr (.ref a) f b) Q E s := by
  obtain ⟨mA, O, r, _, _, _⟩ := ins_get I.hok e
  obtain ⟨u, hu, ru⟩ := RelO.some_of (v := v) (o := mA f) (by rw [← l]; exact r f)
  exact get_map I.kIn O (c.get f) c.hd n hu (handed_of ru) (h u _ (I.tok _) ru)
theorem getmeth_ok {m : Str} {g : Addr} {pl : Sem Bool} {Q : Value × List Value → Shared → Prop} (I : Inv X pins σ H s) (e : H a = some (.ins C dx fs)) (c : Cls X.K C) (k : Meth X.K C m g) (l : fs.lookup m = none)
    (h : Q (.ref g, [.ref a]) s) : wpAny (model X.prog X.w) A (getMethod (.ref a) m pl) Q E s := by
  obtain ⟨mA, O, r, _, _, _⟩ := ins_get I.hok e
  have hn : mA m = none := RelO.none_of (by rw [← l]; exact r m)
  exact get_meth I.kIn O (c.get m) k.at_ k.fn hn h
theorem setattr_ok {y : V} {u : Value} {Q : Unit → Shared → Prop} (I : Inv X pins σ H s) (e : H a = some (.ins C dx fs)) (c : Cls X.K C) (n : NoAttr X.K C f) (hl : fs.length < 1000) (ry : RelV y u)
    (h : ∀ s', Inv X pins σ (upd H a (.ins C dx (putF f y fs))) s' → Q () s') : wpAny (model X.prog X.w) A (setAttr (.ref a) f u) Q E s := by
  obtain ⟨mA, O, r, wi, _, ho⟩ := ins_get I.hok e
  have hz : (fs.map (·.1)).length ≤ sizeLine := by rw [List.length_map, sizeLine_eq]; omega
  refine set_map I.kIn O c.sa c.po n.taker c.hd wi hz fun h' O' sb => h _ ?_
  have hd : ∃ o, h'.get? dx = some o := let ⟨o, _, _, e', _⟩ := O'.ns; ⟨o, e'⟩
  refine I.write (x := a) (e := dx) (by rw [e]; exact True.intro) (.inr ho) (fun b q hb z => (sb.2 b hb).trans z) hd ?_
  refine ⟨by rw [upd_ne O.ne]; exact ho, ?_, O.ne, O'.obj, _, O'.ns, fun g => ?_, fun g hg => ?_⟩
  · have := length_putF f y fs; omega
  · show RelO ((putF f y fs).lookup g) (if g = f then some u else mA g)
    rw [lookup_putF]
    by_cases q : g = f
    · rw [if_pos q, if_pos q]; exact ry
    · rw [if_neg q, if_neg q]; exact r g
  · by_cases q : g = f
    · rw [q]; exact (keys_putF f y fs).1
    · refine (keys_putF f y fs).2 g (wi g fun z => hg ?_)
      show (if g = f then some u else mA g) = none
      rw [if_neg q]; exact z
theorem Inv.made (I : Inv X pins σ H s) : Inv X pins σ (upd (upd H s.heap.objs.size (.own (s.heap.objs.size + 1))) (s.heap.objs.size + 1) (.ins C s.heap.objs.size []))
    { s with heap := (s.heap.push PySem.W.emptyDict).push (PySem.W.instObj C s.heap.objs.size) } := by
  have e1 : (s.heap.push PySem.W.emptyDict).get? s.heap.objs.size = some PySem.W.emptyDict := Heap.get?_push_size s.heap rfl
  have e2 : ((s.heap.push PySem.W.emptyDict).push (PySem.W.instObj C s.heap.objs.size)).get? (s.heap.objs.size + 1) = some (PySem.W.instObj C s.heap.objs.size) := by
    have := Heap.get?_push_size (s.heap.push PySem.W.emptyDict) (o := PySem.W.instObj C s.heap.objs.size) rfl
    rwa [Heap.size_push] at this
  have e3 : (s.heap.push PySem.W.emptyDict).Ns s.heap.objs.size (fun _ => none) := ⟨PySem.W.emptyDict, #[], _, e1, rfl, (fun e he => absurd he (by simp)), fun _ => rfl⟩
  have I1 := I.laid (a := s.heap.objs.size) (o := .own (s.heap.objs.size + 1)) (h' := s.heap.push PySem.W.emptyDict) (t' := s.toks) (fun b u q => Heap.get?_push_of_some _ q) (Nat.le_refl _) ⟨_, e1⟩
  refine I1.laid (a := s.heap.objs.size + 1) (o := .ins C s.heap.objs.size []) (t' := s.toks) (fun b u q => Heap.get?_push_of_some _ q) (Nat.le_of_eq (Heap.size_push _ _)) ?_
  have ne : s.heap.objs.size ≠ s.heap.objs.size + 1 := Nat.ne_of_lt (Nat.lt_succ_self _)
  refine ⟨by rw [upd_ne ne, upd_same], Nat.zero_le _, ne, e2, fun _ => none, (Heap.Ns1.of_empty e3).at fun o q => Heap.get?_push_of_some _ q, fun _ => True.intro, fun y hy => absurd rfl hy⟩
theorem attr_of {prog : Program} {w : World} {env : Env} {e : Expr} {f : Str} {pos : Pos} {s : Shared} {Q : Value → Shared → Prop} (hb : attributeBase e f env (eval e env) = eval e env)
    (h : wpAny (model prog w) A (eval e env) (fun o s₁ => wpAny (model prog w) A (getAttr o f true) Q E s₁) E s) : wpAny (model prog w) A (eval (.Attribute e f pos) env) Q E s :=
  Attribute_any_ h (by rw [arm_eval_Attribute, hb])
end
def tFld (K : PySem.W.Frag) (ta : TE) (f : Str) : TE := fun σ H Q => ta σ H fun x H1 => ∃ a C dx fs v, x = .ref a ∧ H1 a = some (.ins C dx fs) ∧ Cls K C ∧ NoAttr K C f ∧ fs.lookup f = some v ∧ Q v H1
def sFld (K : PySem.W.Frag) (ta tv : TE) (f : Str) : TS := fun D σ H => tv σ H fun y H1 => ta σ H1 fun x H2 => ∃ a C dx fs, x = .ref a ∧ H2 a = some (.ins C dx fs) ∧ Cls K C ∧ NoAttr K C f ∧ fs.length < 1000 ∧
  D.nx σ (upd H2 a (.ins C dx (putF f y fs)))
section
variable {X : Cx} {o e value : Expr} {f : Str} {pos pos' tpos : Pos} {ta tv : TE}
theorem pe_fld (he : PE X e ta) (hb : attributeBase e f X.env (eval e X.env) = eval e X.env) : PE X (.Attribute e f pos) (tFld X.K ta f) := by
  intro pins s σ H Q I h
  refine attr_of hb (thn (he pins s σ H _ I h) fun u s1 ⟨x, H1, I1, rx, a, C, dx, fs, v, ex, ea, c, n, l, q⟩ => ?_)
  subst ex
  obtain rfl : u = Value.ref a := rx
  exact getattr_ok I1 ea c n l fun u' s2 I2 ru => ⟨v, H1, I2, ru, q⟩
theorem ps_fld (ha : PE X o ta) (hv : PE X value tv) (hs : swapsWith value (some (.Attribute o f pos')) pos.line X.env = pure false) : PS X (.Assign [.Attribute o f pos'] value pos) (sFld X.K ta tv f) := by
  intro pins s σ H D I h
  refine plainObj_wpAny_Assign_Attribute (thn (hv pins s σ H _ I h) fun u s1 ⟨y, H1, I1, ry, q⟩ => thn (ha pins s1 σ H1 _ I1 q) fun ov s2 ⟨x, H2, I2, rx, a, C, dx, fs, ex, ea, c, n, l, q2⟩ => ?_) hs
  subst ex
  obtain rfl : ov = Value.ref a := rx
  exact setattr_ok I2 ea c n l ry fun s3 I3 => ⟨σ, _, I3, q2⟩
end
end L2
namespace L2
open PySem PySem.Spec PyProof.Rows
structure Room (k : Nat) (A : Around) : Prop where
  hd : A.handled = none
  dp : A.depth + 3 * k + 5 < recursionLimit
  un : A.units + 16 * k + 200 < cLine
theorem Room.mono {j k : Nat} {A : Around} (r : Room k A) (h : j ≤ k) : Room j A := ⟨r.hd, by have := r.dp; omega, by have := r.un; omega⟩
theorem Room.deeper {k : Nat} {A : Around} (r : Room (k + 1) A) (env : Env) : Room k (A.deeper env) :=
  ⟨r.hd, by have := r.dp; show A.depth + 1 + 3 * k + 5 < _; omega, by have := r.un; show A.units + 3 + 16 * k + 200 < _; omega⟩
theorem make_depth {A : Around} {C : Addr} {us : List Value} {kw : List (Str × Value)} : (A.under (.builtin "type.__call__" ⟨.ref C :: us, kw⟩)).depth = A.depth + 1 := by
  first | rfl | simp [Around.under, Code.weight, Code.isCreation, Code.isGuard, Code.isCaller, Code.frames, Code.isFrame, guardIds]
theorem make_units {A : Around} {C : Addr} {us : List Value} {kw : List (Str × Value)} : (A.under (.builtin "type.__call__" ⟨.ref C :: us, kw⟩)).units = A.units + 1 := by
  first | rfl | simp [Around.under, Code.cUnits, Code.frames, Code.isFrame]
theorem Room.make {k : Nat} {A : Around} (r : Room (k + 1) A) (C : Addr) (us : List Value) (kw : List (Str × Value)) : Room k (A.under (.builtin "type.__call__" ⟨.ref C :: us, kw⟩)) :=
  ⟨r.hd, by have := r.dp; rw [make_depth]; omega, by have := r.un; rw [make_units]; omega⟩
theorem Room.depth {k : Nat} {A : Around} (r : Room k A) : A.depth < recursionLimit := by have := r.dp; omega
def tNil : TA := fun _ H Q => Q [] H
def tCons (ta : TE) (tr : TA) : TA := fun σ H Q => ta σ H fun x H1 => tr σ H1 fun xs H2 => Q (x :: xs) H2
section
variable {X : Cx} {e : Expr} {es : List Expr} {te : TE} {t : TA} {pos : Pos}
theorem pa_nil : PA X [] tNil := fun _ _ _ _ H Q I h => Calls.spliced_nil ⟨[], H, I, .nil, h⟩
theorem pa_cons (ha : PE X e te) (hr : PA X es t) (hs : starEach (e :: es) X.env = (false, eval e X.env) :: starEach es X.env := by rfl) : PA X (e :: es) (tCons te t) := by
  intro pos pins s σ H Q I h
  rw [hs]
  show wpAny _ _ (spliced ((false, eval e X.env) :: backTo pos (starEach es X.env))) _ _ s
  refine Calls.spliced_cons (thn (ha pins s σ H _ I h) fun u s1 ⟨x, H1, I1, r1, q1⟩ => ?_)
  exact thn (hr pos pins s1 σ H1 _ I1 q1) fun us s2 ⟨xs, H2, I2, r2, q2⟩ => ⟨x :: xs, H2, I2, .cons r1 r2, q2⟩
def tTup (t : TA) : TE := fun σ H Q => t σ H fun xs H1 => xs.length ≤ sizeLine ∧ ∀ p, H1 p = none → Q (.ref p) (upd H1 p (.tup xs))
def tLst (t : TA) : TE := fun σ H Q => t σ H fun xs H1 => xs.length ≤ sizeLine ∧ ∀ p, H1 p = none → Q (.ref p) (upd H1 p (.lst xs))
theorem pe_tup {x1} (h : PA X es t) : PE X (.Tuple es x1 pos) (tTup t) := by
  intro pins s σ H Q I hq
  refine wpAny_Tuple_spliced (thn (h pos pins s σ H _ I hq) fun us s1 ⟨xs, H1, I1, r, z, q⟩ => ⟨by rw [← r.length]; exact z, ?_⟩)
  have hf : H1 s1.heap.objs.size = none := I1.hok.fresh (Nat.le_refl _)
  refine ⟨.ref s1.heap.objs.size, upd H1 s1.heap.objs.size (.tup xs), I1.laid (t' := s1.toks) (fun b u e => Heap.get?_push_of_some _ e) (Nat.le_refl _) ?_, rfl, q _ hf⟩
  exact ⟨z, us, r, ⟨_, Heap.get?_push_size _ rfl, rfl, _, rfl⟩⟩
theorem pe_lst (h : PA X es t) : PE X (.List es pos) (tLst t) := by
  intro pins s σ H Q I hq
  refine wpAny_List_spliced (thn (h pos pins s σ H _ I hq) fun us s1 ⟨xs, H1, I1, r, z, q⟩ => ⟨by rw [← r.length]; exact z, ?_⟩)
  have hf : H1 s1.heap.objs.size = none := I1.hok.fresh (Nat.le_refl _)
  refine ⟨.ref s1.heap.objs.size, upd H1 s1.heap.objs.size (.lst xs), I1.laid (t' := s1.toks) (fun b u e => Heap.get?_push_of_some _ e) (Nat.le_refl _) ?_, rfl, q _ hf⟩
  exact ⟨z, us, 0, r, Heap.get?_push_size _ rfl⟩
end
abbrev Sp := List V → Hp → VK → XK → Prop
abbrev CXT := List Env → Hp → Shared → XK → Value → Shared → Prop
structure Env0 (P : Program) (w : World) (K : PySem.W.Frag) (mg : Str → Option Value) (base : Heap) (A : Around) (outer : List Env) (s : Shared) (H : Hp) : Prop where
  frames : A.frames = some outer
  mod : Mod K mg base
  bs : ∀ b o, base.get? b = some o → s.heap.get? b = some o ∧ H b = none
  bsz : base.objs.size ≤ s.heap.objs.size
  funs : s.heap.FunFrames base outer
  frf : ∀ b ∈ frs outer, H b = none
  hok : HOk P w H s.heap
  bare : AllBare s.gens
def CE (outer : List Env) (P : Program) (w : World) (H : Hp) (s : Shared) (Q : VK) (u : Value) (s' : Shared) : Prop :=
  ∃ v H', s'.os = s.os ∧ AllBare s'.gens ∧ Un (frs outer) [] H H' s.heap s'.heap ∧ HOk P w H' s'.heap ∧ RelV v u ∧ Q v H'
def CR (CX : CXT) (outer : List Env) (P : Program) (w : World) (H : Hp) (s : Shared) (Q : VK) (E : XK) (r : Result) (s' : Shared) : Prop :=
  match r with
  | .ok (.ret u) => CE outer P w H s Q u s'
  | .ok _ => False
  | .error e => CX outer H s E e s'
structure FnOk (P : Program) (w : World) (K : PySem.W.Frag) (mg : Str → Option Value) (base : Heap) (CX : CXT) (k : Nat) (f : Addr) (fd : FuncData) (ps : List Str) (sp : Sp) : Prop where
  len : ∀ vs H Q E, sp vs H Q E → vs.length = ps.length
  run : ∀ (A : Around) (outer : List Env) (s : Shared) (H : Hp) (args : Args) (us : List Value) (vs : List V) (Q : VK) (E : XK), Room k A → Env0 P w K mg base A outer s H → BindsTo s fd args (ps.zip us) → Vals vs us → sp vs H Q E →
    codeAny (model P w) A (.call (.ref f) args) (CR CX outer P w H s Q E) s
theorem Env0.make {P : Program} {w : World} {K : PySem.W.Frag} {mg : Str → Option Value} {base : Heap} {A : Around} {outer : List Env} {s : Shared} {H : Hp} (e : Env0 P w K mg base A outer s H) (C : Addr) (us : List Value) (kw : List (Str × Value)) :
    Env0 P w K mg base (A.under (.builtin "type.__call__" ⟨.ref C :: us, kw⟩)) outer s H := ⟨by first | exact e.frames | (simpa [Around.under, Code.envs, Code.isFrame, pushEnvs] using e.frames), e.mod, e.bs, e.bsz, e.funs, e.frf, e.hok, e.bare⟩
section
variable {X : Cx} {pins : List (Addr × Obj)} {σ : St} {H : Hp} {s s' : Shared}
theorem Inv.env0 (I : Inv X pins σ H s) : Env0 X.prog X.w X.K X.mg X.base X.A X.stack s H :=
  ⟨I.ok.frames, I.ok.mod, I.bs, Nat.le_trans I.ok.bsz I.sz, I.stack, I.stkFree, I.hok, I.bare⟩
theorem Inv.after {Q : VK} {u : Value} (I : Inv X pins σ H s) (h : CE X.stack X.prog X.w H s Q u s') : EP X pins σ Q u s' := by
  obtain ⟨v, H', os, bare, un, hok, r, q⟩ := h
  obtain ⟨hh, g, d, t, os'⟩ := s'
  obtain rfl : os' = s.os := os
  exact ⟨v, H', I.call (h' := hh) (g' := g) (d' := d) (t' := t) (ch := []) un hok bare (fun b z => absurd z (by simp)), r, q⟩
end
def tCall (sp : Sp) (dvs : List V) (E : XK) (t : TA) : TE := fun σ H Q => t σ H fun vs H1 => sp (vs ++ dvs) H1 Q E
def tMeth (C : Addr) (m : Str) (sp : Sp) (dvs : List V) (E : XK) (ta : TE) (t : TA) : TE := fun σ H Q => ta σ H fun x H1 => ∃ a dx fs, x = .ref a ∧ H1 a = some (.ins C dx fs) ∧ fs.lookup m = none ∧
  t σ H1 fun vs H2 => sp (x :: (vs ++ dvs)) H2 Q E
def tMake (C : Addr) (sp : Sp) (dvs : List V) (E : XK) (t : TA) : TE := fun σ H Q => t σ H fun vs H1 => ∀ x dx, H1 x = none → H1 dx = none → dx ≠ x →
  sp (.ref x :: (vs ++ dvs)) (upd (upd H1 dx (.own x)) x (.ins C dx [])) (fun v H2 => v = .non ∧ Q (.ref x) H2) E
def Binds (K : PySem.W.Frag) (fd : FuncData) (ps : List Str) (ds : List Value) : Prop :=
  ∀ (s : Shared) (us : List Value), K.In s.heap → (us ++ ds).length = ps.length → BindsTo s fd ⟨us, []⟩ (ps.zip (us ++ ds))
theorem Binds.all {K : PySem.W.Frag} {fd : FuncData} {ps : List Str} (h : ∀ us : List Value, us.length = ps.length → bindArgs fd ⟨us, []⟩ = pure (ps.zip us)) : Binds K fd ps [] := fun s us _ hl => by
  rw [List.append_nil] at hl ⊢
  exact .of_eq (h us hl)
def Passes (CX : CXT) (X : Cx) (E : XK) : Prop := ∀ (pins : List (Addr × Obj)) (σ : St) (H : Hp) (s : Shared) (e : Value) (s' : Shared), Inv X pins σ H s → CX X.stack H s E e s' → X.xe e s'
section
variable {X : Cx} {CX : CXT} {k : Nat} {f C : Addr} {fd : FuncData} {ps : List Str} {sp : Sp} {dvs : List V} {ds : List Value} {E : XK} {x m : Str} {p pos apos : Pos} {e o : Expr} {es : List Expr} {ta : TE} {t : TA}
theorem run_fn {pins : List (Addr × Obj)} {σ : St} {H : Hp} {s : Shared} {Q : VK} {us : List Value} {vs : List V} (F : FnOk X.prog X.w X.K X.mg X.base CX k f fd ps sp) (hr : Room k X.A) (hb : Binds X.K fd ps ds) (hd : Vals dvs ds) (hx : Passes CX X E)
    (I : Inv X pins σ H s) (r : Vals vs us) (h : sp (vs ++ dvs) H Q E) : wpAny (model X.prog X.w) X.A (call (.ref f) us) (EP X pins σ Q) X.xe s := by
  have r2 : Vals (vs ++ dvs) (us ++ ds) := r.append hd
  have hl : (us ++ ds).length = ps.length := by rw [← r2.length]; exact F.len _ _ _ _ h
  refine wpAny_call (codeAny_mono (F.run X.A X.stack s H ⟨us, []⟩ (us ++ ds) (vs ++ dvs) Q E hr I.env0 (hb s us I.kIn hl) r2 h) fun r s' hq => ?_)
  cases r with
  | error e => exact hx pins σ H s e s' I hq
  | ok fl =>
    cases fl with
    | ret u => exact I.after hq
    | next => exact False.elim hq
    | brk => exact False.elim hq
    | cont => exact False.elim hq
theorem pe_call (F : FnOk X.prog X.w X.K X.mg X.base CX k f fd ps sp) (hr : Room k X.A) (hg : Gl X x) (hm : X.mg x = some (.ref f)) (hk : PySem.W.keepIn X.K (.ref f) = true) (hb : Binds X.K fd ps ds) (hd : Vals dvs ds) (hx : Passes CX X E)
    (ha : PA X (e :: es) t) (hdb : (x == ("__debug__" : Str)) = false := by decide) (he : starEach (e :: es) X.env = (false, eval e X.env) :: starEach es X.env := by rfl) (hpl : (backTo pos (starEach es X.env)).any (·.1) = false := by rfl) :
    PE X (.Call (.Name x p) (e :: es) [] pos) (tCall sp dvs E t) := by
  intro pins s σ H Q I h
  refine wpAny_Call_Name_kw (ld_glob I hg hm ?_ hdb)
  refine PySem.W.callWith_K (h₀ := X.base) I.ok.mod.kin hk (thn (ha pos pins s σ H _ I h) fun us s1 ⟨vs, H1, I1, r, q⟩ => ⟨I1.kIn, ?_⟩) he hpl
  exact run_fn F hr hb hd hx I1 r q
theorem pe_call0 (F : FnOk X.prog X.w X.K X.mg X.base CX k f fd ps sp) (hr : Room k X.A) (hg : Gl X x) (hm : X.mg x = some (.ref f)) (hk : PySem.W.keepIn X.K (.ref f) = true) (hb : Binds X.K fd ps ds) (hd : Vals dvs ds) (hx : Passes CX X E)
    (hdb : (x == ("__debug__" : Str)) = false := by decide) : PE X (.Call (.Name x p) [] [] pos) (tCall sp dvs E tNil) := by
  intro pins s σ H Q I h
  refine wpAny_Call_Name_kw (ld_glob I hg hm ?_ hdb)
  exact PySem.W.callWith_K0 I.kIn hk (run_fn (us := []) F hr hb hd hx I .nil h)
theorem pe_meth {pl : Sem Bool} (he : PE X o ta) (c : Cls X.K C) (hm : Meth X.K C m f) (F : FnOk X.prog X.w X.K X.mg X.base CX k f fd ps sp) (hr : Room k X.A) (hb : Binds X.K fd ps ds) (hd : Vals dvs ds) (hx : Passes CX X E) (ha : PA X (e :: es) t)
    (hst : starEach (e :: es) X.env = (false, eval e X.env) :: starEach es X.env := by rfl) (hpl : (backTo pos (starEach es X.env)).any (·.1) = false := by rfl)
    (ht : eval (.Call (.Attribute o m apos) (e :: es) [] pos) X.env = (do
      let ov ← eval o X.env
      standAt apos.atName
      let (f, first) ← holding [ov] (getMethod ov m pl)
      callWith pos f first (backTo pos (starEach (e :: es) X.env)) (backToKw pos (keywordEach [] X.env))) := by rfl) :
    PE X (.Call (.Attribute o m apos) (e :: es) [] pos) (tMeth C m sp dvs E ta t) := by
  intro pins s σ H Q I h
  refine PySem.W.methodCall_KW (pl := pl) (thn (he pins s σ H _ I h) fun u s1 ⟨x, H1, I1, rx, a, dx, fs, ex, ea, l, q⟩ => ?_) ht
  subst ex
  obtain rfl : u = Value.ref a := rx
  refine getmeth_ok I1 ea c hm l ?_
  refine PySem.W.callWith_K (first := [.ref a]) (h₀ := X.base) I.ok.mod.kin hm.kp (thn (ha pos pins s1 σ H1 _ I1 q) fun us s2 ⟨vs, H2, I2, r, q2⟩ => ⟨I2.kIn, ?_⟩) hst hpl
  exact run_fn (us := .ref a :: us) (vs := .ref a :: vs) F hr hb hd hx I2 (.cons rfl r) q2
theorem pe_meth0 {pl : Sem Bool} (he : PE X o ta) (c : Cls X.K C) (hm : Meth X.K C m f) (F : FnOk X.prog X.w X.K X.mg X.base CX k f fd ps sp) (hr : Room k X.A) (hb : Binds X.K fd ps ds) (hd : Vals dvs ds) (hx : Passes CX X E)
    (ht : eval (.Call (.Attribute o m apos) [] [] pos) X.env = (do
      let ov ← eval o X.env
      standAt apos.atName
      let (f, first) ← holding [ov] (getMethod ov m pl)
      callWith pos f first (backTo pos (starEach [] X.env)) (backToKw pos (keywordEach [] X.env))) := by rfl) :
    PE X (.Call (.Attribute o m apos) [] [] pos) (tMeth C m sp dvs E ta tNil) := by
  intro pins s σ H Q I h
  refine PySem.W.methodCall_KW (pl := pl) (thn (he pins s σ H _ I h) fun u s1 ⟨x, H1, I1, rx, a, dx, fs, ex, ea, l, q⟩ => ?_) ht
  subst ex
  obtain rfl : u = Value.ref a := rx
  refine getmeth_ok I1 ea c hm l ?_
  exact PySem.W.callWith_K0 (first := [.ref a]) I1.kIn hm.kp (run_fn (us := [.ref a]) (vs := [.ref a]) F hr hb hd hx I1 (.cons rfl .nil) q)
structure Mk (K : PySem.W.Frag) (C f : Addr) : Prop where
  makes : PySem.W.makesIn K C = true
  init : PySem.W.findIn K (.ref C) "__init__" = some (some (.ref f))
  fn : PySem.W.isFn K (.ref f) = true
  kp : PySem.W.keepIn K (.ref C) = true
theorem run_make {pins : List (Addr × Obj)} {σ : St} {H : Hp} {s : Shared} {Q : VK} {us : List Value} {vs : List V} (M : Mk X.K C f) (F : FnOk X.prog X.w X.K X.mg X.base CX k f fd ps sp) (hr : Room (k + 1) X.A) (hb : Binds X.K fd ps ds) (hd : Vals dvs ds)
    (hx : Passes CX X E) (I : Inv X pins σ H s) (r : Vals vs us)
    (h : ∀ x dx, H x = none → H dx = none → dx ≠ x → sp (.ref x :: (vs ++ dvs)) (upd (upd H dx (.own x)) x (.ins C dx [])) (fun v H2 => v = .non ∧ Q (.ref x) H2) E) :
    wpAny (model X.prog X.w) X.A (call (.ref C) us) (EP X pins σ Q) X.xe s := by
  have hq := h (s.heap.objs.size + 1) s.heap.objs.size (I.hok.fresh (Nat.le_succ _)) (I.hok.fresh (Nat.le_refl _)) (Nat.ne_of_lt (Nat.lt_succ_self _))
  have I2 := Inv.made (C := C) I
  have r2 : Vals (V.ref (s.heap.objs.size + 1) :: (vs ++ dvs)) (Value.ref (s.heap.objs.size + 1) :: (us ++ ds)) := .cons rfl (r.append hd)
  have hl : (Value.ref (s.heap.objs.size + 1) :: us ++ ds).length = ps.length := by
    have e := r2.length
    rw [F.len _ _ _ _ hq] at e
    exact e.symm
  refine wpAny_call (make_map (f := f) I.kIn M.makes M.init (beq_iff_eq.mp M.fn) (codeAny_mono (F.run _ X.stack _ _ ⟨Value.ref (s.heap.objs.size + 1) :: us, []⟩ (Value.ref (s.heap.objs.size + 1) :: (us ++ ds)) _ _ E (hr.make C us [])
    (I2.env0.make C us []) (hb _ (Value.ref (s.heap.objs.size + 1) :: us) I2.kIn hl) r2 hq) fun r s' hq' => ?_))
  cases r with
  | error e => exact hx pins σ _ _ e s' I2 hq'
  | ok fl =>
    cases fl with
    | ret u =>
      obtain ⟨v, H', I3, rv, ev, q3⟩ := I2.after hq'
      subst ev
      exact ⟨rv, ⟨V.ref (s.heap.objs.size + 1), H', I3, rfl, q3⟩⟩
    | next => exact False.elim hq'
    | brk => exact False.elim hq'
    | cont => exact False.elim hq'
theorem pe_make0 (M : Mk X.K C f) (F : FnOk X.prog X.w X.K X.mg X.base CX k f fd ps sp) (hr : Room (k + 1) X.A) (hg : Gl X x) (hm : X.mg x = some (.ref C)) (hb : Binds X.K fd ps ds) (hd : Vals dvs ds) (hx : Passes CX X E)
    (hdb : (x == ("__debug__" : Str)) = false := by decide) : PE X (.Call (.Name x p) [] [] pos) (tMake C sp dvs E tNil) := by
  intro pins s σ H Q I h
  refine wpAny_Call_Name_kw (ld_glob I hg hm ?_ hdb)
  exact PySem.W.callWith_K0 I.kIn M.kp (run_make (us := []) M F hr hb hd hx I .nil h)
end
structure FnScope (N P : List Str) (sc : Scope) : Prop where
  kind : sc.kind = .function
  co : sc.isCoroutine = false
  gen : sc.isGenerator = false
  nd : N.Nodup
  pre : N.take P.length = P
  par : ∀ x ∈ P, sc.names.lookup x = some .local ∨ sc.names.lookup x = some .cell
  nofree : ∀ y ∈ sc.names, y.2 ≠ .free
theorem bindL_out {kindOf : Str → Option NameKind} {x : Str} : ∀ {binds : List (Str × Value)} {m : Str → Option Value}, (∀ v, (x, v) ∉ binds) → bindL kindOf binds m x = m x
  | [], _, _ => rfl
  | (n, v) :: r, m, h => by
    unfold bindL
    rw [bindL_out fun w hw => h w (List.mem_cons_of_mem _ hw)]
    split
    · have : x ≠ n := by rintro rfl; exact h v List.mem_cons_self
      simp [this]
    · rfl
theorem bindC_out {kindOf : Str → Option NameKind} {x : Str} : ∀ {binds : List (Str × Value)} {m : Str → Option Value}, (∀ v, (x, v) ∉ binds) → bindC kindOf binds m x = m x
  | [], _, _ => rfl
  | (n, v) :: r, m, h => by
    unfold bindC
    rw [bindC_out fun w hw => h w (List.mem_cons_of_mem _ hw)]
    split
    · rfl
    · have : x ≠ n := by rintro rfl; exact h v List.mem_cons_self
      simp [this]
theorem bindL_get {kindOf : Str → Option NameKind} {x : Str} {v : Value} : ∀ {P : List Str} {vs : List Value} {i : Nat} {m : Str → Option Value}, P.Nodup → P[i]? = some x → vs[i]? = some v → kindOf x = some .local →
    bindL kindOf (P.zip vs) m x = some v
  | [], _, _, _, _, h, _, _ => by simp at h
  | _ :: _, [], _, _, _, _, h, _ => by simp at h
  | p :: P, w :: vs, 0, m, nd, h1, h2, hk => by
    simp at h1 h2; subst h1; subst h2
    show bindL kindOf ((p, w) :: P.zip vs) m p = _
    unfold bindL
    rw [bindL_out fun v hv => (List.nodup_cons.mp nd).1 (List.of_mem_zip hv).1, if_pos hk]
    simp
  | p :: P, w :: vs, i + 1, m, nd, h1, h2, hk => by
    show bindL kindOf ((p, w) :: P.zip vs) m x = _
    unfold bindL
    exact bindL_get (i := i) (List.nodup_cons.mp nd).2 (by simpa using h1) (by simpa using h2) hk
theorem bindC_get {kindOf : Str → Option NameKind} {x : Str} {v : Value} : ∀ {P : List Str} {vs : List Value} {i : Nat} {m : Str → Option Value}, P.Nodup → P[i]? = some x → vs[i]? = some v → kindOf x ≠ some .local →
    bindC kindOf (P.zip vs) m x = some v
  | [], _, _, _, _, h, _, _ => by simp at h
  | _ :: _, [], _, _, _, _, h, _ => by simp at h
  | p :: P, w :: vs, 0, m, nd, h1, h2, hk => by
    simp at h1 h2; subst h1; subst h2
    show bindC kindOf ((p, w) :: P.zip vs) m p = _
    unfold bindC
    rw [bindC_out fun v hv => (List.nodup_cons.mp nd).1 (List.of_mem_zip hv).1, if_neg hk]
    simp
  | p :: P, w :: vs, i + 1, m, nd, h1, h2, hk => by
    show bindC kindOf ((p, w) :: P.zip vs) m x = _
    unfold bindC
    exact bindC_get (i := i) (List.nodup_cons.mp nd).2 (by simpa using h1) (by simpa using h2) hk
def start (N : List Str) (vs : List V) : St := vs.map some ++ List.replicate (N.length - vs.length) none
def cxOf (CX : CXT) (P : Program) (w : World) (K : PySem.W.Frag) (mg : Str → Option Value) (base : Heap) (N : List Str) (qual : Str) (scope : Scope) (f : Addr) (cd : Value) (A : Around) (outer : List Env) (s : Shared) (H : Hp) (E : XK) : Cx where
  prog := P
  w := w
  K := K
  mg := mg
  base := base
  A := A.deeper (envOfC qual scope s.heap.objs.size f cd)
  N := N
  s₀ := s
  H₀ := H
  env := envOfC qual scope s.heap.objs.size f cd
  outer := outer
  stack := envOfC qual scope s.heap.objs.size f cd :: outer
  ex := []
  calm := true
  fn := fun _ => true
  pn := []
  xe := fun e s' => wpAny (model P w) (A.deeper (envOfC qual scope s.heap.objs.size f cd)) (leaving (envOfC qual scope s.heap.objs.size f cd) e) (fun _ s'' => CX outer H s E e s'') (fun e' s'' => CX outer H s E e' s'') s'
theorem cell_has {sc : Scope} {n : Nat} {x : Str} (h : sc.names.lookup x = some .cell) : ∃ c, (cellsFrom n sc.names []).lookup x = some c := by
  have q := PySem.W.cellsFrom_some sc.names n [] (.inl h)
  exact Option.isSome_iff_exists.mp q
theorem inv_start {CX : CXT} {P : Program} {w : World} {K : PySem.W.Frag} {mg : Str → Option Value} {base : Heap} {N ps : List Str} {qual : Str} {scope : Scope} {f : Addr} {cd : Value} {A : Around} {outer : List Env} {s s1 : Shared} {H : Hp} {E : XK} {us : List Value} {vs : List V}
    (S : FnScope N ps scope) (hd : A.handled = none) (e0 : Env0 P w K mg base A outer s H) (hl : vs.length = ps.length) (r : Vals vs us)
    (x : InCallC s s.heap.objs.size (bindL (envOfC qual scope s.heap.objs.size f cd).kindOf (ps.zip us) fun _ => none) (cellsFrom (s.heap.objs.size + 1) scope.names []) (bindC (envOfC qual scope s.heap.objs.size f cd).kindOf (ps.zip us) fun _ => none) s1) :
    Inv (cxOf CX P w K mg base N qual scope f cd A outer s H E) [] (start N vs) H s1 := by
  have hpl : ps.length ≤ N.length := by have := congrArg List.length S.pre; rw [List.length_take] at this; omega
  obtain ⟨h1, tk, rfl, hk⟩ := x.done
  have noA : ∀ b : Addr, b ∉ (cxOf CX P w K mg base N qual scope f cd A outer s H E).ex := fun b z => absurd (show b ∈ ([] : List Addr) from z) (by simp)
  refine ⟨⟨e0.mod, S.kind, rfl, rfl, Nat.le_refl _, fun y z c h1 h2 => ?_, fun y hy => ?_, fun y c _ h => ?_, fun _ => hd, Around.frames_deeper e0.frames, .inr ⟨rfl, rfl⟩, fun b z => absurd z (noA b), e0.bs, e0.bsz, fun b _ _ => noA b, fun b z => absurd z (noA b), e0.funs, e0.frf⟩,
    rfl, e0.bare, Un.kept hk, ⟨_, x.toInCall.ns, fun i y v h1 h2 h3 => ?_⟩, fun y c h => ⟨_, x.cell y c h⟩, e0.hok.fresh (Nat.le_refl _), fun y c h => ?_, fun p hp => absurd (show p ∈ ([] : List (Addr × Obj)) from hp) (by simp), e0.hok.kept hk, ?_⟩
  · exact name_of_addr x.apart (PySem.mem_of_lookup h1) (PySem.mem_of_lookup h2)
  · have hy : scope.names.lookup y = some .cell ∨ scope.names.lookup y = some .free := hy
    rcases hy with hy | hy
    · exact cell_has hy
    · exact absurd rfl (S.nofree _ (PySem.mem_of_lookup hy))
  · exact Nat.le_of_lt (x.above y c (PySem.mem_of_lookup h))
  · have hi : i < vs.length := by
      unfold start at h2
      by_cases hi : i < vs.length
      · exact hi
      · rw [List.getElem?_append_right (by simpa using hi)] at h2
        rw [List.getElem?_replicate] at h2
        split at h2 <;> cases h2
    have ha : vs[i]? = some v := by
      unfold start at h2
      rw [List.getElem?_append_left (by simpa using hi), List.getElem?_map] at h2
      cases e : vs[i]? with
      | none => rw [e] at h2; cases h2
      | some a => rw [e] at h2; cases h2; rfl
    obtain ⟨u, hu, rv⟩ := r.get ha
    have hp : ps[i]? = some y := by
      rw [← S.pre, List.getElem?_take_of_lt (by omega)]; exact h1
    have ndP : ps.Nodup := by rw [← S.pre]; exact S.nd.sublist (List.take_sublist _ _)
    refine ⟨u, rv, ?_⟩
    rcases S.par y (List.mem_of_getElem? hp) with k | k
    · exact .inl ⟨k, bindL_get ndP hp hu k⟩
    · obtain ⟨c, e⟩ := cell_has (n := s.heap.objs.size + 1) k
      refine .inr ⟨.inl k, c, e, ?_⟩
      have q := x.cell y c e
      rw [bindC_get ndP hp hu (by show scope.names.lookup y ≠ _; rw [k]; decide)] at q
      exact q
  · exact e0.hok.fresh (Nat.le_of_lt (x.above y c (PySem.mem_of_lookup h)))
  · unfold start
    show _ = N.length
    rw [List.length_append, List.length_map, List.length_replicate]
    omega
theorem fn_of {CX : CXT} {P : Program} {w : World} {K : PySem.W.Frag} {mg : Str → Option Value} {base : Heap} {k : Nat} {f : Addr} {name qual : Str} {params : Arguments} {body : List Stmt} {scope : Scope} {dV kV doc pm cdv ct oc : Value} {an od : Option Addr}
    {osl : Array (Option Value)} {N ps : List Str} {sp : Sp} (lk : K.lookup f = some ⟨oc, od, .func (PySem.W.fnOf name qual params body scope dV kV doc pm an cdv ct), osl⟩) (hcd : PySem.W.codeIn K cdv qual = true) (S : FnScope N ps scope)
    (len : ∀ vs H Q E, sp vs H Q E → vs.length = ps.length)
    (hbody : ∀ (A : Around) (outer : List Env) (s : Shared) (H : Hp) (vs : List V) (Q : VK) (E : XK), Room k (A.deeper (envOfC qual scope s.heap.objs.size f cdv)) → sp vs H Q E →
      ∃ t, PSs (cxOf CX P w K mg base N qual scope f cdv A outer s H E) body t ∧ t { nx := fun _ H' => Q .non H', rt := Q } (start N vs) H) :
    FnOk P w K mg base CX (k + 1) f (PySem.W.fnOf name qual params body scope dV kV doc pm an cdv ct) ps sp := by
  refine ⟨len, fun A outer s H args us vs Q E hr e0 hb r hsp => ?_⟩
  have hl := len _ _ _ _ hsp
  have KX : K.In s.heap := e0.mod.kin.keeps fun b o e => (e0.bs b o e).1
  have lim : s.heap.NoLimit := e0.mod.nolimit.keeps fun b o e => (e0.bs b o e).1
  have hkind : ∀ y ∈ ps.zip us, scope.names.lookup y.1 = some .local ∨ (scope.names.lookup y.1 = some .cell ∧ ((cellsFrom (s.heap.objs.size + 1) scope.names []).lookup y.1).isSome = true) := fun ⟨n, v⟩ hy => by
    rcases S.par n (List.of_mem_zip hy).1 with q | q
    · exact .inl q
    · exact .inr ⟨q, PySem.W.cellsFrom_some _ _ _ (.inl q)⟩
  refine codeAny_call_function hr.depth (KX _ _ lk) rfl S.co S.gen rfl (PySem.W.codeRec_of KX hcd) (hb _ _ _ _ ?_)
  refine wpAny_newFunctionEnv_cells S.kind hkind fun env he s1 x => ?_
  subst he
  refine ⟨lim.keeps x.toInCall.keep, codeAny_func ?_⟩
  obtain ⟨t, ht, hq⟩ := hbody A outer s H vs Q E (hr.deeper _) hsp
  have I : Inv (cxOf CX P w K mg base N qual scope f cdv A outer s H E) [] (start N vs) H s1 := inv_start S hr.hd e0 hl r x
  refine wpAny_mono (ht [] s1 (start N vs) H _ I hq) (fun fl s' hs => ?_) fun e s' hs => hs
  have fin : ∀ {σ' : St} {H' : Hp} {v : V} {u : Value}, Inv (cxOf CX P w K mg base N qual scope f cdv A outer s H E) [] σ' H' s' → RelV v u → Q v H' → CE outer P w H s Q u s' :=
    fun {σ' H' v u} J rv q => ⟨v, H', J.os, J.bare, J.base, J.hok, rv, q⟩
  cases fl with
  | ret u =>
    obtain ⟨v, σ', H', J, rv, q⟩ := hs
    exact fin J rv q
  | next =>
    obtain ⟨σ', H', J, q⟩ := hs
    exact fin (v := V.non) (u := Value.none) J rfl q
  | brk =>
    obtain ⟨_, _, _, q⟩ := hs
    exact False.elim q
  | cont =>
    obtain ⟨_, _, _, q⟩ := hs
    exact False.elim q
end L2
namespace L2
open PySem PySem.Spec PyProof.Rows
section
variable {X : Cx} {x : Str} {p pos : Pos} {e : Expr} {es : List Expr} {t : TA} {id T : String} {r : List V → Hp → VK → Prop}
def tCB (r : List V → Hp → VK → Prop) (t : TA) : TE := fun σ H Q => t σ H fun vs H1 => r vs H1 Q
theorem pe_callB (hc : CallR X (.builtin id) r) (hg : Gl X x) (hm : X.mg x = none) (hv : bootBuiltins x = some (.builtin id)) (ha : PA X (e :: es) t) (hn : x ≠ "__name__" := by decide) (hdb : (x == ("__debug__" : Str)) = false := by decide)
    (he : starEach (e :: es) X.env = (false, eval e X.env) :: starEach es X.env := by rfl) (hpl : (backTo pos (starEach es X.env)).any (·.1) = false := by rfl) : PE X (.Call (.Name x p) (e :: es) [] pos) (tCB r t) := by
  intro pins s σ H Q I h
  refine wpAny_Call_Name_kw (ld_blt I hg hm hv ?_ hn hdb)
  exact PyProof.Rows.callWith_builtin1 (thn (ha pos pins s σ H _ I h) fun us s1 ⟨vs, H1, I1, r1, q1⟩ => hc pins s1 σ H1 vs us Q I1 r1 q1) he hpl
theorem pe_callTy (hc : CallR X (.type T) r) (hg : Gl X x) (hm : X.mg x = none) (hv : bootBuiltins x = some (.type T)) (ha : PA X (e :: es) t) (hn : x ≠ "__name__" := by decide) (hdb : (x == ("__debug__" : Str)) = false := by decide)
    (he : starEach (e :: es) X.env = (false, eval e X.env) :: starEach es X.env := by rfl) (hpl : (backTo pos (starEach es X.env)).any (·.1) = false := by rfl) : PE X (.Call (.Name x p) (e :: es) [] pos) (tCB r t) := by
  intro pins s σ H Q I h
  refine wpAny_Call_Name_kw (ld_blt I hg hm hv ?_ hn hdb)
  exact PyProof.Rows.callWith_type1 (thn (ha pos pins s σ H _ I h) fun us s1 ⟨vs, H1, I1, r1, q1⟩ => hc pins s1 σ H1 vs us Q I1 r1 q1) he hpl
end
end L2
namespace HT
open PySem PyProof.Rows
section
variable {prog : Program} {w : World} {A : Around} {E : Value → Shared → Prop} {s : Shared}
theorem cat_tup {t b : Addr} {vs ws : List Value} {Q : Value → Shared → Prop} (ht : IsTup s.heap t vs.toArray) (hb : IsTup s.heap b ws.toArray) (hv : vs ≠ [])
    (h1 : ws = [] → Q (.ref t) s) (h2 : ws ≠ [] → Q (.ref s.heap.objs.size) { s with heap := s.heap.push { cls := .type "tuple", data := .seq (vs ++ ws).toArray } })
    (hsz : vs.length + ws.length ≤ sizeLine) : wpAny (model prog w) A (binaryOp .Add (.ref t) (.ref b)) Q E s := by
  obtain ⟨⟨cls, dd, data, sl⟩, ho, hc, n, hd⟩ := id ht
  obtain ⟨⟨cls2, dd2, data2, sl2⟩, ho2, hc2, n2, hd2⟩ := id hb
  simp only at hc hd hc2 hd2
  subst hc hd hc2 hd2
  have e : vs.toArray ++ ws.toArray = (vs ++ ws).toArray := by simp
  by_cases hw : ws = []
  · exact concat_meets ⟨_, ho, rfl⟩ ⟨_, ho2, rfl⟩ noFill_tuple_add seq_tuple_add PySem.F.slot_tuple_add PySem.F.entry_tuple_add (PySem.F.args_tuple_add_2 _ _)
      (tuple_addW1 t b vs.toArray ws.toArray n n2 dd dd2 sl sl2 (by simpa using hv) (by simp [hw])) ⟨ho, ho2, h1 hw⟩
  · refine concat_meets ⟨_, ho, rfl⟩ ⟨_, ho2, rfl⟩ noFill_tuple_add seq_tuple_add PySem.F.slot_tuple_add PySem.F.entry_tuple_add (PySem.F.args_tuple_add_2 _ _)
      (tuple_addW2 t b vs.toArray ws.toArray n n2 dd dd2 sl sl2 (by simpa using hv) (by simpa using hw) (by rw [List.size_toArray, List.size_toArray]; exact hsz)) ⟨ho, ho2, ?_⟩
    rw [e]
    exact h2 hw
def sIx (n d : Nat) : Option Int → Nat
  | none => d
  | some v => if v < 0 then (v + (n : Int)).toNat else min v.toNat n
theorem sIx_none (n d : Nat) : sIx n d none = d := rfl
theorem sIx_nat (n d k : Nat) : sIx n d (some (k : Int)) = min k n := by
  show (if (k : Int) < 0 then ((k : Int) + (n : Int)).toNat else min (k : Int).toNat n) = min k n
  rw [if_neg (by omega), Int.toNat_natCast]
end
end HT
namespace L2
open PySem PySem.Spec PyProof.Rows
abbrev TO := St → Hp → (Option Int → Hp → Prop) → Prop
def PO (X : Cx) (e : Option Expr) (t : TO) : Prop :=
  ∀ (pins : List (Addr × Obj)) (s : Shared) (σ : St) (H : Hp) (Q : Option Int → Hp → Prop), Inv X pins σ H s → t σ H Q →
    wpAny (model X.prog X.w) X.A (evalPart e X.env) (fun u s' => ∃ o H', Inv X pins σ H' s' ∧ IsPart u o ∧ Q o H') X.xe s
def tNoPart : TO := fun _ H Q => Q none H
def tPart (t : TE) : TO := fun σ H Q => t σ H fun x H1 => ∃ i, x = .int i ∧ Q (some i) H1
theorem intsAre_of {ns : List Int} : ∀ {us : List Value}, Vals (ns.map V.int) us → IntsAre us ns := by
  induction ns with
  | nil => intro us r; rw [List.map_nil] at r; cases r; exact .nil
  | cons n ns ih =>
    intro us r
    rw [List.map_cons] at r
    cases r with
    | cons r1 r2 =>
      obtain ⟨t, e⟩ := r1
      subst e
      exact .cons n t (ih r2)
section
variable {X : Cx} {e : Expr} {te : TE} {lo hi : Option Expr} {tl th : TO} {pos p2 : Pos}
theorem po_none : PO X none tNoPart := by
  intro pins s σ H Q I h
  rw [evalPart_none]
  exact wpAny_pure ⟨none, H, I, .none, h⟩
theorem po_some (h : PE X e te) : PO X (some e) (tPart te) := by
  intro pins s σ H Q I hw
  rw [evalPart_some]
  refine thn (h pins s σ H _ I hw) fun u s1 ⟨x, H1, I1, r1, q1⟩ => ?_
  obtain ⟨i, rfl, q⟩ := q1
  obtain ⟨t, rfl⟩ := r1
  exact ⟨some i, H1, I1, .int i t, q⟩
def SlR (X : Cx) (r : V → Option Int → Option Int → Hp → VK → Prop) : Prop :=
  ∀ (pins : List (Addr × Obj)) (s : Shared) (σ : St) (H : Hp) (x : V) (v vl vu : Value) (lo hi : Option Int) (sl : Addr) (Q : VK), Inv X pins σ H s → RelV x v → s.heap.IsSliceOf sl vl vu .none → IsPart vl lo → IsPart vu hi → r x lo hi H Q →
    ∃ T id, typeLookup (.type T) "__getitem__" = pure (some (.builtin id)) ∧ s.TypeIs v T ∧ wpAny (model X.prog X.w) X.A (getItem v (.ref sl)) (EP X pins σ Q) X.xe s
def tSl (r : V → Option Int → Option Int → Hp → VK → Prop) (te : TE) (tl th : TO) : TE := fun σ H Q => te σ H fun x H1 => tl σ H1 fun l H2 => th σ H2 fun u H3 => r x l u H3 Q
theorem pe_slice {r : V → Option Int → Option Int → Hp → VK → Prop} (hr : SlR X r) (he : PE X e te) (hl : PO X lo tl) (hu : PO X hi th) : PE X (.Subscript e (.Slice lo hi none p2) pos) (tSl r te tl th) := by
  intro pins s σ H Q I h
  refine Subscript_ (thn (he pins s σ H _ I h) fun v s1 ⟨x, H1, I1, r1, q1⟩ => ?_)
  refine wpAny_Slice (thn (hl pins s1 σ H1 _ I1 q1) fun vl s2 ⟨l, H2, I2, pl, q2⟩ => thn (hu pins s2 σ H2 _ I2 q2) fun vu s3 ⟨u, H3, I3, pu, q3⟩ => ?_)
  rw [evalPart_none]
  refine wpAny_pure ?_
  have I4 : Inv X pins σ H3 { s3 with heap := s3.heap.push { cls := .type "slice", data := .fields #[vl, vu, .none] } } := I3.kept (t' := s3.toks) fun b ob q => Heap.get?_push_of_some _ q
  obtain ⟨T, id, hT, ht, hg⟩ := hr pins { s3 with heap := s3.heap.push { cls := .type "slice", data := .fields #[vl, vu, .none] } } σ H3 x v vl vu l u s3.heap.objs.size Q I4 r1 (Heap.IsSliceOf.new ..) pl pu q3
  show wpAny (model X.prog X.w) X.A (subscriptTail e (.Slice lo hi none p2) v (.ref s3.heap.objs.size)) (EP X pins σ Q) X.xe { s3 with heap := s3.heap.push { cls := .type "slice", data := .fields #[vl, vu, .none] } }
  exact tail_any (ops := [.ref s3.heap.objs.size, v]) ht hT hg (by with_unfolding_all rfl)
def cutV (xs : List V) (lo hi : Option Int) : List V := (xs.drop (HT.sIx xs.length 0 lo)).take (HT.sIx xs.length xs.length hi - HT.sIx xs.length 0 lo)
theorem cutV_length (xs : List V) (lo hi : Option Int) : (cutV xs lo hi).length ≤ xs.length := by
  unfold cutV
  rw [List.length_take, List.length_drop]
  omega
def rCatT (K : PySem.W.Frag) : R2 := fun x y H Q => ∃ a b xs ys, x = .ref a ∧ y = .ref b ∧ SqT K H a xs ∧ SqT K H b ys ∧ xs ≠ [] ∧ xs.length + ys.length ≤ sizeLine ∧
  (ys = [] → Q (.ref a) H) ∧ (ys ≠ [] → ∀ p, H p = none → Q (.ref p) (upd H p (.tup (xs ++ ys))))
theorem Vals.nil_iff {xs : List V} {us : List Value} (r : Vals xs us) : us = [] ↔ xs = [] := by
  cases r with
  | nil => simp
  | cons _ _ => simp
theorem op_catT : OpR X (binaryOp .Add) (rCatT X.K) := by
  intro pins s σ H x y v u Q I rx ry h
  obtain ⟨a, b, xs, ys, rfl, rfl, ha, hb, hx, hz, q1, q2⟩ := h
  cases rx
  cases ry
  obtain ⟨its, r1, p1, _⟩ := I.tuple ha
  obtain ⟨its2, r2, p2, _⟩ := I.tuple hb
  refine HT.cat_tup p1 p2 (fun z => hx (r1.nil_iff.mp z)) (fun z => ⟨.ref a, H, I, rfl, q1 (r2.nil_iff.mp z)⟩) (fun z => ?_) (by rw [← r1.length, ← r2.length]; exact hz)
  refine ⟨.ref s.heap.objs.size, _, I.laid (t' := s.toks) (o := .tup (xs ++ ys)) (fun b ob q => Heap.get?_push_of_some _ q) (Nat.le_refl _) ?_, rfl, q2 (fun w => z (r2.nil_iff.mpr w)) _ (I.hok.fresh (Nat.le_refl _))⟩
  exact ⟨by rw [List.length_append]; exact hz, _, r1.append r2, IsTup.new _ _⟩
end
end L2
namespace L2
open PySem PySem.Spec PyProof.Rows
def ixN (n : Nat) (i : Int) : Option Nat := if 0 ≤ i then (if i < n then some i.toNat else none) else if -(n : Int) ≤ i then some (i + n).toNat else none
def atI {α : Type} (xs : List α) (i : Int) : Option α := (ixN xs.length i).bind fun j => xs[j]?
theorem ixN_seq {n : Nat} {i : Int} {j : Nat} (h : ixN n i = some j) : seqIndex? i n = some j ∧ j < n ∧ -(n : Int) ≤ i ∧ i < n := by
  unfold ixN at h
  by_cases h0 : 0 ≤ i
  · rw [if_pos h0] at h
    by_cases h1 : i < n
    · rw [if_pos h1] at h
      have e : i.toNat = j := Option.some.inj h
      exact ⟨by rw [seqIndex_of h0 h1, e], by omega, by omega, h1⟩
    · rw [if_neg h1] at h; cases h
  · rw [if_neg h0] at h
    by_cases h1 : -(n : Int) ≤ i
    · rw [if_pos h1] at h
      have e : (i + n).toNat = j := Option.some.inj h
      exact ⟨by rw [seqIndex_neg (by omega) h1, e], by omega, h1, by omega⟩
    · rw [if_neg h1] at h; cases h
theorem atI_get {α : Type} {xs : List α} {i : Int} {v : α} (h : atI xs i = some v) : ∃ j, seqIndex? i xs.length = some j ∧ xs[j]? = some v ∧ j < xs.length ∧ -(xs.length : Int) ≤ i ∧ i < xs.length := by
  unfold atI at h
  cases e : ixN xs.length i with
  | none => rw [e] at h; cases h
  | some j =>
    rw [e] at h
    obtain ⟨h1, h2, h3, h4⟩ := ixN_seq e
    exact ⟨j, h1, h, h2, h3, h4⟩
theorem atI_nat {α : Type} {xs : List α} {j : Nat} {v : α} (h : xs[j]? = some v) : atI xs (j : Int) = some v := by
  have hj : j < xs.length := (List.getElem?_eq_some_iff.mp h).1
  have e : ixN xs.length (j : Int) = some j := by
    unfold ixN
    rw [if_pos (by omega), if_pos (by omega)]; simp
  unfold atI; rw [e]; exact h
def PlainIx (b : Expr) : Prop := ∀ o i, subscripted b false o i = operate [o, i] (getItem o i)
def IxR (X : Cx) (r : R2) : Prop :=
  ∀ (value slice : Expr) (pins : List (Addr × Obj)) (s : Shared) (σ : St) (H : Hp) (x y : V) (v u : Value) (Q : VK), Inv X pins σ H s → RelV x v → RelV y u → r x y H Q →
    subscripted slice false v u = operate [v, u] (getItem v u) → wpAny (model X.prog X.w) X.A (subscriptTail value slice v u) (EP X pins σ Q) X.xe s
def MtR (X : Cx) (id : String) (r : V → List V → Hp → VK → Prop) : Prop :=
  ∀ (pins : List (Addr × Obj)) (s : Shared) (σ : St) (H : Hp) (x : V) (xs : List V) (v : Value) (us : List Value) (Q : VK), Inv X pins σ H s → RelV x v → Vals xs us → r x xs H Q →
    wpAny (model X.prog X.w) X.A (call (.builtin id) (v :: us)) (EP X pins σ Q) X.xe s
section
variable {X : Cx} {a b : Expr} {ta tb : TE} {pos : Pos}
theorem pe_ix {r : R2} (hr : IxR X r) (ha : PE X a ta) (hb : PE X b tb) (hs : PlainIx b) : PE X (.Subscript a b pos) (tOp r ta tb) := by
  intro pins s σ H Q I h
  exact Subscript_ (binT ha hb I h fun v u s2 x y H2 I2 rx ry q => hr a b pins s2 σ H2 x y v u Q I2 rx ry q (hs _ _))
def rIxL (K : PySem.W.Frag) : R2 := fun x y H Q => ∃ p xs i v, x = .ref p ∧ y = .int i ∧ SqL K H p xs ∧ atI xs i = some v ∧ Q v H
def rIxT (K : PySem.W.Frag) : R2 := fun x y H Q => ∃ p xs i v, x = .ref p ∧ y = .int i ∧ SqT K H p xs ∧ atI xs i = some v ∧ Q v H
theorem ix_list : IxR X (rIxL X.K) := by
  intro value slice pins s σ H x y v u Q I rx ry h hs
  obtain ⟨p, xs, i, z, rfl, rfl, hq, he, q⟩ := h
  cases rx
  obtain ⟨t, rfl⟩ := ry
  obtain ⟨its, r, pl, hz⟩ := I.list hq
  obtain ⟨j, h1, h2, h3, h4, h5⟩ := atI_get he
  obtain ⟨w, ew, rw'⟩ := r.get h2
  have hl := r.length
  have hn := line63
  have fin : EP X pins σ Q w s := ⟨z, H, I, rw', q⟩
  by_cases h0 : 0 ≤ i
  · have hj : i.toNat = j := by
      rw [seqIndex_of h0 h5] at h1
      exact Option.some.inj h1
    exact item_listR pl.isList h0 (by omega) (by rw [hj]; simpa using ew) fin hs
  · have hj : (i + (its.toArray.size : Int)).toNat = j := by
      rw [seqIndex_neg (by omega) h4] at h1
      rw [List.size_toArray, ← hl]
      exact Option.some.inj h1
    exact subscriptTail_builtinR (x := w) pl.isList.typeIs slot_list_getitem.lookup
      (wpAny_getItem_list_neg (Q := fun r s' => r = w ∧ EP X pins σ Q r s') pl.isList (by omega) (by rw [List.size_toArray] <;> omega) (by omega) (by rw [hj]; simpa using ew) ⟨rfl, fin⟩) hs
theorem ix_tup : IxR X (rIxT X.K) := by
  intro value slice pins s σ H x y v u Q I rx ry h hs
  obtain ⟨p, xs, i, z, rfl, rfl, hq, he, q⟩ := h
  cases rx
  obtain ⟨t, rfl⟩ := ry
  obtain ⟨its, r, pl, hz⟩ := I.tuple hq
  obtain ⟨j, h1, h2, h3, h4, h5⟩ := atI_get he
  obtain ⟨w, ew, rw'⟩ := r.get h2
  have hl := r.length
  have hn := line63
  have fin : EP X pins σ Q w s := ⟨z, H, I, rw', q⟩
  exact subscriptTail_builtinR (x := w) pl.typeIs slot_tuple_getitem.lookup
    (getItem_tuple (j := j) (Q := fun r s' => r = w ∧ EP X pins σ Q r s') pl (by omega) (by omega) (by rw [List.size_toArray, ← hl]; exact h1) (by simpa using ew) ⟨rfl, fin⟩) hs
theorem mapSeq_set (its : List Value) (n j : Nat) (u : Value) : Obj.mapSeq (·.setIfInBounds j u) { cls := .type "list", data := .seq its.toArray n } = { cls := .type "list", data := .seq (its.set j u).toArray n } := by
  simp [Obj.mapSeq]
theorem Inv.lst {pins : List (Addr × Obj)} {σ : St} {H : Hp} {s : Shared} {p : Addr} {xs : List V} (I : Inv X pins σ H s) (h : H p = some (.lst xs)) :
    ∃ (its : List Value) (n : Nat), Vals xs its ∧ s.heap.get? p = some { cls := .type "list", data := .seq its.toArray n } ∧ xs.length ≤ sizeLine := by
  obtain ⟨z, its, n, r, e⟩ := I.hok p _ h
  exact ⟨its, n, r, e, z⟩
theorem Inv.lstUpd {pins : List (Addr × Obj)} {σ : St} {H : Hp} {s : Shared} {p : Addr} {xs ys : List V} {its its' : List Value} {n n' : Nat} {f : Obj → Obj} (I : Inv X pins σ H s) (h : H p = some (.lst xs))
    (ho : s.heap.get? p = some { cls := .type "list", data := .seq its.toArray n }) (hf : f { cls := .type "list", data := .seq its.toArray n } = { cls := .type "list", data := .seq its'.toArray n' }) (r : Vals ys its') (hz : ys.length ≤ sizeLine) (t : Nat) :
    Inv X pins σ (upd H p (.lst ys)) { s with heap := s.heap.update p f, toks := t } := by
  have e : (s.heap.update p f).get? p = some { cls := .type "list", data := .seq its'.toArray n' } := by
    rw [Heap.get?_update_self f ho (by rw [hf] <;> rfl), hf]
  refine I.write (x := p) (e := p) (by rw [h]; trivial) (.inl rfl) (fun b u hb q => (Heap.get?_update_other _ _ (Ne.symm hb)).trans q) ⟨_, e⟩ ?_
  exact ⟨hz, its', n', r, e⟩
def rSetL : V → V → V → Hp → (Hp → Prop) → Prop := fun o i v H Q => ∃ p xs k j, o = .ref p ∧ i = .int k ∧ H p = some (.lst xs) ∧ ixN xs.length k = some j ∧ Q (upd H p (.lst (xs.set j v)))
theorem set_list : PSet X rSetL := by
  intro pins s σ H o i v ov iv u Q I ro ri rv h
  obtain ⟨p, xs, k, j, rfl, rfl, hp, hj, q⟩ := h
  cases ro
  obtain ⟨t, rfl⟩ := ri
  obtain ⟨its, n, r, ho, hz⟩ := I.lst hp
  obtain ⟨h1, h2, h3, h4⟩ := ixN_seq hj
  have hl := r.length
  have hn := line63
  have I' : Inv X pins σ (upd H p (.lst (xs.set j v))) { s with heap := s.heap.update p (Obj.mapSeq (·.setIfInBounds j u)) } :=
    I.lstUpd hp ho (mapSeq_set its n j u) (r.set rv j) (by rw [List.length_set]; exact hz) s.toks
  by_cases h0 : 0 ≤ k
  · have hk : k.toNat = j := by
      rw [seqIndex_of h0 h4] at h1
      exact Option.some.inj h1
    exact PySem.W.ki_setAt ho h0 (by omega) (by rw [List.size_toArray, ← hl]; exact h4) (by rw [hk]; exact ⟨_, I', q⟩)
  · have hk : (k + (its.toArray.size : Int)).toNat = j := by
      rw [seqIndex_neg (by omega) h3] at h1
      rw [List.size_toArray, ← hl]
      exact Option.some.inj h1
    exact PySem.W.ki_setBack ho (by omega) (by rw [List.size_toArray, ← hl]; exact h3) (by omega) (by rw [hk]; exact ⟨_, I', q⟩)
theorem slice_bounds (lo hi : Option Int) (n : Nat) : (sliceBounds lo hi none n).1 = ((HT.sIx n 0 lo : Nat) : Int) ∧ (sliceBounds lo hi none n).2.1 = ((HT.sIx n n hi : Nat) : Int) ∧ (sliceBounds lo hi none n).2.2 = 1 := by
  refine ⟨?_, ?_, rfl⟩
  · cases lo with
    | none => simp [sliceBounds, HT.sIx]
    | some i =>
      simp only [sliceBounds, HT.sIx, Option.getD_none, show (1 : Int) > 0 by decide, if_true]
      by_cases h : i < 0
      · simp only [h, if_true] <;> omega
      · simp only [h, if_false] <;> omega
  · cases hi with
    | none => simp [sliceBounds, HT.sIx]
    | some i =>
      simp only [sliceBounds, HT.sIx, Option.getD_none, show (1 : Int) > 0 by decide, if_true]
      by_cases h : i < 0
      · simp only [h, if_true] <;> omega
      · simp only [h, if_false] <;> omega
theorem slicePick_cut (its : List Value) (lo hi : Option Int) : slicePick its.toArray lo hi none = ((its.drop (HT.sIx its.length 0 lo)).take (HT.sIx its.length its.length hi - HT.sIx its.length 0 lo)).toArray := by
  obtain ⟨h1, h2, h3⟩ := slice_bounds lo hi its.toArray.size
  unfold slicePick
  rw [h1, h2, h3]
  simp only [sliceRange_one, pick_run, List.size_toArray] <;> rfl
def rSlL (K : PySem.W.Frag) : V → Option Int → Option Int → Hp → VK → Prop := fun x lo hi H Q => ∃ a xs, x = .ref a ∧ SqL K H a xs ∧ ∀ p, H p = none → Q (.ref p) (upd H p (.lst (cutV xs lo hi)))
theorem sl_list : SlR X (rSlL X.K) := by
  intro pins s σ H x v vl vu lo hi sl Q I rx hs pl pu h
  obtain ⟨a, xs, rfl, hx, q⟩ := h
  cases rx
  obtain ⟨its, r, ht, hz⟩ := I.list hx
  have hlen := r.length
  refine ⟨"list", _, slot_list_getitem.lookup, ht.isList.typeIs, ?_⟩
  refine wpAny_getItem_list_slice ht.isList hs pl pu .none (by simp) ?_ (by rw [List.size_toArray] <;> omega)
  rw [slicePick_cut, ← hlen]
  refine ⟨.ref s.heap.objs.size, _, I.laid (t' := s.toks) (o := .lst (cutV xs lo hi)) (fun b ob q => Heap.get?_push_of_some _ q) (Nat.le_refl _) ?_, rfl, q _ (I.hok.fresh (Nat.le_refl _))⟩
  exact ⟨Nat.le_trans (cutV_length xs lo hi) hz, _, 0, (r.drop (HT.sIx xs.length 0 lo)).take (HT.sIx xs.length xs.length hi - HT.sIx xs.length 0 lo), Heap.get?_push_size _ rfl⟩
def flatV : V → Bool
  | .non => true
  | .bl _ => true
  | .int _ => true
  | .str _ => true
  | _ => false
def eqV : V → V → Bool
  | .non, .non => true
  | .bl a, .bl b => a == b
  | .bl a, .int b => (if a then 1 else 0) == b
  | .int a, .bl b => a == (if b then 1 else 0)
  | .int a, .int b => a == b
  | .str a, .str b => a == b
  | _, _ => false
theorem eqAt_V {A : Around} {s : Shared} {y x : V} {u v : Value} (ry : RelV y u) (rx : RelV x v) (fy : flatV y = true) (fx : flatV x = true) : SeqAt.EqAt A s u v (eqV y x) := by
  cases y with
  | non =>
    cases ry
    cases x with
    | non => cases rx; exact SeqAt.EqAt.same _
    | bl b => cases rx; exact SeqAt.EqAt.none_bool b
    | int b => obtain ⟨t, rfl⟩ := rx; exact SeqAt.EqAt.none_int b t
    | str b => obtain ⟨t, rfl⟩ := rx; exact SeqAt.EqAt.none_str b t
    | _ => exact absurd (show false = true from fx) Bool.false_ne_true
  | bl a =>
    cases ry
    cases x with
    | non => cases rx; exact SeqAt.EqAt.bool_none a
    | bl b => cases rx; exact SeqAt.EqAt.bool_bool a b
    | int b => obtain ⟨t, rfl⟩ := rx; exact SeqAt.EqAt.bool_int a b t
    | str b => obtain ⟨t, rfl⟩ := rx; exact SeqAt.EqAt.bool_str a b t
    | _ => exact absurd (show false = true from fx) Bool.false_ne_true
  | int a =>
    obtain ⟨t', rfl⟩ := ry
    cases x with
    | non => cases rx; exact SeqAt.EqAt.int_none a t'
    | bl b => cases rx; exact SeqAt.EqAt.int_bool a t' b
    | int b => obtain ⟨t, rfl⟩ := rx; exact SeqAt.EqAt.int_int a t' b t
    | str b => obtain ⟨t, rfl⟩ := rx; exact SeqAt.EqAt.int_str a t' b t
    | _ => exact absurd (show false = true from fx) Bool.false_ne_true
  | str a =>
    obtain ⟨t', rfl⟩ := ry
    cases x with
    | non => cases rx; exact SeqAt.EqAt.str_none a t'
    | bl b => cases rx; exact SeqAt.EqAt.str_bool a t' b
    | int b => obtain ⟨t, rfl⟩ := rx; exact SeqAt.EqAt.str_int a t' b t
    | str b => obtain ⟨t, rfl⟩ := rx; exact SeqAt.EqAt.str_str a t' b t
    | _ => exact absurd (show false = true from fx) Bool.false_ne_true
  | _ => exact absurd (show false = true from fy) Bool.false_ne_true
def eqU (x : V) (u : Value) : Bool := match u with
  | .none => eqV .non x
  | .bool b => eqV (.bl b) x
  | .int i _ => eqV (.int i) x
  | .str z _ => eqV (.str z) x
  | _ => false
theorem eqU_of {x y : V} {u : Value} (r : RelV y u) (f : flatV y = true) : eqU x u = eqV y x := by
  cases y with
  | non => cases r; rfl
  | bl b => cases r; rfl
  | int i => obtain ⟨t, rfl⟩ := r; rfl
  | str z => obtain ⟨t, rfl⟩ := r; rfl
  | _ => exact absurd (show false = true from f) Bool.false_ne_true
theorem mem_eqAt {A : Around} {s : Shared} {x : V} {v : Value} (rx : RelV x v) (fx : flatV x = true) : ∀ {xs : List V} {us : List Value}, Vals xs us → xs.all flatV = true → ∀ u ∈ us, SeqAt.EqAt A s u v (eqU x u)
  | _, _, .nil, _ => fun u hu => by cases hu
  | y :: xs, u :: us, .cons r t, f => fun u' hu => by
    rw [List.all_cons, Bool.and_eq_true] at f
    rcases List.mem_cons.mp hu with rfl | hu
    · rw [eqU_of r f.1]; exact eqAt_V r rx f.1 fx
    · exact mem_eqAt rx fx t f.2 u' hu
theorem call_len_seq : CallR X (.builtin "len") (fun xs H Q => ∃ p ys, xs = [.ref p] ∧ (SqL X.K H p ys ∨ SqT X.K H p ys) ∧ Q (.int ys.length) H) := by
  intro pins s σ H xs us Q I r h
  obtain ⟨p, ys, rfl, hq, q⟩ := h
  obtain ⟨u, rfl, rx⟩ := vals1 r
  cases rx
  have hn := line63
  rcases hq with hq | hq
  · obtain ⟨its, r', pl, hz⟩ := I.list hq
    have hlen := r'.length
    exact Calls.call_len_list pl.isList (by simp only [List.size_toArray] <;> omega) ⟨.int ys.length, H, I.tok _, ⟨s.toks + 1, by rw [List.size_toArray, hlen]⟩, q⟩
  · obtain ⟨its, r', pl, hz⟩ := I.tuple hq
    have hlen := r'.length
    exact len_tuple pl (by simp only [List.size_toArray] <;> omega) ⟨.int ys.length, H, I.tok _, ⟨s.toks + 1, by rw [List.size_toArray, hlen]⟩, q⟩
theorem call_list_of : CallR X (.type "list") (fun xs H Q => ∃ p ys, xs = [.ref p] ∧ (SqL X.K H p ys ∨ SqT X.K H p ys) ∧ ∀ l, H l = none → Q (.ref l) (upd H l (.lst ys))) := by
  intro pins s σ H xs us Q I r h
  obtain ⟨p, ys, rfl, hq, q⟩ := h
  obtain ⟨u, rfl, rx⟩ := vals1 r
  cases rx
  have fin : ∀ (its : List Value), Vals ys its → ys.length ≤ sizeLine → ∀ (h' : Heap) (c' : Nat), (∀ b o', s.heap.get? b = some o' → h'.get? b = some o') →
      h'.get? s.heap.objs.size = some { cls := .type "list", dict := none, data := .seq its.toArray c', slots := #[] } → EP X pins σ Q (.ref s.heap.objs.size) { s with heap := h' } := fun its r' hz h' c' kp e =>
    ⟨.ref s.heap.objs.size, _, I.laid (t' := s.toks) kp (Nat.le_refl _) (show ObjOk X.prog X.w _ h' _ (.lst ys) from ⟨hz, its, c', r', e⟩), rfl, q _ (I.hok.fresh (Nat.le_refl _))⟩
  rcases hq with hq | hq
  · obtain ⟨its, r', pl, hz⟩ := I.list hq
    have hlen := r'.length
    obtain ⟨o, ho, hc, n, hd⟩ := pl.isList
    exact call_list_seq p (.inl rfl) ho hc hd (fun h' c' kp e => fin its r' hz h' c' kp e) (by simp only [List.size_toArray] <;> omega)
  · obtain ⟨its, r', pl, hz⟩ := I.tuple hq
    have hlen := r'.length
    obtain ⟨o, ho, hc, n, hd⟩ := pl
    exact call_list_seq p (.inr rfl) ho hc hd (fun h' c' kp e => fin its r' hz h' c' kp e) (by simp only [List.size_toArray] <;> omega)
def tyV (K : PySem.W.Frag) (T : String) (x : V) (H : Hp) : Prop := match x with
  | .str _ => T = "str"
  | .int _ => T = "int"
  | .ref p => (T = "list" ∧ ∃ xs, SqL K H p xs) ∨ (T = "tuple" ∧ ∃ o, K.lookup p = some o ∧ o.cls = .type "tuple" ∧ o.dict = none) ∨
      (T = "dict" ∧ ((∃ kvs, H p = some (.dK kvs)) ∨ ∃ kvs, H p = some (.dT kvs))) ∨ (T = "set" ∧ ∃ S n, H p = some (.set S n))
  | _ => False
theorem tyV_is {pins : List (Addr × Obj)} {σ : St} {H : Hp} {s : Shared} {T : String} {x : V} {v : Value} (I : Inv X pins σ H s) (r : RelV x v) (ty : tyV X.K T x H) :
    s.TypeIs v T ∧ ∀ a, v = .ref a → ∃ ob, s.heap.get? a = some ob ∧ ob.dict = none := by
  cases x with
  | str z =>
    obtain ⟨t, rfl⟩ := r
    cases (show T = "str" from ty)
    exact ⟨typeIs_str s z t, fun _ e => nomatch e⟩
  | int i =>
    obtain ⟨t, rfl⟩ := r
    cases (show T = "int" from ty)
    exact ⟨typeIs_int s i t, fun _ e => nomatch e⟩
  | ref p =>
    cases r
    rcases ty with ⟨rfl, xs, hq⟩ | ⟨rfl, o, hk, hc, hd⟩ | ⟨rfl, hk⟩ | ⟨rfl, S, n, hk⟩
    · obtain ⟨its, _, pl, _⟩ := I.list hq
      refine ⟨pl.isList.typeIs, fun a e => ?_⟩
      cases e
      obtain ⟨o, n, e, c, hd, _⟩ := pl
      exact ⟨o, e, hd⟩
    · refine ⟨⟨o, I.kIn p o hk, hc⟩, fun a e => ?_⟩
      cases e
      exact ⟨o, I.kIn _ o hk, hd⟩
    · have z : ∃ o, s.heap.get? p = some o ∧ o.ExactDict := by
        rcases hk with ⟨kvs, hk⟩ | ⟨kvs, hk⟩
        · obtain ⟨_, _, _, _, o, _, _, e, ex, _⟩ := I.hok p _ hk
          exact ⟨o, e, ex⟩
        · obtain ⟨_, _, _, _, o, _, _, e, ex, _⟩ := I.hok p _ hk
          exact ⟨o, e, ex⟩
      obtain ⟨o, e, ex⟩ := z
      refine ⟨⟨o, e, ex.1⟩, fun a e2 => ?_⟩
      cases e2
      exact ⟨o, e, ex.2.1⟩
    · obtain ⟨o, _, _, _, e, ex, _⟩ := I.hok p _ hk
      refine ⟨⟨o, e, ex.1⟩, fun a e2 => ?_⟩
      cases e2
      exact ⟨o, e, ex.2.1⟩
  | _ => exact False.elim ty
def tBM0 (K : PySem.W.Frag) (T : String) (r : V → List V → Hp → VK → Prop) (to : TE) : TE := fun σ H Q => to σ H fun x H1 => tyV K T x H1 ∧ r x [] H1 Q
def tBM (K : PySem.W.Frag) (T : String) (r : V → List V → Hp → VK → Prop) (to : TE) (t : TA) : TE := fun σ H Q => to σ H fun x H1 => tyV K T x H1 ∧ t σ H1 fun xs H2 => r x xs H2 Q
variable {o e : Expr} {es : List Expr} {to : TE} {t : TA} {name : Str} {apos cpos : Pos} {T id : String} {r : V → List V → Hp → VK → Prop}
theorem pe_bm0 (pa : PlainAttrs T) (slot : Slot T name id) (hty : typeOf (.builtin id) = pure (.type "method_descriptor")) (hm : MtR X id r) (ho : PE X o to)
    (hbase : attributeBase o name X.env (eval o X.env) = eval o X.env := by rfl) (hline : (apos.endLine == cpos.line) = true := by rfl) : PE X (.Call (.Attribute o name apos) [] [] cpos) (tBM0 X.K T r to) := by
  intro pins s σ H Q I h
  refine wpAny_Call_method0_late hbase hline (thn (ho pins s σ H _ I h) fun v s1 ⟨x, H1, I1, r1, ty, q1⟩ => ?_)
  obtain ⟨h1, h2⟩ := tyV_is I1 r1 ty
  exact ⟨T, id, pa, slot, hty, h1, h2, Calls.callWith_builtin rfl (PySem.evalArgs_none (hm pins s1 σ H1 x [] v [] Q I1 r1 .nil q1))⟩
theorem pe_bm (pa : PlainAttrs T) (slot : Slot T name id) (hty : typeOf (.builtin id) = pure (.type "method_descriptor")) (hm : MtR X id r) (ho : PE X o to) (ha : PA X (e :: es) t)
    (hbase : attributeBase o name X.env (eval o X.env) = eval o X.env := by rfl)
    (hfew : ((backTo cpos (starEach (e :: es) X.env)).all (fun x => !x.1) && (backToKw cpos (keywordEach [] X.env)).all (fun x => x.1.isSome)
      && decide ((e :: es).length + ([] : List Keyword).length + (if ([] : List Keyword).isEmpty then 0 else 1) < 30)) = true := by rfl)
    (hline : (apos.endLine == cpos.line) = true := by rfl) (hs : starEach (e :: es) X.env = (false, eval e X.env) :: starEach es X.env := by rfl) (hplain : (backTo cpos (starEach es X.env)).any (·.1) = false := by rfl) :
    PE X (.Call (.Attribute o name apos) (e :: es) [] cpos) (tBM X.K T r to t) := by
  intro pins s σ H Q I h
  refine wpAny_Call_method_late hbase hfew hline rfl (thn (ho pins s σ H _ I h) fun v s1 ⟨x, H1, I1, r1, ty, q1⟩ => ?_)
  obtain ⟨h1, h2⟩ := tyV_is I1 r1 ty
  refine ⟨T, id, pa, slot, hty, h1, h2, ?_⟩
  have hA := ha cpos pins s1 σ H1 _ I1 q1
  rw [hs] at hA ⊢
  refine Calls.callWith_builtin (by show (false || (backTo cpos (starEach es X.env)).any (·.1)) = false; rw [hplain] <;> rfl) (Calls.evalArgs_plain ?_)
  exact thn hA fun us s2 ⟨vs, H2, I2, r2, q2⟩ => hm pins s2 σ H2 x vs v us Q I2 r1 r2 q2
end
end L2
namespace L2
open PySem PySem.Spec PyProof.Rows
def MtM (X : Cx) (id : String) (r : V → List V → Hp → VK → Prop) : Prop :=
  ∀ (pins : List (Addr × Obj)) (s : Shared) (σ : St) (H : Hp) (x : V) (xs : List V) (v : Value) (us : List Value) (Q : VK), Inv X pins σ H s → RelV x v → Vals xs us → r x xs H Q →
    wpAny (model X.prog X.w) X.A (call (.builtin id) (v :: us)) (EP X pins σ Q) X.xe s
theorem Vals.one : ∀ {x : V} {us : List Value}, Vals [x] us → ∃ u, us = [u] ∧ RelV x u
  | _, _, .cons r .nil => ⟨_, rfl, r⟩
theorem Vals.rep {xs : List V} {us : List Value} (h : Vals xs us) : ∀ k : Nat, Vals (List.replicate k xs).flatten (List.replicate k us).flatten
  | 0 => .nil
  | k + 1 => by
    rw [List.replicate_succ, List.replicate_succ, List.flatten_cons, List.flatten_cons]
    exact Vals.append h (Vals.rep h k)
theorem foldl_rep (its : List Value) : ∀ (k : Nat) (acc : List Value),
    List.foldl (fun x1 x2 => x1 ++ x2) acc.toArray (List.replicate k its.toArray) = (acc ++ (List.replicate k its).flatten).toArray
  | 0, acc => by simp
  | k + 1, acc => by
    have e : acc.toArray ++ its.toArray = (acc ++ its).toArray := by simp
    have e2 : (acc ++ its) ++ (List.replicate k its).flatten = acc ++ (List.replicate (k + 1) its).flatten := by
      rw [List.replicate_succ, List.flatten_cons, List.append_assoc]
    rw [← e2, ← foldl_rep its k (acc ++ its), ← e, List.replicate_succ, List.foldl_cons]
section
variable {X : Cx} {pins : List (Addr × Obj)} {σ : St} {H : Hp} {s : Shared} {l b : Addr} {xs ys zs : List V}
theorem Inv.lset {its its' : List Value} {n : Nat} {f : Array Value → Array Value} {t' : Nat} (I : Inv X pins σ H s) (hH : H l = some (.lst xs))
    (e : s.heap.get? l = some { cls := .type "list", data := .seq its.toArray n }) (hf : f its.toArray = its'.toArray) (hv : Vals ys its') (hz : ys.length ≤ sizeLine) :
    Inv X pins σ (upd H l (.lst ys)) { s with heap := s.heap.update l (Obj.mapSeq f), toks := t' } := by
  have q := PySem.IsL.update e f
  rw [hf] at q
  refine I.write (x := l) (e := l) (by rw [hH]; exact trivial) (.inl rfl) (fun b' u hb hu => (Heap.get?_update_other s.heap (Obj.mapSeq f) (Ne.symm hb)).trans hu) ⟨_, q⟩ ?_
  exact ⟨hz, its', _, hv, q⟩
theorem Inv.lnew {its : List Value} {t' : Nat} (I : Inv X pins σ H s) (hv : Vals ys its) (hz : ys.length ≤ sizeLine) :
    Inv X pins σ (upd H s.heap.objs.size (.lst ys)) { s with heap := s.heap.push { cls := .type "list", data := .seq its.toArray }, toks := t' } :=
  I.laid (fun _ _ q => Heap.get?_push_of_some _ q) (Nat.le_refl _) ⟨hz, its, 0, hv, Heap.get?_push_size _ rfl⟩
theorem Inv.fresh (I : Inv X pins σ H s) : H s.heap.objs.size = none := I.hok.fresh (Nat.le_refl _)
theorem Inv.lstM (I : Inv X pins σ H s) (hH : H l = some (.lst xs)) : xs.length ≤ sizeLine ∧ ∃ (its : List Value) (n : Nat), Vals xs its ∧ xs.length = its.length ∧ s.heap.get? l = some { cls := .type "list", data := .seq its.toArray n } := by
  obtain ⟨z, its, n, r, e⟩ := I.hok l _ hH
  exact ⟨z, its, n, r, r.length, e⟩
theorem notLongL {n : Nat} (h : n ≤ sizeLine) : Builtin.List.listTooLong n = false := by
  unfold Builtin.List.listTooLong
  exact decide_eq_false (by omega)
end
section
variable {X : Cx}
def rAppend : V → List V → Hp → VK → Prop := fun x vs H Q => ∃ l xs y, x = .ref l ∧ vs = [y] ∧ H l = some (.lst xs) ∧ xs.length < sizeLine ∧ Q .non (upd H l (.lst (xs ++ [y])))
theorem mt_append : MtM X "list.append" rAppend := by
  intro pins s σ H x vs v us Q I rx rv h
  obtain ⟨l, xs, y, rfl, rfl, hH, hz, q⟩ := h
  cases rx
  obtain ⟨u, rfl, ru⟩ := rv.one
  obtain ⟨z, its, n, r, hl, e⟩ := I.lstM hH
  refine call_meets F.slot_list_append ⟨_, e, rfl⟩ F.entry_list_append (F.args_list_append_2 _ _) (PySem.list_append l its.toArray n u (by rw [List.size_toArray]; omega)) ⟨e, ?_⟩
  refine ⟨.non, _, I.lset (its' := its ++ [u]) hH e (by simp) (r.append (.cons ru .nil)) ?_, rfl, q⟩
  rw [List.length_append, List.length_singleton]
  omega
def rExtend : V → List V → Hp → VK → Prop := fun x vs H Q => ∃ l b xs zs, x = .ref l ∧ vs = [.ref b] ∧ H l = some (.lst xs) ∧ H b = some (.lst zs) ∧ xs.length + zs.length ≤ sizeLine ∧ Q .non (upd H l (.lst (xs ++ zs)))
theorem mt_extend : MtM X "list.extend" rExtend := by
  intro pins s σ H x vs v us Q I rx rv h
  obtain ⟨l, b, xs, zs, rfl, rfl, hH, hB, hz, q⟩ := h
  cases rx
  obtain ⟨u, rfl, ru⟩ := rv.one
  cases ru
  obtain ⟨z, its, n, r, hl, e⟩ := I.lstM hH
  obtain ⟨z2, its2, n2, r2, hl2, e2⟩ := I.lstM hB
  have hsz : its.toArray.size + its2.toArray.size ≤ sizeLine := by rw [List.size_toArray, List.size_toArray]; omega
  have hlong : ¬ (!its.toArray.isEmpty && Builtin.List.listTooLong (its.toArray.size + its2.toArray.size)) = true := by
    rw [notLongL hsz, Bool.and_false]
    exact Bool.false_ne_true
  refine call_meets F.slot_list_extend ⟨_, e, rfl⟩ F.entry_list_extend (F.args_list_extend_2 _ _)
    (AutoSeq1.list_extend_list_list_0 l its.toArray n b its2.toArray n2 hlong (by rw [List.size_toArray]; omega) (by omega)) ⟨e, e2, ?_⟩
  refine ⟨.non, _, I.lset (its' := its ++ its2) hH e (by simp) (r.append r2) ?_, rfl, q⟩
  rw [List.length_append]
  omega
def rCat : R2 := fun x y H Q => ∃ l b xs zs, x = .ref l ∧ y = .ref b ∧ H l = some (.lst xs) ∧ H b = some (.lst zs) ∧ xs.length + zs.length ≤ sizeLine ∧ ∀ p, H p = none → Q (.ref p) (upd H p (.lst (xs ++ zs)))
theorem op_cat : OpR X (binaryOp .Add) rCat := by
  intro pins s σ H x y v u Q I rx ry h
  obtain ⟨l, b, xs, zs, rfl, rfl, hH, hB, hz, q⟩ := h
  cases rx
  cases ry
  obtain ⟨z, its, n, r, hl, e⟩ := I.lstM hH
  obtain ⟨z2, its2, n2, r2, hl2, e2⟩ := I.lstM hB
  refine PySem.P.add_list e e2 ?_ (by rw [List.size_toArray, List.size_toArray]; omega)
  have ea : its.toArray ++ its2.toArray = (its ++ its2).toArray := by simp
  rw [ea]
  exact ⟨.ref _, _, I.lnew (t' := s.toks) (r.append r2) (by rw [List.length_append]; omega), rfl, q _ I.fresh⟩
def rRep : R2 := fun x y H Q => ∃ l k xs, x = .ref l ∧ y = .int k ∧ H l = some (.lst xs) ∧ -(2 ^ 63) ≤ k ∧ k < 2 ^ 63 ∧ xs.length * k.toNat ≤ sizeLine ∧
  ∀ p, H p = none → Q (.ref p) (upd H p (.lst (List.replicate k.toNat xs).flatten))
theorem len_rep {α : Type} (xs : List α) (k : Nat) : (List.replicate k xs).flatten.length = k * xs.length := by
  induction k with
  | zero => simp
  | succ k ih => rw [List.replicate_succ, List.flatten_cons, List.length_append, ih, Nat.succ_mul, Nat.add_comm]
theorem op_rep : OpR X (binaryOp .Mult) rRep := by
  intro pins s σ H x y v u Q I rx ry h
  obtain ⟨l, k, xs, rfl, rfl, hH, h1, h2, hz, q⟩ := h
  cases rx
  obtain ⟨t, rfl⟩ := ry
  obtain ⟨z, its, n, r, hl, e⟩ := I.lstM hH
  have hlen : its.toArray.size * k.toNat ≤ sizeLine := by rw [List.size_toArray, ← hl]; exact hz
  have hcap : ¬ its.toArray.size * k.toNat > (2 ^ 63 - 1) / 8 := by
    have : (sizeLine : Nat) ≤ (2 ^ 63 - 1) / 8 := by decide
    omega
  have hfit : ¬ (!Builtin.List.listFitsIndex k) = true := by
    rw [fitsIndex_both h1 h2]
    exact Bool.false_ne_true
  have hlong : ¬ Builtin.List.listTooLong (its.toArray.size * k.toNat) = true := by
    rw [notLongL hlen]
    exact Bool.false_ne_true
  have hnew : List.foldl (fun x1 x2 => x1 ++ x2) #[] (List.replicate (if its.toArray.isEmpty = true then 0 else k.toNat) its.toArray) = (List.replicate k.toNat its).flatten.toArray := by
    have f0 : ∀ m : Nat, List.foldl (fun x1 x2 => x1 ++ x2) #[] (List.replicate m its.toArray) = (List.replicate m its).flatten.toArray := fun m => by
      have := foldl_rep its m []
      rw [List.nil_append] at this
      exact this
    rw [f0]
    cases its with
    | nil => simp
    | cons a r' => rw [if_neg (by simp)]
  refine wpAny_binaryOp_repeat_ref (T := "list") (U := "int") (by decide) ⟨_, e, rfl⟩ (fun s' => typeIs_int s' k t) noFill_list_mul F.fills_int_mul F.slot_int_rmul repeat_list F.slot_int_index.lookup
    (call_meets F.slot_int_rmul (typeIs_int s k t) F.entry_int_rmul (F.args_int_rmul_2 _ _) (int___rmul___int_list k t l its.toArray n)
      ⟨e, rfl, ⟨_, e, rfl⟩, call_meets F.slot_list_mul ⟨_, e, rfl⟩ F.entry_list_mul (F.args_list_mul_2 _ _) (AutoListH.list___mul___list_int_3 l its.toArray n k t hfit hcap hlong) ⟨e, ?_⟩⟩)
  rw [hnew]
  exact ⟨.ref _, _, I.lnew (t' := s.toks) (r.rep k.toNat) (by rw [len_rep, Nat.mul_comm]; exact hz), rfl, q _ I.fresh⟩
end
section
variable {prog : Program} {w : World} {A : Around} {E : Value → Shared → Prop} {s : Shared}
set_option maxRecDepth 100000 in
end
end L2
namespace L2
open PySem PySem.Spec PyProof.Rows
theorem Vals.ints : ∀ {ns : List Int} {us : List Value}, Vals (ns.map V.int) us → IntsAre us ns
  | [], us, h => by
    rw [List.map_nil] at h
    cases h
    exact IntsAre.nil
  | n :: ns, us, h => by
    rw [List.map_cons] at h
    cases h with
    | cons r t =>
      obtain ⟨k, rfl⟩ := r
      exact IntsAre.cons n k (Vals.ints t)
theorem vals_of_ints : ∀ {us : List Value} {ns : List Int}, IntsAre us ns → Vals (ns.map V.int) us
  | _, _, .nil => by rw [List.map_nil]; exact Paired.nil
  | _, _, .cons n t h => by rw [List.map_cons]; exact Paired.cons (show RelV (V.int n) (Value.int n t) from ⟨t, rfl⟩) (vals_of_ints h)
theorem Vals.ref1 {a : Addr} {us : List Value} (r : Vals [V.ref a] us) : us = [Value.ref a] := by
  cases r with
  | cons r t =>
    cases t
    cases r
    rfl
section
variable {prog : Program} {w : World} {A : Around} {E : Value → Shared → Prop} {s : Shared} {l : Addr} {its : List Value} {ns : List Int} {Q : Value → Shared → Prop}
theorem sum_raw (hh : A.handled = none) (hl : s.heap.IsList l its.toArray) (hi : IntsAre its ns)
    (h : ∀ h' tk t', (∀ b o, s.heap.get? b = some o → h'.get? b = some o) → Q (.int ns.sum t') { s with heap := h', toks := tk }) : wpAny (model prog w) A (call (.builtin "sum") [.ref l]) Q E s := by
  obtain ⟨xs, e⟩ := hi.allInts.items
  have hn : numsOf (intItems xs).toList = ns := by rw [← e]; exact hi.numsOf
  rw [nums_intItems] at hn
  rw [e] at hl
  refine PySem.sum_intListG hh hl fun h' tk t' hk => ?_
  have := h h' tk t' hk
  rw [preSum_eq, List.take_of_length_le (by simp), hn]; exact this
theorem max_raw (hh : A.handled = none) (hl : s.heap.IsList l its.toArray) (hi : IntsAre its ns) (hne : 0 < ns.length)
    (h : ∀ h' tk M t', (∀ b o, s.heap.get? b = some o → h'.get? b = some o) → M ∈ ns → (∀ a, a ∈ ns → a ≤ M) → Q (.int M t') { s with heap := h', toks := tk }) : wpAny (model prog w) A (call (.builtin "max") [.ref l]) Q E s := by
  obtain ⟨xs, e⟩ := hi.allInts.items
  have hn : numsOf (intItems xs).toList = ns := by rw [← e]; exact hi.numsOf
  rw [nums_intItems] at hn
  subst hn
  rw [e] at hl
  have hsz : 0 < xs.size := by simpa using hne
  refine PySem.max_intList hh hl hsz fun v h' tk hv hk => ?_
  obtain ⟨t, rfl⟩ := intItems_at hv
  obtain ⟨h1, h2⟩ := argBest_gt (numAt xs) (xs.size - 1)
  refine h h' tk _ t hk ?_ fun a ha => ?_
  · rw [numAt_eq]; exact PySem.getD_mem (by rw [List.length_map, Array.length_toList]; omega)
  · obtain ⟨j, hj, rfl⟩ := mem_getD ha
    rw [List.length_map, Array.length_toList] at hj
    rw [← numAt_eq]; exact h2 j (by omega)
end
section
variable {X : Cx}
def rSum (K : PySem.W.Frag) : List V → Hp → VK → Prop := fun vs H Q => ∃ (a : Addr) (ns : List Int), vs = [V.ref a] ∧ SqL K H a (ns.map V.int) ∧ Q (.int ns.sum) H
def rMax (K : PySem.W.Frag) : List V → Hp → VK → Prop := fun vs H Q => ∃ (a : Addr) (ns : List Int), vs = [V.ref a] ∧ SqL K H a (ns.map V.int) ∧ 0 < ns.length ∧ ∀ m, m ∈ ns → (∀ y, y ∈ ns → y ≤ m) → Q (.int m) H
theorem cr_sum (hc : X.calm = true) : CallR X (.builtin "sum") (rSum X.K) := by
  intro pins s σ H vs us Q I r h
  obtain ⟨a, ns, rfl, hs, q⟩ := h
  obtain ⟨its, rv, hl, _⟩ := I.list hs
  rw [Vals.ref1 r]
  exact sum_raw (I.ok.hd hc) hl.isList rv.ints fun h' tk t' hk => ⟨.int _, H, I.kept hk, ⟨_, rfl⟩, q⟩
theorem cr_max (hc : X.calm = true) : CallR X (.builtin "max") (rMax X.K) := by
  intro pins s σ H vs us Q I r h
  obtain ⟨a, ns, rfl, hs, hne, q⟩ := h
  obtain ⟨its, rv, hl, _⟩ := I.list hs
  rw [Vals.ref1 r]
  exact max_raw (I.ok.hd hc) hl.isList rv.ints hne fun h' tk m t' hk h1 h2 => ⟨.int _, H, I.kept hk, ⟨_, rfl⟩, q m h1 h2⟩
end
section
variable {X : Cx}
def rIndex (K : PySem.W.Frag) : V → List V → Hp → VK → Prop := fun x xs H Q => ∃ (a : Addr) (ys : List V) (y : V) (j : Nat) (z : V), x = V.ref a ∧ xs = [y] ∧ SqL K H a ys ∧ flatV y = true ∧ ys.all flatV = true ∧ ys[j]? = some z ∧ eqV z y = true ∧
  (∀ (m : Nat) (z' : V), m < j → ys[m]? = some z' → eqV z' y = false) ∧ Q (.int (j : Nat)) H
theorem flat_at {ys : List V} (f : ys.all flatV = true) {j : Nat} {z : V} (h : ys[j]? = some z) : flatV z = true := List.all_eq_true.mp f z (List.mem_of_getElem? h)
theorem mt_index : MtR X "list.index" (rIndex X.K) := by
  intro pins s σ H x xs v us Q I rx rxs h
  obtain ⟨a, ys, y, j, z, rfl, rfl, hs, fy, fys, hz, hzj, hno, q⟩ := h
  cases rx
  cases rxs with
  | cons ry rt =>
    rename_i uy ut
    cases rt
    obtain ⟨its, rv, ⟨⟨cls, dd, data, sl⟩, n, ho, hc, hdn, hd⟩, hlen⟩ := I.list hs
    simp only at hc hd
    subst hc hd
    obtain ⟨u, hu, ru⟩ := rv.get hz
    obtain ⟨hjl, hje⟩ := List.getElem?_eq_some_iff.mp hu
    have hvl := rv.length
    have hj : j < its.toArray.size := by simpa using hjl
    have hsl := sizeLine_eq
    refine call_meets PySem.F.slot_list_index ⟨_, ho, rfl⟩ PySem.F.entry_list_index (PySem.F.args_list_index_2 _ _)
      (SeqAt.list_indexAt a its.toArray n dd sl uy (eqU y) j hj (by omega) ?_ ?_) ⟨ho, fun u' hu' => mem_eqAt ry fy rv fys u' (by simpa using hu'), ?_⟩
    · have e1 : its.toArray[j] = u := by simpa using hje
      rw [e1, eqU_of ru (flat_at fys hz)]
      exact hzj
    · intro m hm hmj
      have hml : m < its.length := by simpa using hm
      have hmy : m < ys.length := by omega
      have hy' : ys[m]? = some ys[m] := List.getElem?_eq_getElem hmy
      obtain ⟨u2, hu2, ru2⟩ := rv.get hy'
      obtain ⟨_, hme⟩ := List.getElem?_eq_some_iff.mp hu2
      have e1 : its.toArray[m] = u2 := by simpa using hme
      rw [e1, eqU_of ru2 (flat_at fys hy')]
      exact hno m _ hmj hy'
    · exact ⟨.int (j : Nat), H, I.tok _, ⟨_, rfl⟩, q⟩
end
end L2
namespace L2
open PySem PySem.Spec PyProof.Rows
abbrev CellAt (h : Heap) (c : Addr) (v : Option Value) : Prop := h.IsCell c v
def relS (scope sc : Scope) : Scope :=
  { scope with names := scope.names.map fun (n, k) => if (k == .free && sc.kind == .function && sc.names.lookup n == some .cell) then (n, .cell) else (n, k) }
def cloFrom (cells : List (Str × Addr)) : List (Str × NameKind) → List (Str × Addr) → List (Str × Addr)
  | [], acc => acc
  | (n, k) :: r, acc => if k == .free then cloFrom cells r ((n, (cells.lookup n).getD 0) :: acc) else cloFrom cells r acc
theorem closure_loop (env : Env) (f : Str × NameKind → List (Str × Addr) → Sem (ForInStep (List (Str × Addr))))
    (hf : ∀ n k c, f (n, k) c = if k == .free then (do let a ← cellOf env n; pure (.yield ((n, a) :: c))) else pure (.yield c)) :
    ∀ (names : List (Str × NameKind)) (acc : List (Str × Addr)), (∀ y ∈ names, y.2 = .free → ∃ c, env.cells.lookup y.1 = some c) → forIn names acc f = pure (cloFrom env.cells names acc)
  | [], acc, _ => by rw [List.forIn_nil]; rfl
  | (n, k) :: r, acc, h => by
    rw [List.forIn_cons, hf]
    have ih := fun acc => closure_loop env f hf r acc fun y hy => h y (List.mem_cons_of_mem _ hy)
    unfold cloFrom
    by_cases hk : (k == NameKind.free) = true
    · rw [if_pos hk, if_pos hk]
      obtain ⟨c, hc⟩ := h (n, k) List.mem_cons_self (by simpa using hk)
      have e : cellOf env n = pure c := by unfold cellOf; rw [hc]
      rw [e]
      have e2 : (env.cells.lookup n).getD 0 = c := by rw [hc]; rfl
      rw [e2]
      exact ih _
    · rw [if_neg hk, if_neg hk]
      exact ih _
theorem closure_ok {scope : Scope} {env : Env} (h : ∀ y ∈ scope.names, y.2 = .free → ∃ c, env.cells.lookup y.1 = some c) : closureFor scope env = pure (cloFrom env.cells scope.names []) := by
  simp only [closureFor]
  rw [closure_loop env _ (fun n k c => rfl) scope.names [] h]
  rfl
theorem mem_lookup {α : Type} : ∀ {l : List (Str × α)} {n : Str} {c : α}, (n, c) ∈ l → ∃ c', l.lookup n = some c'
  | (k, v) :: r, n, c, h => by
    rw [List.lookup_cons]
    cases hb : n == k with
    | true => exact ⟨_, rfl⟩
    | false =>
      rcases List.mem_cons.mp h with e | h
      · cases e; simp at hb
      · exact mem_lookup h
theorem cloFrom_mem {cells : List (Str × Addr)} : ∀ {names : List (Str × NameKind)} {acc : List (Str × Addr)} {n : Str} {c : Addr}, (n, c) ∈ cloFrom cells names acc → (n, c) ∈ acc ∨ ((n, .free) ∈ names ∧ c = (cells.lookup n).getD 0)
  | [], _, _, _, h => .inl h
  | (m, k) :: r, acc, n, c, h => by
    unfold cloFrom at h
    split at h
    · rename_i hk
      have hk : k = .free := by simpa using hk
      rcases cloFrom_mem h with h | ⟨h1, h2⟩
      · rcases List.mem_cons.mp h with e | h
        · cases e; exact .inr ⟨hk ▸ List.mem_cons_self, rfl⟩
        · exact .inl h
      · exact .inr ⟨List.mem_cons_of_mem _ h1, h2⟩
    · rcases cloFrom_mem h with h | ⟨h1, h2⟩
      · exact .inl h
      · exact .inr ⟨List.mem_cons_of_mem _ h1, h2⟩
theorem cloFrom_acc {cells : List (Str × Addr)} : ∀ {names : List (Str × NameKind)} {acc : List (Str × Addr)} {p : Str × Addr}, p ∈ acc → p ∈ cloFrom cells names acc
  | [], _, _, h => h
  | (m, k) :: r, acc, p, h => by
    unfold cloFrom
    split
    · exact cloFrom_acc (List.mem_cons_of_mem _ h)
    · exact cloFrom_acc h
theorem cloFrom_has {cells : List (Str × Addr)} : ∀ {names : List (Str × NameKind)} {acc : List (Str × Addr)} {n : Str}, (n, .free) ∈ names → (n, (cells.lookup n).getD 0) ∈ cloFrom cells names acc
  | (m, k) :: r, acc, n, h => by
    unfold cloFrom
    rcases List.mem_cons.mp h with e | h
    · cases e
      exact cloFrom_acc List.mem_cons_self
    · split
      · exact cloFrom_has h
      · exact cloFrom_has h
theorem cells_mem : ∀ {names : List (Str × NameKind)} {h : Heap} {acc : List (Str × Addr)} {x : Str} {c : Addr}, (x, c) ∈ cellsFrom h.objs.size names acc →
    (x, c) ∈ acc ∨ ((x, .cell) ∈ names ∧ h.objs.size ≤ c ∧ CellAt (pushCells h names) c none)
  | [], _, _, _, _, h => .inl h
  | (n, k) :: r, h, acc, x, c, hm => by
    unfold cellsFrom at hm
    unfold pushCells
    split at hm
    · rename_i hk
      rw [if_pos hk]
      have hk : k = .cell := by simpa using hk
      rw [← Heap.size_push h { cls := .type "cell", data := .cell none }] at hm
      rcases cells_mem hm with hm | ⟨h1, h2, h3⟩
      · rcases List.mem_cons.mp hm with e | hm
        · cases e
          exact .inr ⟨hk ▸ List.mem_cons_self, Nat.le_refl _, _, pushCells_keeps r _ _ _ (Heap.get?_push_size _ rfl), rfl⟩
        · exact .inl hm
      · rw [Heap.size_push] at h2
        exact .inr ⟨List.mem_cons_of_mem _ h1, Nat.le_of_succ_le h2, h3⟩
    · rename_i hk
      rw [if_neg hk]
      rcases cells_mem hm with hm | ⟨h1, h2, h3⟩
      · exact .inl hm
      · exact .inr ⟨List.mem_cons_of_mem _ h1, h2, h3⟩
theorem cells_acc : ∀ {names : List (Str × NameKind)} {n : Nat} {acc : List (Str × Addr)} {p : Str × Addr}, p ∈ acc → p ∈ cellsFrom n names acc
  | [], _, _, _, h => h
  | (m, k) :: r, n, acc, p, h => by
    unfold cellsFrom
    split
    · exact cells_acc (List.mem_cons_of_mem _ h)
    · exact cells_acc h
theorem cells_has : ∀ {names : List (Str × NameKind)} {n : Nat} {acc : List (Str × Addr)} {x : Str}, (x, .cell) ∈ names → ∃ c, (x, c) ∈ cellsFrom n names acc
  | (m, k) :: r, n, acc, x, h => by
    unfold cellsFrom
    rcases List.mem_cons.mp h with e | h
    · cases e
      exact ⟨n, cells_acc List.mem_cons_self⟩
    · split
      · exact cells_has h
      · exact cells_has h
theorem cells_inj : ∀ {names : List (Str × NameKind)} {h : Heap} {acc : List (Str × Addr)} {x y : Str} {c : Addr}, (∀ p ∈ acc, p.2 < h.objs.size) → (∀ x y c, (x, c) ∈ acc → (y, c) ∈ acc → x = y) →
    (x, c) ∈ cellsFrom h.objs.size names acc → (y, c) ∈ cellsFrom h.objs.size names acc → x = y
  | [], _, _, _, _, _, _, hi, h1, h2 => hi _ _ _ h1 h2
  | (n, k) :: r, h, acc, x, y, c, hl, hi, h1, h2 => by
    unfold cellsFrom at h1 h2
    split at h1
    · rename_i hk
      rw [if_pos hk] at h2
      rw [← Heap.size_push h { cls := .type "cell", data := .cell none }] at h1 h2
      refine cells_inj (h := h.push _) (fun p hp => ?_) (fun x y c a b => ?_) h1 h2
      · rw [Heap.size_push]
        rcases List.mem_cons.mp hp with rfl | hp
        · exact Nat.lt_succ_self _
        · exact Nat.lt_succ_of_lt (hl p hp)
      · rcases List.mem_cons.mp a with e | a <;> rcases List.mem_cons.mp b with e' | b
        · cases e; cases e'; rfl
        · cases e; exact absurd (hl _ b) (Nat.lt_irrefl _)
        · cases e'; exact absurd (hl _ a) (Nat.lt_irrefl _)
        · exact hi _ _ _ a b
    · rename_i hk
      rw [if_neg hk] at h2
      exact cells_inj hl hi h1 h2
theorem newEnv_comp {M : Model} {A : Around} {E : Value → Shared → Prop} {s : Shared} {scope : Scope} {globals : Addr} {closure : List (Str × Addr)} {qual : Str} {func : Option Addr} {code : Value} {around : Env} {builtins : Addr} {Q : Env → Shared → Prop}
    (h : Q (newEnv scope s.heap.objs.size globals (cellsFrom (s.heap.objs.size + 1) scope.names closure) qual func code (some around) builtins)
      { s with heap := pushCells (s.heap.push { cls := .type "dict", data := .dict #[] }) scope.names }) :
    wpAny M A (newFunctionEnv scope globals closure [] qual func code (some around) builtins) Q E s := by
  simp only [newFunctionEnv, Option.isSome_some, if_true]
  refine wpAny_bind (wpAny_alloc ?_)
  refine wpAny_bind (wpAny_layCells _ (fun n k c => rfl) scope.names closure _ _ ?_)
  rw [show ({ s with heap := s.heap.push { cls := .type "dict", data := .dict #[] } } : Shared).heap.objs.size = s.heap.objs.size + 1 from Heap.size_push ..]
  rw [List.forIn_nil]
  exact wpAny_bind (wpAny_pure (wpAny_pure h))
theorem lookup_relS {sc : Scope} : ∀ {names : List (Str × NameKind)} {x : Str} {k : NameKind},
    (names.map fun (n, k) => if (k == NameKind.free && sc.kind == .function && sc.names.lookup n == some .cell) then (n, NameKind.cell) else (n, k)).lookup x = some k →
    ∃ k', names.lookup x = some k' ∧ (k = k' ∨ (k' = .free ∧ k = .cell))
  | [], _, _, h => by simp at h
  | (n, k₀) :: r, x, k, h => by
    have ih := @lookup_relS sc r x k
    have h' : List.lookup x ((if (k₀ == NameKind.free && sc.kind == .function && sc.names.lookup n == some .cell) = true then (n, NameKind.cell) else (n, k₀)) :: (r.map _)) = some k := h
    cases hx : x == n with
    | true =>
      simp only [List.lookup_cons, hx]
      by_cases hc : (k₀ == NameKind.free && sc.kind == .function && sc.names.lookup n == some .cell) = true
      · rw [if_pos hc] at h'
        simp only [List.lookup_cons, hx] at h'
        cases h'
        simp only [Bool.and_eq_true, beq_iff_eq] at hc
        exact ⟨k₀, rfl, .inr ⟨hc.1.1, rfl⟩⟩
      · rw [if_neg hc] at h'
        simp only [List.lookup_cons, hx] at h'
        cases h'
        exact ⟨_, rfl, .inl rfl⟩
    | false =>
      simp only [List.lookup_cons, hx]
      by_cases hc : (k₀ == NameKind.free && sc.kind == .function && sc.names.lookup n == some .cell) = true
      · rw [if_pos hc] at h'
        simp only [List.lookup_cons, hx] at h'
        exact ih h'
      · rw [if_neg hc] at h'
        simp only [List.lookup_cons, hx] at h'
        exact ih h'
structure BlkOk (N : List Str) (sc scope : Scope) (own : List (Str × Nat)) : Prop where
  kind : scope.kind = .function
  uniq : ∀ y ∈ scope.names, scope.names.lookup y.1 = some y.2
  ix : ∀ p ∈ own, N[p.2]? = some p.1
  free : ∀ y ∈ scope.names, y.2 = .free → sc.names.lookup y.1 = some .cell ∨ sc.names.lookup y.1 = some .free
  own : ∀ y ∈ scope.names, y.2 = .local ∨ y.2 = .cell → y.1 ∈ own.map (·.1) ∨ y.1 ∉ N
def wipe (σ : St) : List Nat → St
  | [] => σ
  | v :: vs => (wipe σ vs).set v none
theorem wipe_length (σ : St) : ∀ vs : List Nat, (wipe σ vs).length = σ.length
  | [] => rfl
  | v :: vs => by unfold wipe; rw [List.length_set, wipe_length σ vs]
theorem wipe_some {σ : St} {i : Nat} {x : V} : ∀ {vs : List Nat}, (wipe σ vs)[i]? = some (some x) → σ[i]? = some (some x) ∧ i ∉ vs
  | [], h => ⟨h, by simp⟩
  | v :: vs, h => by
    unfold wipe at h
    by_cases hi : v = i
    · subst hi
      by_cases hv : v < (wipe σ vs).length
      · rw [List.getElem?_set_self hv] at h; cases h
      · rw [List.getElem?_eq_none (by simpa using hv)] at h; cases h
    · rw [List.getElem?_set_ne hi] at h
      obtain ⟨h1, h2⟩ := wipe_some h
      exact ⟨h1, by simp only [List.mem_cons, not_or]; exact ⟨fun e => hi e.symm, h2⟩⟩
abbrev Cx.blk (X : Cx) (s : Shared) (H : Hp) (scope : Scope) (cenv : Env) (fp : List Addr) : Cx := { X with s₀ := s, H₀ := H, env := cenv, outer := X.stack, ex := fp, fn := fun x => scope.names.lookup x == some .cell, pn := [], xe := fun _ _ => False }
section
variable {X : Cx} {pins : List (Addr × Obj)} {σ : St} {H : Hp} {s : Shared}
theorem block_start {scope : Scope} {own : List (Str × Nat)} {fp : List Addr} (I : Inv X pins σ H s) (ok : BlkOk X.N X.env.scope scope own) (hN : X.N.Nodup) (hfp : ∀ b ∈ fp, FpOk X pins H b ∧ b < s.heap.objs.size) :
    Inv (X.blk s H scope (compEnvC scope (cellsFrom (s.heap.objs.size + 1) scope.names (cloFrom X.env.cells scope.names [])) s.heap.objs.size X.env) fp) [] (wipe σ (own.map (·.2))) H { s with heap := pushCells (s.heap.push { cls := .type "dict", data := .dict #[] }) scope.names } := by
  have hfree : ∀ y ∈ scope.names, y.2 = .free → ∃ c, X.env.cells.lookup y.1 = some c := fun y hy e => by
    rcases ok.free y hy e with k | k
    · exact I.ok.has _ (.inl k)
    · exact I.ok.has _ (.inr k)
  generalize hcenv : compEnvC scope (cellsFrom (s.heap.objs.size + 1) scope.names (cloFrom X.env.cells scope.names [])) s.heap.objs.size X.env = cenv
  have kp : ∀ b o, s.heap.get? b = some o → (pushCells (s.heap.push { cls := .type "dict", data := .dict #[] }) scope.names).get? b = some o := fun b o e => pushCells_keeps _ _ _ _ (Heap.get?_push_of_some _ e)
  have hL : cenv.locals = s.heap.objs.size := by rw [← hcenv]; rfl
  have hcl : cenv.cells = cellsFrom (s.heap.objs.size + 1) scope.names (cloFrom X.env.cells scope.names []) := by rw [← hcenv]; rfl
  have hsc : cenv.scope = relS scope X.env.scope := by rw [← hcenv]; rfl
  rw [← Heap.size_push s.heap { cls := .type "dict", data := .dict #[] }] at hcl
  have cm : ∀ {y c}, (y, c) ∈ cloFrom X.env.cells scope.names [] → X.env.cells.lookup y = some c ∧ c < s.heap.objs.size := fun {y c} hm => by
    rcases cloFrom_mem hm with hm | ⟨h1, rfl⟩
    · cases hm
    · obtain ⟨c, hc⟩ := hfree _ h1 rfl
      rw [hc]
      obtain ⟨w, z⟩ := I.cell _ _ hc
      exact ⟨rfl, z.lt⟩
  have mem : ∀ {y c}, cenv.cells.lookup y = some c → (X.env.cells.lookup y = some c ∧ c < s.heap.objs.size) ∨ (s.heap.objs.size + 1 ≤ c ∧ CellAt (pushCells (s.heap.push { cls := .type "dict", data := .dict #[] }) scope.names) c none) := fun {y c} e => by
    rw [hcl] at e
    rcases cells_mem (PySem.mem_of_lookup e) with hm | ⟨_, h2, h3⟩
    · exact .inl (cm hm)
    · rw [Heap.size_push] at h2; exact .inr ⟨h2, h3⟩
  have look : ∀ {y}, scope.names.lookup y = some .free → ∃ c, cenv.cells.lookup y = some c ∧ X.env.cells.lookup y = some c := fun {y} hl => by
    have hy : (y, NameKind.free) ∈ scope.names := PySem.mem_of_lookup hl
    obtain ⟨c', e'⟩ := mem_lookup (cells_acc (names := scope.names) (n := (s.heap.push { cls := .type "dict", data := .dict #[] }).objs.size) (cloFrom_has (cells := X.env.cells) (acc := []) hy))
    rw [← hcl] at e'
    refine ⟨c', e', ?_⟩
    rw [hcl] at e'
    rcases cells_mem (PySem.mem_of_lookup e') with hm | ⟨h1, _, _⟩
    · exact (cm hm).1
    · have := ok.uniq _ h1
      rw [hl] at this; cases this
  have okB : (X.blk s H scope cenv fp).Ok := by
    refine ⟨I.ok.mod, by show cenv.scope.kind = _; rw [hsc]; exact ok.kind, by show cenv.globals = _; rw [← hcenv]; exact I.ok.glob, by show cenv.builtins = _; rw [← hcenv]; exact I.ok.blt, by show s.heap.objs.size ≤ cenv.locals; rw [hL]; exact Nat.le_refl _,
      fun y z c e1 e2 => ?_, fun y hy => ?_, fun y c z e => ?_, I.ok.hd, I.ok.frames, .inl rfl, fun b hb => ⟨?_, fun y c e z => ?_⟩, I.bs, Nat.le_trans I.ok.bsz I.sz, fun b o e hb => ?_, fun b hb z => ?_, I.stack, I.stkFree⟩
    · have e1 : cenv.cells.lookup y = some c := e1
      have e2 : cenv.cells.lookup z = some c := e2
      rw [hcl] at e1 e2
      refine cells_inj (fun p hp => ?_) (fun y z c a b => I.ok.inj y z c (cm a).1 (cm b).1) (PySem.mem_of_lookup e1) (PySem.mem_of_lookup e2)
      rw [Heap.size_push]
      exact Nat.lt_succ_of_lt (cm (y := p.1) (c := p.2) hp).2
    · show ∃ c, cenv.cells.lookup y = some c
      have key : ∀ k, cenv.kindOf y = some k → (k = .cell ∨ k = .free) → ∃ c, cenv.cells.lookup y = some c := fun k hk hk' => by
        unfold Env.kindOf at hk
        rw [hsc] at hk
        obtain ⟨k', e, r⟩ := lookup_relS hk
        have : k' = .cell ∨ k' = .free := by
          rcases r with rfl | ⟨rfl, _⟩
          · exact hk'
          · exact .inr rfl
        rcases this with rfl | rfl
        · obtain ⟨c, hm⟩ := cells_has (n := (s.heap.push { cls := .type "dict", data := .dict #[] }).objs.size) (acc := cloFrom X.env.cells scope.names []) (PySem.mem_of_lookup e)
          obtain ⟨c', e'⟩ := mem_lookup hm
          exact ⟨c', by rw [hcl]; exact e'⟩
        · obtain ⟨c, h1, _⟩ := look e
          exact ⟨c, h1⟩
      rcases hy with hy | hy
      · exact key _ hy (.inl rfl)
      · exact key _ hy (.inr rfl)
    · have z : (scope.names.lookup y == some NameKind.cell) = true := z
      have z : scope.names.lookup y = some .cell := by simpa using z
      have e : cenv.cells.lookup y = some c := e
      rw [hcl] at e
      rcases cells_mem (PySem.mem_of_lookup e) with hm | ⟨_, h2, _⟩
      · rcases cloFrom_mem hm with hm | ⟨h1, _⟩
        · cases hm
        · have q := ok.uniq _ h1
          rw [z] at q; cases q
      · rw [Heap.size_push] at h2
        exact Nat.le_of_succ_le h2
    · show b ≠ cenv.locals
      rw [hL]; exact Nat.ne_of_lt (hfp b hb).2
    · have e : cenv.cells.lookup y = some c := e
      rcases mem e with ⟨h1, _⟩ | ⟨h1, _⟩
      · exact (hfp b hb).1.2.2.2.2.1 y c h1 z
      · have h2 : s.heap.objs.size + 1 ≤ b := by rw [← z]; exact h1
        exact absurd (Nat.lt_of_lt_of_le (hfp b hb).2 (Nat.le_of_succ_le h2)) (Nat.lt_irrefl _)
    · rcases (hfp b hb).1.2.2.2.1 with z | z
      · exact I.ok.noex b o e z
      · exact absurd (Nat.lt_of_lt_of_le (Heap.lt_size e) (Nat.le_trans I.ok.bsz z)) (Nat.lt_irrefl _)
    · rcases List.mem_cons.mp (I.stkSub b z) with z | z
      · exact (hfp b hb).1.2.1 z
      · exact (hfp b hb).1.2.2.1 z
  refine ⟨okB, rfl, I.bare, Un.kept kp, ⟨fun _ => none, ?_, fun i y av e1 e2 e3 => ?_⟩, fun y c e => ?_, ?_, fun y c e => ?_, fun p hp => ?_, I.hok.kept kp, by rw [wipe_length]; exact I.len⟩
  · show Heap.Ns _ cenv.locals _
    rw [hL]
    exact Heap.Ns.keeps (Heap.Ns.new ..) fun b o e => pushCells_keeps _ _ _ _ e
  · obtain ⟨e2, hne⟩ := wipe_some e2
    have hfr : scope.names.lookup y = some .free ∧ (cenv.kindOf y = some .cell ∨ cenv.kindOf y = some .free) := by
      have key : ∀ k, cenv.scope.names.lookup y = some k → k = .local ∨ k = .cell ∨ k = .free → scope.names.lookup y = some .free ∧ (cenv.kindOf y = some .cell ∨ cenv.kindOf y = some .free) := fun k hk hk' => by
        have hk0 := hk
        rw [hsc] at hk
        obtain ⟨k', e, r⟩ := lookup_relS hk
        have no : ¬ (k' = .local ∨ k' = .cell) := fun hh => by
          rcases ok.own _ (PySem.mem_of_lookup e) hh with e' | e'
          · obtain ⟨p, hp, hpy⟩ := List.mem_map.mp e'
            have e3 := ok.ix p hp
            have : p.1 = y := hpy
            rw [this] at e3
            exact hne (List.mem_map.mpr ⟨p, hp, nodup_ix hN e3 e1⟩)
          · exact e' (List.mem_of_getElem? e1)
        rcases r with rfl | ⟨rfl, rfl⟩
        · rcases hk' with rfl | rfl | rfl
          · exact absurd (.inl rfl) no
          · exact absurd (.inr rfl) no
          · exact ⟨e, .inr hk0⟩
        · exact ⟨e, .inl hk0⟩
      have e3 : Vis cenv.scope y := e3
      rcases e3 with e3 | e3 | e3
      · exact key _ e3 (.inl rfl)
      · exact key _ e3 (.inr (.inl rfl))
      · exact key _ e3 (.inr (.inr rfl))
    obtain ⟨m, hn, hl⟩ := I.loc
    have hvis : Vis X.env.scope y := (ok.free _ (PySem.mem_of_lookup hfr.1) rfl).elim (fun k => .inr (.inl k)) (fun k => .inr (.inr k))
    obtain ⟨w, r, q⟩ := hl i y av e1 e2 hvis
    refine ⟨w, r, .inr ⟨hfr.2, ?_⟩⟩
    obtain ⟨c, h1, h2⟩ := look hfr.1
    rcases q with ⟨k, _⟩ | ⟨_, c', e', z⟩
    · have k : X.env.scope.names.lookup y = some .local := k
      rcases ok.free _ (PySem.mem_of_lookup hfr.1) rfl with k' | k' <;> rw [show X.env.scope.names.lookup y = _ from k'] at k <;> cases k
    · rw [h2] at e'; cases e'
      exact ⟨c, h1, z.keeps kp⟩
  · have e : cenv.cells.lookup y = some c := e
    rcases mem e with ⟨h1, _⟩ | ⟨_, z⟩
    · obtain ⟨w, z⟩ := I.cell y c h1
      exact ⟨w, z.keeps kp⟩
    · exact ⟨_, z⟩
  · show H cenv.locals = none
    rw [hL]; exact I.hok.fresh (Nat.le_refl _)
  · have e : cenv.cells.lookup y = some c := e
    rcases mem e with ⟨h1, _⟩ | ⟨h1, _⟩
    · exact I.freeC y c h1
    · exact I.hok.fresh (Nat.le_of_succ_le h1)
  · exact absurd (show p ∈ ([] : List (Addr × Obj)) ++ [] from hp) (by simp)
theorem app_ok {E : Value → Shared → Prop} {D : Addr} {xs : List V} {y : V} {v : Value} {Q : Value → Shared → Prop} (I : Inv X pins σ H s) (hD : H D = some (.lst xs)) (hz : xs.length < sizeLine) (r : RelV y v)
    (h : ∀ s', Inv X pins σ (upd H D (.lst (xs ++ [y]))) s' → Q .none s') : wpAny (model X.prog X.w) X.A (call (.builtin "list.append") [.ref D, v]) Q E s := by
  obtain ⟨hz', its, n, ri, e⟩ := I.hok D _ hD
  have hl := ri.length
  refine append_at (hsz := by rw [List.size_toArray]; omega) e fun h' sb ho' => ?_
  refine h { s with heap := h' } (I.write (t' := s.toks) (by rw [hD]; trivial) (.inl rfl) (fun b u hb q => (sb.2 b hb).trans q) ⟨_, ho'⟩ ⟨by rw [List.length_append]; exact hz, its ++ [v], n + 1, ri.append (.cons r .nil), ?_⟩)
  rw [ho']
  simp
def PTs (X : Cx) (ifs : List Expr) (t : TT) : Prop :=
  ∀ (pins : List (Addr × Obj)) (s : Shared) (σ : St) (H : Hp) (Q : Bool → Hp → Prop), Inv X pins σ H s → t σ H Q →
    wpAny (model X.prog X.w) X.A (forIn ifs true fun c r => if r = true then do let ok ← isTrue c X.env (eval c X.env); pure (ForInStep.yield ok) else pure (ForInStep.yield r)) (TP X pins σ Q) X.xe s
def tYes : TT := fun _ H Q => Q true H
theorem pts_nil : PTs X [] tYes := fun _ _ _ H _ I h => wpAny_tests_nil ⟨H, I, h⟩
theorem pts_one {c : Expr} {t : TT} (h : PT X c t) : PTs X [c] t := fun pins s σ H Q I hw => wpAny_tests_one (h pins s σ H Q I hw)
end
theorem thnF {α : Type} {t : Sem α} {Q Q' : α → Shared → Prop} {M : Model} {A : Around} {E : Value → Shared → Prop} {s : Shared} (h : wpAny M A t Q (fun _ _ => False) s) (hQ : ∀ a s, Q a s → Q' a s) : wpAny M A t Q' E s := wpAny_mono h hQ fun _ _ z => False.elim z
theorem compLoop_any {prog : Program} {w : World} {A : Around} {R : Result → Shared → Prop} {s : Shared} {elt target iter : Expr} {ifs : List Expr} {scope : Scope} {pos : Pos} {it acc : Value} {env : Env} (I : Nat → Shared → Prop)
    (turn : ∀ n s, I n s → wpAny (model prog w) A (pyNext it) (fun r s₁ => match r with
      | none => R (.ok .next) s₁
      | some v => wpAny (model prog w) A (letOwnedTupleGo target it v) (fun _ s₁' => wpAny (model prog w) A (assign target env v) (fun _ s₂ =>
          wpAny (model prog w) A (forIn ifs true fun c r => if r = true then do let ok ← isTrue c env (eval c env); pure (ForInStep.yield ok) else pure (ForInStep.yield r)) (fun ok s₃ =>
            if ok = true then wpAny (model prog w) A (eval elt env) (fun x s₄ =>
              wpAny (model prog w) A (call (.builtin "list.append") [acc, x]) (fun _ s₅ => ∃ m, m < n ∧ I m s₅) (notedBy (model prog w) A env fun e s' => R (.error e) s') s₄) (notedBy (model prog w) A env fun e s' => R (.error e) s') s₃
            else ∃ m, m < n ∧ I m s₃) (notedBy (model prog w) A env fun e s' => R (.error e) s') s₂) (notedBy (model prog w) A env fun e s' => R (.error e) s') s₁') (notedBy (model prog w) A env fun e s' => R (.error e) s') s₁) (notedBy (model prog w) A env fun e s' => R (.error e) s') s)
    (n : Nat) (h : I n s) :
    codeAny (model prog w) A (.compLoop (.ListComp elt [⟨target, iter, ifs, 0⟩] scope pos) 0 it acc env) R s := by
  refine codeAny_loop rfl I (fun n s hI => ?_) n h
  show wpAny _ A ((compTurn (.ListComp elt [⟨target, iter, ifs, 0⟩] scope pos) 0 it acc env).onRaise (fun x => do noteFrame x env; theTreesLotGoes x)) _ _ s
  refine wpAny_noted ?_
  rw [compTurn_list]
  refine wpAny_bind (wpAny_standAt (wpAny_bind (wpAny_mono (turn n s hI) (fun r s₁ h₁ => ?_) fun _ _ h' => h')))
  cases r with
  | none => exact wpAny_pure h₁
  | some v =>
    refine wpAny_bind (wpAny_mono h₁ (fun _ s₁' h₁' => ?_) fun _ _ h' => h')
    refine wpAny_bind (wpAny_mono h₁' (fun _ s₂ h₂ => wpAny_bind (wpAny_mono h₂ (fun ok s₃ h₃ => ?_) fun _ _ h' => h')) fun _ _ h' => h')
    cases ok with
    | false => exact wpAny_pure ⟨rfl, h₃⟩
    | true =>
      exact wpAny_bind (wpAny_bind (wpAny_mono h₃ (fun x s₄ h₄ => wpAny_bind (wpAny_mono h₄ (fun _ s₅ h₅ => wpAny_pure (wpAny_pure ⟨rfl, h₅⟩)) fun _ _ h' => h')) fun _ _ h' => h'))
section
variable {X : Cx}
def tLc (wi : TI) (g : TG) (tt : TT) (te : TE) (vs : List Nat) : TE := fun σ H Q => wi σ H fun J H1 => ∀ D, H1 D = none → ∃ W : Nat → Nat → Hp → Prop, (∃ m, W 0 m (upd H1 D (.lst []))) ∧ ∀ i m H, W i m H →
  (J.stop i H ∧ Q (.ref D) H) ∨ (J.go i H ∧ ∃ Nx : Hp → Prop, (∀ H', Nx H' → ∃ m', m' < m ∧ W (i + 1) m' H') ∧ ∀ x H', J.yld i H x H' → g x (wipe σ vs) H' fun σ2 H2 => wipe σ2 vs = wipe σ vs ∧ tt σ2 H2 fun b H3 =>
    if b = true then te σ2 H3 fun y H4 => ∃ acc, H4 D = some (.lst acc) ∧ acc.length < sizeLine ∧ Nx (upd H4 D (.lst (acc ++ [y]))) else Nx H3)
theorem lc_core {pins : List (Addr × Obj)} {s : Shared} {σ : St} {H : Hp} {Q : VK} {elt tg iter : Expr} {ifs : List Expr} {scope : Scope} {own : List (Str × Nat)} {pos pos' : Pos} {wi : TI} {g : TG} {tt : TT} {te : TE} {use : Option (Value → Sem Unit)} {Qf : Value → Shared → Prop}
    (hc : X.calm = true) (hN : X.N.Nodup) (I : Inv X pins σ H s) (hi : PI X tg iter wi) (ok : BlkOk X.N X.env.scope scope own)
    (hg : ∀ (s : Shared) (H : Hp) (C : Addr) (cl : List (Str × Addr)) (fp : List Addr), PG (X.blk s H scope (compEnvC scope cl C X.env) fp) tg g) (ht : ∀ (s : Shared) (H : Hp) (C : Addr) (cl : List (Str × Addr)) (fp : List Addr), PTs (X.blk s H scope (compEnvC scope cl C X.env) fp) ifs tt)
    (he : ∀ (s : Shared) (H : Hp) (C : Addr) (cl : List (Str × Addr)) (fp : List Addr), PE (X.blk s H scope (compEnvC scope cl C X.env) fp) elt te) (hs : ∀ x, foldedSetIterable iter X.env x = pure x)
    (h : tLc wi g tt te (own.map (·.2)) σ H Q)
    (hRR : ∀ D C s' m H', Inv X pins σ H' s' → Q (.ref D) H' → s'.heap.Ns C m → FpOk X pins H' C → compPost (model X.prog X.w) X.A X.xe use Qf (.ref D) C (.ok .next) s') :
    wpAny (model X.prog X.w) X.A (comprehension (.ListComp elt [⟨tg, iter, ifs, 0⟩] scope pos) scope X.env pos' (newList []) false (eval iter X.env) use) Qf X.xe s := by
  have hfree : ∀ y ∈ scope.names, y.2 = .free → ∃ c, X.env.cells.lookup y.1 = some c := fun y hy e => by
    rcases ok.free y hy e with k | k
    · exact I.ok.has _ (.inl k)
    · exact I.ok.has _ (.inr k)
  refine wpAny_comprehension_free (use := use) rfl hs (closure_ok hfree) ok.kind (fun y hy e => by rw [ok.uniq y hy, e])
    (thn (hi pins s σ H _ I h) fun xv s1 hx => thn hx fun itv s2 h2 => ?_)
  obtain ⟨it, fp, tn, J, H2, e, I2, T, st2, f2, q⟩ := h2
  subst e
  refine wpAny_newObj_type (newEnv_comp ?_) (by show 0 ≤ sizeLine; decide)
  generalize hD : s2.heap.objs.size = D
  have hDn : H2 D = none := I2.hok.fresh (Nat.le_of_eq hD)
  obtain ⟨W, ⟨m0, w0⟩, turn⟩ := q D hDn
  generalize hs3 : ({ s2 with heap := s2.heap.push { cls := .type "list", data := .seq ([] : List Value).toArray } } : Shared) = s3
  have I3 : Inv X pins σ (upd H2 D (.lst [])) s3 := by
    rw [← hs3]
    refine I2.laid (t' := s2.toks) (fun b o e => Heap.get?_push_of_some _ e) (Nat.le_of_eq hD) ⟨Nat.zero_le _, [], 0, .nil, ?_⟩
    rw [← hD]
    exact Heap.get?_push_size _ rfl
  have h3 : s3.heap = s2.heap.push { cls := .type "list", data := .seq ([] : List Value).toArray } := by rw [← hs3]
  have sz : ∀ b ∈ fp, b < s2.heap.objs.size := fun b hb => by
    obtain ⟨o, e, _⟩ := T.obj _ _ st2 b hb
    exact Heap.lt_size e
  have f3 : ∀ b ∈ fp, FpOk X pins (upd H2 D (.lst [])) b ∧ b < s3.heap.objs.size := fun b hb => by
    have hlt := sz b hb
    refine ⟨⟨?_, (f2 b hb).2⟩, by rw [h3, Heap.size_push]; exact Nat.lt_succ_of_lt hlt⟩
    rw [upd_ne (by rw [← hD]; exact Nat.ne_of_lt hlt)]
    exact (f2 b hb).1
  have st3 : tn 0 s3.heap := T.keep _ _ _ st2 fun b _ o e => by rw [h3]; exact Heap.get?_push_of_some _ e
  have I4 := block_start I3 ok hN f3
  have pg := hg s3 (upd H2 D (.lst [])) s3.heap.objs.size (cellsFrom (s3.heap.objs.size + 1) scope.names (cloFrom X.env.cells scope.names [])) fp
  have pt := ht s3 (upd H2 D (.lst [])) s3.heap.objs.size (cellsFrom (s3.heap.objs.size + 1) scope.names (cloFrom X.env.cells scope.names [])) fp
  have pe := he s3 (upd H2 D (.lst [])) s3.heap.objs.size (cellsFrom (s3.heap.objs.size + 1) scope.names (cloFrom X.env.cells scope.names [])) fp
  show codeAny _ _ (.compStart (.ListComp elt [⟨tg, iter, ifs, 0⟩] scope pos) 0 (.ref it) (.ref D) (compEnvC scope (cellsFrom (s3.heap.objs.size + 1) scope.names (cloFrom X.env.cells scope.names [])) s3.heap.objs.size X.env)) (compPost (model X.prog X.w) X.A X.xe use Qf (.ref D) s3.heap.objs.size) { s3 with heap := pushCells (s3.heap.push { cls := .type "dict", data := .dict #[] }) scope.names }
  have nfp : ∀ b ∈ fp, (upd H2 D (.lst [])) b = none := fun b hb => (f3 b hb).1.1
  generalize hce : compEnvC scope (cellsFrom (s3.heap.objs.size + 1) scope.names (cloFrom X.env.cells scope.names [])) s3.heap.objs.size X.env = ce at I4 pg pt pe ⊢
  have cL : ce.locals = s3.heap.objs.size := by subst hce; rfl
  generalize hH3 : upd H2 D (.lst []) = H3 at I3 I4 pg pt pe w0 nfp f3
  generalize hs4 : ({ s3 with heap := pushCells (s3.heap.push { cls := .type "dict", data := .dict #[] }) scope.names } : Shared) = s4 at I4 ⊢
  have st4 : tn 0 s4.heap := T.keep _ _ _ st3 fun b _ o e => by rw [← hs4]; exact pushCells_keeps _ _ _ _ (Heap.get?_push_of_some _ e)
  have stat : ∀ {σ' : St} {H' : Hp} {s' : Shared}, Inv (X.blk s3 H3 scope ce fp) [] σ' H' s' → (∀ b ∈ fp, H' b = none) → ∀ b ∈ fp, FpOk (X.blk s3 H3 scope ce fp) [] H' b := fun {σ' H' s'} I' hn b hb =>
    ⟨hn b hb, (I'.ok.exf b hb).1, I'.ok.exfs b hb, .inl hb, fun x c e => (I'.ok.exf b hb).2 x c e, fun p hp => absurd (show p ∈ ([] : List (Addr × Obj)) ++ [] from hp) (by simp)⟩
  have loop : codeAny (model X.prog X.w) X.A (.compLoop (.ListComp elt [⟨tg, iter, ifs, 0⟩] scope pos) 0 (.ref it) (.ref D) ce) (compPost (model X.prog X.w) X.A X.xe use Qf (.ref D) s3.heap.objs.size) s4 := by
    refine compLoop_any (fun n s' => ∃ i H', Inv (X.blk s3 H3 scope ce fp) [] (wipe σ (own.map (·.2))) H' s' ∧ tn i s'.heap ∧ (∀ b ∈ fp, H' b = none) ∧ W i n H') ?_ m0 ⟨0, H3, I4, st4, nfp, w0⟩
    rintro n s5 ⟨i, H5, I5, st5, n5, w5⟩
    rcases turn i n H5 w5 with ⟨stop, qq⟩ | ⟨go, Nx, hNx, step⟩
    · have td := T.done (X.blk s3 H3 scope ce fp) rfl rfl rfl hc i [] s5 _ H5 (fun _ _ => False) I5 (stat I5 n5) st5 stop
      refine thnF td fun r s6 ⟨hr, I6⟩ => ?_
      subst hr
      have I7 : Inv X pins σ H5 s6 := I3.call' (ch := fp) I6.os I6.base I6.hok I6.bare fun b hb => ⟨(f3 b hb).1.2.2.2.1, (f3 b hb).1.2.1, (f3 b hb).1.2.2.2.2.1, (f3 b hb).1.2.2.2.2.2⟩
      have nC : H5 s3.heap.objs.size = none := by
        have z : H5 ce.locals = none := I6.free
        rw [cL] at z
        exact z
      obtain ⟨m, hn, _⟩ := I6.loc
      have hn : s6.heap.Ns ce.locals m := hn
      rw [cL] at hn
      exact hRR D s3.heap.objs.size s6 m H5 I7 qq hn (I3.fpOk (Nat.le_refl _) nC)
    · have ti := T.item (X.blk s3 H3 scope ce fp) rfl rfl rfl hc i [] s5 _ H5 (fun _ _ => False) I5 (stat I5 n5) st5 go
      refine thnF ti fun r s6 ⟨u, hr, h6⟩ => ?_
      subst hr
      refine thnF h6 fun _ s7 ⟨x, H7, I7, r7, y7, st7, n7⟩ => ?_
      have I7' := I7.pinned (stat I7 n7) (T.obj _ _ st7)
      refine thnF (pg _ s7 _ H7 x u _ I7' r7 (step x H7 y7)) fun _ s8 ⟨σ8, H8, I8, hw8, q8⟩ => ?_
      refine thnF (pt _ s8 σ8 H8 _ I8 q8) fun b s9 ⟨H9, I9, q9⟩ => ?_
      have fin : ∀ {s' : Shared} {H' : Hp}, Inv (X.blk s3 H3 scope ce fp) ([] ++ pinsAt fp s7.heap) σ8 H' s' → Nx H' → ∃ m, m < n ∧ ∃ i H', Inv (X.blk s3 H3 scope ce fp) [] (wipe σ (own.map (·.2))) H' s' ∧ tn i s'.heap ∧ (∀ b ∈ fp, H' b = none) ∧ W i m H' := fun {s' H'} I' nx => by
        obtain ⟨m', hm, w'⟩ := hNx H' nx
        have pin' : ∀ b ∈ fp, ∀ o, s7.heap.get? b = some o → s'.heap.get? b = some o ∧ H' b = none := fun b hb o e =>
          let z := I'.pin (b, o) (List.mem_append_right _ (List.mem_append_right _ (mem_pinsAt hb e)))
          ⟨z.1, z.2.1⟩
        have hl : (wipe σ (own.map (·.2))).length = σ8.length := by rw [← hw8, wipe_length]
        refine ⟨m', hm, i + 1, H', (I'.unpinned (pins := [])).weak hl (fun j v e => ?_), T.keep _ _ _ st7 fun b hb o e => (pin' b hb o e).1, fun b hb => ?_, w'⟩
        · rw [← hw8] at e
          exact (wipe_some e).1
        · obtain ⟨o, e, _⟩ := T.obj _ _ st7 b hb
          exact (pin' b hb o e).2
      cases b with
      | false =>
        simp only [Bool.false_eq_true, if_false] at q9 ⊢
        exact fin I9 q9
      | true =>
        simp only [if_true] at q9 ⊢
        refine thnF (pe _ s9 σ8 H9 _ I9 q9) fun z s10 ⟨yv, H10, I10, r10, acc, hD10, hz10, nx⟩ => ?_
        exact app_ok (X := X.blk s3 H3 scope ce fp) I10 hD10 hz10 r10 fun s11 I11 => fin I11 nx
  exact codeAny_compStart_list loop (T.self X.A 0 _ _ _ st4 loop)
theorem pe_lc {elt tg iter : Expr} {ifs : List Expr} {scope : Scope} {own : List (Str × Nat)} {pos : Pos} {wi : TI} {g : TG} {tt : TT} {te : TE} (hc : X.calm = true) (hN : X.N.Nodup) (hi : PI X tg iter wi) (ok : BlkOk X.N X.env.scope scope own)
    (hg : ∀ (s : Shared) (H : Hp) (C : Addr) (cl : List (Str × Addr)) (fp : List Addr), PG (X.blk s H scope (compEnvC scope cl C X.env) fp) tg g) (ht : ∀ (s : Shared) (H : Hp) (C : Addr) (cl : List (Str × Addr)) (fp : List Addr), PTs (X.blk s H scope (compEnvC scope cl C X.env) fp) ifs tt)
    (he : ∀ (s : Shared) (H : Hp) (C : Addr) (cl : List (Str × Addr)) (fp : List Addr), PE (X.blk s H scope (compEnvC scope cl C X.env) fp) elt te) (hs : ∀ x, foldedSetIterable iter X.env x = pure x := by intro _; rfl) :
    PE X (.ListComp elt [⟨tg, iter, ifs, 0⟩] scope pos) (tLc wi g tt te (own.map (·.2))) := by
  intro pins s σ H Q I h
  rw [eval_ListComp]
  refine lc_core hc hN I hi ok hg ht he hs h fun D C s' m H' I' q hn f => ⟨m, hn, fun h'' sb => ?_⟩
  obtain ⟨f0, f1, f2, f3, f4, f5⟩ := f
  exact ⟨.ref D, H', I'.turned (t' := s'.toks) (fun b o hb e => (sb.2 b hb).trans e) f0 f1 f3 f4 f5, rfl, q⟩
theorem ps_setLc {i : Nat} {y : Str} {py : Pos} {elt tg iter : Expr} {ifs : List Expr} {scope : Scope} {own : List (Str × Nat)} {pos spos : Pos} {wi : TI} {g : TG} {tt : TT} {te : TE} (hc : X.calm = true) (hN : X.N.Nodup) (hy : X.N[i]? = some y) (hyl : X.env.scope.names.lookup y = some .local)
    (hsw : swapsWith (.ListComp elt [⟨tg, iter, ifs, 0⟩] scope pos) (some (.Name y py)) spos.line X.env = pure true) (hi : PI X tg iter wi) (ok : BlkOk X.N X.env.scope scope own)
    (hg : ∀ (s : Shared) (H : Hp) (C : Addr) (cl : List (Str × Addr)) (fp : List Addr), PG (X.blk s H scope (compEnvC scope cl C X.env) fp) tg g) (ht : ∀ (s : Shared) (H : Hp) (C : Addr) (cl : List (Str × Addr)) (fp : List Addr), PTs (X.blk s H scope (compEnvC scope cl C X.env) fp) ifs tt)
    (he : ∀ (s : Shared) (H : Hp) (C : Addr) (cl : List (Str × Addr)) (fp : List Addr), PE (X.blk s H scope (compEnvC scope cl C X.env) fp) elt te) (hs : ∀ x, foldedSetIterable iter X.env x = pure x := by intro _; rfl) :
    PS X (.Assign [.Name y py] (.ListComp elt [⟨tg, iter, ifs, 0⟩] scope pos) spos) (tAsg (tLc wi g tt te (own.map (·.2))) (gName i)) := by
  intro pins s σ H D I h
  rw [exec_Assign_Name_used _ _ _ _ hsw]
  refine wpAny_bind (wpAny_standAt (wpAny_bind ?_))
  show wpAny _ X.A (do let _ ← comprehension (.ListComp elt [⟨tg, iter, ifs, 0⟩] scope pos) scope X.env (firstIterPos [⟨tg, iter, ifs, 0⟩] pos) (newList []) false (eval iter X.env) (some (assign (.Name y py) X.env))) _ _ s
  have h : tLc wi g tt te (own.map (·.2)) σ H (fun x H1 => gName i x σ H1 D.nx) := h
  refine wpAny_bind (thn (lc_core (Qf := fun _ s' => SP X pins D .next s') hc hN I hi ok hg ht he hs h fun L C s' m H' I' q hn f => ?_) fun _ s' hq => wpAny_pure (wpAny_pure hq))
  show wpAny _ _ (assign (.Name y py) X.env (.ref L)) _ _ _
  refine wpAny_assign_Name (store_ok2 (v := V.ref L) I' hN hy (.inl hyl) rfl (fun s2 I2 ⟨a, sb, ha⟩ => ?_) (.inr hyl))
  obtain ⟨f0, f1, f2, f3, f4, f5⟩ := f
  have haC : C ≠ a := by
    rcases ha with z | z
    · rw [z]; exact f1
    · exact fun e => f4 y a z e.symm
  refine ⟨m, hn.sameBut sb haC, fun h3 sb3 => ?_⟩
  exact ⟨_, H', I2.turned (t' := s2.toks) (fun b o hb e => (sb3.2 b hb).trans e) f0 f1 f3 f4 f5, q⟩
theorem sw_true {elt : Expr} {gs : List Comprehension} {scope : Scope} {pos py : Pos} {y : Str} {l : Nat} {env : Env} (hk : env.scope.kind = .function) (hy : env.scope.names.lookup y = some .local) (hl : (py.line == pos.line) = true)
    (ha : (scope.names.any fun (n, k) => n == y && (k == .local || k == .cell)) = false) : swapsWith (.ListComp elt gs scope pos) (some (.Name y py)) l env = pure true := by
  have ky : env.kindOf y = some .local := hy
  have hb : env.blockKind = .function := by unfold Env.blockKind; rw [hk]; rfl
  unfold swapsWith
  simp only [hb, ky, ha, Expr.pos, hl]
  rfl
end
theorem lc_range {lo : Int} {n : Nat} {g : TG} {tt : TT} {te : TE} {vs : List Nat} {σ : St} {H1 : Hp} {D : Addr} {Qd : Hp → Prop} (Pv : Nat → Hp → Prop) (h0 : Pv 0 (upd H1 D (.lst [])))
    (hs : ∀ i H, i < n → Pv i H → g (.int (lo + i)) (wipe σ vs) H fun σ2 H2 => wipe σ2 vs = wipe σ vs ∧ tt σ2 H2 fun b H3 =>
      if b = true then te σ2 H3 fun y H4 => ∃ acc, H4 D = some (.lst acc) ∧ acc.length < sizeLine ∧ Pv (i + 1) (upd H4 D (.lst (acc ++ [y]))) else Pv (i + 1) H3) (hd : ∀ H, Pv n H → Qd H) :
    ∃ W : Nat → Nat → Hp → Prop, (∃ m, W 0 m (upd H1 D (.lst []))) ∧ ∀ i m H, W i m H →
      ((Itr lo n).stop i H ∧ Qd H) ∨ ((Itr lo n).go i H ∧ ∃ Nx : Hp → Prop, (∀ H', Nx H' → ∃ m', m' < m ∧ W (i + 1) m' H') ∧ ∀ x H', (Itr lo n).yld i H x H' → g x (wipe σ vs) H' fun σ2 H2 => wipe σ2 vs = wipe σ vs ∧ tt σ2 H2 fun b H3 =>
        if b = true then te σ2 H3 fun y H4 => ∃ acc, H4 D = some (.lst acc) ∧ acc.length < sizeLine ∧ Nx (upd H4 D (.lst (acc ++ [y]))) else Nx H3) := by
  refine ⟨fun i m H => m = n - i ∧ i ≤ n ∧ Pv i H, ⟨n, by simp, Nat.zero_le _, h0⟩, ?_⟩
  rintro i m H ⟨rfl, hi, p⟩
  by_cases hlt : i < n
  · refine .inr ⟨hlt, Pv (i + 1), fun H' p' => ⟨n - (i + 1), by omega, rfl, hlt, p'⟩, fun x H' y => ?_⟩
    obtain ⟨e, y⟩ := y
    subst e y
    exact hs i _ hlt p
  · have e : i = n := by omega
    subst e
    exact .inl ⟨Nat.le_refl _, hd H p⟩
theorem lc_list {K : PySem.W.Frag} {a : Addr} {xs : List V} {g : TG} {tt : TT} {te : TE} {vs : List Nat} {σ : St} {H1 : Hp} {D : Addr} {Qd : Hp → Prop} (Pv : Nat → Hp → Prop) (h0 : Pv 0 (upd H1 D (.lst []))) (hl : ∀ i H, i ≤ xs.length → Pv i H → SqL K H a xs)
    (hs : ∀ i x H, xs[i]? = some x → Pv i H → g x (wipe σ vs) H fun σ2 H2 => wipe σ2 vs = wipe σ vs ∧ tt σ2 H2 fun b H3 =>
      if b = true then te σ2 H3 fun y H4 => ∃ acc, H4 D = some (.lst acc) ∧ acc.length < sizeLine ∧ Pv (i + 1) (upd H4 D (.lst (acc ++ [y]))) else Pv (i + 1) H3) (hd : ∀ H, Pv xs.length H → Qd H) :
    ∃ W : Nat → Nat → Hp → Prop, (∃ m, W 0 m (upd H1 D (.lst []))) ∧ ∀ i m H, W i m H →
      ((Itl K a).stop i H ∧ Qd H) ∨ ((Itl K a).go i H ∧ ∃ Nx : Hp → Prop, (∀ H', Nx H' → ∃ m', m' < m ∧ W (i + 1) m' H') ∧ ∀ x H', (Itl K a).yld i H x H' → g x (wipe σ vs) H' fun σ2 H2 => wipe σ2 vs = wipe σ vs ∧ tt σ2 H2 fun b H3 =>
        if b = true then te σ2 H3 fun y H4 => ∃ acc, H4 D = some (.lst acc) ∧ acc.length < sizeLine ∧ Nx (upd H4 D (.lst (acc ++ [y]))) else Nx H3) := by
  refine ⟨fun i m H => m = xs.length - i ∧ i ≤ xs.length ∧ Pv i H, ⟨xs.length, by simp, Nat.zero_le _, h0⟩, ?_⟩
  rintro i m H ⟨rfl, hi, p⟩
  have q := hl i H hi p
  by_cases hlt : i < xs.length
  · refine .inr ⟨⟨xs, xs[i], q, by simp [hlt]⟩, Pv (i + 1), fun H' p' => ⟨xs.length - (i + 1), by omega, rfl, hlt, p'⟩, fun x H' y => ?_⟩
    obtain ⟨e, y⟩ := y
    subst e
    exact hs i x _ (y xs q) p
  · have e : i = xs.length := by omega
    subst e
    exact .inl ⟨⟨xs, q, Nat.le_refl _⟩, hd H p⟩
def blkC (N : List Str) (sc scope : Scope) (own : List (Str × Nat)) : Bool :=
  (match scope.kind with | .function => true | _ => false) && (scope.names.all fun y => decide (scope.names.lookup y.1 = some y.2)) && (own.all fun p => decide (N[p.2]? = some p.1)) &&
    (scope.names.all fun y => match y.2 with
      | .free => (match sc.names.lookup y.1 with | some .cell => true | some .free => true | _ => false)
      | .local => decide (y.1 ∈ own.map (·.1)) || decide (y.1 ∉ N)
      | .cell => decide (y.1 ∈ own.map (·.1)) || decide (y.1 ∉ N)
      | _ => true)
theorem blkOk_by {N : List Str} {sc scope : Scope} {own : List (Str × Nat)} (h : blkC N sc scope own = true) : BlkOk N sc scope own := by
  unfold blkC at h
  simp only [Bool.and_eq_true, List.all_eq_true, decide_eq_true_eq] at h
  obtain ⟨⟨⟨h1, h2⟩, h3⟩, h4⟩ := h
  refine ⟨?_, h2, h3, fun y hy e => ?_, fun y hy e => ?_⟩
  · split at h1
    · assumption
    · cases h1
  · have q := h4 y hy
    simp only [e] at q
    split at q <;> first | exact .inl (by assumption) | exact .inr (by assumption) | cases q
  · have q := h4 y hy
    rcases e with e | e <;> (simp only [e, Bool.or_eq_true, decide_eq_true_eq] at q; exact q)
end L2
namespace L2
open PySem PySem.Spec PyProof.Rows
end L2
namespace L2
open PySem PySem.Spec PyProof.Rows
end L2
namespace L2
open PySem PySem.Spec PyProof.Rows
end L2
namespace L2
open PySem PySem.Spec PyProof.Rows
section
variable {X : Cx} {pins : List (Addr × Obj)} {σ : St} {H : Hp} {s : Shared} {h' : Heap}
theorem Inv.turnedL {t' : Nat} {ch : List Addr} (I : Inv X pins σ H s) (k : ∀ b o, b ∉ ch → s.heap.get? b = some o → h'.get? b = some o) (hf : ∀ b ∈ ch, FpOk X pins H b) : Inv X pins σ H { s with heap := h', toks := t' } := by
  have nit : ∀ b u, H b = some u → b ∉ ch := fun b u e z => by
    have q := (hf b z).1
    rw [q] at e; cases e
  refine I.step (g' := s.gens) (d' := s.drawn) (ch := ch) (fun b hb => ⟨(hf b hb).2.2.2.1, (hf b hb).2.1, (hf b hb).2.2.2.2.1, (hf b hb).2.2.2.2.2⟩) (fun b o _ _ hc e _ => k b o hc e) (fun b o _ _ hc e _ => ⟨o.slots, k b o hc e⟩)
    (fun _ _ _ _ n => n) (fun b o hc e => ⟨o, k b o hc e⟩) (fun _ _ e => e) (fun _ _ _ e => e) (fun b ps e => ⟨#[], by rw [e]; simp⟩) (fun m hm => ?_) (fun b u e => ?_) I.bare
  · obtain ⟨o, es, ep, ho, r⟩ := hm
    exact ⟨o, es, ep, k _ o (fun z => (hf _ z).2.1 rfl) ho, r⟩
  · refine (I.hok b u e).stay (fun c v hc q => k c v ?_ q) (fun _ q => q) fun _ _ q => q
    rcases hc with z | z
    · rw [z]; exact nit b u e
    · exact nit c _ z
theorem Inv.turnedNew {t' : Nat} {ch : List Addr} {T : Addr} {ob : HO} (I : Inv X pins σ H s) (k : ∀ b o, b ∉ ch → s.heap.get? b = some o → h'.get? b = some o) (hf : ∀ b ∈ ch, FpOk X pins H b) (hT : s.heap.objs.size ≤ T)
    (new : ObjOk X.prog X.w (upd H T ob) h' T ob) : Inv X pins σ (upd H T ob) { s with heap := h', toks := t' } := by
  have hn : H T = none := I.hok.fresh hT
  have nit : ∀ b u, H b = some u → b ∉ ch := fun b u e z => by
    have q := (hf b z).1
    rw [q] at e; cases e
  refine I.step (g' := s.gens) (d' := s.drawn) (ch := ch) (fun b hb => ⟨(hf b hb).2.2.2.1, (hf b hb).2.1, (hf b hb).2.2.2.2.1, (hf b hb).2.2.2.2.2⟩) (fun b o _ _ hc e _ => k b o hc e) (fun b o _ _ hc e _ => ⟨o.slots, k b o hc e⟩)
    (fun b o _ e n => ?_) (fun b o hc e => ⟨o, k b o hc e⟩) (fun b xs e => ?_) (fun b o u e => ?_) (fun b ps e => ⟨#[], ?_⟩) (fun m hm => ?_) (fun b u e => ?_) I.bare
  · rw [upd_ne (Nat.ne_of_lt (Nat.lt_of_lt_of_le (Heap.lt_size e) hT))]; exact n
  · rw [upd_ne (ne_of_none e hn)]; exact e
  · rw [upd_ne (ne_of_none e hn)]; exact e
  · rw [upd_ne (ne_of_none e hn), e]; simp
  · obtain ⟨o, es, ep, ho, r⟩ := hm
    exact ⟨o, es, ep, k _ o (fun z => (hf _ z).2.1 rfl) ho, r⟩
  · by_cases hb : b = T
    · subst hb
      rw [upd_same] at e
      cases e
      exact new
    · rw [upd_ne hb] at e
      refine (I.hok b u e).stay (fun c v hc q => k c v ?_ q) (fun c q => by rw [upd_ne (ne_of_none q hn)]; exact q) fun c xs q => by rw [upd_ne (ne_of_none q hn)]; exact q
      rcases hc with z | z
      · rw [z]; exact nit b u e
      · exact nit c _ z
end
section
variable {X : Cx}
theorem pi_one {tg : Expr} {pins : List (Addr × Obj)} {σ : St} {H : Hp} {s : Shared} {R : It → Hp → Prop} {J : It} {tn : Nat → Heap → Prop} {tk : Nat} (I : Inv X pins σ H s) (o : Obj)
    (T : Turn X.prog X.w X.K tg J [s.heap.objs.size] s.heap.objs.size tn) (st : tn 0 (s.heap.push o)) (q : R J H) : PIE X pins σ tg R (.ref s.heap.objs.size) { s with heap := s.heap.push o, toks := tk } := by
  refine ⟨s.heap.objs.size, [s.heap.objs.size], tn, J, H, rfl, I.kept fun b ob e => Heap.get?_push_of_some _ e, T, st, fun b hb => ?_, q⟩
  have e : b = s.heap.objs.size := by simpa using hb
  subst e
  exact I.fpOk (Nat.le_refl _) (I.hok.fresh (Nat.le_refl _))
end
def Itc (lo c : Int) (n : Nat) : It := ⟨fun i _ => i < n, fun i H x H' => H' = H ∧ x = .int (lo + (i : Nat) * c), fun i _ => n ≤ i⟩
theorem turn_rangeC {P : Program} {w : World} {K : PySem.W.Frag} {tg : Expr} (it : Addr) (lo c : Int) (n : Nat) : Turn P w K tg (Itc lo c n) [it] it (fun i h => IsRangeIter h it (lo + (i : Nat) * c) ((n : Int) - (i : Nat)) c) where
  mem := by simp
  obj := fun i h st b hb => by
    have e : b = it := by simpa using hb
    subst e
    exact ⟨_, st, fun v z => nomatch z⟩
  keep := fun i h h' st k => k it (by simp) _ st
  item := by
    intro X hP hw hK hc i pins s σ H E I hf st hg
    subst hP hw hK
    obtain ⟨f0, f1, f2, f3, f4, f5⟩ := hf it (by simp)
    have W := Walks.range (prog := X.prog) (w := X.w) (I.ok.hd hc) it lo c n
    refine W.item i s _ _ hg st fun v h' tk hv st' kk => ?_
    obtain ⟨t, rfl⟩ := hv
    have I1 : Inv X pins σ H { s with heap := h', toks := tk } := I.turned (fun b o hb e => kk b o (by simpa using hb) e) f0 f1 f3 f4 f5
    exact ⟨_, rfl, go_of (s := { s with heap := h', toks := tk }) (n := "range_iterator") st' rfl rfl (by decide) ⟨.int (lo + (i : Nat) * c), H, I1, ⟨t, rfl⟩, ⟨rfl, rfl⟩, st', fun b hb => (hf b hb).1⟩⟩
  done := by
    intro X hP hw hK hc i pins s σ H E I hf st hg
    subst hP hw hK
    obtain ⟨f0, f1, f2, f3, f4, f5⟩ := hf it (by simp)
    exact wpAny_pyNext_range_end (I.ok.hd hc) st (by have : n ≤ i := hg; omega) fun h' eb => ⟨rfl, I.turned (t' := s.toks) (fun b o hb e => eb b o hb e) f0 f1 f3 f4 f5⟩
  self := fun A i s Q E st h => wpAny_pyIter_rangeiter st h
def RgC (i j c : Int) (n : Nat) : Prop := c ≠ 0 ∧ c.natAbs < 1073741824 ∧ Builtin.Range.small i j c = true ∧ Builtin.Range.rangeSize i j c = n
def iRng3 (ta : TA) : TI := fun σ H R => ta σ H fun vs H1 => ∃ (i j c : Int) (n : Nat), vs = [.int i, .int j, .int c] ∧ RgC i j c n ∧ R (Itc i c n) H1
section
variable {X : Cx} {tg : Expr}
theorem pi_range3 {a b c : Expr} {ta : TA} {p pos : Pos} (hg : Gl X "range") (hm : X.mg "range" = none) (ha : PA X [a, b, c] ta)
    (hs : starEach [a, b, c] X.env = (false, eval a X.env) :: starEach [b, c] X.env := by rfl) (hpl : (backTo pos (starEach [b, c] X.env)).any (·.1) = false := by rfl) :
    PI X tg (.Call (.Name "range" p) [a, b, c] [] pos) (iRng3 ta) := by
  intro pins s σ H R I h
  refine Call_ (ld_blt I hg hm boot_range (PyProof.Rows.callWith_type1 (thn (ha pos pins s σ H _ I h) fun us s1 ⟨vs, H1, I1, r1, q1⟩ => ?_) hs hpl))
  obtain ⟨i, j, k, n, e, ⟨c0, c1, c2, c3⟩, q⟩ := q1
  subst e
  cases r1 with
  | cons r rr =>
    cases rr with
    | cons r' rr =>
      cases rr with
      | cons r'' rr =>
        cases rr
        obtain ⟨t, rfl⟩ := r
        obtain ⟨t', rfl⟩ := r'
        obtain ⟨t'', rfl⟩ := r''
        refine call_range_3 c0 ?_ (.inl (PyProof.noPylong_small c1))
        refine wpAny_pyIter_range (IsRange.new ..) c2 ?_
        have I2 : Inv X pins σ H1 { s1 with heap := s1.heap.push { cls := .type "range", data := .fields #[.int i t, .int j t', .int k t''] } } := I1.kept (t' := s1.toks) fun b o e => Heap.get?_push_of_some _ e
        refine pi_one (tk := s1.toks) I2 _ (turn_rangeC _ i k n) ?_ q
        have e1 : i + ((0 : Nat) : Int) * k = i := by simp
        have e2 : (n : Int) - ((0 : Nat) : Int) = Builtin.Range.rangeSize i j k := by rw [c3]; simp
        show IsRangeIter _ _ (i + ((0 : Nat) : Int) * k) ((n : Int) - ((0 : Nat) : Int)) k
        rw [e1, e2]
        exact Heap.get?_push_size _ rfl
end
theorem for_rangeC {lo c : Int} {n : Nat} {g : TG} {tb : TS} {D : Ends} {σ : St} {H : Hp} (Pv : Nat → St → Hp → Prop) (h0 : Pv 0 σ H)
    (hs : ∀ i σ H, i < n → Pv i σ H → g (.int (lo + (i : Nat) * c)) σ H fun σ2 H2 => tb { D with nx := Pv (i + 1), ct := Pv (i + 1), bk := D.nx } σ2 H2) (hd : ∀ σ H, Pv n σ H → D.nx σ H) :
    ∃ W : Nat → Nat → St → Hp → Prop, (∃ m, W 0 m σ H) ∧ ∀ i m σ H, W i m σ H →
      ((Itc lo c n).stop i H ∧ D.nx σ H) ∨ ((Itc lo c n).go i H ∧ ∃ N : St → Hp → Prop, (∀ σ' H', N σ' H' → ∃ m', m' < m ∧ W (i + 1) m' σ' H') ∧ ∀ x H', (Itc lo c n).yld i H x H' → g x σ H' fun σ2 H2 => tb { D with nx := N, ct := N, bk := D.nx } σ2 H2) := by
  refine ⟨fun i m σ H => m = n - i ∧ i ≤ n ∧ Pv i σ H, ⟨n, by simp, Nat.zero_le _, h0⟩, ?_⟩
  rintro i m σ H ⟨rfl, hi, p⟩
  by_cases hlt : i < n
  · refine .inr ⟨hlt, Pv (i + 1), fun σ' H' p' => ⟨n - (i + 1), by omega, rfl, hlt, p'⟩, fun x H' y => ?_⟩
    obtain ⟨e, y⟩ := y
    subst e y
    exact hs i σ _ hlt p
  · have e : i = n := by omega
    subst e
    exact .inl ⟨Nat.le_refl _, hd σ H p⟩
def Ite (K : PySem.W.Frag) (a : Addr) : It :=
  ⟨fun i H => ∃ (xs : List V) (x : V), SqL K H a xs ∧ xs[i]? = some x, fun i H v H' => ∃ T x, v = .ref T ∧ H T = none ∧ H' = upd H T (.tup [.int (i : Nat), x]) ∧ ∀ xs, SqL K H a xs → xs[i]? = some x, fun i H => ∃ xs : List V, SqL K H a xs ∧ xs.length ≤ i⟩
theorem turn_enum {P : Program} {w : World} {K : PySem.W.Frag} {elts : List Expr} {kk : Nat} {tpos : Pos} (a e it : Addr) :
    Turn P w K (.Tuple elts kk tpos) (Ite K a) [e, it] e (fun i h => (∃ old, IsEnum h e it ((i : Nat) : Int) old) ∧ h.IsListIter it a i ∧ e ≠ it) where
  mem := by simp
  obj := fun i h st b hb => by
    obtain ⟨⟨old, he⟩, ⟨o, ho, hc, hd⟩, _⟩ := st
    have e' : b = e ∨ b = it := by simpa using hb
    rcases e' with z | z
    · rw [z]; exact ⟨_, he, fun v q => nomatch q⟩
    · rw [z]; exact ⟨o, ho, fun v q => by rw [hd] at q; cases q⟩
  keep := fun i h h' st k => let ⟨⟨old, he⟩, hi, hne⟩ := st; ⟨⟨old, k e (by simp) _ he⟩, hi.at fun o q => k it (by simp) o q, hne⟩
  item := by
    intro X hP hw hK hc i pins s σ H E I hf st hg
    subst hP hw hK
    obtain ⟨⟨old, he⟩, hit, hne⟩ := st
    obtain ⟨xs, x, hq, hx⟩ := hg
    obtain ⟨its, rv, p, hz⟩ := I.list hq
    obtain ⟨u, hu, ru⟩ := rv.get hx
    have hel : e < s.heap.objs.size := Heap.lt_size he
    have hil : it < s.heap.objs.size := by obtain ⟨_, q, _⟩ := hit; exact Heap.lt_size q
    refine wpAny_pyNext_enum_item he hit p.isList (x := u) (by simpa using hu) hne fun h' ho hit' hT hsz hk => ?_
    refine ⟨_, rfl, wpAny_letOwnedTupleGo_enum (s := { s with heap := h', toks := s.toks + 1 }) ho fun h'' he' sb => ?_⟩
    have hT2 : h''.get? s.heap.objs.size = some { cls := .type "tuple", data := .seq #[.int i s.toks, u] } := (sb.2 _ (Nat.ne_of_gt hel)).trans hT
    have new : ObjOk X.prog X.w (upd H s.heap.objs.size (.tup [.int (i : Nat), x])) h'' s.heap.objs.size (.tup [.int (i : Nat), x]) :=
      ⟨by show 2 ≤ sizeLine; decide, [.int i s.toks, u], .cons ⟨_, rfl⟩ (.cons ru .nil), ⟨_, hT2, rfl, _, rfl⟩⟩
    have I1 : Inv X pins σ (upd H s.heap.objs.size (.tup [.int (i : Nat), x])) { s with heap := h'', toks := s.toks + 1 } :=
      I.turnedNew (ch := [e, it]) (fun b ob hb q => (sb.2 b (fun z => hb (by simp [z]))).trans (hk b ob (fun z => hb (by simp [z])) (fun z => hb (by simp [z])) q)) hf (Nat.le_refl _) new
    refine ⟨.ref s.heap.objs.size, _, I1, rfl, ⟨_, x, rfl, I.hok.fresh (Nat.le_refl _), rfl, fun ys hy => by rw [I.list_inj hy hq]; exact hx⟩, ⟨⟨u, ?_⟩, hit'.at fun o q => (sb.2 it (Ne.symm hne)).trans q, hne⟩, fun b hb => ?_⟩
    · have e1 : ((i + 1 : Nat) : Int) = (i : Int) + 1 := by omega
      rw [e1]; exact he'
    · have hb' : b < s.heap.objs.size := by
        have e' : b = e ∨ b = it := by simpa using hb
        rcases e' with z | z
        · rw [z]; exact hel
        · rw [z]; exact hil
      rw [upd_ne (Nat.ne_of_lt hb')]
      exact (hf b hb).1
  done := by
    intro X hP hw hK hc i pins s σ H E I hf st hg
    subst hP hw hK
    obtain ⟨⟨old, he⟩, hit, hne⟩ := st
    obtain ⟨xs, hq, hx⟩ := hg
    obtain ⟨its, rv, p, hz⟩ := I.list hq
    obtain ⟨f0, f1, f2, f3, f4, f5⟩ := hf it (by simp)
    have hl := rv.length
    exact wpAny_pyNext_enum_end (I.ok.hd hc) he hit p.isList (by simp; omega) fun h' eb => ⟨rfl, I.turned (t' := s.toks) (fun b o hb q => eb b o hb q) f0 f1 f3 f4 f5⟩
  self := fun A i s Q E st h => let ⟨⟨_, he⟩, _⟩ := st; wpAny_pyIter_enum he h
def iEnum (K : PySem.W.Frag) (ta : TA) : TI := fun σ H R => ta σ H fun vs H1 => ∃ a xs, vs = [.ref a] ∧ SqL K H1 a xs ∧ R (Ite K a) H1
theorem pi_enum {X : Cx} {e : Expr} {ta : TA} {p pos tpos : Pos} {elts : List Expr} {kk : Nat} (hg : Gl X "enumerate") (hm : X.mg "enumerate" = none) (ha : PA X [e] ta) (hs : starEach [e] X.env = [(false, eval e X.env)] := by rfl) :
    PI X (.Tuple elts kk tpos) (.Call (.Name "enumerate" p) [e] [] pos) (iEnum X.K ta) := by
  intro pins s σ H R I h
  refine Call_ (ld_blt I hg hm boot_enumerate (PyProof.Rows.callWith_type1 (thn (ha pos pins s σ H _ I h) fun us s1 ⟨vs, H1, I1, r1, q1⟩ => ?_) hs rfl))
  obtain ⟨a, xs, ex, hq, q⟩ := q1
  subst ex
  cases r1 with
  | cons r rr =>
    cases rr
    cases r
    obtain ⟨its, rv, p', hz⟩ := I1.list hq
    refine call_enumerate_list p'.isList fun h' he hit hsz hk => wpAny_pyIter_enum he ?_
    have I2 : Inv X pins σ H1 { s1 with heap := h' } := I1.kept (t' := s1.toks) hk
    refine ⟨s1.heap.objs.size + 1, [s1.heap.objs.size + 1, s1.heap.objs.size], _, _, H1, rfl, I2, turn_enum a (s1.heap.objs.size + 1) s1.heap.objs.size, ⟨⟨.none, he⟩, hit, Nat.succ_ne_self _⟩, fun b hb => ?_, q⟩
    have e' : b = s1.heap.objs.size + 1 ∨ b = s1.heap.objs.size := by simpa using hb
    have hle : s1.heap.objs.size ≤ b := by
      rcases e' with z | z
      · rw [z]; exact Nat.le_add_right _ _
      · rw [z]; exact Nat.le_refl _
    exact I1.fpOk hle (I1.hok.fresh hle)
theorem boot_zip5 : bootBuiltins "zip" = some (.type "zip") := by decide +kernel
end L2
section
namespace Bits
open PySem PyProof.Rows
theorem nat_and_mul_pow (k : Nat) : ∀ a b : Nat, a < 2 ^ k → a &&& (b * 2 ^ k) = 0 := by
  induction k with
  | zero =>
    intro a b h
    have h0 : a = 0 := by
      rw [Nat.pow_zero] at h
      omega
    subst h0
    simp
  | succ k ih =>
    intro a b h
    have hm : (b * 2 ^ (k + 1)) = (b * 2 ^ k) * 2 := by rw [Nat.pow_succ, Nat.mul_assoc]
    have hlt : a / 2 < 2 ^ k := by
      rw [Nat.pow_succ] at h
      generalize 2 ^ k = m at h ⊢
      omega
    have i := ih (a / 2) b hlt
    rw [hm]
    generalize b * 2 ^ k = B at i ⊢
    have e : (a &&& (B * 2)) / 2 = a / 2 &&& (B * 2) / 2 := Nat.and_div_two
    have e2 : (B * 2) / 2 = B := by omega
    have o := @Nat.and_mod_two_eq_one a (B * 2)
    rw [e2, i] at e
    omega
theorem natCast_mul_pow (m k : Nat) : (m : Int) * 2 ^ k = ((m * 2 ^ k : Nat) : Int) := by
  rw [two_pow_cast]
  first
    | exact (Int.natCast_mul _ _).symm
    | simp
theorem bitOr_join {a b : Int} {k : Nat} (h0 : 0 ≤ a) (h1 : a < 2 ^ k) (hb : 0 ≤ b) : Builtin.bitOr a (b * 2 ^ k) = a + b * 2 ^ k := by
  obtain ⟨n, rfl⟩ := Int.eq_ofNat_of_zero_le h0
  obtain ⟨m, rfl⟩ := Int.eq_ofNat_of_zero_le hb
  have hn : n < 2 ^ k := by
    rw [two_pow_cast] at h1
    omega
  have e : Builtin.bitAnd (n : Int) ((m * 2 ^ k : Nat) : Int) = 0 := by
    rw [bitAnd_pp (by omega) (by omega), Int.toNat_natCast, Int.toNat_natCast, nat_and_mul_pow k n m hn] <;> rfl
  rw [natCast_mul_pow, bitOr_and, e]
  omega
theorem bitOr_join' {a b : Int} {k : Nat} (h0 : 0 ≤ a) (h1 : a < 2 ^ k) (hb : 0 ≤ b) : Builtin.bitOr (b * 2 ^ k) a = a + b * 2 ^ k := by
  rw [bitOr_comm]
  exact bitOr_join h0 h1 hb
theorem bitAnd_mask {x : Int} (k : Nat) (hx : 0 ≤ x) : Builtin.bitAnd x (2 ^ k - 1) = x % 2 ^ k := by
  obtain ⟨n, rfl⟩ := Int.eq_ofNat_of_zero_le hx
  have hp : 0 < 2 ^ k := Nat.two_pow_pos k
  rw [two_pow_cast]
  have e : ((2 ^ k : Nat) : Int) - 1 = ((2 ^ k - 1 : Nat) : Int) := by
    generalize (2 : Nat) ^ k = m at hp
    omega
  rw [e, bitAnd_pp (by omega) (by omega), Int.toNat_natCast, Int.toNat_natCast, Nat.and_two_pow_sub_one_eq_mod]
  first
    | rfl
    | exact Int.natCast_emod _ _
    | simp
end Bits
end
section
namespace TL
open PySem PySem.Builtin PySem.Builtin.Str PySem.StrLaws
end TL
end
namespace L2
open PySem PySem.Spec PyProof.Rows
end L2
namespace L2
open PySem PySem.Spec PyProof.Rows
end L2
namespace Att
open PySem PySem.W PySem.Calls PyProof.Rows
theorem ints_of_wellAll {P : Params} {h : Heap} : ∀ (ns : List Int) (vs : List Value), WellAll P h vs (ns.map WData.int) → IntsAre vs ns := by
  intro ns
  induction ns with
  | nil =>
    intro vs w
    rw [List.map_nil] at w
    cases w
    exact .nil
  | cons n ns ih =>
    intro vs w
    rw [List.map_cons] at w
    cases w with
    | cons a b =>
      cases a
      exact .cons _ _ (ih _ b)
end Att
namespace L2
open PySem PySem.Spec PyProof.Rows
theorem vals_ints : ∀ {vs : List Value} {ns : List Int}, IntsAre vs ns → Vals (ns.map V.int) vs
  | _, _, .nil => .nil
  | _, _, .cons n t h => .cons ⟨t, rfl⟩ (vals_ints h)
def Only (H : Hp) : Prop := ∀ b, H b = none ∨ ∃ o xs, H b = some (.frz o (.lst xs))
end L2
namespace L2
open PySem PySem.Spec PyProof.Rows
abbrev KOf {K : PySem.W.Frag} {h : Heap} (_ : K.In h) : PySem.W.Frag := K
end L2
namespace L2
open PySem PySem.Spec PyProof.Rows
def inClass (s : Stmt) (j : Nat) : Stmt := match s with
  | .ClassDef _ _ _ body _ _ _ _ _ _ _ => body.getD j (.Pass ⟨0, 0, 0, 0⟩)
  | _ => .Pass ⟨0, 0, 0, 0⟩
def defArgs (s : Stmt) : Arguments := match s with
  | .FunctionDef _ a _ _ _ _ _ _ _ _ => a
  | _ => { posonlyargs := [], args := [], vararg := none, kwonlyargs := [], kw_defaults := [], kwarg := none, defaults := [] }
def defBody (s : Stmt) : List Stmt := match s with
  | .FunctionDef _ _ b _ _ _ _ _ _ _ => b
  | _ => []
def defScope (s : Stmt) : Scope := match s with
  | .FunctionDef _ _ _ _ _ _ sc _ _ _ => sc
  | _ => { kind := .function, names := [], isGenerator := false, isCoroutine := false }
abbrev CX0 : CXT := fun _ _ _ _ _ _ => False
abbrev E0 : XK := fun _ _ _ => False
theorem pass0 {X : Cx} : Passes CX0 X E0 := fun _ _ _ _ _ _ _ h => h.elim
structure Fun (K : PySem.W.Frag) (x qual : Str) (st : Stmt) (f : Addr) (fd : FuncData) : Prop where
  ex : ∃ (oc : Value) (od : Option Addr) (kV doc pm : Value) (an : Option Addr) (cdv ct : Value) (osl : Array (Option Value)),
    fd = PySem.W.fnOf x qual (defArgs st) (defBody st) (defScope st) .none kV doc pm an cdv ct ∧ K.lookup f = some ⟨oc, od, .func fd, osl⟩ ∧ PySem.W.codeIn K cdv qual = true
  kp : PySem.W.keepIn K (.ref f) = true
section
variable {P : Program} {w : World} {K : PySem.W.Frag} {mg : Str → Option Value} {base : Heap}
theorem Fun.ok {x qual : Str} {st : Stmt} {f : Addr} {fd : FuncData} {N ps : List Str} {k : Nat} {sp : Sp} (F : Fun K x qual st f fd) (S : FnScope N ps (defScope st)) (len : ∀ vs H Q E, sp vs H Q E → vs.length = ps.length)
    (hbody : ∀ (cdv : Value) (A : Around) (outer : List Env) (s : Shared) (H : Hp) (vs : List V) (Q : VK) (E : XK), Room k (A.deeper (envOfC qual (defScope st) s.heap.objs.size f cdv)) → sp vs H Q E →
      ∃ t, PSs (cxOf CX0 P w K mg base N qual (defScope st) f cdv A outer s H E).nox (defBody st) t ∧ t { nx := fun _ H' => Q .non H', rt := Q } (start N vs) H) : FnOk P w K mg base CX0 (k + 1) f fd ps sp := by
  obtain ⟨oc, od, kV, doc, pm, an, cdv, ct, osl, rfl, lk, hcd⟩ := F.ex
  refine fn_of lk hcd S len fun A outer s H vs Q E hr hsp => ?_
  obtain ⟨t, h, q⟩ := hbody cdv A outer s H vs Q E hr hsp
  exact ⟨t, h.nox, q⟩
theorem Fun.binds {x qual : Str} {st : Stmt} {f : Addr} {fd : FuncData} {ps : List Str} (F : Fun K x qual st f fd)
    (h : ∀ (kV doc pm : Value) (an : Option Addr) (cdv ct : Value) (us : List Value), us.length = ps.length → bindArgs (PySem.W.fnOf x qual (defArgs st) (defBody st) (defScope st) .none kV doc pm an cdv ct) ⟨us, []⟩ = pure (ps.zip us)) : Binds K fd ps [] := by
  obtain ⟨oc, od, kV, doc, pm, an, cdv, ct, osl, rfl, lk, hcd⟩ := F.ex
  exact .all (h kV doc pm an cdv ct)
theorem fun_mk {x qual : Str} {st : Stmt} {f : Addr} {oc : Value} {od an : Option Addr} {osl : Array (Option Value)} {kV doc pm cdv ct : Value} (l : K.lookup f = some ⟨oc, od, .func (PySem.W.fnOf x qual (defArgs st) (defBody st) (defScope st) .none kV doc pm an cdv ct), osl⟩)
    (c : PySem.W.codeIn K cdv qual = true) (k : PySem.W.keepIn K (.ref f) = true) : Fun K x qual st f (PySem.W.fnOf x qual (defArgs st) (defBody st) (defScope st) .none kV doc pm an cdv ct) := ⟨⟨oc, od, kV, doc, pm, an, cdv, ct, osl, rfl, l, c⟩, k⟩
end
section
variable {X : Cx}
theorem pv (i : Nat) {x : Str} {pos : Pos} (hN : X.N[i]? = some x := by rfl) (hv : Vis X.env.scope x := by first | exact Or.inl rfl | exact Or.inr (Or.inl rfl) | exact Or.inr (Or.inr rfl)) (hd : (x == ("__debug__" : Str)) = false := by decide)
    (hcd : (x == ("__classdict__" : Str)) = false := by decide) : PE X (.Name x pos) (tVar i) := pe_var hN hv hd hcd
end
theorem iteF {A B : Prop} (h : B) : if false = true then A else B := by
  rw [if_neg Bool.false_ne_true]
  exact h
theorem iteT {A B : Prop} (h : A) : if true = true then A else B := by
  rw [if_pos rfl]
  exact h
theorem ite2 {c A B : Prop} [Decidable c] (h1 : c → A) (h2 : ¬ c → B) : if c then A else B := by
  by_cases h : c
  · rw [if_pos h]
    exact h1 h
  · rw [if_neg h]
    exact h2 h
theorem iteNS {c A B : Prop} [Decidable c] (hc : c) (h : B) : if (!decide c) = true then A else B := by
  rw [decide_eq_true hc]
  exact iteF h
def Same (H H' : Hp) : Prop := ∀ b o, H b = some o → H' b = some o
theorem Same.refl (H : Hp) : Same H H := fun _ _ h => h
theorem Same.trans {H H1 H2 : Hp} (a : Same H H1) (b : Same H1 H2) : Same H H2 := fun c o h => b c o (a c o h)
theorem Same.free {H H' : Hp} (e : Same H H') {l : Addr} (h : H' l = Option.none) : H l = Option.none := by
  cases q : H l with
  | none => rfl
  | some o =>
    rw [e l o q] at h
    cases h
end L2
namespace Pv
open Ra26
/-- a number of 16 bits -/
def W (z : Int) : Prop := -32768 ≤ z ∧ z ≤ 32767
def Ws (l : List Int) : Prop := ∀ z ∈ l, W z
/-- a size, stopped -/
def sz (v : Int) : Int := stop16 (if v < 0 then -v else v)
def sgn (v m : Int) : Int := if v < 0 then -m else m
theorem stop16_hi {z : Int} (h : 32767 < z) : stop16 z = 32767 := by unfold stop16; simp only [N]; omega
theorem stop16_lo {z : Int} (h : z < -32768) : stop16 z = -32768 := by unfold stop16; simp only [N]; omega
theorem stop16_in {z : Int} (h : W z) : stop16 z = z := by unfold W at h; unfold stop16; simp only [N]; omega
theorem stop16_in' {z : Int} (h1 : -32768 ≤ z) (h2 : z ≤ 32767) : stop16 z = z := stop16_in ⟨h1, h2⟩
theorem stop16_W (z : Int) : W (stop16 z) := by unfold W stop16; omega
theorem stop32_hi {z : Int} (h : 2147483647 < z) : stop32 z = 2147483647 := by unfold stop32; simp only [N]; omega
theorem stop32_lo {z : Int} (h : z < -2147483648) : stop32 z = -2147483648 := by unfold stop32; simp only [N]; omega
theorem stop32_in {z : Int} (h1 : -2147483648 ≤ z) (h2 : z ≤ 2147483647) : stop32 z = z := by unfold stop32; simp only [N]; omega
theorem add_W (a b : Int) : W (add a b) := stop16_W _
theorem sub_W (a b : Int) : W (sub a b) := stop16_W _
theorem mulR_W (a b : Int) : W (mulR a b) := stop16_W _
theorem mul_W (a b : Int) : W (mul a b) := stop16_W _
theorem sz_W (a : Int) : W (sz a) := stop16_W _
theorem sz_nn (a : Int) : 0 ≤ sz a := by unfold sz stop16; split <;> omega
theorem sz_le (a : Int) : sz a ≤ 32767 := (sz_W a).2
theorem sz_abs {a : Int} (h : W a) : sz a = abs_ a := by
  unfold W at h
  unfold sz abs_ stop16
  simp only [N]
  split <;> split <;> (try split) <;> omega
theorem abs_nn (a : Int) : 0 ≤ abs_ a := by unfold abs_; simp only [N]; split <;> (try split) <;> omega
theorem abs_le {a : Int} (h : W a) : abs_ a ≤ 32767 := by rw [← sz_abs h]; exact sz_le a
theorem le_sz {a : Int} (h : W a) : -(sz a) - 1 ≤ a ∧ a ≤ sz a := by
  unfold W at h; unfold sz stop16; split <;> omega
theorem cut_eq (z : Int) : cut z = (z + 32768) % 65536 - 32768 := by
  unfold cut; simp only [N]; split <;> omega
theorem cut_W (z : Int) : W (cut z) := by rw [cut_eq]; unfold W; omega
theorem cut_in {z : Int} (h : W z) : cut z = z := by unfold W at h; rw [cut_eq]; simp only [N]; omega
theorem cut_in' {z : Int} (h1 : -32768 ≤ z) (h2 : z ≤ 32767) : cut z = z := cut_in ⟨h1, h2⟩
theorem W0 : W 0 := by unfold W; omega
theorem Ws_nil : Ws [] := fun _ h => nomatch h
theorem Ws_cons {a : Int} {l : List Int} (h : W a) (hl : Ws l) : Ws (a :: l) := fun z hz => by
  rcases List.mem_cons.mp hz with e | e
  · rw [e]; exact h
  · exact hl z e
theorem Ws_append {a b : List Int} (h : Ws a) (hl : Ws b) : Ws (a ++ b) := fun z hz => by
  rcases List.mem_append.mp hz with e | e
  · exact h z e
  · exact hl z e
theorem Ws_drop {a : List Int} (n : Nat) (h : Ws a) : Ws (a.drop n) := fun z hz => h z (List.mem_of_mem_drop hz)
theorem Ws_take {a : List Int} (n : Nat) (h : Ws a) : Ws (a.take n) := fun z hz => h z (List.mem_of_mem_take hz)
theorem Ws_map {α : Type} {f : α → Int} (l : List α) (h : ∀ x, W (f x)) : Ws (l.map f) := fun z hz => by
  obtain ⟨x, _, e⟩ := List.mem_map.mp hz
  rw [← e]; exact h x
theorem Ws_replicate (n : Nat) : Ws (List.replicate n 0) := fun z hz => by
  rw [(List.mem_replicate.mp hz).2]; exact W0
theorem Ws_at {l : List Int} (h : Ws l) (k : Nat) : W (at_ l k) := by
  unfold at_
  rw [List.getD_eq_getElem?_getD]
  cases e : l[k]? with
  | none => exact W0
  | some z => exact h z (List.mem_of_getElem? e)
/-! lists by their places -/
theorem at_nil (k : Nat) : at_ [] k = 0 := by unfold at_; simp
theorem at_zero (a : Int) (l : List Int) : at_ (a :: l) 0 = a := rfl
theorem at_succ (a : Int) (l : List Int) (k : Nat) : at_ (a :: l) (k + 1) = at_ l k := by unfold at_; simp
theorem at_get {l : List Int} {k : Nat} {z : Int} (h : l[k]? = some z) : at_ l k = z := by
  unfold at_; rw [List.getD_eq_getElem?_getD, h]; rfl
theorem get_at {l : List Int} {k : Nat} (h : k < l.length) : l[k]? = some (at_ l k) := by
  unfold at_; rw [List.getD_eq_getElem?_getD]; simp [h]
theorem at_out {l : List Int} {k : Nat} (h : l.length ≤ k) : at_ l k = 0 := by
  unfold at_; rw [List.getD_eq_getElem?_getD]; simp [h]
theorem at_drop (l : List Int) (n k : Nat) : at_ (l.drop n) k = at_ l (n + k) := by
  unfold at_; simp [List.getD_eq_getElem?_getD]
theorem at_take {l : List Int} {n k : Nat} (h : k < n) : at_ (l.take n) k = at_ l k := by
  unfold at_; simp [List.getD_eq_getElem?_getD, List.getElem?_take, h]
theorem at_append_l {a b : List Int} {k : Nat} (h : k < a.length) : at_ (a ++ b) k = at_ a k := by
  unfold at_; simp [List.getD_eq_getElem?_getD, List.getElem?_append, h]
theorem at_append_r {a b : List Int} {k : Nat} (h : a.length ≤ k) : at_ (a ++ b) k = at_ b (k - a.length) := by
  unfold at_; simp [List.getD_eq_getElem?_getD, List.getElem?_append, Nat.not_lt.mpr h]
theorem at_map_range {n k : Nat} (f : Nat → Int) (h : k < n) : at_ ((List.range n).map f) k = f k := by
  unfold at_; simp [List.getD_eq_getElem?_getD, h]
theorem at_replicate (n k : Nat) : at_ (List.replicate n 0) k = 0 := by
  unfold at_; rw [List.getD_eq_getElem?_getD, List.getElem?_replicate]; split <;> rfl
theorem list_range (l : List Int) : l = (List.range l.length).map (fun i => at_ l i) := by
  apply List.ext_getElem?
  intro i
  by_cases h : i < l.length
  · rw [get_at h]; simp [h]
  · simp [Nat.not_lt.mp h]
theorem map_range {n : Nat} {l : List Int} (f : Int → Int) (h : l.length = n) : l.map f = (List.range n).map (fun i => f (at_ l i)) := by
  subst h
  apply List.ext_getElem?
  intro i
  by_cases h : i < l.length
  · rw [List.getElem?_map, get_at h]; simp [h]
  · simp [Nat.not_lt.mp h]
theorem zipWith_range {n : Nat} {a b : List Int} (f : Int → Int → Int) (h : n = min a.length b.length) : List.zipWith f a b = (List.range n).map (fun i => f (at_ a i) (at_ b i)) := by
  subst h
  apply List.ext_getElem?
  intro i
  by_cases h : i < min a.length b.length
  · have h1 : i < a.length := by omega
    have h2 : i < b.length := by omega
    rw [List.getElem?_zipWith, get_at h1, get_at h2]; simp [h]
  · have hh : ¬ (i < a.length ∧ i < b.length) := by omega
    rw [List.getElem?_eq_none (by rw [List.length_zipWith]; omega), List.getElem?_eq_none (by simp; omega)]
theorem sum_zero (f : Nat → Int) : Ra26.sum 0 f = 0 := rfl
theorem sum_succ (n : Nat) (f : Nat → Int) : Ra26.sum (n + 1) f = Ra26.sum n f + f n := by
  unfold Ra26.sum; rw [List.range_succ, List.foldl_append]; rfl
theorem sum_congr {n : Nat} {f g : Nat → Int} (h : ∀ i, i < n → f i = g i) : Ra26.sum n f = Ra26.sum n g := by
  induction n with
  | zero => rfl
  | succ n ih => rw [sum_succ, sum_succ, ih (fun i hi => h i (by omega)), h n (by omega)]
theorem sum_list_snoc (l : List Int) (x : Int) : (l ++ [x]).sum = l.sum + x := by simp
theorem sum_range (n : Nat) (f : Nat → Int) : ((List.range n).map f).sum = Ra26.sum n f := by
  induction n with
  | zero => rfl
  | succ n ih => rw [List.range_succ, List.map_append, sum_succ]; simp [ih]
theorem sum_le {n : Nat} {f g : Nat → Int} (h : ∀ i, i < n → f i ≤ g i) : Ra26.sum n f ≤ Ra26.sum n g := by
  induction n with
  | zero => exact Int.le_refl _
  | succ n ih =>
    rw [sum_succ, sum_succ]
    have h1 := ih (fun i hi => h i (by omega))
    have h2 := h n (by omega)
    omega
theorem sum_const (n : Nat) (c : Int) : Ra26.sum n (fun _ => c) = n * c := by
  induction n with
  | zero => simp [sum_zero]
  | succ n ih => rw [sum_succ, ih]; rw [Int.natCast_add, Int.add_mul]; simp
theorem sum_add (n : Nat) (f g : Nat → Int) : Ra26.sum n (fun i => f i + g i) = Ra26.sum n f + Ra26.sum n g := by
  induction n with
  | zero => rfl
  | succ n ih => rw [sum_succ, sum_succ, sum_succ, ih]; omega
theorem sum_neg (n : Nat) (f : Nat → Int) : Ra26.sum n (fun i => - f i) = - Ra26.sum n f := by
  induction n with
  | zero => rfl
  | succ n ih => rw [sum_succ, sum_succ, ih]; omega
theorem sum_split (m n : Nat) (f : Nat → Int) : Ra26.sum (m + n) f = Ra26.sum m f + Ra26.sum n (fun i => f (m + i)) := by
  induction n with
  | zero => simp [sum_zero]
  | succ n ih => rw [← Nat.add_assoc, sum_succ, ih, sum_succ]; omega
end Pv
namespace Pv
open Ra26
theorem norm_pos {a : Int} (h : 0 < a) : norm a = 30 - a.toNat.log2 := by
  unfold norm
  have h1 : ¬ a < 0 := by omega
  have h2 : ¬ a = 0 := by omega
  have h3 : ¬ a.toNat = 0 := by omega
  simp [h1, h2, h3]
theorem log2_lt31 {a : Int} (h : 0 < a) (h2 : a < 2147483648) : a.toNat.log2 ≤ 30 := by
  have h3 : a.toNat ≠ 0 := by omega
  have := (Nat.log2_lt (k := 31) h3).mpr (by omega)
  omega
/-- 31 less its bits -/
theorem norm_bits {a : Int} (h : 0 < a) (h2 : a < 2147483648) : (31 : Int) - ((a.natAbs.log2 + 1 : Nat) : Int) = (norm a : Int) := by
  have e : a.natAbs = a.toNat := by omega
  have := log2_lt31 h h2
  rw [norm_pos h, e]
  omega
theorem norm_le30 {a : Int} (h : 0 < a) : norm a ≤ 30 := by
  rw [norm_pos h]; omega
theorem norm_shift {a : Int} (h : 0 < a) (h2 : a < 2147483648) : a * 2 ^ norm a < 2147483648 := by
  have h3 : a.toNat ≠ 0 := by omega
  have l1 := log2_lt31 h h2
  have l2 : a.toNat < 2 ^ (a.toNat.log2 + 1) := (Nat.log2_lt h3).mp (Nat.lt_succ_self _)
  rw [norm_pos h]
  have e1 : a.toNat * 2 ^ (30 - a.toNat.log2) < 2 ^ (a.toNat.log2 + 1) * 2 ^ (30 - a.toNat.log2) := Nat.mul_lt_mul_of_pos_right l2 (Nat.two_pow_pos _)
  rw [← Nat.pow_add] at e1
  have e2 : a.toNat.log2 + 1 + (30 - a.toNat.log2) = 31 := by omega
  rw [e2] at e1
  have e3 : (a : Int) = ((a.toNat : Nat) : Int) := by omega
  have e4 : a * 2 ^ (30 - a.toNat.log2) = ((a.toNat * 2 ^ (30 - a.toNat.log2) : Nat) : Int) := by
    rw [Int.natCast_mul, ← e3, Int.natCast_pow]; rfl
  rw [e4]
  have e5 : (2 : Nat) ^ 31 = 2147483648 := by decide
  rw [e5] at e1
  exact Int.ofNat_lt.mpr e1
/-! the greatest size -/
theorem peak_fold (l : List Int) : ∀ m : Int, m ≤ l.foldl (fun m x => max m (abs_ x)) m ∧ (∀ x ∈ l, abs_ x ≤ l.foldl (fun m x => max m (abs_ x)) m) ∧
    (l.foldl (fun m x => max m (abs_ x)) m = m ∨ ∃ x ∈ l, l.foldl (fun m x => max m (abs_ x)) m = abs_ x) := by
  induction l with
  | nil => intro m; exact ⟨Int.le_refl _, (fun _ h => nomatch h), .inl rfl⟩
  | cons a r ih =>
    intro m
    obtain ⟨h1, h2, h3⟩ := ih (max m (abs_ a))
    rw [List.foldl_cons]
    simp only [N] at *
    refine ⟨by omega, fun x hx => ?_, ?_⟩
    · rcases List.mem_cons.mp hx with e | e
      · rw [e]; omega
      · exact h2 x e
    · rcases h3 with e | ⟨x, hx, e⟩
      · by_cases q : m ≤ abs_ a
        · right; exact ⟨a, List.mem_cons_self, by rw [e]; omega⟩
        · left; rw [e]; omega
      · right; exact ⟨x, List.mem_cons_of_mem _ hx, e⟩
theorem peak_nn (l : List Int) : 0 ≤ peak l := (peak_fold l 0).1
theorem peak_ge {l : List Int} {x : Int} (h : x ∈ l) : abs_ x ≤ peak l := (peak_fold l 0).2.1 x h
theorem peak_le {l : List Int} (h : Ws l) : peak l ≤ 32767 := by
  rcases (peak_fold l 0).2.2 with e | ⟨x, hx, e⟩
  · unfold peak; rw [e]; decide
  · unfold peak; rw [e]; exact abs_le (h x hx)
theorem peak_is {l : List Int} {m : Int} (hw : Ws l) (h : m ∈ l.map sz) (hm : ∀ x ∈ l.map sz, x ≤ m) : m = peak l := by
  obtain ⟨x, hx, e⟩ := List.mem_map.mp h
  have h1 : m ≤ peak l := by
    rw [← e, sz_abs (hw x hx)]; exact peak_ge hx
  rcases (peak_fold l 0).2.2 with q | ⟨y, hy, q⟩
  · have h2 : peak l = 0 := q
    have h3 : 0 ≤ m := by rw [← e]; exact sz_nn x
    simp only [N] at *
    omega
  · have h2 : peak l = abs_ y := q
    have h3 := hm (sz y) (List.mem_map.mpr ⟨y, hy, rfl⟩)
    rw [sz_abs (hw y hy), ← h2] at h3
    simp only [N] at *
    omega
/-- how far down -/
def kOf (b : Nat) (m : Int) : Nat := if m = 0 then 0 else b - norm (m * 65536)
theorem kOf_le (b : Nat) (m : Int) : kOf b m ≤ b := by unfold kOf; split <;> omega
theorem kOf_lt {b : Nat} {m : Int} (hb : b ≤ 10) (h0 : 0 ≤ m) (h1 : m ≤ 32767) : m < 2 ^ (15 - b + kOf b m) := by
  unfold kOf
  have tp : ∀ n : Nat, (0 : Int) < 2 ^ n := fun n => by
    have := Nat.two_pow_pos n
    have e : ((2 ^ n : Nat) : Int) = 2 ^ n := by rw [Int.natCast_pow]; rfl
    omega
  split
  · rename_i e; rw [e]; exact tp _
  · rename_i e
    have hp : 0 < m * 65536 := by omega
    rw [norm_pos hp]
    have h3 : (m * 65536).toNat ≠ 0 := by omega
    have l1 := log2_lt31 hp (by omega)
    have l2 : (m * 65536).toNat < 2 ^ ((m * 65536).toNat.log2 + 1) := (Nat.log2_lt h3).mp (Nat.lt_succ_self _)
    generalize hL : (m * 65536).toNat.log2 = L at l1 l2
    have l3 : 2 ^ (L + 1) ≤ 2 ^ (16 + (15 - b + (b - (30 - L)))) := Nat.pow_le_pow_right (by decide) (by omega)
    rw [Nat.pow_add 2 16] at l3
    have e5 : (2 : Nat) ^ 16 = 65536 := by decide
    rw [e5] at l3
    have e6 : ((2 ^ (15 - b + (b - (30 - L))) : Nat) : Int) = 2 ^ (15 - b + (b - (30 - L))) := by rw [Int.natCast_pow]; rfl
    rw [← e6]
    generalize 2 ^ (15 - b + (b - (30 - L))) = P at l3 ⊢
    omega
/-! step 1 -/
structure ZOk (z1 z2 : Int) : Prop where
  a : -16384 ≤ z1
  b : z1 ≤ 16380
  c : -536871412 ≤ z2 - 32768 * z1
  d : z2 - 32768 * z1 ≤ 536871412
theorem low_mulR {l : Int} (h0 : 0 ≤ l) (h1 : l < 32768) : mulR l 32735 = (l * 32735 + 16384) / 32768 := by
  unfold mulR; exact stop16_in' (by omega) (by omega)
theorem zok_fresh : ZOk 0 0 := ⟨by decide, by decide, by decide, by decide⟩
theorem pre1_ok {z1 z2 s : Int} (mp : Int) (h : ZOk z1 z2) (hs : W s) : ZOk (pre1 z1 z2 mp s).1 (pre1 z1 z2 mp s).2.1 ∧ W (pre1 z1 z2 mp s).2.2.1 ∧ W (pre1 z1 z2 mp s).2.2.2 ∧
    W (s / 8 * 4 - z1) ∧
    cut (stop32 ((pre1 z1 z2 mp s).2.1 + 16384) / 32768) = stop32 ((pre1 z1 z2 mp s).2.1 + 16384) / 32768 := by
  unfold pre1
  dsimp only
  obtain ⟨ha, hb, hc, hd⟩ := h
  unfold W at hs
  have e0 : 0 ≤ z2 - z2 / 32768 * 32768 := by omega
  have e1 : z2 - z2 / 32768 * 32768 < 32768 := by omega
  rw [low_mulR e0 e1]
  have hso1 : -16384 ≤ s / 8 * 4 := by omega
  have hso2 : s / 8 * 4 ≤ 16380 := by omega
  generalize s / 8 * 4 = so at hso1 hso2
  have b1 : -1073741824 - 1000 ≤ z2 := by omega
  have b2 : z2 ≤ 1073741824 - 100000 := by omega
  generalize hr : ((z2 - z2 / 32768 * 32768) * 32735 + 16384) / 32768 = r
  have c1 : -536871412 ≤ z2 / 32768 * 32735 + r - 32768 * z1 := by omega
  have c2 : z2 / 32768 * 32735 + r - 32768 * z1 ≤ 536871412 := by omega
  have s1 : stop32 (z2 / 32768 * 32735 + ((so - z1) * 32768 + r)) = z2 / 32768 * 32735 + ((so - z1) * 32768 + r) := stop32_in (by omega) (by omega)
  rw [s1]
  generalize hz : z2 / 32768 * 32735 + ((so - z1) * 32768 + r) = y
  have y1 : -536871412 ≤ y - 32768 * so := by omega
  have y2 : y - 32768 * so ≤ 536871412 := by omega
  have s2 : stop32 (y + 16384) = y + 16384 := stop32_in (by omega) (by omega)
  rw [s2]
  have s3 : cut ((y + 16384) / 32768) = (y + 16384) / 32768 := cut_in' (by omega) (by omega)
  rw [s3]
  exact ⟨⟨hso1, hso2, y1, y2⟩, ⟨by omega, by omega⟩, add_W _ _, ⟨by omega, by omega⟩, rfl⟩
theorem pre_len : ∀ (l : List Int) (a b c : Int), (pre l a b c).1.length = l.length
  | [], _, _, _ => rfl
  | s :: l, a, b, c => by
    unfold pre; dsimp only [List.length_cons]; rw [pre_len l]
theorem pre_ok : ∀ (l : List Int) (z1 z2 mp : Int), ZOk z1 z2 → W mp → Ws l → ZOk (pre l z1 z2 mp).2.1 (pre l z1 z2 mp).2.2.1 ∧ W (pre l z1 z2 mp).2.2.2 ∧ Ws (pre l z1 z2 mp).1
  | [], _, _, _, h, hm, _ => ⟨h, hm, Ws_nil⟩
  | s :: l, z1, z2, mp, h, hm, hl => by
    obtain ⟨a, b, c, d, e⟩ := pre1_ok mp h (hl s List.mem_cons_self)
    obtain ⟨i, j, k⟩ := pre_ok l _ _ _ a b (fun z hz => hl z (List.mem_cons_of_mem _ hz))
    unfold pre
    dsimp only
    exact ⟨i, j, Ws_cons c k⟩
end Pv
namespace Pv
open Ra26
/-! steps 2 and 3 -/
def lowered (s : List Int) (k : Nat) : List Int := if k = 0 then s else s.map fun x => mulR x (2 ^ (15 - k))
def lifted (t : List Int) (k : Nat) : List Int := t.map fun x => cut (x * 2 ^ k)
def like (t : List Int) (lag : Nat) : Int := 2 * (List.zipWith (fun a b => a * b) (t.drop lag) t).sum
def likes (t : List Int) : List Int := (List.range 9).map (like t)
theorem lowered_len (s : List Int) (k : Nat) : (lowered s k).length = s.length := by
  unfold lowered; split <;> simp
theorem like_eq {t : List Int} (h : t.length = 160) {k : Nat} (hk : k ≤ 160) : like t k = 2 * Ra26.sum (160 - k) fun i => at_ t (i + k) * at_ t i := by
  unfold like
  rw [zipWith_range (n := 160 - k) _ (by rw [List.length_drop, h]; omega), sum_range]
  congr 1
  exact sum_congr fun i _ => by rw [at_drop, Nat.add_comm]
theorem together_eq {s : List Int} (h : s.length = 160) (hw : Ws s) : together s = (likes (lowered s (kOf 4 (peak s))), lifted (lowered s (kOf 4 (peak s))) (kOf 4 (peak s))) := by
  unfold together
  dsimp only
  have e : (if peak s = 0 then 0 else 4 - norm (peak s * 65536)) = kOf 4 (peak s) := rfl
  rw [e]
  generalize hk : kOf 4 (peak s) = k
  have e2 : (if k = 0 then s else s.map fun x => mulR x (2 ^ (15 - k))) = lowered s k := rfl
  rw [e2]
  refine Prod.ext ?_ ?_
  · show _ = likes (lowered s k)
    unfold likes
    apply List.map_congr_left
    intro j hj
    rw [like_eq (by rw [lowered_len, h]) (by have := List.mem_range.mp hj; omega)]
  · show _ = lifted (lowered s k) k
    by_cases z : k = 0
    · rw [if_pos z]; unfold lifted lowered; rw [if_pos z, z]
      have : ∀ l : List Int, Ws l → l = l.map fun x => cut (x * 2 ^ 0) := fun l hl => by
        induction l with
        | nil => rfl
        | cons a r ih =>
          rw [List.map_cons, ← ih (fun z hz => hl z (List.mem_cons_of_mem _ hz))]
          have : cut (a * 2 ^ 0) = a := by rw [Int.pow_zero, Int.mul_one]; exact cut_in (hl a List.mem_cons_self)
          rw [this]
      exact this s hw
    · rw [if_neg z]; rfl
theorem abs_bd {x m : Int} (h : W x) (hm : abs_ x ≤ m) : -m - 1 ≤ x ∧ x ≤ m := by
  have := le_sz h
  rw [sz_abs h] at this
  simp only [N] at *
  omega
theorem lowered_bd {s : List Int} (hw : Ws s) : ∀ x ∈ lowered s (kOf 4 (peak s)), -2048 ≤ x ∧ x ≤ 2048 := by
  intro x hx
  have hk := kOf_lt (b := 4) (by decide) (peak_nn s) (peak_le hw)
  have hk4 := kOf_le 4 (peak s)
  generalize hkk : kOf 4 (peak s) = k at hx hk hk4
  unfold lowered at hx
  by_cases z : k = 0
  · rw [if_pos z] at hx
    have h1 := abs_bd (hw x hx) (peak_ge hx)
    rw [z] at hk
    have : (2 : Int) ^ (15 - 4 + 0) = 2048 := by decide
    rw [this] at hk
    omega
  · rw [if_neg z] at hx
    obtain ⟨y, hy, e⟩ := List.mem_map.mp hx
    have h1 := abs_bd (hw y hy) (peak_ge hy)
    have c : k = 1 ∨ k = 2 ∨ k = 3 ∨ k = 4 := by omega
    unfold mulR stop16 at e
    simp only [N] at *
    rcases c with c | c | c | c <;> (subst c; simp only [Nat.reduceSub, Nat.reduceAdd, Int.reducePow] at hk e; omega)
theorem lowered_W {s : List Int} (hw : Ws s) : Ws (lowered s (kOf 4 (peak s))) := fun x hx => by
  have := lowered_bd hw x hx
  unfold W; omega
end Pv
namespace Pv
open Ra26
theorem sq_nn (x : Int) : 0 ≤ x * x := by
  rw [← Int.natAbs_mul_self]; omega
theorem two_mul_le (x y : Int) : 2 * (x * y) ≤ x * x + y * y ∧ -(x * x + y * y) ≤ 2 * (x * y) := by
  have h1 := sq_nn (x - y)
  have h2 := sq_nn (x + y)
  rw [Int.sub_mul, Int.mul_sub, Int.mul_sub, Int.mul_comm y x] at h1
  rw [Int.add_mul, Int.mul_add, Int.mul_add, Int.mul_comm y x] at h2
  omega
theorem sum_nn {n : Nat} {f : Nat → Int} (h : ∀ i, 0 ≤ f i) : 0 ≤ Ra26.sum n f := by
  induction n with
  | zero => exact Int.le_refl _
  | succ n ih => rw [sum_succ]; have := h n; omega
theorem sum_mul (n : Nat) (c : Int) (f : Nat → Int) : Ra26.sum n (fun i => c * f i) = c * Ra26.sum n f := by
  induction n with
  | zero => simp [sum_zero]
  | succ n ih => rw [sum_succ, sum_succ, ih, Int.mul_add]
theorem like_bd {t : List Int} (h : t.length = 160) {k : Nat} (hk : k ≤ 160) : like t k ≤ like t 0 ∧ -(like t 0) ≤ like t k := by
  rw [like_eq h hk, like_eq h (Nat.zero_le _)]
  have e0 : Ra26.sum (160 - 0) (fun i => at_ t (i + 0) * at_ t i) = Ra26.sum 160 (fun i => at_ t i * at_ t i) := rfl
  rw [e0]
  have ek : 160 = k + (160 - k) := by omega
  have s1 : Ra26.sum (160 - k) (fun i => at_ t (i + k) * at_ t (i + k)) ≤ Ra26.sum 160 (fun i => at_ t i * at_ t i) := by
    have e : Ra26.sum 160 (fun i => at_ t i * at_ t i) = Ra26.sum k (fun i => at_ t i * at_ t i) + Ra26.sum (160 - k) (fun i => at_ t (i + k) * at_ t (i + k)) := by
      rw [ek, sum_split]
      congr 1
      have : k + (160 - k) - k = 160 - k := by omega
      rw [this]
      exact sum_congr fun i _ => by rw [Nat.add_comm]
    have := sum_nn (n := k) (f := fun i => at_ t i * at_ t i) fun i => sq_nn _
    omega
  have s2 : Ra26.sum (160 - k) (fun i => at_ t i * at_ t i) ≤ Ra26.sum 160 (fun i => at_ t i * at_ t i) := by
    have e : Ra26.sum 160 (fun i => at_ t i * at_ t i) = Ra26.sum (160 - k) (fun i => at_ t i * at_ t i) + Ra26.sum k (fun i => at_ t (160 - k + i) * at_ t (160 - k + i)) := by
      have ek' : 160 = (160 - k) + k := by omega
      conv => lhs; rw [ek', sum_split]
    have := sum_nn (n := k) (f := fun i => at_ t (160 - k + i) * at_ t (160 - k + i)) fun i => sq_nn _
    omega
  have a1 := sum_le (n := 160 - k) (f := fun i => 2 * (at_ t (i + k) * at_ t i)) (g := fun i => at_ t (i + k) * at_ t (i + k) + at_ t i * at_ t i) fun i _ => (two_mul_le _ _).1
  have a2 := sum_le (n := 160 - k) (f := fun i => -(at_ t (i + k) * at_ t (i + k) + at_ t i * at_ t i)) (g := fun i => 2 * (at_ t (i + k) * at_ t i)) fun i _ => (two_mul_le _ _).2
  rw [sum_neg] at a2
  rw [sum_add, sum_mul] at a1 a2
  omega
theorem like0_bd {t : List Int} (h : t.length = 160) (hb : ∀ x ∈ t, -2048 ≤ x ∧ x ≤ 2048) : 0 ≤ like t 0 ∧ like t 0 ≤ 1342177280 := by
  rw [like_eq h (Nat.zero_le _)]
  have e0 : Ra26.sum (160 - 0) (fun i => at_ t (i + 0) * at_ t i) = Ra26.sum 160 (fun i => at_ t i * at_ t i) := rfl
  rw [e0]
  have s1 := sum_nn (n := 160) (f := fun i => at_ t i * at_ t i) fun i => sq_nn _
  have s2 := sum_le (n := 160) (f := fun i => at_ t i * at_ t i) (g := fun _ => 4194304) fun i hi => by
    have e := get_at (l := t) (k := i) (by omega)
    have hx := hb _ (List.mem_of_getElem? e)
    generalize at_ t i = x at hx
    have h1 : x.natAbs ≤ 2048 := by omega
    have h2 := Nat.mul_le_mul h1 h1
    rw [← Int.natAbs_mul_self]
    omega
  rw [sum_const] at s2
  omega
/-- the nine sums, made 16 bits -/
def normed (l : List Int) : List Int := l.map fun x => x * 2 ^ norm (at_ l 0) / 65536
structure AcfOk (l : List Int) : Prop where
  len : l.length = 9
  nn : 0 ≤ at_ l 0
  lt : at_ l 0 < 2147483648
  bd : ∀ x ∈ l, x ≤ at_ l 0 ∧ -(at_ l 0) ≤ x
theorem acf_ok {t : List Int} (h : t.length = 160) (hb : ∀ x ∈ t, -2048 ≤ x ∧ x ≤ 2048) : AcfOk (likes t) := by
  have e0 : at_ (likes t) 0 = like t 0 := at_map_range _ (by decide)
  have b0 := like0_bd h hb
  refine ⟨by simp [likes], by rw [e0]; simp only [N]; omega, by rw [e0]; simp only [N]; omega, fun x hx => ?_⟩
  obtain ⟨k, hk, e⟩ := List.mem_map.mp hx
  rw [e0, ← e]
  exact like_bd h (by have := List.mem_range.mp hk; omega)
theorem tp (n : Nat) : (0 : Int) < 2 ^ n := by
  have h := Nat.two_pow_pos n
  have e : ((2 ^ n : Nat) : Int) = 2 ^ n := by rw [Int.natCast_pow]; rfl
  omega
theorem normed_W {l : List Int} (h : AcfOk l) (h0 : at_ l 0 ≠ 0) : Ws (normed l) := fun z hz => by
  obtain ⟨x, hx, e⟩ := List.mem_map.mp hz
  have hp : 0 < at_ l 0 := by have := h.nn; simp only [N] at *; omega
  have hs := norm_shift hp h.lt
  obtain ⟨b1, b2⟩ := h.bd x hx
  have p := tp (norm (at_ l 0))
  generalize (2 : Int) ^ norm (at_ l 0) = P at *
  have c1 := Int.mul_le_mul_of_nonneg_right b1 (Int.le_of_lt p)
  have c2 := Int.mul_le_mul_of_nonneg_right b2 (Int.le_of_lt p)
  rw [Int.neg_mul] at c2
  rw [← e]
  unfold W
  omega
def refl (a : List Int) : Int := if 0 < at_ a 1 then -(quotient (sz (at_ a 1)) (at_ a 0)) else quotient (sz (at_ a 1)) (at_ a 0)
def nextA (a b : List Int) (r : Int) : List Int := add (at_ a 0) (mulR (at_ a 1) r) :: List.zipWith (fun far near => add far (mulR near r)) (a.drop 2) (b.drop 1)
def nextB (a b : List Int) (r : Int) : List Int := at_ b 0 :: List.zipWith (fun far near => add near (mulR far r)) (a.drop 2) (b.drop 1)
theorem schur_head (n : Nat) (p k : List Int) (x y : Int) : schur n p (x :: k) = schur n p (y :: k) := by
  cases n with
  | zero => rfl
  | succ n => unfold schur; simp only [at_succ]
theorem schur_stop {n : Nat} {a b : List Int} (hw : W (at_ a 1)) (h : at_ a 0 < sz (at_ a 1)) : schur (n + 1) a b = List.replicate (n + 1) 0 := by
  rw [sz_abs hw] at h
  unfold schur
  rw [if_pos h]
theorem schur_step {n : Nat} {a b : List Int} (ha : a.length = n + 2) (hb : b.length = n + 2) (hw : W (at_ a 1)) (h : sz (at_ a 1) ≤ at_ a 0) :
    schur (n + 1) a b = refl a :: schur n (nextA a b (refl a)) (nextB a b (refl a)) := by
  have h' : ¬ at_ a 0 < abs_ (at_ a 1) := by rw [← sz_abs hw]; simp only [N] at *; omega
  unfold nextB
  rw [schur_head n _ _ (at_ b 0) 0]
  have er : refl a = if 0 < at_ a 1 then -(quotient (abs_ (at_ a 1)) (at_ a 0)) else quotient (abs_ (at_ a 1)) (at_ a 0) := by
    unfold refl; rw [sz_abs hw]
  conv => lhs; unfold schur
  rw [if_neg h']
  dsimp only
  rw [← er]
  unfold nextA
  have l2 : n = min (a.drop 2).length (b.drop 1).length := by rw [List.length_drop, List.length_drop, ha, hb]; omega
  rw [zipWith_range (n := n) _ l2, zipWith_range (n := n) _ l2]
  have e1 : ∀ i, at_ (a.drop 2) i = at_ a (i + 2) := fun i => by rw [at_drop, Nat.add_comm]
  have e2 : ∀ i, at_ (b.drop 1) i = at_ b (i + 1) := fun i => by rw [at_drop, Nat.add_comm]
  simp only [e1, e2]
theorem nextA_len {n : Nat} {a b : List Int} (r : Int) (ha : a.length = n + 2) (hb : b.length = n + 2) : (nextA a b r).length = n + 1 := by
  unfold nextA; rw [List.length_cons, List.length_zipWith, List.length_drop, List.length_drop]; omega
theorem nextB_len {n : Nat} {a b : List Int} (r : Int) (ha : a.length = n + 2) (hb : b.length = n + 2) : (nextB a b r).length = n + 1 := by
  unfold nextB; rw [List.length_cons, List.length_zipWith, List.length_drop, List.length_drop]; omega
theorem Ws_zipWith {f : Int → Int → Int} (h : ∀ x y, W (f x y)) : ∀ a b : List Int, Ws (List.zipWith f a b)
  | [], b => by simp [Ws_nil]
  | _ :: _, [] => by simp [Ws_nil]
  | x :: a, y :: b => by rw [List.zipWith_cons_cons]; exact Ws_cons (h x y) (Ws_zipWith h a b)
theorem nextA_W (a b : List Int) (r : Int) : Ws (nextA a b r) := Ws_cons (add_W _ _) (Ws_zipWith (fun _ _ => add_W _ _) _ _)
theorem nextB_W {b : List Int} (a : List Int) (r : Int) (hb : Ws b) : Ws (nextB a b r) := Ws_cons (Ws_at hb 0) (Ws_zipWith (fun _ _ => add_W _ _) _ _)
theorem quotient_bd {a b : Int} (h0 : 0 ≤ a) (h : a ≤ b) : 0 ≤ quotient a b ∧ quotient a b ≤ 32767 := by
  unfold quotient
  split
  · simp only [N]; omega
  · rename_i ne
    simp only [N] at *
    have hb : 0 < b := by omega
    have h1 : 0 ≤ a * 32768 / b := Int.ediv_nonneg (by omega) (by omega)
    have h2 : a * 32768 / b < 32768 := Int.ediv_lt_of_lt_mul hb (by omega)
    omega
theorem refl_W {a : List Int} (h : sz (at_ a 1) ≤ at_ a 0) : W (refl a) := by
  have := quotient_bd (sz_nn (at_ a 1)) h
  unfold refl W
  simp only [N] at *
  split <;> omega
theorem schur_W : ∀ (n : Nat) (a b : List Int), a.length = n + 1 → b.length = n + 1 → Ws a → Ws (schur n a b)
  | 0, _, _, _, _, _ => Ws_nil
  | n + 1, a, b, ha, hb, hw => by
    have hw1 := Ws_at hw 1
    by_cases h : at_ a 0 < sz (at_ a 1)
    · rw [schur_stop hw1 h]; exact Ws_replicate _
    · have h' : sz (at_ a 1) ≤ at_ a 0 := by simp only [N] at *; omega
      rw [schur_step ha hb hw1 h']
      exact Ws_cons (refl_W h') (schur_W n _ _ (nextA_len _ ha hb) (nextB_len _ ha hb) (nextA_W _ _ _))
theorem schur_len : ∀ (n : Nat) (a b : List Int), (schur n a b).length = n
  | 0, _, _ => rfl
  | n + 1, a, b => by
    unfold schur
    split
    · simp
    · dsimp only; rw [List.length_cons, schur_len n]
theorem reflections_eq {l : List Int} (h0 : at_ l 0 ≠ 0) : reflections l = schur 8 (normed l) (normed l) := by
  unfold reflections
  have h1 : ¬ l.getD 0 0 = 0 := h0
  rw [if_neg h1]
  rfl
theorem reflections_zero {l : List Int} (h0 : at_ l 0 = 0) : reflections l = List.replicate 8 0 := by
  unfold reflections
  have h1 : l.getD 0 0 = 0 := h0
  rw [if_pos h1]
theorem normed_len (l : List Int) : (normed l).length = l.length := by simp [normed]
theorem reflections_W {l : List Int} (h : AcfOk l) : Ws (reflections l) := by
  by_cases h0 : at_ l 0 = 0
  · rw [reflections_zero h0]; exact Ws_replicate _
  · rw [reflections_eq h0]; exact schur_W 8 _ _ (by rw [normed_len, h.len]) (by rw [normed_len, h.len]) (normed_W h h0)
theorem reflections_len (l : List Int) : (reflections l).length = 8 := by
  by_cases h0 : at_ l 0 = 0
  · rw [reflections_zero h0]; simp
  · rw [reflections_eq h0]; exact schur_len _ _ _
end Pv
namespace Pv
open Ra26
/-! steps 4 and 5 -/
theorem area_a {r : Int} (h : W r) (h1 : sz r < 22118) : area r = sgn r (sz r / 2) := by
  rw [sz_abs h] at *; unfold area sgn; dsimp only; rw [if_pos h1]
theorem area_b {r : Int} (h : W r) (h1 : ¬ sz r < 22118) (h2 : sz r < 31130) : area r = sgn r (sz r - 11059) := by
  rw [sz_abs h] at *; unfold area sgn; dsimp only; rw [if_neg h1, if_pos h2]
theorem area_c {r : Int} (h : W r) (h1 : ¬ sz r < 22118) (h2 : ¬ sz r < 31130) : area r = sgn r (4 * (sz r - 26112)) := by
  rw [sz_abs h] at *; unfold area sgn; dsimp only; rw [if_neg h1, if_neg h2, Int.mul_comm 4]
theorem area_W {r : Int} (h : W r) : W (area r) := by
  have h1 := abs_nn r
  have h2 := abs_le h
  unfold area W
  dsimp only
  simp only [N] at *
  generalize abs_ r = x at *
  split <;> (split <;> (try split) <;> omega)
theorem back_a {r : Int} (h : W r) (h1 : sz r < 11059) : back r = sgn r (2 * sz r) := by
  rw [sz_abs h] at *; unfold back sgn; dsimp only; rw [if_pos h1]
theorem back_b {r : Int} (h : W r) (h1 : ¬ sz r < 11059) (h2 : sz r < 20070) : back r = sgn r (sz r + 11059) := by
  rw [sz_abs h] at *; unfold back sgn; dsimp only; rw [if_neg h1, if_pos h2]
theorem back_c {r : Int} (h : W r) (h1 : ¬ sz r < 11059) (h2 : ¬ sz r < 20070) : back r = sgn r (add (sz r / 4) 26112) := by
  rw [sz_abs h] at *; unfold back sgn; dsimp only; rw [if_neg h1, if_neg h2]
theorem back_W {r : Int} (h : W r) : W (back r) := by
  have h1 := abs_nn r
  have h2 := abs_le h
  unfold back W add stop16
  dsimp only
  simp only [N] at *
  generalize abs_ r = x at *
  split <;> (split <;> (try split) <;> omega)
theorem low_cases {i : Nat} (h : i < 8) : at_ LOW i = -32 ∨ at_ LOW i = -16 ∨ at_ LOW i = -8 ∨ at_ LOW i = -4 := by
  have c : i = 0 ∨ i = 1 ∨ i = 2 ∨ i = 3 ∨ i = 4 ∨ i = 5 ∨ i = 6 ∨ i = 7 := by omega
  rcases c with c | c | c | c | c | c | c | c <;> subst c <;> decide
theorem coded_py {i : Nat} (h : i < 8) (x : Int) : coded i x = (if -2 * at_ LOW i - 1 < (if 0 > shr (add (add (mul (at_ A i) x) (at_ OFFSET i)) 256) 9 - at_ LOW i then 0 else shr (add (add (mul (at_ A i) x) (at_ OFFSET i)) 256) 9 - at_ LOW i) then -2 * at_ LOW i - 1 else (if 0 > shr (add (add (mul (at_ A i) x) (at_ OFFSET i)) 256) 9 - at_ LOW i then 0 else shr (add (add (mul (at_ A i) x) (at_ OFFSET i)) 256) 9 - at_ LOW i)) := by
  unfold coded
  dsimp only
  have c := low_cases h
  generalize shr (add (add (mul (at_ A i) x) (at_ OFFSET i)) 256) 9 = y
  generalize at_ LOW i = lo at *
  simp only [N] at *
  split <;> split <;> omega
theorem coded_bd {i : Nat} (h : i < 8) (x : Int) : 0 ≤ coded i x ∧ coded i x ≤ -2 * at_ LOW i - 1 := by
  unfold coded
  dsimp only
  have c := low_cases h
  generalize shr (add (add (mul (at_ A i) x) (at_ OFFSET i)) 256) 9 = y
  generalize at_ LOW i = lo at *
  simp only [N] at *
  omega
theorem decoded_py {i : Nat} (h : i < 8) {c : Int} (h0 : 0 ≤ c) (h1 : c ≤ -2 * at_ LOW i - 1) :
    decoded i c = add (mulR (at_ INVERSE i) (sub (1024 * (c + at_ LOW i)) (2 * at_ OFFSET i))) (mulR (at_ INVERSE i) (sub (1024 * (c + at_ LOW i)) (2 * at_ OFFSET i))) := by
  unfold decoded
  dsimp only
  have l := low_cases h
  have e : cut ((c + at_ LOW i) * 1024) = 1024 * (c + at_ LOW i) := by
    rw [Int.mul_comm]
    simp only [N] at *
    apply cut_in' <;> omega
  rw [e]
theorem decoded_W (i : Nat) (c : Int) : W (decoded i c) := add_W _ _
/-- the bounds of a spectrum's codes -/
def CodesOk (c : List Int) : Prop := c.length = 8 ∧ ∀ i, i < 8 → 0 ≤ at_ c i ∧ at_ c i ≤ -2 * at_ LOW i - 1
theorem at_mapIdx {l : List Int} {k : Nat} (f : Nat → Int → Int) (h : k < l.length) : at_ (l.mapIdx f) k = f k (at_ l k) := by
  apply at_get
  rw [List.getElem?_mapIdx, get_at h]
  rfl
theorem codes_ok {r : List Int} (h : r.length = 8) : CodesOk ((r.map area).mapIdx fun i y => coded i y) := by
  refine ⟨by simp [h], fun i hi => ?_⟩
  rw [at_mapIdx _ (by simp [h, hi])]
  exact coded_bd hi _
theorem codes_fuse (r : List Int) : (r.map area).mapIdx (fun i y => coded i y) = r.mapIdx fun i y => coded i (area y) := by
  apply List.ext_getElem?
  intro i
  rw [List.getElem?_mapIdx, List.getElem?_mapIdx, List.getElem?_map]
  cases r[i]? <;> rfl
theorem mapIdx_W (f : Nat → Int → Int) (h : ∀ i x, W (f i x)) (l : List Int) : Ws (l.mapIdx f) := fun z hz => by
  obtain ⟨i, hi, e⟩ := List.mem_mapIdx.mp hz
  rw [← e]; exact h _ _
def mostly (m o : Int) : Int := add (add (m / 4) (o / 4)) (m / 2)
theorem between0 {a b : List Int} (ha : a.length = 8) (hb : b.length = 8) : between 0 a b = List.zipWith (fun old new => mostly old new) a b := by
  rw [zipWith_range (n := 8) _ (by omega)]; rfl
theorem between1 {a b : List Int} (ha : a.length = 8) (hb : b.length = 8) : between 1 a b = List.zipWith (fun old new => add (old / 2) (new / 2)) a b := by
  rw [zipWith_range (n := 8) _ (by omega)]; rfl
theorem add_comm' (a b : Int) : add a b = add b a := by unfold add; rw [Int.add_comm]
theorem between2 {a b : List Int} (ha : a.length = 8) (hb : b.length = 8) : between 2 a b = List.zipWith (fun old new => mostly new old) a b := by
  rw [zipWith_range (n := 8) _ (by omega)]
  unfold between mostly
  apply List.map_congr_left
  intro i _
  show add (add (shr (at_ a i) 2) (shr (at_ b i) 2)) (shr (at_ b i) 1) = _
  rw [add_comm' (shr (at_ a i) 2)]
  rfl
theorem between3 {a b : List Int} (hb : b.length = 8) : between 3 a b = b := by
  conv => rhs; rw [list_range b, hb]
  rfl
theorem between_W (k : Nat) {a b : List Int} (hb : Ws b) : Ws (between k a b) := fun z hz => by
  obtain ⟨i, _, e⟩ := List.mem_map.mp hz
  rw [← e]
  dsimp only
  split
  · exact add_W _ _
  · split
    · exact add_W _ _
    · split
      · exact add_W _ _
      · exact Ws_at hb i
theorem between_len (k : Nat) (a b : List Int) : (between k a b).length = 8 := by simp [between]
/-- one part's factors -/
def facs (lar now : List Int) (k : Nat) : List Int := (between k lar now).map back
theorem facs_len (a b : List Int) (k : Nat) : (facs a b k).length = 8 := by simp [facs, between_len]
theorem facs_W {a b : List Int} (hb : Ws b) (k : Nat) : Ws (facs a b k) := fun z hz => by
  obtain ⟨y, hy, e⟩ := List.mem_map.mp hz
  rw [← e]; exact back_W (between_W k hb y hy)
/-! step 6 -/
def lo (i : Nat) : Nat := if i = 0 then 0 else if i = 1 then 13 else if i = 2 then 27 else 40
def hi (i : Nat) : Nat := if i = 0 then 13 else if i = 1 then 27 else if i = 2 then 40 else 160
def cutOf (l : List Int) (i : Nat) : List Int := (l.drop (lo i)).take (hi i - lo i)
def anRow (row : List Int) : List Int → List Int → List Int × List Int
  | [], u => ([], u)
  | s :: l, u => ((analyseAt row u s s).1 :: (anRow row l (analyseAt row u s s).2).1, (anRow row l (analyseAt row u s s).2).2)
def anTo (rp : Nat → List Int) (l u : List Int) : Nat → List Int × List Int
  | 0 => ([], u)
  | i + 1 => ((anTo rp l u i).1 ++ (anRow (rp i) (cutOf l i) (anTo rp l u i).2).1, (anRow (rp i) (cutOf l i) (anTo rp l u i).2).2)
theorem an_cons (rp : Nat → List Int) (i : Nat) (s : Int) (l u : List Int) : analyse rp i (s :: l) u = ((analyseAt (rp (partOf i)) u s s).1 :: (analyse rp (i + 1) l (analyseAt (rp (partOf i)) u s s).2).1, (analyse rp (i + 1) l (analyseAt (rp (partOf i)) u s s).2).2) := rfl
theorem an_append (rp : Nat → List Int) : ∀ (a b : List Int) (i : Nat) (u : List Int), analyse rp i (a ++ b) u =
    ((analyse rp i a u).1 ++ (analyse rp (i + a.length) b (analyse rp i a u).2).1, (analyse rp (i + a.length) b (analyse rp i a u).2).2)
  | [], b, i, u => by simp [analyse]
  | s :: a, b, i, u => by
    have e : i + 1 + a.length = i + (s :: a).length := by rw [List.length_cons]; omega
    rw [List.cons_append, an_cons, an_append rp a b, an_cons rp i s a, e]
    rfl
theorem an_row (rp : Nat → List Int) (k : Nat) : ∀ (l : List Int) (i : Nat) (u : List Int), (∀ j, j < l.length → partOf (i + j) = k) → analyse rp i l u = anRow (rp k) l u
  | [], _, _, _ => rfl
  | s :: l, i, u, h => by
    unfold analyse anRow
    dsimp only
    have h0 : partOf i = k := h 0 (by simp)
    rw [h0, an_row rp k l (i + 1) _ fun j hj => by
      have := h (j + 1) (by simp; omega)
      rw [← this]; congr 1; omega]
theorem parts4 {l : List Int} (h : l.length = 160) : l = cutOf l 0 ++ (cutOf l 1 ++ (cutOf l 2 ++ cutOf l 3)) := by
  show l = (l.drop 0).take 13 ++ ((l.drop 13).take 14 ++ ((l.drop 27).take 13 ++ (l.drop 40).take 120))
  have e3 : (l.drop 40).take 120 = l.drop 40 := List.take_of_length_le (by rw [List.length_drop, h]; decide)
  have e2 : (l.drop 27).take 13 ++ l.drop 40 = l.drop 27 := by
    have := List.take_append_drop 13 (l.drop 27); rwa [List.drop_drop] at this
  have e1 : (l.drop 13).take 14 ++ l.drop 27 = l.drop 13 := by
    have := List.take_append_drop 14 (l.drop 13); rwa [List.drop_drop] at this
  rw [e3, e2, e1, List.drop_zero, List.take_append_drop]
theorem cut_len {l : List Int} (h : l.length = 160) : (cutOf l 0).length = 13 ∧ (cutOf l 1).length = 14 ∧ (cutOf l 2).length = 13 ∧ (cutOf l 3).length = 120 := by
  refine ⟨?_, ?_, ?_, ?_⟩ <;> (unfold cutOf; rw [List.length_take, List.length_drop, h]; decide)
theorem an_four (rp : Nat → List Int) {l : List Int} (u : List Int) (h : l.length = 160) : anTo rp l u 4 = analyse rp 0 l u := by
  obtain ⟨c0, c1, c2, c3⟩ := cut_len h
  conv => rhs; rw [parts4 h]
  rw [an_append, an_append, an_append, c0, c1, c2]
  rw [an_row rp 0 (cutOf l 0) 0 u fun j hj => by unfold partOf; rw [if_pos (by omega)]]
  rw [an_row rp 1 (cutOf l 1) (0 + 13) _ fun j hj => by unfold partOf; rw [if_neg (by omega), if_pos (by omega)]]
  rw [an_row rp 2 (cutOf l 2) (0 + 13 + 14) _ fun j hj => by unfold partOf; rw [if_neg (by omega), if_neg (by omega), if_pos (by omega)]]
  rw [an_row rp 3 (cutOf l 3) (0 + 13 + 14 + 13) _ fun j hj => by unfold partOf; rw [if_neg (by omega), if_neg (by omega), if_neg (by omega)]]
  simp only [anTo, List.nil_append, List.append_assoc]
theorem anAt_step {row u : List Int} {j : Nat} (h1 : j < row.length) (h2 : j < u.length) (st pa : Int) :
    analyseAt (row.drop j) (u.drop j) st pa = ((analyseAt (row.drop (j + 1)) (u.drop (j + 1)) (add st (mulR (at_ row j) (at_ u j))) (add (at_ u j) (mulR (at_ row j) st))).1,
      pa :: (analyseAt (row.drop (j + 1)) (u.drop (j + 1)) (add st (mulR (at_ row j) (at_ u j))) (add (at_ u j) (mulR (at_ row j) st))).2) := by
  have e1 : row.drop j = at_ row j :: row.drop (j + 1) := by
    rw [List.drop_eq_getElem_cons h1]; congr 1; exact (at_get (List.getElem?_eq_getElem h1)).symm
  have e2 : u.drop j = at_ u j :: u.drop (j + 1) := by
    rw [List.drop_eq_getElem_cons h2]; congr 1; exact (at_get (List.getElem?_eq_getElem h2)).symm
  conv => lhs; rw [e1, e2]
  rfl
theorem anAt_end {row u : List Int} {j : Nat} (h : row.length ≤ j) (st pa : Int) : analyseAt (row.drop j) (u.drop j) st pa = (st, []) := by
  rw [List.drop_of_length_le h]; rfl
theorem anAt_ok : ∀ (row u : List Int) (st pa : Int), W st → W pa → W (analyseAt row u st pa).1 ∧ Ws (analyseAt row u st pa).2 ∧ (analyseAt row u st pa).2.length = min row.length u.length
  | [], _, _, _, h, _ => ⟨h, Ws_nil, by simp [analyseAt]⟩
  | _ :: _, [], _, _, h, _ => ⟨h, Ws_nil, by simp [analyseAt]⟩
  | f :: row, k :: u, st, pa, h, hp => by
    obtain ⟨a, b, c⟩ := anAt_ok row u (add st (mulR f k)) (add k (mulR f st)) (add_W _ _) (add_W _ _)
    unfold analyseAt
    dsimp only
    exact ⟨a, Ws_cons hp b, by simp only [List.length_cons, c]; omega⟩
theorem anRow_ok {row : List Int} (hr : row.length = 8) : ∀ (l u : List Int), Ws l → Ws u → u.length = 8 → Ws (anRow row l u).1 ∧ Ws (anRow row l u).2 ∧ (anRow row l u).2.length = 8 ∧ (anRow row l u).1.length = l.length
  | [], u, _, hu, hl => ⟨Ws_nil, hu, hl, rfl⟩
  | s :: l, u, h, hu, hl => by
    have hs := h s List.mem_cons_self
    obtain ⟨a, b, c⟩ := anAt_ok row u s s hs hs
    obtain ⟨d, e, f, g⟩ := anRow_ok hr l (analyseAt row u s s).2 (fun z hz => h z (List.mem_cons_of_mem _ hz)) b (by rw [c, hr, hl]; rfl)
    exact ⟨Ws_cons a d, e, f, by show (_ :: _).length = _; rw [List.length_cons, g, List.length_cons]⟩
theorem cutOf_W {l : List Int} (h : Ws l) (i : Nat) : Ws (cutOf l i) := Ws_take _ (Ws_drop _ h)
theorem anTo_ok {rp : Nat → List Int} (hr : ∀ k, (rp k).length = 8) {l u : List Int} (h : Ws l) (hu : Ws u) (hl : u.length = 8) : ∀ i, Ws (anTo rp l u i).1 ∧ Ws (anTo rp l u i).2 ∧ (anTo rp l u i).2.length = 8
  | 0 => ⟨Ws_nil, hu, hl⟩
  | i + 1 => by
    obtain ⟨a, b, c⟩ := anTo_ok hr h hu hl i
    obtain ⟨d, e, f, _⟩ := anRow_ok (hr i) (cutOf l i) (anTo rp l u i).2 (cutOf_W h i) b c
    exact ⟨Ws_append a d, e, f⟩
theorem an_ok {rp : Nat → List Int} (hr : ∀ k, (rp k).length = 8) {l u : List Int} (h : Ws l) (hu : Ws u) (hl : u.length = 8) (h160 : l.length = 160) :
    Ws (analyse rp 0 l u).1 ∧ Ws (analyse rp 0 l u).2 ∧ (analyse rp 0 l u).2.length = 8 := by
  rw [← an_four rp u h160]; exact anTo_ok hr h hu hl 4
theorem an_len (rp : Nat → List Int) : ∀ (l : List Int) (i : Nat) (u : List Int), (analyse rp i l u).1.length = l.length
  | [], _, _ => rfl
  | s :: l, i, u => by unfold analyse; dsimp only; rw [List.length_cons, an_len rp l, List.length_cons]
end Pv
namespace Pv
open Ra26
/-! decoding's filter -/
theorem sy_step (rp v : List Int) (k : Nat) (s : Int) (w : List Int) : synthAt rp v (k + 1) s w =
    synthAt rp v k (sub s (mulR (at_ rp k) (at_ v k))) (add (at_ v k) (mulR (at_ rp k) (sub s (mulR (at_ rp k) (at_ v k)))) :: w) := rfl
theorem sy_zero (rp v : List Int) (s : Int) (w : List Int) : synthAt rp v 0 s w = (s, s :: w) := rfl
theorem set_take {v w : List Int} {k : Nat} (x : Int) (h : k + 2 ≤ v.length) : (v.take (k + 2) ++ w).set (k + 1) x = v.take (k + 1) ++ x :: w := by
  have e : v.take (k + 2) = v.take (k + 1) ++ [at_ v (k + 1)] := by
    rw [List.take_add_one, get_at (by omega)]; rfl
  rw [e, List.append_assoc, List.set_append_right _ _ (by rw [List.length_take]; omega)]
  have e2 : k + 1 - (v.take (k + 1)).length = 0 := by rw [List.length_take]; omega
  rw [e2]; rfl
theorem at_take_app {v w : List Int} {k : Nat} (h : k + 2 ≤ v.length) : at_ (v.take (k + 2) ++ w) k = at_ v k := by
  rw [at_append_l (by rw [List.length_take]; omega), at_take (by omega)]
theorem set_zero {v w : List Int} (x : Int) (h : 1 ≤ v.length) : (v.take 1 ++ w).set 0 x = x :: w := by
  cases v with
  | nil => simp at h
  | cons a r => rfl
theorem sy_ok (rp v : List Int) : ∀ (k : Nat) (s : Int) (w : List Int), W s → Ws w → W (synthAt rp v k s w).1 ∧ Ws (synthAt rp v k s w).2 ∧ (synthAt rp v k s w).2.length = k + 1 + w.length
  | 0, s, w, h, hw => ⟨h, Ws_cons h hw, by rw [sy_zero]; simp; omega⟩
  | k + 1, s, w, h, hw => by
    rw [sy_step]
    obtain ⟨a, b, c⟩ := sy_ok rp v k (sub s (mulR (at_ rp k) (at_ v k))) (add (at_ v k) (mulR (at_ rp k) (sub s (mulR (at_ rp k) (at_ v k)))) :: w) (sub_W _ _) (Ws_cons (add_W _ _) hw)
    exact ⟨a, b, by rw [c, List.length_cons]; omega⟩
def syRow (row : List Int) : List Int → List Int → List Int × List Int
  | [], v => ([], v)
  | s :: l, v => ((synthAt row v 8 s []).1 :: (syRow row l (synthAt row v 8 s []).2).1, (syRow row l (synthAt row v 8 s []).2).2)
def syTo (rp : Nat → List Int) (l v : List Int) : Nat → List Int × List Int
  | 0 => ([], v)
  | i + 1 => ((syTo rp l v i).1 ++ (syRow (rp i) (cutOf l i) (syTo rp l v i).2).1, (syRow (rp i) (cutOf l i) (syTo rp l v i).2).2)
theorem sy_cons (rp : Nat → List Int) (i : Nat) (s : Int) (l v : List Int) : synth rp i (s :: l) v = ((synthAt (rp (partOf i)) v 8 s []).1 :: (synth rp (i + 1) l (synthAt (rp (partOf i)) v 8 s []).2).1, (synth rp (i + 1) l (synthAt (rp (partOf i)) v 8 s []).2).2) := rfl
theorem sy_append (rp : Nat → List Int) : ∀ (a b : List Int) (i : Nat) (v : List Int), synth rp i (a ++ b) v =
    ((synth rp i a v).1 ++ (synth rp (i + a.length) b (synth rp i a v).2).1, (synth rp (i + a.length) b (synth rp i a v).2).2)
  | [], b, i, v => by simp [synth]
  | s :: a, b, i, v => by
    have e : i + 1 + a.length = i + (s :: a).length := by rw [List.length_cons]; omega
    rw [List.cons_append, sy_cons, sy_append rp a b, sy_cons rp i s a, e]
    rfl
theorem sy_row (rp : Nat → List Int) (k : Nat) : ∀ (l : List Int) (i : Nat) (v : List Int), (∀ j, j < l.length → partOf (i + j) = k) → synth rp i l v = syRow (rp k) l v
  | [], _, _, _ => rfl
  | s :: l, i, v, h => by
    have h0 : partOf i = k := h 0 (by simp)
    rw [sy_cons, h0, sy_row rp k l (i + 1) _ fun j hj => by
      have := h (j + 1) (by simp; omega)
      rw [← this]; congr 1; omega]
    rfl
theorem sy_four (rp : Nat → List Int) {l : List Int} (v : List Int) (h : l.length = 160) : syTo rp l v 4 = synth rp 0 l v := by
  obtain ⟨c0, c1, c2, c3⟩ := cut_len h
  conv => rhs; rw [parts4 h]
  rw [sy_append, sy_append, sy_append, c0, c1, c2]
  rw [sy_row rp 0 (cutOf l 0) 0 v fun j hj => by unfold partOf; rw [if_pos (by omega)]]
  rw [sy_row rp 1 (cutOf l 1) (0 + 13) _ fun j hj => by unfold partOf; rw [if_neg (by omega), if_pos (by omega)]]
  rw [sy_row rp 2 (cutOf l 2) (0 + 13 + 14) _ fun j hj => by unfold partOf; rw [if_neg (by omega), if_neg (by omega), if_pos (by omega)]]
  rw [sy_row rp 3 (cutOf l 3) (0 + 13 + 14 + 13) _ fun j hj => by unfold partOf; rw [if_neg (by omega), if_neg (by omega), if_neg (by omega)]]
  simp only [syTo, List.nil_append, List.append_assoc]
theorem syRow_ok (row : List Int) : ∀ (l v : List Int), Ws l → Ws v → v.length = 9 → Ws (syRow row l v).1 ∧ Ws (syRow row l v).2 ∧ (syRow row l v).2.length = 9 ∧ (syRow row l v).1.length = l.length
  | [], u, _, hu, hl => ⟨Ws_nil, hu, hl, rfl⟩
  | s :: l, u, h, hu, hl => by
    have hs := h s List.mem_cons_self
    obtain ⟨a, b, c⟩ := sy_ok row u 8 s [] hs Ws_nil
    obtain ⟨d, e, f, g⟩ := syRow_ok row l (synthAt row u 8 s []).2 (fun z hz => h z (List.mem_cons_of_mem _ hz)) b c
    exact ⟨Ws_cons a d, e, f, by show (_ :: _).length = _; rw [List.length_cons, g, List.length_cons]⟩
theorem syTo_ok (rp : Nat → List Int) {l u : List Int} (h : Ws l) (hu : Ws u) (hl : u.length = 9) : ∀ i, Ws (syTo rp l u i).1 ∧ Ws (syTo rp l u i).2 ∧ (syTo rp l u i).2.length = 9
  | 0 => ⟨Ws_nil, hu, hl⟩
  | i + 1 => by
    obtain ⟨a, b, c⟩ := syTo_ok rp h hu hl i
    obtain ⟨d, e, f, _⟩ := syRow_ok (rp i) (cutOf l i) (syTo rp l u i).2 (cutOf_W h i) b c
    exact ⟨Ws_append a d, e, f⟩
theorem synth_ok (rp : Nat → List Int) {l u : List Int} (h : Ws l) (hu : Ws u) (hl : u.length = 9) (h160 : l.length = 160) :
    Ws (synth rp 0 l u).1 ∧ Ws (synth rp 0 l u).2 ∧ (synth rp 0 l u).2.length = 9 := by
  rw [← sy_four rp u h160]; exact syTo_ok rp h hu hl 4
theorem synth_len (rp : Nat → List Int) : ∀ (l : List Int) (i : Nat) (u : List Int), (synth rp i l u).1.length = l.length
  | [], _, _ => rfl
  | s :: l, i, u => by rw [sy_cons, List.length_cons, synth_len rp l, List.length_cons]
theorem post_ok : ∀ (l : List Int) (m : Int), W m → W (post l m).2 ∧ (post l m).1.length = l.length
  | [], m, h => ⟨h, rfl⟩
  | s :: l, m, h => by
    obtain ⟨a, b⟩ := post_ok l (add s (mulR m 28180)) (add_W _ _)
    exact ⟨a, by show (_ :: _).length = _; rw [List.length_cons, b, List.length_cons]⟩
/-! step 7 -/
def atLag (h : List Int) (lag : Nat) : List Int := (h.drop (120 - lag)).take 40
theorem atLag_eq {h : List Int} (hl : h.length = 120) {lag : Nat} (h1 : 40 ≤ lag) (h2 : lag ≤ 120) : atLag h lag = (List.range 40).map fun k => before h lag k := by
  have hlen : (atLag h lag).length = 40 := by unfold atLag; rw [List.length_take, List.length_drop]; omega
  rw [list_range (atLag h lag), hlen]
  apply List.map_congr_left
  intro k hk
  have := List.mem_range.mp hk
  unfold atLag before
  rw [at_take (by omega), at_drop]
  congr 1; omega
theorem atLag_len {h : List Int} (hl : h.length = 120) {lag : Nat} (h1 : 40 ≤ lag) (h2 : lag ≤ 120) : (atLag h lag).length = 40 := by
  rw [atLag_eq hl h1 h2]; simp
theorem atLag_W {h : List Int} (hw : Ws h) (lag : Nat) : Ws (atLag h lag) := Ws_take _ (Ws_drop _ hw)
def goes (w h : List Int) (lag : Nat) : Int := Ra26.sum 40 fun k => at_ w k * before h lag k
theorem goes_eq {w h : List Int} (hw : w.length = 40) (hl : h.length = 120) {lag : Nat} (h1 : 40 ≤ lag) (h2 : lag ≤ 120) :
    (List.zipWith (fun a b => a * b) w (atLag h lag)).sum = goes w h lag := by
  rw [zipWith_range (n := 40) _ (by rw [hw, atLag_len hl h1 h2]; rfl), sum_range]
  apply sum_congr
  intro i hi
  rw [atLag_eq hl h1 h2, at_map_range _ hi]
/-- the best of the first n lags -/
def bestTo (w h : List Int) (n : Nat) : Int × Nat := (List.range n).foldl (fun (x : Int × Nat) i => if x.1 < goes w h (40 + i) then (goes w h (40 + i), 40 + i) else x) (0, 40)
theorem bestTo_zero (w h : List Int) : bestTo w h 0 = (0, 40) := rfl
theorem bestTo_succ (w h : List Int) (n : Nat) : bestTo w h (n + 1) = if (bestTo w h n).1 < goes w h (40 + n) then (goes w h (40 + n), 40 + n) else bestTo w h n := by
  unfold bestTo; rw [List.range_succ, List.foldl_append]; rfl
theorem bestTo_ok (w h : List Int) : ∀ n, n ≤ 81 → 40 ≤ (bestTo w h n).2 ∧ (bestTo w h n).2 ≤ 120 ∧ 0 ≤ (bestTo w h n).1 ∧
    ((0 < (bestTo w h n).1 ∧ goes w h (bestTo w h n).2 = (bestTo w h n).1) ∨ ((bestTo w h n) = (0, 40) ∧ (1 ≤ n → goes w h 40 ≤ 0)))
  | 0, _ => ⟨Nat.le_refl 40, (by decide : 40 ≤ 120), Int.le_refl 0, .inr ⟨rfl, fun h => absurd h (by decide)⟩⟩
  | n + 1, hn => by
    obtain ⟨a, b, c, d⟩ := bestTo_ok w h n (by omega)
    rw [bestTo_succ]
    by_cases q : (bestTo w h n).1 < goes w h (40 + n)
    · rw [if_pos q]
      exact ⟨by show 40 ≤ 40 + n; omega, by show 40 + n ≤ 120; omega, by show 0 ≤ goes w h (40 + n); omega, .inl ⟨by show 0 < goes w h (40 + n); omega, rfl⟩⟩
    · rw [if_neg q]
      refine ⟨a, b, c, ?_⟩
      rcases d with d | ⟨d, e⟩
      · exact .inl d
      · refine .inr ⟨d, fun _ => ?_⟩
        by_cases z : n = 0
        · rw [d, z] at q; exact Int.not_lt.mp q
        · exact e (by omega)
/-- its sum, or 0 -/
theorem best_fit (w h : List Int) : (if goes w h (bestTo w h 81).2 > 0 then goes w h (bestTo w h 81).2 else 0) = (bestTo w h 81).1 := by
  obtain ⟨_, _, c, d⟩ := bestTo_ok w h 81 (by decide)
  rcases d with ⟨d, e⟩ | ⟨d, e⟩
  · rw [e, if_pos d]
  · rw [d]; exact if_neg (by have := e (by decide); show ¬ goes w h 40 > 0; omega)
def powerOf (h : List Int) (lag : Nat) : Int := 2 * Ra26.sum 40 fun k => (shr (before h lag k) 3) * (shr (before h lag k) 3)
def gainOf (most power : Int) : Nat := if most ≤ 0 then 0 else if power ≤ most then 3 else
    if most * 2 ^ norm power / 65536 ≤ mul (power * 2 ^ norm power / 65536) (at_ EDGE 0) then 0 else if most * 2 ^ norm power / 65536 ≤ mul (power * 2 ^ norm power / 65536) (at_ EDGE 1) then 1 else
      if most * 2 ^ norm power / 65536 ≤ mul (power * 2 ^ norm power / 65536) (at_ EDGE 2) then 2 else 3
theorem lagOf_eq (d h : List Int) : lagOf d h = ((bestTo (d.map fun x => x / 2 ^ kOf 6 (peak d)) h 81).2,
    gainOf (2 * (bestTo (d.map fun x => x / 2 ^ kOf 6 (peak d)) h 81).1 / 2 ^ (6 - kOf 6 (peak d))) (powerOf h (bestTo (d.map fun x => x / 2 ^ kOf 6 (peak d)) h 81).2)) := by
  have e : (if peak d = 0 then 0 else if 6 < norm (peak d * 65536) then 0 else 6 - norm (peak d * 65536)) = kOf 6 (peak d) := by
    unfold kOf; split
    · rfl
    · split
      · omega
      · rfl
  unfold lagOf
  dsimp only
  rw [e]
  rfl
theorem gainOf_le (m p : Int) : gainOf m p ≤ 3 := by unfold gainOf; repeat' (split <;> try decide)
theorem power_eq {h : List Int} (hl : h.length = 120) {lag : Nat} (h1 : 40 ≤ lag) (h2 : lag ≤ 120) : 2 * ((atLag h lag).map fun v => v / 8 * (v / 8)).sum = powerOf h lag := by
  unfold powerOf
  rw [atLag_eq hl h1 h2, List.map_map, sum_range]
  rfl
theorem power_bd {h : List Int} (hw : Ws h) (lag : Nat) : 0 ≤ powerOf h lag ∧ powerOf h lag ≤ 1342177280 := by
  unfold powerOf
  have s1 := sum_nn (n := 40) (f := fun k => shr (before h lag k) 3 * shr (before h lag k) 3) fun i => sq_nn _
  have s2 := sum_le (n := 40) (f := fun k => shr (before h lag k) 3 * shr (before h lag k) 3) (g := fun _ => 16777216) fun i hi => by
    have hx : W (before h lag i) := Ws_at hw _
    unfold shr
    have e : ((2 : Int) ^ 3) = 8 := by decide
    rw [e]
    generalize before h lag i = x at hx
    unfold W at hx
    have h1 : (x / 8).natAbs ≤ 4096 := by omega
    have h2 := Nat.mul_le_mul h1 h1
    rw [← Int.natAbs_mul_self]
    omega
  rw [sum_const] at s2
  omega
theorem lagOf_bd (d h : List Int) : 40 ≤ (lagOf d h).1 ∧ (lagOf d h).1 ≤ 120 ∧ (lagOf d h).2 ≤ 3 := by
  rw [lagOf_eq]
  obtain ⟨a, b, _⟩ := bestTo_ok (d.map fun x => x / 2 ^ kOf 6 (peak d)) h 81 (by decide)
  exact ⟨a, b, gainOf_le _ _⟩
def fore (h : List Int) (lag gain : Nat) : List Int := (List.range 40).map fun k => mulR (at_ GAIN gain) (before h lag k)
theorem fore_eq {h : List Int} (hl : h.length = 120) {lag : Nat} (h1 : 40 ≤ lag) (h2 : lag ≤ 120) (gain : Nat) : (atLag h lag).map (fun v => mulR (at_ GAIN gain) v) = fore h lag gain := by
  rw [atLag_eq hl h1 h2, List.map_map]; rfl
theorem fore_len (h : List Int) (lag gain : Nat) : (fore h lag gain).length = 40 := by simp [fore]
theorem fore_W (h : List Int) (lag gain : Nat) : Ws (fore h lag gain) := Ws_map _ fun _ => mulR_W _ _
end Pv
namespace Pv
open Ra26
/-! step 8 -/
def pad (e : List Int) : List Int := List.replicate 5 0 ++ e ++ List.replicate 5 0
def wOne (win : List Int) : Int := stop16 ((4096 + (List.zipWith (fun a b => a * b) win TAPS).sum) / 8192)
theorem weighted_eq {e : List Int} (h : e.length = 40) : (List.range 40).map (fun k => wOne (((pad e).drop k).take 11)) = weighted e := by
  unfold weighted
  apply List.map_congr_left
  intro k hk
  have hk := List.mem_range.mp hk
  have lp : (pad e).length = 50 := by simp [pad, h]
  unfold wOne
  rw [zipWith_range (n := 11) _ (by rw [List.length_take, List.length_drop, lp]; show 11 = min (min 11 (50 - k)) 11; omega), sum_range]
  congr 3
  apply sum_congr
  intro i hi
  rw [at_take hi, at_drop]
  unfold pad
  by_cases c : k + i < 5
  · rw [if_pos c, List.append_assoc, at_append_l (by simp; omega), at_replicate, Int.zero_mul]
  · rw [if_neg c, List.append_assoc, at_append_r (by simp; omega)]
    have e5 : k + i - (List.replicate 5 (0 : Int)).length = k + i - 5 := by simp
    rw [e5]
    by_cases d : k + i - 5 < e.length
    · rw [at_append_l d]
    · rw [at_append_r (by omega), at_replicate, at_out (l := e) (by omega)]
theorem weighted_len (e : List Int) : (weighted e).length = 40 := by simp [weighted]
theorem weighted_W (e : List Int) : Ws (weighted e) := Ws_map _ fun _ => stop16_W _
def onGrid (x : List Int) (m : Nat) : List Int := (List.range 13).map fun i => at_ x (m + 3 * i)
theorem onGrid_len (x : List Int) (m : Nat) : (onGrid x m).length = 13 := by simp [onGrid]
theorem onGrid_W {x : List Int} (h : Ws x) (m : Nat) : Ws (onGrid x m) := Ws_map _ fun _ => Ws_at h _
def energy (v : List Int) : Int := (v.map fun x => x / 4 * (x / 4)).sum
def en (x : List Int) (m : Nat) : Int := Ra26.sum 13 fun i => shr (at_ x (m + 3 * i)) 2 * shr (at_ x (m + 3 * i)) 2
theorem energy_eq (x : List Int) (m : Nat) : energy (onGrid x m) = en x m := by
  unfold energy onGrid en
  rw [List.map_map, sum_range]; rfl
theorem grid_is (x : List Int) {j : Nat} (hj : j < 4) (hm : ∀ i, i < 4 → en x i ≤ en x j) (hf : ∀ i, i < j → en x i ≠ en x j) : gridOf x = j := by
  have e : gridOf x = ([0, 1, 2, 3].foldl (fun (b : Int × Nat) m => if b.1 < en x m then (en x m, m) else b) (en x 0, 0)).2 := rfl
  rw [e]
  simp only [List.foldl_cons, List.foldl_nil]
  have m0 := hm 0 (by decide)
  have m1 := hm 1 (by decide)
  have m2 := hm 2 (by decide)
  have m3 := hm 3 (by decide)
  have c : j = 0 ∨ j = 1 ∨ j = 2 ∨ j = 3 := by omega
  have f : ∀ i, i < j → en x i < en x j := fun i hi => by
    have a := hf i hi
    have b := hm i (by omega)
    omega
  rw [if_neg (Int.lt_irrefl _)]
  rcases c with c | c | c | c <;> subst c
  · simp only [if_neg (Int.not_lt.mpr m1), if_neg (Int.not_lt.mpr m2), if_neg (Int.not_lt.mpr m3)]
  · have f0 := f 0 (by decide)
    simp only [if_pos f0, if_neg (Int.not_lt.mpr m2), if_neg (Int.not_lt.mpr m3)]
  · have f0 := f 0 (by decide)
    have f1 := f 1 (by decide)
    by_cases q : en x 0 < en x 1
    · simp only [if_pos q, if_pos f1, if_neg (Int.not_lt.mpr m3)]
    · simp only [if_neg q, if_pos f0, if_neg (Int.not_lt.mpr m3)]
  · have f0 := f 0 (by decide)
    have f1 := f 1 (by decide)
    have f2 := f 2 (by decide)
    by_cases q : en x 0 < en x 1
    · simp only [if_pos q]
      by_cases q2 : en x 1 < en x 2
      · simp only [if_pos q2, if_pos f2]
      · simp only [if_neg q2, if_pos f1]
    · simp only [if_neg q]
      by_cases q2 : en x 0 < en x 2
      · simp only [if_pos q2, if_pos f2]
      · simp only [if_neg q2, if_pos f0]
theorem gridOf_lt (x : List Int) : gridOf x < 4 := by
  have e : gridOf x = ([0, 1, 2, 3].foldl (fun (b : Int × Nat) m => if b.1 < en x m then (en x m, m) else b) (en x 0, 0)).2 := rfl
  rw [e]
  simp only [List.foldl_cons, List.foldl_nil]
  repeat' split
  all_goals (first | decide | (simp only; omega) | skip)
/-- how many of z / 512 .. are above 0 -/
def cnt (m : Int) : Nat → Nat
  | 0 => 0
  | i + 1 => if 0 < m / 2 ^ (9 + i) then cnt m i + 1 else cnt m i
theorem takeW {m : Int} (h0 : 0 ≤ m) (h1 : m ≤ 32767) : ((List.range 6).takeWhile fun i => decide (0 < m / 512 / 2 ^ i)).length = cnt m 6 ∧
    ((cnt m 6 = 0 ∧ m < 512) ∨ (cnt m 6 = 1 ∧ 512 ≤ m ∧ m < 1024) ∨ (cnt m 6 = 2 ∧ 1024 ≤ m ∧ m < 2048) ∨ (cnt m 6 = 3 ∧ 2048 ≤ m ∧ m < 4096) ∨ (cnt m 6 = 4 ∧ 4096 ≤ m ∧ m < 8192) ∨ (cnt m 6 = 5 ∧ 8192 ≤ m ∧ m < 16384) ∨ (cnt m 6 = 6 ∧ 16384 ≤ m)) := by
  have er : List.range 6 = [0, 1, 2, 3, 4, 5] := rfl
  rw [er]
  have p : ∀ (i : Nat) (c : Int), (2 : Int) ^ (9 + i) = c → 0 < c → (0 < m / 2 ^ (9 + i) ↔ c ≤ m) := fun i c e hc => by
    rw [e]
    constructor
    · intro q
      by_cases z : c ≤ m
      · exact z
      · rw [Int.ediv_eq_zero_of_lt h0 (by omega)] at q; omega
    · intro q
      have := Int.ediv_le_ediv hc q
      rw [Int.ediv_self (by omega)] at this
      omega
  have q : ∀ i : Nat, m / 512 / 2 ^ i = m / 2 ^ (9 + i) := fun i => by
    rw [Int.ediv_ediv, if_neg (fun q => absurd q.1 (by decide)), Int.sub_zero, Int.pow_add]; rfl
  have p0 := p 0 512 (by decide) (by decide)
  have p1 := p 1 1024 (by decide) (by decide)
  have p2 := p 2 2048 (by decide) (by decide)
  have p3 := p 3 4096 (by decide) (by decide)
  have p4 := p 4 8192 (by decide) (by decide)
  have p5 := p 5 16384 (by decide) (by decide)
  simp only [q, cnt, List.takeWhile, p0, p1, p2, p3, p4, p5]
  by_cases c0 : 512 ≤ m
  · by_cases c1 : 1024 ≤ m
    · by_cases c2 : 2048 ≤ m
      · by_cases c3 : 4096 ≤ m
        · by_cases c4 : 8192 ≤ m
          · by_cases c5 : 16384 ≤ m
            · simp [c0, c1, c2, c3, c4, c5]
            · simp [c0, c1, c2, c3, c4, c5]; omega
          · have c5 : ¬ 16384 ≤ m := by omega
            simp [c0, c1, c2, c3, c4, c5]; omega
        · have c5 : ¬ 16384 ≤ m := by omega
          have c4 : ¬ 8192 ≤ m := by omega
          simp [c0, c1, c2, c3, c4, c5]; omega
      · have c5 : ¬ 16384 ≤ m := by omega
        have c4 : ¬ 8192 ≤ m := by omega
        have c3 : ¬ 4096 ≤ m := by omega
        simp [c0, c1, c2, c3, c4, c5]; omega
    · have c5 : ¬ 16384 ≤ m := by omega
      have c4 : ¬ 8192 ≤ m := by omega
      have c3 : ¬ 4096 ≤ m := by omega
      have c2 : ¬ 2048 ≤ m := by omega
      simp [c0, c1, c2, c3, c4, c5]; omega
  · have c5 : ¬ 16384 ≤ m := by omega
    have c4 : ¬ 8192 ≤ m := by omega
    have c3 : ¬ 4096 ≤ m := by omega
    have c2 : ¬ 2048 ≤ m := by omega
    have c1 : ¬ 1024 ≤ m := by omega
    simp [c0, c1, c2, c3, c4, c5]; omega
theorem sizeCode_eq {m : Int} (h0 : 0 ≤ m) (h1 : m ≤ 32767) : sizeCode m = m / 2 ^ (cnt m 6 + 5) + 8 * (cnt m 6 : Int) := by
  unfold sizeCode
  dsimp only
  rw [(takeW h0 h1).1]
/-- the greatest number of a size's code -/
def top (c : Int) : Int := if c ≤ 15 then 32 * c + 31 else (c - 8 * (c / 8 - 1) + 1) * 2 ^ ((c / 8 - 1).toNat + 5) - 1
theorem sizeCode_bd {m : Int} (h0 : 0 ≤ m) (h1 : m ≤ 32767) : 0 ≤ sizeCode m ∧ sizeCode m ≤ 63 ∧ m ≤ top (sizeCode m) ∧ (m = 32767 → sizeCode m = 63) := by
  rw [sizeCode_eq h0 h1]
  have key : ∀ (n : Nat) (a b : Int), a ≤ m → m < b → ((2 : Int) ^ (n + 5)) * 8 = a ∨ (n = 0 ∧ a = 0) → (2 : Int) ^ (n + 5) * 16 = b → n ≤ 6 →
      0 ≤ m / 2 ^ (n + 5) + 8 * (n : Int) ∧ m / 2 ^ (n + 5) + 8 * (n : Int) ≤ 63 ∧ m ≤ top (m / 2 ^ (n + 5) + 8 * (n : Int)) := by
    intro n a b ha hb e1 e2 hn
    have hp := tp (n + 5)
    have d1 := Int.mul_ediv_add_emod m (2 ^ (n + 5))
    have d2 := Int.emod_nonneg m (Int.ne_of_gt hp)
    have d3 := Int.emod_lt_of_pos m hp
    have d4 : m / 2 ^ (n + 5) < 16 := Int.ediv_lt_of_lt_mul hp (by rw [Int.mul_comm, e2]; exact hb)
    have d5 : 0 ≤ m / 2 ^ (n + 5) := Int.ediv_nonneg h0 (Int.le_of_lt hp)
    rcases e1 with e1 | ⟨z, _⟩
    · have d6 : 8 ≤ m / 2 ^ (n + 5) := by
        have := Int.ediv_le_ediv hp ha
        rw [← e1, Int.mul_ediv_cancel_left _ (Int.ne_of_gt hp)] at this
        exact this
      by_cases z : n = 0
      · subst z
        generalize hq : m / 2 ^ (0 + 5) = v at *
        have e5 : (2 : Int) ^ (0 + 5) = 32 := by decide
        rw [e5] at d1 d3
        refine ⟨by omega, by omega, ?_⟩
        unfold top
        rw [if_pos (by omega)]
        omega
      · generalize hq : m / 2 ^ (n + 5) = v at *
        have ec : (v + 8 * (n : Int)) / 8 - 1 = (n : Int) := by omega
        refine ⟨by omega, by omega, ?_⟩
        unfold top
        rw [if_neg (by omega), ec, Int.toNat_natCast]
        have e7 : v + 8 * (n : Int) - 8 * (n : Int) + 1 = v + 1 := by omega
        rw [e7, Int.add_mul, Int.mul_comm v, Int.one_mul]
        omega
    · subst z
      generalize hq : m / 2 ^ (0 + 5) = v at *
      have e5 : (2 : Int) ^ (0 + 5) = 32 := by decide
      rw [e5] at d1 d3
      refine ⟨by omega, by omega, ?_⟩
      unfold top
      rw [if_pos (by omega)]
      omega
  have last : m = 32767 → m / 2 ^ (cnt m 6 + 5) + 8 * (cnt m 6 : Int) = 63 := fun e => by rw [e]; decide
  have fin : 0 ≤ m / 2 ^ (cnt m 6 + 5) + 8 * (cnt m 6 : Int) ∧ m / 2 ^ (cnt m 6 + 5) + 8 * (cnt m 6 : Int) ≤ 63 ∧ m ≤ top (m / 2 ^ (cnt m 6 + 5) + 8 * (cnt m 6 : Int)) := by
    rcases (takeW h0 h1).2 with ⟨e, q⟩ | ⟨e, q, r⟩ | ⟨e, q, r⟩ | ⟨e, q, r⟩ | ⟨e, q, r⟩ | ⟨e, q, r⟩ | ⟨e, q⟩ <;> rw [e]
    · exact key 0 0 512 h0 q (.inr ⟨rfl, rfl⟩) (by decide) (by decide)
    · exact key 1 512 1024 q r (.inl (by decide)) (by decide) (by decide)
    · exact key 2 1024 2048 q r (.inl (by decide)) (by decide) (by decide)
    · exact key 3 2048 4096 q r (.inl (by decide)) (by decide) (by decide)
    · exact key 4 4096 8192 q r (.inl (by decide)) (by decide) (by decide)
    · exact key 5 8192 16384 q r (.inl (by decide)) (by decide) (by decide)
    · exact key 6 16384 32768 q (by omega) (.inl (by decide)) (by decide) (by decide)
  exact ⟨fin.1, fin.2.1, fin.2.2, last⟩
end Pv
namespace Pv
open Ra26
/-! step 9 -/
def exp0 (c : Int) : Int := if 15 < c then c / 8 - 1 else 0
theorem sizeOf_zero {c : Int} (h : c - 8 * exp0 c = 0) : sizeOf_ c = (-4, 7) := by
  unfold sizeOf_; exact if_pos h
theorem sizeOf_grown {c : Int} (h : ¬ c - 8 * exp0 c = 0) : sizeOf_ c = ((grown 3 (exp0 c) (c - 8 * exp0 c)).1, (grown 3 (exp0 c) (c - 8 * exp0 c)).2 - 8) := by
  unfold sizeOf_; exact if_neg h
theorem grown_go (k : Nat) {e m : Int} (h : m ≤ 7) : grown (k + 1) e m = grown k (e - 1) (2 * m + 1) := by
  conv => lhs; unfold grown
  rw [if_pos h]
theorem grown_end (k : Nat) {e m : Int} (h : ¬ m ≤ 7) : grown k e m = (e, m) := by
  cases k with
  | zero => rfl
  | succ k => unfold grown; rw [if_neg h]
theorem exp0_bd {c : Int} (h0 : 0 ≤ c) (h1 : c ≤ 63) : 0 ≤ c - 8 * exp0 c ∧ c - 8 * exp0 c ≤ 15 := by
  unfold exp0; split <;> omega
/-- every code of a size, looked at -/
def okCode (n : Nat) : Bool :=
  let c : Int := n
  let s := sizeOf_ c
  let sh : Nat := (6 - s.1).toNat
  decide (-4 ≤ s.1) && decide (s.1 ≤ 6) && decide (0 ≤ s.2) && decide (s.2 ≤ 7) && decide (0 ≤ at_ REDUCE s.2.toNat) && decide (0 ≤ top c) && decide (top c * 2 ^ sh ≤ 32767) && decide (top c * 2 ^ sh * at_ REDUCE s.2.toNat / 32768 ≤ 16383) &&
    decide (-16384 ≤ -(top c * 2 ^ sh * at_ REDUCE s.2.toNat) / 32768)
theorem ok_all : (List.range 64).all okCode = true := by decide +kernel
theorem ok_at {c : Int} (h0 : 0 ≤ c) (h1 : c ≤ 63) : -4 ≤ (sizeOf_ c).1 ∧ (sizeOf_ c).1 ≤ 6 ∧ 0 ≤ (sizeOf_ c).2 ∧ (sizeOf_ c).2 ≤ 7 ∧ 0 ≤ at_ REDUCE (sizeOf_ c).2.toNat ∧ 0 ≤ top c ∧ top c * 2 ^ (6 - (sizeOf_ c).1).toNat ≤ 32767 ∧
    top c * 2 ^ (6 - (sizeOf_ c).1).toNat * at_ REDUCE (sizeOf_ c).2.toNat / 32768 ≤ 16383 ∧ -16384 ≤ -(top c * 2 ^ (6 - (sizeOf_ c).1).toNat * at_ REDUCE (sizeOf_ c).2.toNat) / 32768 := by
  have h := List.all_eq_true.mp ok_all c.toNat (List.mem_range.mpr (by omega))
  have e : ((c.toNat : Nat) : Int) = c := by omega
  unfold okCode at h
  dsimp only at h
  rw [e] at h
  simp only [Bool.and_eq_true, decide_eq_true_eq] at h
  obtain ⟨⟨⟨⟨⟨⟨⟨⟨a, b⟩, c'⟩, d⟩, e'⟩, f⟩, g⟩, i⟩, j⟩ := h
  exact ⟨a, b, c', d, e', f, g, i, j⟩
theorem pulseCode_bd {m x : Int} (h0 : 0 ≤ m) (h1 : m ≤ 32767) (hx : W x) (hm : abs_ x ≤ m) : 0 ≤ pulseCode (sizeCode m) x ∧ pulseCode (sizeCode m) x ≤ 7 ∧ -32768 ≤ x * 2 ^ (6 - (sizeOf_ (sizeCode m)).1).toNat := by
  obtain ⟨c0, c1, c2, c3⟩ := sizeCode_bd h0 h1
  by_cases z : x = -32768
  · have e : m = 32767 := by
      rw [z] at hm
      have : abs_ (-32768) = 32767 := rfl
      rw [this] at hm
      simp only [N] at hm
      omega
    rw [c3 e, z]
    decide
  · generalize sizeCode m = c at *
    obtain ⟨a1, a2, a3, a4, a5, a6, a7, a8, a9⟩ := ok_at c0 c1
    have hb : -(top c) ≤ x ∧ x ≤ top c := by
      unfold abs_ at hm
      rw [if_neg z] at hm
      simp only [N] at *
      split at hm <;> omega
    unfold pulseCode
    dsimp only
    have p := tp (6 - (sizeOf_ c).1).toNat
    generalize (2 : Int) ^ (6 - (sizeOf_ c).1).toNat = P at *
    generalize at_ REDUCE (sizeOf_ c).2.toNat = R at *
    simp only [N] at *
    have b1 := Int.mul_le_mul_of_nonneg_right hb.1 (Int.le_of_lt p)
    have b2 := Int.mul_le_mul_of_nonneg_right hb.2 (Int.le_of_lt p)
    rw [Int.neg_mul] at b1
    have w : cut (x * P) = x * P := cut_in' (by omega) (by omega)
    rw [w]
    have d1 := Int.mul_le_mul_of_nonneg_right b1 a5
    have d2 := Int.mul_le_mul_of_nonneg_right b2 a5
    rw [Int.neg_mul] at d1
    have f1 := Int.le_trans a9 (Int.ediv_le_ediv (by decide : (0 : Int) < 32768) d1)
    have f2 := Int.le_trans (Int.ediv_le_ediv (by decide : (0 : Int) < 32768) d2) a8
    have g : mul (x * P) R = x * P * R / 32768 := stop16_in' (by omega) (by omega)
    rw [g]
    unfold shr
    have e12 : (2 : Int) ^ 12 = 4096 := by decide
    rw [e12]
    simp only [N] at *
    omega
/-! step 10 -/
theorem pulse_py {c k : Int} (h0 : 0 ≤ c) (h1 : c ≤ 63) (k0 : 0 ≤ k) (k1 : k ≤ 7) :
    pulse c k = add (mulR (at_ FACTOR (sizeOf_ c).2.toNat) (4096 * (2 * k - 7))) (1 * 2 ^ (6 - (sizeOf_ c).1).toNat / 2) / 2 ^ (6 - (sizeOf_ c).1).toNat := by
  obtain ⟨a1, a2, a3, a4, _⟩ := ok_at h0 h1
  unfold pulse
  dsimp only
  have w : cut ((2 * k - 7) * 4096) = 4096 * (2 * k - 7) := by
    rw [Int.mul_comm]; exact cut_in' (by omega) (by omega)
  rw [w]
  generalize mulR (at_ FACTOR (sizeOf_ c).2.toNat) (4096 * (2 * k - 7)) = y
  generalize (sizeOf_ c).1 = e at *
  have cs : e = -4 ∨ e = -3 ∨ e = -2 ∨ e = -1 ∨ e = 0 ∨ e = 1 ∨ e = 2 ∨ e = 3 ∨ e = 4 ∨ e = 5 ∨ e = 6 := by omega
  rcases cs with q | q | q | q | q | q | q | q | q | q | q <;> subst q <;> rfl
theorem pulse_W {c k : Int} (h0 : 0 ≤ c) (h1 : c ≤ 63) (k0 : 0 ≤ k) (k1 : k ≤ 7) : W (pulse c k) := by
  rw [pulse_py h0 h1 k0 k1]
  have h := add_W (mulR (at_ FACTOR (sizeOf_ c).2.toNat) (4096 * (2 * k - 7))) (1 * 2 ^ (6 - (sizeOf_ c).1).toNat / 2)
  obtain ⟨a1, a2, _⟩ := ok_at h0 h1
  generalize add (mulR (at_ FACTOR (sizeOf_ c).2.toNat) (4096 * (2 * k - 7))) (1 * 2 ^ (6 - (sizeOf_ c).1).toNat / 2) = y at *
  generalize (sizeOf_ c).1 = e at *
  have cs : e = -4 ∨ e = -3 ∨ e = -2 ∨ e = -1 ∨ e = 0 ∨ e = 1 ∨ e = 2 ∨ e = 3 ∨ e = 4 ∨ e = 5 ∨ e = 6 := by omega
  unfold W at *
  rcases cs with q | q | q | q | q | q | q | q | q | q | q <;> subst q <;> simp only [Int.reduceSub, Int.reduceNeg, Int.reduceToNat, Int.reducePow] <;> omega
/-- the first n of the pulses laid on their grid -/
def laidTo (m : Nat) (p : List Int) (n : Nat) : List Int := (List.range 40).map fun k => if m ≤ k ∧ (k - m) % 3 = 0 ∧ (k - m) / 3 < n then at_ p ((k - m) / 3) else 0
theorem laid_zero (m : Nat) (p : List Int) : laidTo m p 0 = List.replicate 40 0 := by
  unfold laidTo
  have : ∀ k, (if m ≤ k ∧ (k - m) % 3 = 0 ∧ (k - m) / 3 < 0 then at_ p ((k - m) / 3) else 0) = 0 := fun k => if_neg (by omega)
  simp only [this]
  rw [List.map_const', List.length_range]
theorem laid_succ {m n : Nat} (p : List Int) (h : m + 3 * n < 40) : (laidTo m p n).set (m + 3 * n) (at_ p n) = laidTo m p (n + 1) := by
  apply List.ext_getElem?
  intro k
  unfold laidTo
  rw [List.getElem?_set]
  by_cases q : m + 3 * n = k
  · subst q
    rw [if_pos rfl, if_pos (by simp; omega)]
    have e1 : (m + 3 * n - m) / 3 = n := by omega
    have e2 : m ≤ m + 3 * n ∧ (m + 3 * n - m) % 3 = 0 ∧ (m + 3 * n - m) / 3 < n + 1 := by omega
    simp [h]
  · rw [if_neg q]
    by_cases hk : k < 40
    · simp [hk]
      by_cases c : m ≤ k ∧ (k - m) % 3 = 0 ∧ (k - m) / 3 < n
      · rw [if_pos c, if_pos ⟨c.1, c.2.1, by omega⟩]
      · rw [if_neg c, if_neg (fun d => c ⟨d.1, d.2.1, by omega⟩)]
    · simp [Nat.not_lt.mp hk]
theorem laid_all (m : Nat) (p : List Int) : laidTo m p 13 = placed m p := rfl
theorem laid_len (m : Nat) (p : List Int) (n : Nat) : (laidTo m p n).length = 40 := by simp [laidTo]
theorem placed_len (m : Nat) (p : List Int) : (placed m p).length = 40 := by simp [placed]
theorem placed_W (m : Nat) {p : List Int} (h : Ws p) : Ws (placed m p) := fun z hz => by
  obtain ⟨k, _, e⟩ := List.mem_map.mp hz
  rw [← e]
  split
  · exact Ws_at h _
  · exact W0
def built (aw : List Int) (m : Nat) (c : Int) (pulses : List Int) : List Int := List.zipWith (fun a b => add a b) (placed m (pulses.map fun k => pulse c k)) aw
theorem built_len {aw : List Int} (m : Nat) (c : Int) (pulses : List Int) (h : aw.length = 40) : (built aw m c pulses).length = 40 := by
  unfold built; rw [List.length_zipWith, placed_len, h]; rfl
theorem built_W (aw : List Int) (m : Nat) (c : Int) (pulses : List Int) : Ws (built aw m c pulses) := Ws_zipWith (fun _ _ => add_W _ _) _ _
theorem built_eq {aw : List Int} (m : Nat) (c : Int) (pulses : List Int) (h : aw.length = 40) : (List.range 40).map (fun k => add (at_ (placed m (pulses.map fun k => pulse c k)) k) (at_ aw k)) = built aw m c pulses := by
  unfold built; rw [zipWith_range (n := 40) _ (by rw [placed_len, h]; rfl)]
/-! a quarter -/
def qX (d h : List Int) : List Int := weighted (List.zipWith (fun a b => sub a b) d (fore h (lagOf d h).1 (lagOf d h).2))
def qC (d h : List Int) : Int := sizeCode (peak (onGrid (qX d h) (gridOf (qX d h))))
def qP (d h : List Int) : List Int := (onGrid (qX d h) (gridOf (qX d h))).map fun y => pulseCode (qC d h) y
theorem quarter_eq {d : List Int} (h : List Int) (hd : d.length = 40) : quarter d h =
    (⟨(lagOf d h).1, (lagOf d h).2, gridOf (qX d h), qC d h, qP d h⟩, h.drop 40 ++ built (fore h (lagOf d h).1 (lagOf d h).2) (gridOf (qX d h)) (qC d h) (qP d h)) := by
  have e : (List.range 40).map (fun k => sub (at_ d k) (at_ (fore h (lagOf d h).1 (lagOf d h).2) k)) = List.zipWith (fun a b => sub a b) d (fore h (lagOf d h).1 (lagOf d h).2) := by
    rw [zipWith_range (n := 40) _ (by rw [fore_len, hd]; rfl)]
  have e2 := built_eq (aw := fore h (lagOf d h).1 (lagOf d h).2) (gridOf (qX d h)) (qC d h) (qP d h) (fore_len _ _ _)
  rw [← e2]
  unfold qP qC qX
  rw [← e]
  rfl
theorem qC_bd (d h : List Int) : 0 ≤ qC d h ∧ qC d h ≤ 63 := by
  have hw : Ws (onGrid (qX d h) (gridOf (qX d h))) := onGrid_W (weighted_W _) _
  have a := sizeCode_bd (peak_nn _) (peak_le hw)
  exact ⟨a.1, a.2.1⟩
theorem qP_bd (d h : List Int) : ∀ k ∈ qP d h, 0 ≤ k ∧ k ≤ 7 := fun k hk => by
  obtain ⟨x, hx, e⟩ := List.mem_map.mp hk
  have hw : Ws (onGrid (qX d h) (gridOf (qX d h))) := onGrid_W (weighted_W _) _
  have a := pulseCode_bd (peak_nn _) (peak_le hw) (hw x hx) (peak_ge hx)
  rw [← e]; exact ⟨a.1, a.2.1⟩
theorem qP_len (d h : List Int) : (qP d h).length = 13 := by simp [qP, onGrid_len]
end Pv
namespace Pv
open Ra26
/-! step 11: bits -/
def bit (b : Bool) : Nat := if b = true then 1 else 0
def vl (l : List Bool) : Nat := l.foldl (fun x b => 2 * x + bit b) 0
theorem vl_from : ∀ (l : List Bool) (a : Nat), l.foldl (fun x b => 2 * x + bit b) a = a * 2 ^ l.length + vl l
  | [], a => by simp [vl]
  | b :: l, a => by
    unfold vl
    rw [List.foldl_cons, List.foldl_cons, vl_from l, vl_from l (2 * 0 + bit b), List.length_cons, Nat.pow_succ]
    have e : (2 * a + bit b) * 2 ^ l.length = a * (2 ^ l.length * 2) + bit b * 2 ^ l.length := by
      rw [Nat.add_mul, Nat.mul_comm 2 a, Nat.mul_assoc, Nat.mul_comm 2 (2 ^ l.length)]
    rw [e]; simp; omega
theorem vl_append (a b : List Bool) : vl (a ++ b) = vl a * 2 ^ b.length + vl b := by
  show (a ++ b).foldl _ 0 = _
  rw [List.foldl_append, vl_from b]; rfl
theorem vl_cons (b : Bool) (l : List Bool) : vl (b :: l) = bit b * 2 ^ l.length + vl l := by
  have := vl_append [b] l
  have e : vl [b] = bit b := by simp [vl]
  rw [e] at this; exact this
theorem vl_lt : ∀ l : List Bool, vl l < 2 ^ l.length
  | [] => by decide
  | b :: l => by
    rw [vl_cons, List.length_cons, Nat.pow_succ]
    have := vl_lt l
    have h : bit b ≤ 1 := by unfold bit; split <;> decide
    have := Nat.mul_le_mul_right (2 ^ l.length) h
    omega
theorem bits_succ (n x : Nat) : bitsOf (n + 1) x = x.testBit n :: bitsOf n x := by
  unfold bitsOf
  rw [List.range_succ_eq_map, List.map_cons, List.map_map]
  congr 1
  apply List.map_congr_left
  intro i hi
  show x.testBit (n + 1 - 1 - (i + 1)) = x.testBit (n - 1 - i)
  congr 1; omega
theorem bits_len (n x : Nat) : (bitsOf n x).length = n := by simp [bitsOf]
theorem vl_bits (x : Nat) : ∀ n, vl (bitsOf n x) = x % 2 ^ n
  | 0 => by simp [bitsOf, vl, Nat.mod_one]
  | n + 1 => by
    rw [bits_succ, vl_cons, vl_bits x n, bits_len, Nat.mod_pow_succ]
    have e : bit (x.testBit n) = x / 2 ^ n % 2 := by
      unfold bit
      rw [Nat.testBit_eq_decide_div_mod_eq]
      by_cases q : x / 2 ^ n % 2 = 1
      · rw [if_pos (decide_eq_true q), q]
      · rw [if_neg (by simp [q])]; omega
    rw [e, Nat.mul_comm]; omega
theorem number_take (b : List Bool) (p : Nat) : ∀ n, p + n ≤ b.length → numberAt b p n = vl ((b.drop p).take n)
  | 0, _ => by simp [numberAt, vl]
  | n + 1, h => by
    have ih := number_take b p n (by omega)
    unfold numberAt at *
    rw [List.range_succ, List.foldl_append, ih]
    have e : (b.drop p).take (n + 1) = (b.drop p).take n ++ [b.getD (p + n) false] := by
      rw [List.take_add_one, List.getElem?_drop, List.getD_eq_getElem?_getD, List.getElem?_eq_getElem (by omega)]; rfl
    rw [e, vl_append]
    simp only [List.foldl_cons, List.foldl_nil, List.length_singleton, Nat.pow_one]
    have e2 : vl [b.getD (p + n) false] = bit (b.getD (p + n) false) := by simp [vl]
    rw [e2, Nat.mul_comm]; rfl
theorem number_eq (b : List Bool) (p n : Nat) (h : p + n ≤ b.length) : numberAt b p n = vl b / 2 ^ (b.length - p - n) % 2 ^ n := by
  rw [number_take b p n h]
  have e1 : b = b.take p ++ ((b.drop p).take n ++ (b.drop p).drop n) := by rw [List.take_append_drop, List.take_append_drop]
  have l2 : ((b.drop p).take n).length = n := by rw [List.length_take, List.length_drop]; omega
  have l3 : ((b.drop p).drop n).length = b.length - p - n := by rw [List.length_drop, List.length_drop]
  have e2 : vl b = (vl (b.take p) * 2 ^ n + vl ((b.drop p).take n)) * 2 ^ (b.length - p - n) + vl ((b.drop p).drop n) := by
    conv => lhs; rw [e1]
    rw [vl_append, vl_append, List.length_append, l2, l3, Nat.pow_add, Nat.add_mul, Nat.mul_assoc]; omega
  have lt3 := vl_lt ((b.drop p).drop n)
  have lt2 := vl_lt ((b.drop p).take n)
  rw [l3] at lt3
  rw [l2] at lt2
  rw [e2]
  have hp := Nat.two_pow_pos (b.length - p - n)
  rw [Nat.mul_comm _ (2 ^ (b.length - p - n)), Nat.mul_add_div hp, Nat.div_eq_of_lt lt3, Nat.add_zero, Nat.mul_comm (vl (b.take p)), Nat.mul_add_mod, Nat.mod_eq_of_lt lt2]
theorem number_lt (b : List Bool) (p n : Nat) (h : p + n ≤ b.length) : numberAt b p n < 2 ^ n := by
  rw [number_eq b p n h]; exact Nat.mod_lt _ (Nat.two_pow_pos n)
/-- widths and numbers, one behind another -/
def bitsAll (l : List (Nat × Nat)) : List Bool := l.flatMap fun p => bitsOf p.1 p.2
theorem vl_all : ∀ (l : List (Nat × Nat)) (a : List Bool), (∀ p ∈ l, p.2 < 2 ^ p.1) → vl (a ++ bitsAll l) = l.foldl (fun x p => x * 2 ^ p.1 + p.2) (vl a)
  | [], a, _ => by simp [bitsAll]
  | p :: l, a, h => by
    have e : a ++ bitsAll (p :: l) = (a ++ bitsOf p.1 p.2) ++ bitsAll l := by simp [bitsAll]
    rw [e, vl_all l _ (fun q hq => h q (List.mem_cons_of_mem _ hq)), vl_append, bits_len, vl_bits, Nat.mod_eq_of_lt (h p List.mem_cons_self)]
    rfl
def QW : List Nat := [7, 2, 2, 6, 3, 3, 3, 3, 3, 3, 3, 3, 3, 3, 3, 3, 3]
def WD : List Nat := SIZES ++ (QW ++ (QW ++ (QW ++ QW)))
def subCodes (q : Sub) : List Int := [(q.lag : Int), (q.gain : Int), (q.grid : Int), q.size] ++ q.pulses
def codesOf (f : Frame) : List Int := f.spectrum ++ f.subs.flatMap subCodes
structure SubOk (q : Sub) : Prop where
  lag : q.lag < 128
  gain : q.gain < 4
  grid : q.grid < 4
  s0 : 0 ≤ q.size
  s1 : q.size ≤ 63
  pl : q.pulses.length = 13
  pb : ∀ k ∈ q.pulses, 0 ≤ k ∧ k ≤ 7
structure FrameOk (f : Frame) : Prop where
  sp : CodesOk f.spectrum
  n4 : f.subs.length = 4
  sub : ∀ q ∈ f.subs, SubOk q
def wholeOf (ws : List Nat) (cs : List Int) (a : Int) : Int := (ws.zip cs).foldl (fun x p => x * 2 ^ p.1 + p.2) a
def subPairs (q : Sub) : List (Nat × Nat) := [(7, q.lag), (2, q.gain), (2, q.grid), (6, q.size.toNat)] ++ q.pulses.map fun p => (3, p.toNat)
def spPairs (s : List Int) : List (Nat × Nat) := (List.range 8).map fun i => (SIZES.getD i 0, (at_ s i).toNat)
def pairs (f : Frame) : List (Nat × Nat) := spPairs f.spectrum ++ f.subs.flatMap subPairs
theorem bitsAll_append (a b : List (Nat × Nat)) : bitsAll (a ++ b) = bitsAll a ++ bitsAll b := by simp [bitsAll]
theorem bitsAll_sub (q : Sub) : bitsAll (subPairs q) = bitsOf 7 q.lag ++ (bitsOf 2 q.gain ++ (bitsOf 2 q.grid ++ (bitsOf 6 q.size.toNat ++ q.pulses.flatMap fun p => bitsOf 3 p.toNat))) := by
  unfold subPairs bitsAll
  simp [List.flatMap_map]
theorem bitsAll_flat : ∀ l : List Sub, bitsAll (l.flatMap subPairs) = l.flatMap fun q => bitsAll (subPairs q)
  | [] => rfl
  | q :: l => by rw [List.flatMap_cons, bitsAll_append, bitsAll_flat l, List.flatMap_cons]
theorem frameBits_eq (f : Frame) : frameBits f = bitsOf 4 13 ++ bitsAll (pairs f) := by
  unfold frameBits pairs
  rw [bitsAll_append, bitsAll_flat]
  have e1 : bitsAll (spPairs f.spectrum) = (List.range 8).flatMap fun i => bitsOf (SIZES.getD i 0) (at_ f.spectrum i).toNat := by
    unfold bitsAll spPairs; rw [List.flatMap_map]
  have e2 := funext bitsAll_sub
  rw [e1, e2]
end Pv
namespace Pv
open Ra26
/-- the pairs as widths beside codes -/
def toP (p : Nat × Int) : Nat × Nat := (p.1, p.2.toNat)
theorem list8 {s : List Int} (h : s.length = 8) : s = [at_ s 0, at_ s 1, at_ s 2, at_ s 3, at_ s 4, at_ s 5, at_ s 6, at_ s 7] := by
  conv => lhs; rw [list_range s, h]
  rfl
theorem list13 {s : List Int} (h : s.length = 13) : s = [at_ s 0, at_ s 1, at_ s 2, at_ s 3, at_ s 4, at_ s 5, at_ s 6, at_ s 7, at_ s 8, at_ s 9, at_ s 10, at_ s 11, at_ s 12] := by
  conv => lhs; rw [list_range s, h]
  rfl
theorem zip_sp {s : List Int} (h : s.length = 8) : (SIZES.zip s).map toP = spPairs s := by
  rw [list8 h]; rfl
theorem zip_sub {q : Sub} (h : q.pulses.length = 13) : (QW.zip (subCodes q)).map toP = subPairs q := by
  unfold subCodes subPairs
  rw [list13 h]; rfl
theorem subCodes_len {q : Sub} (h : q.pulses.length = 13) : (subCodes q).length = 17 := by simp [subCodes, h]
theorem subs4 {l : List Sub} (h : l.length = 4) : ∃ a b c d, l = [a, b, c, d] := by
  match l, h with
  | [a, b, c, d], _ => exact ⟨a, b, c, d, rfl⟩
theorem zip_all {f : Frame} (h : FrameOk f) : (WD.zip (codesOf f)).map toP = pairs f := by
  obtain ⟨a, b, c, d, e⟩ := subs4 h.n4
  have ha := h.sub a (by rw [e]; simp)
  have hb := h.sub b (by rw [e]; simp)
  have hc := h.sub c (by rw [e]; simp)
  have hd := h.sub d (by rw [e]; simp)
  unfold WD codesOf pairs
  rw [e]
  simp only [List.flatMap_cons, List.flatMap_nil, List.append_nil]
  rw [List.zip_append (by rw [h.sp.1]; rfl), List.zip_append (by rw [subCodes_len ha.pl]; rfl), List.zip_append (by rw [subCodes_len hb.pl]; rfl), List.zip_append (by rw [subCodes_len hc.pl]; rfl)]
  simp only [List.map_append]
  rw [zip_sp h.sp.1, zip_sub ha.pl, zip_sub hb.pl, zip_sub hc.pl, zip_sub hd.pl]
theorem codes_len {f : Frame} (h : FrameOk f) : (codesOf f).length = 76 := by
  obtain ⟨a, b, c, d, e⟩ := subs4 h.n4
  have ha := h.sub a (by rw [e]; simp)
  have hb := h.sub b (by rw [e]; simp)
  have hc := h.sub c (by rw [e]; simp)
  have hd := h.sub d (by rw [e]; simp)
  unfold codesOf
  rw [e]
  simp only [List.flatMap_cons, List.flatMap_nil, List.append_nil, List.length_append]
  rw [h.sp.1, subCodes_len ha.pl, subCodes_len hb.pl, subCodes_len hc.pl, subCodes_len hd.pl]
/-- every code is within its width -/
def Fits (ws : List Nat) (cs : List Int) : Prop := ∀ p ∈ ws.zip cs, 0 ≤ p.2 ∧ p.2 < 2 ^ p.1
theorem fits_app {a b : List Nat} {x y : List Int} (hl : a.length = x.length) (h1 : Fits a x) (h2 : Fits b y) : Fits (a ++ b) (x ++ y) := fun p hp => by
  rw [List.zip_append hl] at hp
  rcases List.mem_append.mp hp with q | q
  · exact h1 p q
  · exact h2 p q
theorem fits_sp {s : List Int} (h : CodesOk s) : Fits SIZES s := by
  intro p hp
  rw [list8 h.1] at hp
  have h0 : (0 : Int) ≤ at_ s 0 ∧ (at_ s 0 : Int) ≤ 63 := h.2 0 (by decide)
  have h1 : (0 : Int) ≤ at_ s 1 ∧ (at_ s 1 : Int) ≤ 63 := h.2 1 (by decide)
  have h2 : (0 : Int) ≤ at_ s 2 ∧ (at_ s 2 : Int) ≤ 31 := h.2 2 (by decide)
  have h3 : (0 : Int) ≤ at_ s 3 ∧ (at_ s 3 : Int) ≤ 31 := h.2 3 (by decide)
  have h4 : (0 : Int) ≤ at_ s 4 ∧ (at_ s 4 : Int) ≤ 15 := h.2 4 (by decide)
  have h5 : (0 : Int) ≤ at_ s 5 ∧ (at_ s 5 : Int) ≤ 15 := h.2 5 (by decide)
  have h6 : (0 : Int) ≤ at_ s 6 ∧ (at_ s 6 : Int) ≤ 7 := h.2 6 (by decide)
  have h7 : (0 : Int) ≤ at_ s 7 ∧ (at_ s 7 : Int) ≤ 7 := h.2 7 (by decide)
  simp only [N] at *
  simp only [SIZES, List.zip_cons_cons, List.zip_nil_right, List.mem_cons, List.not_mem_nil, or_false] at hp
  rcases hp with e | e | e | e | e | e | e | e <;> rw [e] <;> dsimp only <;> omega
theorem fits_sub {q : Sub} (h : SubOk q) : Fits QW (subCodes q) := by
  have hp : Fits [3, 3, 3, 3, 3, 3, 3, 3, 3, 3, 3, 3, 3] q.pulses := fun p hp => by
    have h1 := (List.of_mem_zip hp).1
    have h2 := h.pb p.2 (List.of_mem_zip hp).2
    have e : p.1 = 3 := by simpa using h1
    rw [e]
    have : (2 : Int) ^ 3 = 8 := by decide
    simp only [N] at *
    omega
  have h4 : Fits [7, 2, 2, 6] [(q.lag : Int), (q.gain : Int), (q.grid : Int), q.size] := fun p hp => by
    have a := h.lag
    have b := h.gain
    have c := h.grid
    have d := h.s0
    have e := h.s1
    simp only [N] at *
    simp only [List.zip_cons_cons, List.zip_nil_right, List.mem_cons, List.not_mem_nil, or_false] at hp
    rcases hp with e | e | e | e <;> rw [e] <;> dsimp only <;> omega
  exact fits_app (a := [7, 2, 2, 6]) rfl h4 hp
theorem fits_all {f : Frame} (h : FrameOk f) : Fits WD (codesOf f) := by
  obtain ⟨a, b, c, d, e⟩ := subs4 h.n4
  have ha := h.sub a (by rw [e]; simp)
  have hb := h.sub b (by rw [e]; simp)
  have hc := h.sub c (by rw [e]; simp)
  have hd := h.sub d (by rw [e]; simp)
  unfold WD codesOf
  rw [e]
  simp only [List.flatMap_cons, List.flatMap_nil, List.append_nil]
  exact fits_app (by rw [h.sp.1]; rfl) (fits_sp h.sp) (fits_app (by rw [subCodes_len ha.pl]; rfl) (fits_sub ha) (fits_app (by rw [subCodes_len hb.pl]; rfl) (fits_sub hb) (fits_app (by rw [subCodes_len hc.pl]; rfl) (fits_sub hc) (fits_sub hd))))
theorem natPow (n : Nat) : ((2 ^ n : Nat) : Int) = 2 ^ n := by rw [Int.natCast_pow]; rfl
theorem whole_nat : ∀ (l : List (Nat × Int)) (a : Nat), (∀ p ∈ l, 0 ≤ p.2 ∧ p.2 < 2 ^ p.1) →
    l.foldl (fun x p => x * 2 ^ p.1 + p.2) ((a : Nat) : Int) = (((l.map toP).foldl (fun x p => x * 2 ^ p.1 + p.2) a : Nat) : Int)
  | [], _, _ => rfl
  | p :: l, a, h => by
    have hp := h p List.mem_cons_self
    have e : (a : Int) * 2 ^ p.1 + p.2 = ((a * 2 ^ p.1 + p.2.toNat : Nat) : Int) := by
      rw [Int.natCast_add, Int.natCast_mul, natPow]; omega
    rw [List.foldl_cons, List.map_cons, List.foldl_cons, e, whole_nat l _ (fun q hq => h q (List.mem_cons_of_mem _ hq))]
    rfl
theorem frame_whole {f : Frame} (h : FrameOk f) : ((vl (frameBits f) : Nat) : Int) = wholeOf WD (codesOf f) 13 := by
  have fit := fits_all h
  unfold wholeOf
  have e13 : (13 : Int) = ((13 : Nat) : Int) := rfl
  rw [e13, whole_nat _ _ fit, zip_all h, frameBits_eq]
  have e := vl_all (pairs f) (bitsOf 4 13) (fun p hp => by
    rw [← zip_all h] at hp
    obtain ⟨r, hr, e⟩ := List.mem_map.mp hp
    have := fit r hr
    rw [← e]
    show r.2.toNat < 2 ^ r.1
    have n := natPow r.1
    omega)
  rw [e]
  have e2 : vl (bitsOf 4 13) = 13 := by decide
  rw [e2]
theorem bitsAll_len : ∀ l : List (Nat × Nat), (bitsAll l).length = (l.map (·.1)).sum
  | [] => rfl
  | p :: l => by
    have e : bitsAll (p :: l) = bitsOf p.1 p.2 ++ bitsAll l := by simp [bitsAll]
    rw [e, List.length_append, bits_len, bitsAll_len l]; rfl
theorem frame_bits_len {f : Frame} (h : FrameOk f) : (frameBits f).length = 264 := by
  rw [frameBits_eq, List.length_append, bits_len, bitsAll_len, ← zip_all h, List.map_map]
  have e : ((WD.zip (codesOf f)).map ((fun x => x.1) ∘ toP)) = WD := by
    have : ((fun x => x.1) ∘ toP) = fun (p : Nat × Int) => p.1 := rfl
    rw [this]
    exact List.map_fst_zip (by rw [codes_len h]; decide)
  rw [e]
  decide
/-- **the bytes of a frame** -/
theorem bytes_eq {f : Frame} (h : FrameOk f) : (bytes (frameBits f)).map (fun (x : Nat) => (x : Int)) = (List.range 33).map fun i => wholeOf WD (codesOf f) 13 / 2 ^ (256 - 8 * i) % 256 := by
  unfold bytes
  rw [List.map_map]
  apply List.map_congr_left
  intro i hi
  have hi := List.mem_range.mp hi
  show ((numberAt (frameBits f) (8 * i) 8 : Nat) : Int) = _
  rw [number_eq _ _ _ (by rw [frame_bits_len h]; omega), frame_bits_len h, Int.natCast_emod, Int.natCast_ediv, frame_whole h, natPow]
  have e : 264 - 8 * i - 8 = 256 - 8 * i := by omega
  rw [e]; rfl
/-! back -/
theorem bits_all (l : List Nat) : bits l = bitsAll (l.map fun x => (8, x)) := by
  unfold bits bitsAll; rw [List.flatMap_map]
theorem bits_length (l : List Nat) : (bits l).length = 8 * l.length := by
  rw [bits_all, bitsAll_len, List.map_map]
  induction l with
  | nil => rfl
  | cons a r ih => simp only [List.map_cons, List.sum_cons, List.length_cons, ih]; show 8 + _ = _; omega
theorem vl_byte {l : List Nat} (h : ∀ x ∈ l, x < 256) : vl (bits l) = l.foldl (fun a x => a * 256 + x) 0 := by
  rw [bits_all]
  have e := vl_all (l.map fun x => (8, x)) [] (fun p hp => by
    obtain ⟨x, hx, e⟩ := List.mem_map.mp hp
    rw [← e]; exact h x hx)
  rw [List.nil_append] at e
  rw [e, List.foldl_map]
  rfl
def numb (b : List Bool) : List Nat → Nat → List Int
  | [], _ => []
  | w :: ws, p => (numberAt b p w : Int) :: numb b ws (p + w)
def unp (whole : Int) : List Nat → Nat → List Int
  | [], _ => []
  | w :: ws, left => whole / 2 ^ (left - w) % 2 ^ w :: unp whole ws (left - w)
theorem unp_numb {b : List Bool} (hb : b.length = 264) : ∀ (ws : List Nat) (left : Nat), ws.sum ≤ left → left ≤ 264 → unp (vl b : Nat) ws left = numb b ws (264 - left)
  | [], _, _, _ => rfl
  | w :: ws, left, h, h2 => by
    have hs : w + ws.sum ≤ left := by simpa using h
    unfold unp numb
    rw [unp_numb hb ws (left - w) (by omega) (by omega), number_eq b _ _ (by rw [hb]; omega), hb, Int.natCast_emod, Int.natCast_ediv, natPow, natPow]
    have e1 : 264 - (264 - left) - w = left - w := by omega
    have e2 : 264 - left + w = 264 - (left - w) := by omega
    rw [e1, e2]
def frameAt (b : List Bool) : Frame := ⟨(List.range 8).map fun i => (numberAt b (4 + (SIZES.take i).foldl (· + ·) 0) (SIZES.getD i 0) : Int), (List.range 4).map fun j =>
    ⟨numberAt b (40 + 56 * j) 7, numberAt b (40 + 56 * j + 7) 2, numberAt b (40 + 56 * j + 9) 2, (numberAt b (40 + 56 * j + 11) 6 : Int), (List.range 13).map fun i => (numberAt b (40 + 56 * j + 17 + 3 * i) 3 : Int)⟩⟩
theorem frameOf_some {l : List Nat} (h : numberAt (bits l) 0 4 = 13) : frameOf l = some (frameAt (bits l)) := by
  unfold frameOf
  dsimp only
  rw [if_neg (fun q => q h)]
  rfl
theorem frameOf_none {l : List Nat} (h : numberAt (bits l) 0 4 ≠ 13) : frameOf l = none := by
  unfold frameOf
  dsimp only
  rw [if_pos h]
theorem codes_numb (b : List Bool) : codesOf (frameAt b) = numb b WD 4 := by rfl
theorem frameAt_ok {b : List Bool} (hb : b.length = 264) : FrameOk (frameAt b) := by
  have lt : ∀ p n, p + n ≤ 264 → numberAt b p n < 2 ^ n := fun p n h => number_lt b p n (by rw [hb]; exact h)
  refine ⟨⟨rfl, fun i hi => ?_⟩, rfl, fun q hq => ?_⟩
  · have e : at_ (frameAt b).spectrum i = (numberAt b (4 + (SIZES.take i).foldl (· + ·) 0) (SIZES.getD i 0) : Int) := at_map_range _ hi
    rw [e]
    have c : i = 0 ∨ i = 1 ∨ i = 2 ∨ i = 3 ∨ i = 4 ∨ i = 5 ∨ i = 6 ∨ i = 7 := by omega
    rcases c with c | c | c | c | c | c | c | c <;> subst c
    · have := lt 4 6 (by decide); refine ⟨Int.natCast_nonneg _, ?_⟩; show ((numberAt b 4 6 : Nat) : Int) ≤ 63; omega
    · have := lt 10 6 (by decide); refine ⟨Int.natCast_nonneg _, ?_⟩; show ((numberAt b 10 6 : Nat) : Int) ≤ 63; omega
    · have := lt 16 5 (by decide); refine ⟨Int.natCast_nonneg _, ?_⟩; show ((numberAt b 16 5 : Nat) : Int) ≤ 31; omega
    · have := lt 21 5 (by decide); refine ⟨Int.natCast_nonneg _, ?_⟩; show ((numberAt b 21 5 : Nat) : Int) ≤ 31; omega
    · have := lt 26 4 (by decide); refine ⟨Int.natCast_nonneg _, ?_⟩; show ((numberAt b 26 4 : Nat) : Int) ≤ 15; omega
    · have := lt 30 4 (by decide); refine ⟨Int.natCast_nonneg _, ?_⟩; show ((numberAt b 30 4 : Nat) : Int) ≤ 15; omega
    · have := lt 34 3 (by decide); refine ⟨Int.natCast_nonneg _, ?_⟩; show ((numberAt b 34 3 : Nat) : Int) ≤ 7; omega
    · have := lt 37 3 (by decide); refine ⟨Int.natCast_nonneg _, ?_⟩; show ((numberAt b 37 3 : Nat) : Int) ≤ 7; omega
  · obtain ⟨j, hj, e⟩ := List.mem_map.mp hq
    have hj := List.mem_range.mp hj
    rw [← e]
    have a7 := lt (40 + 56 * j) 7 (by omega)
    have a2 := lt (40 + 56 * j + 7) 2 (by omega)
    have a3 := lt (40 + 56 * j + 9) 2 (by omega)
    have a6 := lt (40 + 56 * j + 11) 6 (by omega)
    refine ⟨a7, a2, a3, Int.natCast_nonneg _, ?_, by simp, fun k hk => ?_⟩
    · show ((numberAt b (40 + 56 * j + 11) 6 : Nat) : Int) ≤ 63
      omega
    · obtain ⟨i, hi, e⟩ := List.mem_map.mp hk
      have hi := List.mem_range.mp hi
      have := lt (40 + 56 * j + 17 + 3 * i) 3 (by omega)
      rw [← e]
      simp only [N] at *
      omega
theorem mark_eq {x : Nat} {l : List Nat} (hl : l.length = 32) (hx : x < 256) : numberAt (bits (x :: l)) 0 4 = x / 16 := by
  have len : (bits (x :: l)).length = 264 := by rw [bits_length, List.length_cons, hl]
  rw [number_eq _ _ _ (by rw [len]; decide), len]
  have e : bits (x :: l) = bitsOf 8 x ++ bits l := by simp [bits]
  have l2 : (bits l).length = 256 := by rw [bits_length, hl]
  rw [e, vl_append, l2, vl_bits, Nat.mod_eq_of_lt (show x < 2 ^ 8 from hx)]
  have lt := vl_lt (bits l)
  rw [l2] at lt
  have e260 : 2 ^ (264 - 0 - 4) = 2 ^ 256 * 16 := Nat.pow_add 2 256 4
  rw [e260, ← Nat.div_div_eq_div_mul, Nat.mul_comm x, Nat.mul_add_div (Nat.two_pow_pos 256), Nat.div_eq_of_lt lt, Nat.add_zero]
  omega
end Pv
namespace Pv
open Ra26
structure Wf (s : S) : Prop where
  z : ZOk s.z1 s.z2
  mp : W s.mp
  lar : Ws s.lar
  larL : s.lar.length = 8
  u : Ws s.u
  uL : s.u.length = 8
  d : Ws s.d
  dL : s.d.length = 120
  lar' : Ws s.lar'
  larL' : s.lar'.length = 8
  v : Ws s.v
  vL : s.v.length = 9
  r : Ws s.r
  rL : s.r.length = 120
  lag0 : 40 ≤ s.lag
  lag1 : s.lag ≤ 120
  msr : W s.msr
theorem wf_fresh : Wf fresh := ⟨zok_fresh, W0, Ws_replicate _, by simp [fresh], Ws_replicate _, by simp [fresh], Ws_replicate _, by simp [fresh], Ws_replicate _, by simp [fresh], Ws_replicate _, by simp [fresh], Ws_replicate _, by simp [fresh], Nat.le_refl 40, (by decide : 40 ≤ 120), W0⟩
/-! a frame coded -/
def qTo (d h : List Int) : Nat → List Sub × List Int
  | 0 => ([], h)
  | j + 1 => ((qTo d h j).1 ++ [(quarter ((d.drop (40 * j)).take 40) (qTo d h j).2).1], (quarter ((d.drop (40 * j)).take 40) (qTo d h j).2).2)
theorem quarters_eq (d h : List Int) : quarters 4 d h = qTo d h 4 := by
  simp only [quarters, qTo, List.drop_drop, List.nil_append, List.cons_append, Nat.mul_zero, List.drop_zero, Nat.reduceMul, Nat.reduceAdd]
def eX (s : S) (l : List Int) : List Int := (pre l s.z1 s.z2 s.mp).1
def eK (s : S) (l : List Int) : Nat := kOf 4 (peak (eX s l))
def eT (s : S) (l : List Int) : List Int := lowered (eX s l) (eK s l)
def eC (s : S) (l : List Int) : List Int := (reflections (likes (eT s l))).mapIdx fun i y => coded i (area y)
def eN (s : S) (l : List Int) : List Int := (eC s l).mapIdx fun i y => decoded i y
def eA (s : S) (l : List Int) : List Int × List Int := analyse (facs s.lar (eN s l)) 0 (lifted (eT s l) (eK s l)) s.u
def eS (s : S) (l : List Int) : S := { s with z1 := (pre l s.z1 s.z2 s.mp).2.1, z2 := (pre l s.z1 s.z2 s.mp).2.2.1, mp := (pre l s.z1 s.z2 s.mp).2.2.2, lar := eN s l, u := (eA s l).2, d := (qTo (eA s l).1 s.d 4).2 }
theorem eX_ok {s : S} {l : List Int} (h : Wf s) (hl : l.length = 160) (hw : Ws l) : (eX s l).length = 160 ∧ Ws (eX s l) := by
  obtain ⟨_, _, c⟩ := pre_ok l s.z1 s.z2 s.mp h.z h.mp hw
  exact ⟨by unfold eX; rw [pre_len, hl], c⟩
theorem encode_eq {s : S} {l : List Int} (h : Wf s) (hl : l.length = 160) (hw : Ws l) : encode s l = (⟨eC s l, (qTo (eA s l).1 s.d 4).1⟩, eS s l) := by
  obtain ⟨x1, x2⟩ := eX_ok h hl hw
  unfold encode
  have e := together_eq x1 x2
  have ex : (pre l s.z1 s.z2 s.mp).1 = eX s l := rfl
  have ek : kOf 4 (peak (eX s l)) = eK s l := rfl
  dsimp only
  rw [ex, e, ek]
  have et : lowered (eX s l) (eK s l) = eT s l := rfl
  dsimp only
  rw [et, codes_fuse]
  have ec : ((reflections (likes (eT s l))).mapIdx fun i y => coded i (area y)) = eC s l := rfl
  rw [ec]
  have en : ((eC s l).mapIdx fun i y => decoded i y) = eN s l := rfl
  rw [en]
  have ea : analyse (fun k => (between k s.lar (eN s l)).map back) 0 (lifted (eT s l) (eK s l)) s.u = eA s l := rfl
  rw [ea, quarters_eq]
  rfl
theorem eT_ok {s : S} {l : List Int} (h : Wf s) (hl : l.length = 160) (hw : Ws l) : (eT s l).length = 160 ∧ Ws (eT s l) ∧ AcfOk (likes (eT s l)) ∧ (∀ x ∈ eT s l, -2048 ≤ x ∧ x ≤ 2048) := by
  obtain ⟨x1, x2⟩ := eX_ok h hl hw
  have l1 : (eT s l).length = 160 := by unfold eT; rw [lowered_len, x1]
  exact ⟨l1, lowered_W x2, acf_ok l1 (lowered_bd x2), lowered_bd x2⟩
theorem eC_ok (s : S) (l : List Int) : CodesOk (eC s l) := by
  have h := codes_ok (reflections_len (likes (eT s l)))
  rw [codes_fuse] at h
  exact h
theorem eN_ok (s : S) (l : List Int) : Ws (eN s l) ∧ (eN s l).length = 8 := ⟨mapIdx_W _ decoded_W _, by unfold eN; rw [List.length_mapIdx]; exact (eC_ok s l).1⟩
theorem lifted_ok (t : List Int) (k : Nat) : Ws (lifted t k) ∧ (lifted t k).length = t.length := ⟨Ws_map _ fun _ => cut_W _, by simp [lifted]⟩
theorem eA_ok {s : S} {l : List Int} (h : Wf s) (hl : l.length = 160) (hw : Ws l) : Ws (eA s l).1 ∧ Ws (eA s l).2 ∧ (eA s l).2.length = 8 ∧ (eA s l).1.length = 160 := by
  obtain ⟨t1, _⟩ := eT_ok h hl hw
  obtain ⟨a, b⟩ := lifted_ok (eT s l) (eK s l)
  obtain ⟨c, d, e⟩ := an_ok (rp := facs s.lar (eN s l)) (facs_len _ _) (l := lifted (eT s l) (eK s l)) (u := s.u) a h.u h.uL (by rw [b, t1])
  exact ⟨c, d, e, by unfold eA; rw [an_len, b, t1]⟩
theorem quarter_ok {d h : List Int} (hd : d.length = 40) (hw : Ws h) (hl : h.length = 120) : SubOk (quarter d h).1 ∧ Ws (quarter d h).2 ∧ (quarter d h).2.length = 120 ∧ 40 ≤ (quarter d h).1.lag ∧ (quarter d h).1.lag ≤ 120 := by
  rw [quarter_eq h hd]
  obtain ⟨a, b, c⟩ := lagOf_bd d h
  refine ⟨⟨?_, ?_, gridOf_lt _, (qC_bd d h).1, (qC_bd d h).2, qP_len d h, qP_bd d h⟩, Ws_append (Ws_drop _ hw) (built_W _ _ _ _), ?_, a, b⟩
  · show (lagOf d h).1 < 128
    omega
  · show (lagOf d h).2 < 4
    omega
  · show (h.drop 40 ++ built _ _ _ _).length = 120
    rw [List.length_append, List.length_drop, hl, built_len _ _ _ (fore_len _ _ _)]
theorem part_len {d : List Int} (hd : d.length = 160) {j : Nat} (hj : j < 4) : ((d.drop (40 * j)).take 40).length = 40 := by
  rw [List.length_take, List.length_drop, hd]; omega
theorem qTo_ok {d h : List Int} (hd : d.length = 160) (hw : Ws h) (hl : h.length = 120) : ∀ j, j ≤ 4 → (∀ q ∈ (qTo d h j).1, SubOk q) ∧ (qTo d h j).1.length = j ∧ Ws (qTo d h j).2 ∧ (qTo d h j).2.length = 120
  | 0, _ => ⟨(fun _ h => nomatch h), rfl, hw, hl⟩
  | j + 1, hj => by
    obtain ⟨a, b, c, e⟩ := qTo_ok hd hw hl j (by omega)
    obtain ⟨f, g, i, _⟩ := quarter_ok (part_len hd (j := j) (by omega)) c e
    refine ⟨fun q hq => ?_, by unfold qTo; simp [b], g, i⟩
    rcases List.mem_append.mp hq with z | z
    · exact a q z
    · rw [List.mem_singleton.mp z]; exact f
theorem encode_ok {s : S} {l : List Int} (h : Wf s) (hl : l.length = 160) (hw : Ws l) : Wf (eS s l) ∧ FrameOk ⟨eC s l, (qTo (eA s l).1 s.d 4).1⟩ := by
  obtain ⟨a, b, c⟩ := pre_ok l s.z1 s.z2 s.mp h.z h.mp hw
  obtain ⟨d, e, f, g⟩ := eA_ok h hl hw
  obtain ⟨i, j, k, m⟩ := qTo_ok g h.d h.dL 4 (by decide)
  have n := eN_ok s l
  exact ⟨⟨a, b, n.1, n.2, e, f, k, m, h.lar', h.larL', h.v, h.vL, h.r, h.rL, h.lag0, h.lag1, h.msr⟩, ⟨eC_ok s l, j, i⟩⟩
/-! a frame decoded -/
def lagIn (q : Sub) (last : Nat) : Nat := if q.lag < 40 ∨ 120 < q.lag then last else q.lag
theorem lagIn_bd (q : Sub) {last : Nat} (h0 : 40 ≤ last) (h1 : last ≤ 120) : 40 ≤ lagIn q last ∧ lagIn q last ≤ 120 := by
  unfold lagIn; split <;> omega
theorem unquarter_eq (q : Sub) (h : List Int) (last : Nat) : unquarter q h last = (built (fore h (lagIn q last) q.gain) q.grid q.size q.pulses, lagIn q last) := by
  rw [← built_eq _ _ _ (fore_len _ _ _)]
  unfold unquarter
  dsimp only
  refine Prod.ext ?_ rfl
  dsimp only
  apply List.map_congr_left
  intro k hk
  unfold fore
  rw [at_map_range _ (List.mem_range.mp hk)]
  rfl
def uStep (st : List Int × List Int × Nat) (q : Sub) : List Int × List Int × Nat :=
  (st.1 ++ (unquarter q st.2.1 st.2.2).1, st.2.1.drop 40 ++ (unquarter q st.2.1 st.2.2).1, (unquarter q st.2.1 st.2.2).2)
theorem unq_fold : ∀ (l : List Sub) (o h : List Int) (lag : Nat), l.foldl uStep (o, h, lag) = (o ++ (unquarters l h lag).1, (unquarters l h lag).2)
  | [], o, h, lag => by simp [unquarters]
  | q :: l, o, h, lag => by
    have e : uStep (o, h, lag) q = (o ++ (unquarter q h lag).1, h.drop 40 ++ (unquarter q h lag).1, (unquarter q h lag).2) := rfl
    have c : unquarters (q :: l) h lag = ((unquarter q h lag).1 ++ (unquarters l (h.drop 40 ++ (unquarter q h lag).1) (unquarter q h lag).2).1, (unquarters l (h.drop 40 ++ (unquarter q h lag).1) (unquarter q h lag).2).2) := rfl
    rw [List.foldl_cons, e, unq_fold l, c, List.append_assoc]
theorem uStep_ok {st : List Int × List Int × Nat} (q : Sub) (hw : Ws st.2.1) (hl : st.2.1.length = 120) (h0 : 40 ≤ st.2.2) (h1 : st.2.2 ≤ 120) (ho : Ws st.1) :
    Ws (uStep st q).1 ∧ (uStep st q).1.length = st.1.length + 40 ∧ Ws (uStep st q).2.1 ∧ (uStep st q).2.1.length = 120 ∧ 40 ≤ (uStep st q).2.2 ∧ (uStep st q).2.2 ≤ 120 := by
  unfold uStep
  rw [unquarter_eq]
  have b := lagIn_bd q h0 h1
  have w := built_W (fore st.2.1 (lagIn q st.2.2) q.gain) q.grid q.size q.pulses
  have n := built_len (aw := fore st.2.1 (lagIn q st.2.2) q.gain) q.grid q.size q.pulses (fore_len _ _ _)
  exact ⟨Ws_append ho w, by dsimp only; rw [List.length_append, n], Ws_append (Ws_drop _ hw) w, by dsimp only; rw [List.length_append, List.length_drop, hl, n], b.1, b.2⟩
theorem uFold_ok {h : List Int} {lag : Nat} (hw : Ws h) (hl : h.length = 120) (h0 : 40 ≤ lag) (h1 : lag ≤ 120) : ∀ (l : List Sub) (o : List Int), Ws o → ∀ st, st = l.foldl uStep (o, h, lag) →
    Ws st.1 ∧ st.1.length = o.length + 40 * l.length ∧ Ws st.2.1 ∧ st.2.1.length = 120 ∧ 40 ≤ st.2.2 ∧ st.2.2 ≤ 120 := by
  intro l
  induction l generalizing h lag with
  | nil => intro o ho st e; rw [e]; exact ⟨ho, by simp, hw, hl, h0, h1⟩
  | cons q l ih =>
    intro o ho st e
    obtain ⟨a, b, c, d, f, g⟩ := uStep_ok (st := (o, h, lag)) q hw hl h0 h1 ho
    rw [List.foldl_cons] at e
    obtain ⟨a', b', c'⟩ := ih (h := (uStep (o, h, lag) q).2.1) (lag := (uStep (o, h, lag) q).2.2) c d f g (uStep (o, h, lag) q).1 a st e
    exact ⟨a', by rw [b', b, List.length_cons]; dsimp only; omega, c'⟩
def dN (f : Frame) : List Int := f.spectrum.mapIdx fun i y => decoded i y
def dU (s : S) (f : Frame) : List Int × List Int × Nat := f.subs.foldl uStep ([], s.r, s.lag)
def dY (s : S) (f : Frame) : List Int × List Int := synth (facs s.lar' (dN f)) 0 (dU s f).1 s.v
def dS (s : S) (f : Frame) : S := { s with lar' := dN f, v := (dY s f).2, r := (dU s f).2.1, lag := (dU s f).2.2, msr := (post (dY s f).1 s.msr).2 }
theorem decode_eq (s : S) (f : Frame) : decode s f = ((post (dY s f).1 s.msr).1, dS s f) := by
  have e := unq_fold f.subs [] s.r s.lag
  rw [List.nil_append] at e
  have e2 : dU s f = ((unquarters f.subs s.r s.lag).1, (unquarters f.subs s.r s.lag).2) := e
  unfold dS dY
  rw [e2]
  rfl
theorem decode_ok {s : S} {f : Frame} (h : Wf s) (hf : FrameOk f) : Wf (dS s f) ∧ (post (dY s f).1 s.msr).1.length = 160 ∧ (dU s f).1.length = 160 ∧ Ws (dU s f).1 := by
  obtain ⟨a, b, c, d, e, g⟩ := uFold_ok h.r h.rL h.lag0 h.lag1 f.subs [] Ws_nil (dU s f) rfl
  have l160 : (dU s f).1.length = 160 := by rw [b, hf.n4]; rfl
  obtain ⟨i, j, k⟩ := synth_ok (facs s.lar' (dN f)) a h.v h.vL l160
  have n := post_ok (dY s f).1 s.msr h.msr
  have l2 : (dY s f).1.length = 160 := by unfold dY; rw [synth_len, l160]
  exact ⟨⟨h.z, h.mp, h.lar, h.larL, h.u, h.uL, h.d, h.dL, mapIdx_W _ decoded_W _, by show (dN f).length = 8; unfold dN; rw [List.length_mapIdx]; exact hf.sp.1, j, k, c, d, e, g, n.1⟩, by rw [n.2, l2], l160, a⟩
end Pv
namespace Pv
open Ra26
def intsOf (l : List Nat) : List Int := l.map fun (x : Nat) => (x : Int)
/-- the list of calls, read from its head -/
inductive Line : List Int → List Ra26.Call → Prop
  | nil : Line [] []
  | op {r : List Int} {cs : List Ra26.Call} (h : Line r cs) : Line (0 :: r) (.open_ :: cs)
  | en {a r : List Int} {cs : List Ra26.Call} (hl : a.length = 160) (hw : Ws a) (h : Line r cs) : Line (1 :: 160 :: (a ++ r)) (.encode a :: cs)
  | de {b : List Nat} {r : List Int} {cs : List Ra26.Call} (hl : b.length = 33) (hb : ∀ x ∈ b, x < 256) (h : Line r cs) : Line (2 :: 33 :: (intsOf b ++ r)) (.decode b :: cs)
def outC (s : S) (c : Ra26.Call) : List Int := (spec s c).1.value :: (intsOf (spec s c).1.bytes ++ (spec s c).1.samples)
def told : S → List Ra26.Call → List Int
  | _, [] => []
  | s, c :: cs => ((outC s c).length : Int) :: (outC s c ++ told (spec s c).2 cs)
theorem shape0 : PyRa26.shape 0 = some (0, 0) := rfl
theorem shape1 : PyRa26.shape 1 = some (0, 1) := rfl
theorem shape2 : PyRa26.shape 2 = some (0, 1) := rfl
theorem shape_cases {p : Int} {n k : Nat} (h : PyRa26.shape p = some (n, k)) : p = 0 ∨ p = 1 ∨ p = 2 := by
  unfold PyRa26.shape at h
  split at h
  · exact .inl (by assumption)
  · split at h
    · exact .inr (.inl (by assumption))
    · split at h
      · exact .inr (.inr (by assumption))
      · cases h
theorem call0 (r : List Int) : PyFlat.call PyRa26.shape (0 :: r) = some ([[0]], r) := by
  simp [PyFlat.call, shape0, PyFlat.rows]
theorem call_row {p : Int} (hp : PyRa26.shape p = some (0, 1)) (r : List Int) {c : List (List Int)} {t : List Int} (h : PyFlat.call PyRa26.shape (p :: r) = some (c, t)) :
    ∃ (n : Int) (r' : List Int), r = n :: r' ∧ 0 ≤ n ∧ n.toNat ≤ r'.length ∧ c = [[p], r'.take n.toNat] ∧ t = r'.drop n.toNat := by
  unfold PyFlat.call at h
  dsimp only at h
  rw [hp] at h
  cases r with
  | nil => simp [PyFlat.rows, PyFlat.row] at h
  | cons n r' =>
    simp only [List.drop_zero, List.length_cons, Nat.not_lt_zero, if_false, PyFlat.rows, PyFlat.row, List.take_zero] at h
    by_cases q : 0 ≤ n ∧ n.toNat ≤ r'.length
    · rw [if_pos q] at h
      simp at h
      exact ⟨n, r', rfl, q.1, q.2, h.1.symm, h.2.symm⟩
    · rw [if_neg q] at h
      simp at h
theorem line_calls : ∀ (f : Nat) (l : List Int) (cs : List (List (List Int))), PyFlat.calls PyRa26.shape f l = some cs → (cs.map PyRa26.whole).all Ra26Neutral.asked1 = true →
    ∃ ds, Line l ds ∧ ds.length = cs.length ∧ ∀ s : S, PyFlat.told (PyFlat.played Ra26Neutral.step s (cs.map PyRa26.whole)) = told s ds
  | f, [], cs, h, _ => by
    have e : cs = [] := by
      unfold PyFlat.calls at h
      cases h; rfl
    rw [e]; exact ⟨[], .nil, rfl, fun _ => rfl⟩
  | 0, _ :: _, _, h, _ => by cases h
  | f + 1, p :: r, cs, h, ha => by
    unfold PyFlat.calls at h
    cases hc : PyFlat.call PyRa26.shape (p :: r) with
    | none => rw [hc] at h; cases h
    | some ct =>
      obtain ⟨c, t⟩ := ct
      rw [hc] at h
      dsimp only at h
      cases hr : PyFlat.calls PyRa26.shape f t with
      | none => rw [hr] at h; cases h
      | some cs' =>
        rw [hr] at h
        dsimp only at h
        have ecs : cs = c :: cs' := by cases h; rfl
        subst ecs
        rw [List.map_cons, List.all_cons, Bool.and_eq_true] at ha
        obtain ⟨a1, a2⟩ := ha
        obtain ⟨ds, L, hlen, ht⟩ := line_calls f t cs' hr a2
        have hs : ∃ n k, PyRa26.shape p = some (n, k) := by
          unfold PyFlat.call at hc
          dsimp only at hc
          cases e : PyRa26.shape p with
          | none => rw [e] at hc; cases hc
          | some x => exact ⟨x.1, x.2, rfl⟩
        obtain ⟨n0, k0, hs⟩ := hs
        rcases shape_cases hs with e | e | e
        · subst e
          rw [call0] at hc
          cases hc
          refine ⟨.open_ :: ds, .op L, by simp [hlen], fun s => ?_⟩
          rw [List.map_cons]
          show PyFlat.told ((Ra26Neutral.step s [[0]]).2 :: PyFlat.played Ra26Neutral.step (Ra26Neutral.step s [[0]]).1 _) = _
          unfold PyFlat.told
          rw [List.flatMap_cons]
          have := ht (Ra26Neutral.step s [[0]]).1
          unfold PyFlat.told at this
          rw [this]
          rfl
        · subst e
          obtain ⟨n, r', er, hn, hle, ec, et⟩ := call_row shape1 r hc
          subst ec et er
          have w : PyRa26.whole [[1], r'.take n.toNat] = [[1], r'.take n.toNat] := rfl
          rw [w] at a1
          have a1' : ((r'.take n.toNat).all (fun (z : Int) => (decide ((-32768) ≤ z) && decide (z ≤ 32767))) && decide ((r'.take n.toNat).length = 160)) = true := a1
          rw [Bool.and_eq_true] at a1'
          have l160 := of_decide_eq_true a1'.2
          have hw : Ws (r'.take n.toNat) := fun z hz => by
            have := List.all_eq_true.mp a1'.1 z hz
            rw [Bool.and_eq_true] at this
            exact ⟨of_decide_eq_true this.1, of_decide_eq_true this.2⟩
          have en : n = 160 := by rw [List.length_take] at l160; omega
          subst en
          refine ⟨.encode (r'.take 160) :: ds, ?_, by simp [hlen], fun s => ?_⟩
          · have := Line.en (a := r'.take 160) (r := r'.drop 160) l160 hw L
            rw [List.take_append_drop] at this
            exact this
          · rw [List.map_cons, w]
            show PyFlat.told ((Ra26Neutral.step s [[1], r'.take 160]).2 :: PyFlat.played Ra26Neutral.step (Ra26Neutral.step s [[1], r'.take 160]).1 _) = _
            unfold PyFlat.told
            rw [List.flatMap_cons]
            have := ht (Ra26Neutral.step s [[1], r'.take 160]).1
            unfold PyFlat.told at this
            rw [this]
            rfl
        · subst e
          obtain ⟨n, r', er, hn, hle, ec, et⟩ := call_row shape2 r hc
          subst ec et er
          have w : PyRa26.whole [[2], r'.take n.toNat] = [[2], r'.take n.toNat] := rfl
          rw [w] at a1
          have a1' : ((r'.take n.toNat).all (fun (z : Int) => Ra26Neutral.natural z 8) && decide ((r'.take n.toNat).length = 33)) = true := a1
          rw [Bool.and_eq_true] at a1'
          have l33 := of_decide_eq_true a1'.2
          have hb : ∀ z ∈ r'.take n.toNat, 0 ≤ z ∧ z < 256 := fun z hz => by
            have := List.all_eq_true.mp a1'.1 z hz
            unfold Ra26Neutral.natural at this
            rw [Bool.and_eq_true] at this
            exact ⟨of_decide_eq_true this.1, of_decide_eq_true this.2⟩
          have en : n = 33 := by rw [List.length_take] at l33; omega
          subst en
          have eb : intsOf (Ra26Neutral.nats (r'.take 33)) = r'.take 33 := by
            unfold intsOf Ra26Neutral.nats
            rw [List.map_map]
            conv => rhs; rw [← List.map_id (r'.take 33)]
            apply List.map_congr_left
            intro z hz
            have := hb z hz
            show ((z.toNat : Nat) : Int) = z
            omega
          refine ⟨.decode (Ra26Neutral.nats (r'.take 33)) :: ds, ?_, by simp [hlen], fun s => ?_⟩
          · have := Line.de (b := Ra26Neutral.nats (r'.take 33)) (r := r'.drop 33) (by unfold Ra26Neutral.nats; rw [List.length_map]; exact l33) (fun x hx => by
              obtain ⟨z, hz, e⟩ := List.mem_map.mp hx
              have := hb z hz
              rw [← e]; omega) L
            rw [eb, List.take_append_drop] at this
            exact this
          · rw [List.map_cons, w]
            show PyFlat.told ((Ra26Neutral.step s [[2], r'.take 33]).2 :: PyFlat.played Ra26Neutral.step (Ra26Neutral.step s [[2], r'.take 33]).1 _) = _
            unfold PyFlat.told
            rw [List.flatMap_cons]
            have := ht (Ra26Neutral.step s [[2], r'.take 33]).1
            unfold PyFlat.told at this
            rw [this]
            rfl
/-- **what is asked, and what is due** -/
theorem line_of {l : List Int} (h : PyRa26.answers_asked l = true) : ∃ cs, Line l cs ∧ cs.length ≤ 300 ∧ PyRa26.answers l = told fresh cs := by
  unfold PyRa26.answers_asked at h
  unfold PyRa26.answers
  unfold PyRa26.calls at *
  cases e : PyFlat.calls PyRa26.shape l.length l with
  | none => rw [e] at h; cases h
  | some cs =>
    rw [e] at h
    dsimp only at h
    rw [Bool.and_eq_true] at h
    obtain ⟨h1, h2⟩ := h
    unfold Ra26Neutral.asked at h2
    rw [Bool.and_eq_true] at h2
    have n := of_decide_eq_true h1
    rw [List.length_map] at n
    obtain ⟨ds, L, hl, ht⟩ := line_calls l.length l cs e h2.1
    exact ⟨ds, L, by rw [hl]; exact n, ht fresh⟩
end Pv
namespace Px
open PySem PySem.Spec PyProof.Rows L2
/-! the text by places -/
def top (i : Nat) : Stmt := PySem.Challenge.pw_pulsevoice_s01_answers.main.body.getD i (.Pass ⟨0, 0, 0, 0⟩)
/-- a list of numbers stands at a -/
def LI (H : Hp) (a : Addr) (ns : List Int) : Prop := H a = some (.lst (ns.map V.int))
theorem LI.same {H H' : Hp} {a : Addr} {ns : List Int} (h : LI H a ns) (s : Same H H') : LI H' a ns := s _ _ h
theorem LI.sq {K : PySem.W.Frag} {H : Hp} {a : Addr} {ns : List Int} (h : LI H a ns) : SqL K H a (ns.map V.int) := SqL.of h
theorem same_new {H : Hp} {p : Addr} {o : HO} (h : H p = none) : Same H (upd H p o) := fun b u e => by
  rw [upd_ne (ne_of_none e h)]; exact e
/-- a def of the text, by its name -/
structure FT (K : PySem.W.Frag) (mg : Str → Option Value) (x : Str) (st : Stmt) : Prop where
  ex : ∃ f fd, Fun K x x st f fd ∧ mg x = some (.ref f)
/-- a def that keeps its promise -/
structure Df (P : Program) (w : World) (K : PySem.W.Frag) (mg : Str → Option Value) (base : Heap) (x : Str) (ps : List Str) (k : Nat) (sp : Sp) : Prop where
  ex : ∃ f fd, FnOk P w K mg base CX0 k f fd ps sp ∧ mg x = some (.ref f) ∧ PySem.W.keepIn K (.ref f) = true ∧ Binds K fd ps []
section
variable {P : Program} {w : World} {K : PySem.W.Frag} {mg : Str → Option Value} {base : Heap}
abbrev BodyOk (P : Program) (w : World) (K : PySem.W.Frag) (mg : Str → Option Value) (base : Heap) (N : List Str) (qual : Str) (st : Stmt) (k : Nat) (sp : Sp) : Prop :=
  ∀ (f : Addr) (cdv : Value) (A : Around) (outer : List Env) (s : Shared) (H : Hp) (vs : List V) (Q : VK) (E : XK), Room k (A.deeper (envOfC qual (defScope st) s.heap.objs.size f cdv)) → sp vs H Q E →
      ∃ t, PSs (cxOf CX0 P w K mg base N qual (defScope st) f cdv A outer s H E).nox (defBody st) t ∧ t { nx := fun _ H' => Q .non H', rt := Q } (start N vs) H
theorem Df.mk' {x : Str} {st : Stmt} {N ps : List Str} {k : Nat} {sp : Sp} (F : FT K mg x st) (S : FnScope N ps (defScope st))
    (hb : ∀ (kV doc pm : Value) (an : Option Addr) (cdv ct : Value) (us : List Value), us.length = ps.length → bindArgs (PySem.W.fnOf x x (defArgs st) (defBody st) (defScope st) .none kV doc pm an cdv ct) ⟨us, []⟩ = pure (ps.zip us))
    (len : ∀ vs H Q E, sp vs H Q E → vs.length = ps.length) (body : BodyOk P w K mg base N x st k sp) : Df P w K mg base x ps (k + 1) sp := by
  obtain ⟨f, fd, F, m⟩ := F.ex
  exact ⟨f, fd, F.ok S len (fun cdv A outer s H vs Q E hr h => body f cdv A outer s H vs Q E hr h), m, F.kp, F.binds hb⟩
end
section
variable {X : Cx} {x : Str} {ps : List Str} {k : Nat} {sp : Sp} {p pos : Pos} {e : Expr} {es : List Expr} {t : TA}
/-- f(e, ..) -/
theorem pe_fn (D : Df X.prog X.w X.K X.mg X.base x ps k sp) (hr : Room k X.A) (ha : PA X (e :: es) t) (hg : Gl X x := by rfl) (hdb : (x == ("__debug__" : Str)) = false := by decide)
    (he : starEach (e :: es) X.env = (false, eval e X.env) :: starEach es X.env := by rfl) (hpl : (backTo pos (starEach es X.env)).any (·.1) = false := by rfl) : PE X (.Call (.Name x p) (e :: es) [] pos) (tCall sp [] E0 t) := by
  obtain ⟨f, fd, F, m, kp, b⟩ := D.ex
  exact pe_call F hr hg m kp b .nil pass0 ha hdb he hpl
theorem pe_fn0 (D : Df X.prog X.w X.K X.mg X.base x ps k sp) (hr : Room k X.A) (hg : Gl X x := by rfl) (hdb : (x == ("__debug__" : Str)) = false := by decide) : PE X (.Call (.Name x p) [] [] pos) (tCall sp [] E0 tNil) := by
  obtain ⟨f, fd, F, m, kp, b⟩ := D.ex
  exact pe_call0 F hr hg m kp b .nil pass0 hdb
/-- a module's number -/
theorem pe_cst {i : Int} (h : ∃ t, X.mg x = some (.int i t)) (hg : Gl X x := by rfl) (hd : (x == ("__debug__" : Str)) = false := by decide) : PE X (.Name x pos) (tC (.int i)) := by
  obtain ⟨t, h⟩ := h
  exact pe_glob hg h ⟨t, rfl⟩ hd
end
/-- a module's tuple -/
def MT (K : PySem.W.Frag) (mg : Str → Option Value) (x : Str) (xs : List V) : Prop := ∃ a, mg x = some (.ref a) ∧ ∀ H, SqT K H a xs
def tTupG (K : PySem.W.Frag) (xs : List V) : TE := fun _ H Q => ∀ a, (∀ H, SqT K H a xs) → Q (.ref a) H
theorem pe_tupG {X : Cx} {x : Str} {pos : Pos} {xs : List V} (h : MT X.K X.mg x xs) (hg : Gl X x := by rfl) (hd : (x == ("__debug__" : Str)) = false := by decide) : PE X (.Name x pos) (tTupG X.K xs) := by
  obtain ⟨a, m, q⟩ := h
  intro pins s σ H Q I hw
  exact pe_glob hg m (v := .ref a) rfl hd pins s σ H Q I (hw a q)
/-! promises of defs that reckon with numbers alone -/
def sp1 (C : Int → Prop) (f : Int → Int) : Sp := fun vs H Q _ => ∃ i, vs = [.int i] ∧ C i ∧ Q (.int (f i)) H
def sp2 (C : Int → Int → Prop) (f : Int → Int → Int) : Sp := fun vs H Q _ => ∃ i j, vs = [.int i, .int j] ∧ C i j ∧ Q (.int (f i j)) H
theorem sp1_len {C f} {vs : List V} {H : Hp} {Q : VK} {E : XK} (h : sp1 C f vs H Q E) : vs.length = 1 := by
  obtain ⟨_, rfl, _⟩ := h; rfl
theorem sp2_len {C f} {vs : List V} {H : Hp} {Q : VK} {E : XK} (h : sp2 C f vs H Q E) : vs.length = 2 := by
  obtain ⟨_, _, rfl, _⟩ := h; rfl
end Px
namespace Px
open PySem PySem.Spec PyProof.Rows L2
section
variable {X : Cx}
/-! ### bit_length, and a shift of any number -/
theorem mt_bits : MtR X "int.bit_length" (fun x xs H Q => ∃ i, x = .int i ∧ xs = [] ∧ Q (.int (Builtin.Int.intBits i : Nat)) H) := by
  intro pins s σ H x xs v us Q I rx rxs h
  obtain ⟨i, rfl, rfl, q⟩ := h
  obtain ⟨t, rfl⟩ := rx
  cases rxs
  exact call_int_bit_length ⟨.int (Builtin.Int.intBits i : Nat), H, I.tok _, ⟨_, rfl⟩, q⟩
def CSh (i j : Int) : Prop := 0 ≤ j ∧ (Builtin.Int.intBits i : Int) + j ≤ 2 ^ 27
theorem op_shlB : OpR X (binaryOp .LShift) (rI CSh fun i j => .int (i * 2 ^ j.toNat)) := opI fun _ _ _ _ _ _ _ hc q => lshift_int hc.1 hc.2 q
theorem bits_le {i : Int} {n : Nat} (h : i.natAbs < 2 ^ n) : Builtin.Int.intBits i ≤ n := by
  unfold Builtin.Int.intBits
  split
  · exact Nat.zero_le _
  · rename_i h0
    have hn : i.natAbs ≠ 0 := by
      intro z
      exact h0 (by have : i = 0 := by omega
                   rw [this]; rfl)
    have := (Nat.log2_lt hn).mpr h
    omega
theorem CSh.of {i j : Int} {n : Nat} (h : i.natAbs < 2 ^ n) (h0 : 0 ≤ j) (h1 : (n : Int) + j ≤ 134217728) : CSh i j := by
  have := bits_le h
  exact ⟨h0, by omega⟩
/-- a number below 2^40 either way -/
theorem CSh.small {i j : Int} (h : -1099511627776 < i ∧ i < 1099511627776) (h0 : 0 ≤ j) (h1 : j ≤ 1000) : CSh i j :=
  CSh.of (n := 40) (by have : (2 : Nat) ^ 40 = 1099511627776 := by decide
                       omega) h0 (by omega)
/-! ### a slice with a step -/
variable {e st : Expr} {te : TE} {lo hi : Option Expr} {tl th ts : TO} {pos p2 : Pos}
def rSlS (K : PySem.W.Frag) : V → Option Int → Option Int → Option Int → Hp → VK → Prop := fun x lo hi st H Q => ∃ a ns, x = .ref a ∧ SqL K H a (ns.map V.int) ∧ st ≠ some 0 ∧ ∀ p, H p = none → Q (.ref p) (upd H p (.lst ((pickNums ns lo hi st).map V.int)))
def tSlS (K : PySem.W.Frag) (te : TE) (tl th ts : TO) : TE := fun σ H Q => te σ H fun x H1 => tl σ H1 fun l H2 => th σ H2 fun u H3 => ts σ H3 fun k H4 => rSlS K x l u k H4 Q
theorem pe_sliceS (he : PE X e te) (hl : PO X lo tl) (hu : PO X hi th) (hk : PO X (some st) ts) : PE X (.Subscript e (.Slice lo hi (some st) p2) pos) (tSlS X.K te tl th ts) := by
  intro pins s σ H Q I h
  refine Subscript_ (thn (he pins s σ H _ I h) fun v s1 ⟨x, H1, I1, r1, q1⟩ => ?_)
  refine wpAny_Slice (thn (hl pins s1 σ H1 _ I1 q1) fun vl s2 ⟨l, H2, I2, pl, q2⟩ => thn (hu pins s2 σ H2 _ I2 q2) fun vu s3 ⟨u, H3, I3, pu, q3⟩ => thn (hk pins s3 σ H3 _ I3 q3) fun vk s4 ⟨k, H4, I4, pk, q4⟩ => ?_)
  obtain ⟨a, ns, ex, hx, h0, q⟩ := q4
  subst ex
  cases r1
  have I5 : Inv X pins σ H4 { s4 with heap := s4.heap.push { cls := .type "slice", data := .fields #[vl, vu, vk] } } := I4.kept (t' := s4.toks) fun b ob q => Heap.get?_push_of_some _ q
  obtain ⟨its, r, ht, hz⟩ := I5.list hx
  have hlen := r.length
  have hI := intsAre_of r
  refine tail_any (ops := [.ref a, .ref s4.heap.objs.size]) ht.isList.typeIs slot_list_getitem.lookup ?_ (by with_unfolding_all rfl)
  refine wpAny_getItem_list_slice ht.isList (Heap.IsSliceOf.new ..) pl pu pk h0 ?_ (by rw [List.size_toArray] <;> omega)
  have hp := hI.pick l u k
  have hpl : ((pickNums ns l u k).map V.int).length ≤ sizeLine := by
    rw [List.length_map]
    have := length_pickNums_le hI l u k
    rw [List.length_map] at hz
    omega
  refine ⟨.ref _, _, I5.laid (t' := s4.toks) (o := .lst ((pickNums ns l u k).map V.int)) (fun b ob q => Heap.get?_push_of_some _ q) (Nat.le_refl _) ?_, rfl, q _ (I5.hok.fresh (Nat.le_refl _))⟩
  refine ⟨hpl, _, 0, vals_of_ints hp, ?_⟩
  exact Heap.get?_push_size _ rfl
/-! ### a tuple times a number -/
theorem noFill_tup : fillsNumberSlot (.type "tuple") "mul" = pure false :=
  PySem.fillsNumberSlot_seq (T := "tuple") (nm := "mul") (id := "tuple.__mul__") (r := some (.builtin "tuple.__rmul__")) F.slot_tuple_mul.lookup (by decide +kernel) F.slot_tuple_rmul.lookup (by decide +kernel)
theorem rep_tup : seqRepeat? (.type "tuple") = pure (some (.builtin "tuple.__mul__")) := by
  unfold seqRepeat?
  rw [PySem.seqSlot_of (T := "tuple") (name := "__mul__") (id := "tuple.__mul__") F.slot_tuple_mul.lookup (by decide +kernel)]
  all_goals first | rfl | (rw [PySem.seqSlot_of (T := "tuple") (name := "__rmul__") (id := "tuple.__rmul__") F.slot_tuple_rmul.lookup (by decide +kernel)]; rfl)
theorem rmul_tup (a : Int) (t : Tok) (l : Addr) (o : Obj) (items : Array Value) (n : Nat) (hc : o.cls = .type "tuple") (hd : o.data = .seq items n) :
    Meets (Builtin.«int.__rmul__» ⟨[.int a t, .ref l], []⟩) (fun _ R s => s.heap.get? l = some o ∧ R (.ok (.ret Value.notImplemented)) s) :=
  .of_wp fun prog w A R s h => by
    obtain ⟨cl, dd, data, sl⟩ := o
    simp only at hc hd
    subst hc hd
    obtain ⟨hp, g, d, tk, os⟩ := s; obtain ⟨hl, h⟩ := h; wp_walk; exact ⟨_, rfl, h⟩
theorem mul_tup (l : Addr) (o : Obj) (items : Array Value) (n : Nat) (u : Tok) (hc : o.cls = .type "tuple") (hd : o.data = .seq items n) (hz : items.size = 17) :
    Meets (Builtin.«tuple.__mul__» ⟨[.ref l, .int 4 u], []⟩) (fun _ R s => s.heap.get? l = some o ∧
      R (.ok (.ret (Value.ref s.heap.objs.size))) { s with heap := s.heap.push { cls := Value.type "tuple", data := Data.seq (List.foldl (fun x1 x2 => x1 ++ x2) #[] (List.replicate 4 items)) }, toks := s.toks }) :=
  .of_wp fun prog w A R s h => by
    obtain ⟨cl, dd, data, sl⟩ := o
    simp only at hc hd
    subst hc hd
    obtain ⟨hp, g, d, tk, os⟩ := s; obtain ⟨hl, h⟩ := h
    have he : items.isEmpty = false := by
      rw [Array.isEmpty]; simp [hz]
    have hs : ((List.foldl (fun x1 x2 => x1 ++ x2) #[] (List.replicate 4 items)) : Array Value).size ≤ sizeLine := by
      simp [List.replicate, hz]; decide
    wp_walk
    refine wpAny_ite_false (by rw [hz]; decide) ?_
    wp_walk
    refine wpAny_ite_false (decide_eq_false (Nat.not_lt.mpr hs)) ?_
    wp_walk
    exact ⟨_, rfl, h⟩
def rRepT (K : PySem.W.Frag) : R2 := fun x y H Q => ∃ a xs, x = .ref a ∧ y = .int 4 ∧ SqT K H a xs ∧ xs.length = 17 ∧ ∀ p, H p = none → Q (.ref p) (upd H p (.tup (List.replicate 4 xs).flatten))
theorem op_repT : OpR X (binaryOp .Mult) (rRepT X.K) := by
  intro pins s σ H x y v u Q I rx ry h
  obtain ⟨a, xs, rfl, rfl, hx, hl, q⟩ := h
  cases rx
  obtain ⟨t, rfl⟩ := ry
  obtain ⟨its, r, ht, hz⟩ := I.tuple hx
  have hlen := r.length
  obtain ⟨o, ho, hc, n, hd⟩ := id ht
  have h17 : its.toArray.size = 17 := by rw [List.size_toArray]; omega
  have hnew : List.foldl (fun x1 x2 => x1 ++ x2) #[] (List.replicate 4 its.toArray) = (List.replicate 4 its).flatten.toArray := by
    have := foldl_rep its 4 []
    rw [List.nil_append] at this
    exact this
  refine wpAny_binaryOp_repeat_ref (T := "tuple") (U := "int") (by decide) ⟨_, ho, hc⟩ (fun s' => typeIs_int s' 4 t) noFill_tup F.fills_int_mul F.slot_int_rmul rep_tup F.slot_int_index.lookup
    (call_meets F.slot_int_rmul (typeIs_int s 4 t) F.entry_int_rmul (F.args_int_rmul_2 _ _) (rmul_tup 4 t a o its.toArray n hc hd)
      ⟨ho, rfl, ⟨_, ho, hc⟩, call_meets F.slot_tuple_mul ⟨_, ho, hc⟩ F.entry_tuple_mul (F.args_tuple_mul_2 _ _) (mul_tup a o its.toArray n t hc hd h17) ⟨ho, ?_⟩⟩)
  rw [hnew]
  have hzz : (List.replicate 4 xs).flatten.length ≤ sizeLine := by rw [len_rep, hl]; decide
  refine ⟨.ref _, _, I.laid (t' := s.toks) (o := .tup (List.replicate 4 xs).flatten) (fun b ob q => Heap.get?_push_of_some _ q) (Nat.le_refl _) ?_, rfl, q _ I.fresh⟩
  exact ⟨hzz, _, r.rep 4, ⟨_, Heap.get?_push_size _ rfl, rfl, _, rfl⟩⟩
end
end Px
namespace Px
open PySem PySem.Spec PyProof.Rows L2
/-! ### zip over lists and tuples: tp tells which -/
def Sit (tp : Bool) (h : Heap) (it l : Addr) (k : Nat) : Prop := if tp = true then h.IsTupleIter it l k else h.IsListIter it l k
def Ssq (tp : Bool) (h : Heap) (l : Addr) (xs : Array Value) : Prop := if tp = true then h.IsTuple l xs else h.IsList l xs
theorem Sit.at {tp : Bool} {h h' : Heap} {it l : Addr} {k : Nat} (x : Sit tp h it l k) (e : ∀ o, h.get? it = some o → h'.get? it = some o) : Sit tp h' it l k := by
  cases tp
  · exact Heap.IsListIter.at x e
  · exact Heap.IsTupleIter.at x e
theorem Sit.ext {tp : Bool} {h h' : Heap} {it l b : Addr} {k : Nat} (x : Sit tp h it l k) (e : Heap.ExtBut b h h') (hb : it ≠ b) : Sit tp h' it l k := x.at fun o q => e _ _ hb q
theorem Ssq.at {tp : Bool} {h h' : Heap} {l : Addr} {xs : Array Value} (x : Ssq tp h l xs) (e : ∀ o, h.get? l = some o → h'.get? l = some o) : Ssq tp h' l xs := by
  cases tp
  · obtain ⟨o, ho, r⟩ := x; exact ⟨o, e o ho, r⟩
  · obtain ⟨o, ho, r⟩ := x; exact ⟨o, e o ho, r⟩
theorem Ssq.ext {tp : Bool} {h h' : Heap} {l b : Addr} {xs : Array Value} (x : Ssq tp h l xs) (e : Heap.ExtBut b h h') (hb : l ≠ b) : Ssq tp h' l xs := x.at fun o q => e _ _ hb q
theorem Sit.obj {tp : Bool} {h : Heap} {it l : Addr} {k : Nat} (x : Sit tp h it l k) : ∃ o, h.get? it = some o ∧ ∀ v, o.data ≠ .cell v := by
  cases tp
  · obtain ⟨o, ho, _, hd⟩ := x; exact ⟨o, ho, fun v q => by rw [hd] at q; cases q⟩
  · obtain ⟨o, ho, _, hd⟩ := x; exact ⟨o, ho, fun v q => by rw [hd] at q; cases q⟩
section
variable {prog : Program} {w : World} {A : Around} {E : Value → Shared → Prop} {s : Shared}
theorem nextT_item {it t : Addr} {i : Nat} {xs : Array Value} {x : Value} {Q : Value → Shared → Prop} (hit : s.heap.IsTupleIter it t i) (ht : s.heap.IsTuple t xs) (hx : xs[i]? = some x)
    (k : ∀ h', h'.IsTupleIter it t (i + 1) → Heap.SameBut it s.heap h' → Q x { s with heap := h' }) : wpAny (model prog w) A (Builtin.SmallTypes.nextOf (.ref it)) Q E s := by
  obtain ⟨o, ho, c, d⟩ := id hit
  obtain ⟨ol, e1, _, nl, e2⟩ := ht
  unfold Builtin.SmallTypes.nextOf
  refine wpAny_bind (wpAny_callSpecial?_slot (name := Str.ofString "__next__") hit.typeIs F.slot_tuple_iterator_next (wpAny_call_entry F.slot_tuple_iterator_next hit.typeIs F.entry_tuple_iterator_next ?_ (F.args_tuple_iterator_next_1 _)))
  show wpAny _ _ (field (.ref it) 0 >>= _) _ _ _
  refine wpAny_bind (wpAny_field ho d (x := Value.ref t) rfl ?_)
  show wpAny _ _ (ite ((Value.ref t == Value.none) = true) _ _) _ _ _
  rw [if_neg (fun (q : (Value.ref t == Value.none) = true) => Bool.false_ne_true q)]
  show wpAny _ _ (field (.ref it) 1 >>= _) _ _ _
  refine wpAny_bind (wpAny_field ho d (x := Value.int i 0) rfl ?_)
  show wpAny _ _ (seqItems? (.ref t) >>= _) _ _ _
  refine wpAny_bind (wpAny_seqItems e1 e2 ?_)
  simp only [hx, Int.toNat_natCast]
  refine wpAny_bind (wpAny_setField ho d (by simp) (wpAny_pure ⟨x, rfl, wpAny_pure (k _ ⟨_, Heap.get?_update_self _ ho (Obj.isFreed_of_fields (Obj.data_mapFields d _)), (Obj.cls_mapFields ..).trans c, ?_⟩ (Heap.SameBut.update ..))⟩))
  rw [Obj.data_mapFields d]
  simp [rawInt]
theorem nextT_end {it t : Addr} {i : Nat} {xs : Array Value} {Q : Value → Shared → Prop} (hh : A.handled = none) (hit : s.heap.IsTupleIter it t i) (ht : s.heap.IsTuple t xs) (hx : xs[i]? = none)
    (k : ∀ h' e, Heap.ExtBut it s.heap h' → (∃ o, h'.get? e = some o ∧ o.cls = .type "StopIteration") → E (.ref e) { s with heap := h' }) : wpAny (model prog w) A (Builtin.SmallTypes.nextOf (.ref it)) Q E s := by
  obtain ⟨o, ho, c, d⟩ := id hit
  obtain ⟨ol, e1, _, nl, e2⟩ := ht
  unfold Builtin.SmallTypes.nextOf
  refine wpAny_bind (wpAny_callSpecial?_slot (name := Str.ofString "__next__") hit.typeIs F.slot_tuple_iterator_next (wpAny_call_entry F.slot_tuple_iterator_next hit.typeIs F.entry_tuple_iterator_next ?_ (F.args_tuple_iterator_next_1 _)))
  show wpAny _ _ (field (.ref it) 0 >>= _) _ _ _
  refine wpAny_bind (wpAny_field ho d (x := Value.ref t) rfl ?_)
  show wpAny _ _ (ite ((Value.ref t == Value.none) = true) _ _) _ _ _
  rw [if_neg (fun (q : (Value.ref t == Value.none) = true) => Bool.false_ne_true q)]
  show wpAny _ _ (field (.ref it) 1 >>= _) _ _ _
  refine wpAny_bind (wpAny_field ho d (x := Value.int i 0) rfl ?_)
  show wpAny _ _ (seqItems? (.ref t) >>= _) _ _ _
  refine wpAny_bind (wpAny_seqItems e1 e2 ?_)
  simp only [hx, Int.toNat_natCast]
  refine wpAny_bind (wpAny_rule (wpAny_bind (wpAny_setField ho d (by simp) ?_)))
  show wpAny _ _ (newExc (.type "StopIteration") [] >>= _) _ _ _
  refine wpAny_bind ?_
  simp only [newTuple, newExc]
  refine wpAny_bind (wpAny_newObj_type ?_ (by size_fits))
  refine wpAny_bind (m := firstArgMember _ _) (wpAny_of_eq (a := Value.none) (by first | (simp only [firstArgMember]; rfl) | rfl) ?_)
  refine wpAny_newObj_type ?_ (by size_fits)
  simp only [raiseNew]
  refine wpAny_bind (wpAny_handled ?_)
  first | rw [hh] | rw [show A.in1.handled = none from hh]
  refine wpAny_bind (wpAny_pure (wpAny_throw (k _ _ (((Heap.SameBut.update ..).extBut.push _).push _) ⟨_, Heap.get?_push_size _ rfl, rfl⟩)))
theorem Sit.next {tp : Bool} {it l : Addr} {i : Nat} {xs : Array Value} {x : Value} {Q : Value → Shared → Prop} (a : Sit tp s.heap it l i) (b : Ssq tp s.heap l xs) (hx : xs[i]? = some x)
    (k : ∀ h', Sit tp h' it l (i + 1) → Heap.SameBut it s.heap h' → Q x { s with heap := h' }) : wpAny (model prog w) A (Builtin.SmallTypes.nextOf (.ref it)) Q E s := by
  cases tp
  · exact wpAny_nextOf_list_item a b hx k
  · exact nextT_item a b hx k
theorem Sit.fin {tp : Bool} {it l : Addr} {i : Nat} {xs : Array Value} {Q : Value → Shared → Prop} (hh : A.handled = none) (a : Sit tp s.heap it l i) (b : Ssq tp s.heap l xs) (hx : xs[i]? = none)
    (k : ∀ h' e, Heap.ExtBut it s.heap h' → (∃ o, h'.get? e = some o ∧ o.cls = .type "StopIteration") → E (.ref e) { s with heap := h' }) : wpAny (model prog w) A (Builtin.SmallTypes.nextOf (.ref it)) Q E s := by
  cases tp
  · exact wpAny_nextOf_list_end hh a b hx k
  · exact nextT_end hh a b hx k
variable {tp tq : Bool} {z TI TO i1 i2 l1 l2 : Addr} {n1 n2 : Nat} {xs ys : Array Value} {x y a b : Value}
theorem zipS_item {Q : Value → Shared → Prop} (D : ZipApart z TI TO i1 i2 l1 l2) (z0 : IsZip s.heap z TI TO .none) (p0 : IsPair s.heap TI (.ref i1) (.ref i2)) (o0 : IsPair s.heap TO a b)
    (h1 : Sit tp s.heap i1 l1 n1) (h2 : Sit tq s.heap i2 l2 n2) (q1 : Ssq tp s.heap l1 xs) (q2 : Ssq tq s.heap l2 ys) (hx : xs[n1]? = some x) (hy : ys[n2]? = some y)
    (k : ∀ h', IsZip h' z TI TO (rawInt s.heap.objs.size) → IsPair h' TO x y → Sit tp h' i1 l1 (n1 + 1) → Sit tq h' i2 l2 (n2 + 1) → IsPair h' s.heap.objs.size x y → h'.objs.size = s.heap.objs.size + 1 →
      (∀ c o, c ≠ z → c ≠ TO → c ≠ i1 → c ≠ i2 → s.heap.get? c = some o → h'.get? c = some o) → Q (.ref s.heap.objs.size) { s with heap := h' }) :
    wpAny (model prog w) A (Builtin.«zip.__next__» ⟨[.ref z], []⟩) (fun r s' => ∃ v, r = .done (.ret v) ∧ Q v s') E s := by
  show wpAny _ _ (field (.ref z) 2 >>= _) _ _ _
  refine wpAny_bind (wpAny_field z0 rfl (x := Value.bool false) rfl ?_)
  show wpAny _ _ (field (.ref z) 3 >>= _) _ _ _
  refine wpAny_bind (wpAny_field z0 rfl (x := Value.ref TI) rfl ?_)
  refine wpAny_bind (wpAny_seqItems p0 rfl ?_)
  show wpAny _ _ (Builtin.SmallTypes.ownedTupleIsFree (.ref z) >>= _) _ _ _
  refine wpAny_bind ?_
  unfold Builtin.SmallTypes.ownedTupleIsFree
  refine wpAny_bind (wpAny_field z0 rfl (x := Value.none) rfl (wpAny_pure ?_))
  simp only [if_true]
  refine wpAny_bind (wpAny_rule (wpAny_bind (wpAny_field z0 rfl (x := Value.ref TO) rfl (wpAny_bind (wpAny_setField_rec z0 (by simp) fun ha z1 sa => ?_)))))
  replace z1 : IsZip ha z TI TO .ellipsis := z1
  refine wpAny_bind ?_
  simp only [List.forIn_cons, List.forIn_nil, List.zipIdx_cons, List.zipIdx_nil]
  refine wpAny_bind (wpAny_bind (wpAny_onRaise ?_))
  show wpAny _ _ (Builtin.SmallTypes.nextOf (.ref i1) >>= _) _ _ _
  refine wpAny_bind (Sit.next (tp := tp) (h1.ext sa.extBut D.i1z) (q1.ext sa.extBut D.l1z) hx fun hb h1b sb => wpAny_pure ?_)
  have ob : IsPair hb TO a b := sb.extBut _ _ D.TOi1 (sa.extBut _ _ D.TOz o0)
  refine wpAny_bind (wpAny_seqItems ob rfl (wpAny_bind (wpAny_updateSeq_pair ob fun hc oc sc => ?_)))
  replace oc : IsPair hc TO x b := oc
  refine wpAny_bind (wpAny_letGo (wpAny_pure (wpAny_bind (wpAny_bind (wpAny_onRaise ?_)))))
  show wpAny _ _ (Builtin.SmallTypes.nextOf (.ref i2) >>= _) _ _ _
  have h2c : Sit tq hc i2 l2 n2 := ((h2.ext sa.extBut D.i2z).ext sb.extBut D.i12.symm).ext sc.extBut D.TOi2.symm
  have q2c : Ssq tq hc l2 ys := ((q2.ext sa.extBut D.l2z).ext sb.extBut D.l2i1).ext sc.extBut D.l2TO
  refine wpAny_bind (Sit.next (tp := tq) h2c q2c hy fun hd h2d sd => wpAny_pure ?_)
  have od : IsPair hd TO x b := sd.extBut _ _ D.TOi2 oc
  refine wpAny_bind (wpAny_seqItems od rfl (wpAny_bind (wpAny_updateSeq_pair od fun he oe se => ?_)))
  replace oe : IsPair he TO x y := oe
  refine wpAny_bind (wpAny_letGo (wpAny_pure (wpAny_pure (wpAny_bind (wpAny_seqItems oe rfl (wpAny_bind (wpAny_newTuple ?_)))))))
  have siz : he.objs.size = s.heap.objs.size := by rw [se.1, sd.1, sc.1, sb.1, sa.1]
  have ze : IsZip he z TI TO .ellipsis := se.extBut _ _ D.TOz.symm (sd.extBut _ _ D.i2z.symm (sc.extBut _ _ D.TOz.symm (sb.extBut _ _ D.i1z.symm z1)))
  have ke : ∀ c o, c ≠ z → c ≠ TO → c ≠ i1 → c ≠ i2 → s.heap.get? c = some o → he.get? c = some o := fun c o a1 a2 a3 a4 q =>
    se.extBut _ _ a2 (sd.extBut _ _ a4 (sc.extBut _ _ a2 (sb.extBut _ _ a3 (sa.extBut _ _ a1 q))))
  have h1e : Sit tp he i1 l1 (n1 + 1) := ((h1b.ext sc.extBut D.TOi1.symm).ext sd.extBut D.i12).ext se.extBut D.TOi1.symm
  have h2e : Sit tq he i2 l2 (n2 + 1) := h2d.ext se.extBut D.TOi2.symm
  have zl : z < he.objs.size := Heap.lt_size ze
  show wpAny _ _ (Builtin.SmallTypes.ownedTupleHandOut (.ref z) (.ref he.objs.size) >>= _) _ _ _
  refine wpAny_bind ?_
  unfold Builtin.SmallTypes.ownedTupleHandOut
  have zf : IsZip (he.push { cls := .type "tuple", data := .seq #[x, y] }) z TI TO .ellipsis := Heap.get?_push_of_some _ ze
  refine wpAny_bind (wpAny_setField_rec zf (by simp) fun hg zg sg => ?_)
  replace zg : IsZip hg z TI TO (rawInt he.objs.size) := zg
  refine wpAny_setField_rec zg (by simp) fun hk zk sk => ?_
  replace zk : IsZip hk z TI TO (rawInt he.objs.size) := zk
  have up : ∀ c o, c ≠ z → he.get? c = some o → hk.get? c = some o := fun c o a1 q => sk.extBut _ _ a1 (sg.extBut _ _ a1 (Heap.get?_push_of_some _ q))
  have tk : IsPair hk he.objs.size x y := sk.extBut _ _ (Nat.ne_of_gt zl) (sg.extBut _ _ (Nat.ne_of_gt zl) (Heap.get?_push_size _ rfl))
  have nk : hk.objs.size = he.objs.size + 1 := by rw [sk.1, sg.1, Heap.size_push]
  rw [siz] at zk tk nk
  refine wpAny_pure ⟨_, rfl, ?_⟩
  show Q (.ref he.objs.size) _
  rw [siz]
  exact k hk zk (up _ _ D.TOz oe) (h1e.at fun o q => up _ o D.i1z q) (h2e.at fun o q => up _ o D.i2z q) tk nk fun c o a1 a2 a3 a4 q => up c o a1 (ke c o a1 a2 a3 a4 q)
theorem zipS_end {Q : PySem.Fin → Shared → Prop} (hh : A.handled = none) (D : ZipApart z TI TO i1 i2 l1 l2) (z0 : IsZip s.heap z TI TO .none) (p0 : IsPair s.heap TI (.ref i1) (.ref i2)) (o0 : IsPair s.heap TO a b)
    (h1 : Sit tp s.heap i1 l1 n1) (h2 : Sit tq s.heap i2 l2 n2) (q1 : Ssq tp s.heap l1 xs) (q2 : Ssq tq s.heap l2 ys) (hend : xs[n1]? = none ∨ ys[n2]? = none)
    (k : ∀ h' e, (∀ c o, c ≠ z → c ≠ TO → c ≠ i1 → c ≠ i2 → s.heap.get? c = some o → h'.get? c = some o) → (∃ o, h'.get? e = some o ∧ o.cls = .type "StopIteration") → E (.ref e) { s with heap := h' }) :
    wpAny (model prog w) A (Builtin.«zip.__next__» ⟨[.ref z], []⟩) Q E s := by
  show wpAny _ _ (field (.ref z) 2 >>= _) _ _ _
  refine wpAny_bind (wpAny_field z0 rfl (x := Value.bool false) rfl ?_)
  show wpAny _ _ (field (.ref z) 3 >>= _) _ _ _
  refine wpAny_bind (wpAny_field z0 rfl (x := Value.ref TI) rfl ?_)
  refine wpAny_bind (wpAny_seqItems p0 rfl ?_)
  show wpAny _ _ (Builtin.SmallTypes.ownedTupleIsFree (.ref z) >>= _) _ _ _
  refine wpAny_bind ?_
  unfold Builtin.SmallTypes.ownedTupleIsFree
  refine wpAny_bind (wpAny_field z0 rfl (x := Value.none) rfl (wpAny_pure ?_))
  simp only [if_true]
  refine wpAny_bind (wpAny_rule (wpAny_bind (wpAny_field z0 rfl (x := Value.ref TO) rfl (wpAny_bind (wpAny_setField_rec z0 (by simp) fun ha z1 sa => ?_)))))
  replace z1 : IsZip ha z TI TO .ellipsis := z1
  refine wpAny_bind ?_
  simp only [List.forIn_cons, List.forIn_nil, List.zipIdx_cons, List.zipIdx_nil]
  refine wpAny_bind (wpAny_bind (wpAny_onRaise ?_))
  show wpAny _ _ (Builtin.SmallTypes.nextOf (.ref i1) >>= _) _ _ _
  cases hx : xs[n1]? with
  | none =>
    refine wpAny_bind (Sit.fin (tp := tp) hh (h1.ext sa.extBut D.i1z) (q1.ext sa.extBut D.l1z) hx fun hb e sb ⟨oe, g1, g2⟩ => ?_)
    have zb : IsZip hb z TI TO .ellipsis := sb _ _ D.i1z.symm z1
    have ne : e ≠ z := fun q => by rw [q, zb] at g1; cases g1; simp at g2
    exact wpAny_setField_rec zb (by simp) fun hc _ sc => k hc e (fun c o a1 _ a3 _ q => sc.extBut _ _ a1 (sb _ _ a3 (sa.extBut _ _ a1 q))) ⟨oe, sc.extBut _ _ ne g1, g2⟩
  | some x =>
    have hy : ys[n2]? = none := by
      rcases hend with q | q
      · rw [hx] at q; cases q
      · exact q
    refine wpAny_bind (Sit.next (tp := tp) (h1.ext sa.extBut D.i1z) (q1.ext sa.extBut D.l1z) hx fun hb h1b sb => wpAny_pure ?_)
    have ob : IsPair hb TO a b := sb.extBut _ _ D.TOi1 (sa.extBut _ _ D.TOz o0)
    refine wpAny_bind (wpAny_seqItems ob rfl (wpAny_bind (wpAny_updateSeq_pair ob fun hc oc sc => ?_)))
    refine wpAny_bind (wpAny_letGo (wpAny_pure (wpAny_bind (wpAny_bind (wpAny_onRaise ?_)))))
    show wpAny _ _ (Builtin.SmallTypes.nextOf (.ref i2) >>= _) _ _ _
    have h2c : Sit tq hc i2 l2 n2 := ((h2.ext sa.extBut D.i2z).ext sb.extBut D.i12.symm).ext sc.extBut D.TOi2.symm
    have q2c : Ssq tq hc l2 ys := ((q2.ext sa.extBut D.l2z).ext sb.extBut D.l2i1).ext sc.extBut D.l2TO
    refine wpAny_bind (Sit.fin (tp := tq) hh h2c q2c hy fun hd e sd ⟨oe, g1, g2⟩ => ?_)
    have zd : IsZip hd z TI TO .ellipsis := sd _ _ D.i2z.symm (sc.extBut _ _ D.TOz.symm (sb.extBut _ _ D.i1z.symm z1))
    have ne : e ≠ z := fun q => by rw [q, zd] at g1; cases g1; simp at g2
    exact wpAny_setField_rec zd (by simp) fun he _ se => k he e (fun c o a1 a2 a3 a4 q => se.extBut _ _ a1 (sd _ _ a4 (sc.extBut _ _ a2 (sb.extBut _ _ a3 (sa.extBut _ _ a1 q))))) ⟨oe, se.extBut _ _ ne g1, g2⟩
theorem nextS_item {Q : Option Value → Shared → Prop} (D : ZipApart z TI TO i1 i2 l1 l2) (z0 : IsZip s.heap z TI TO .none) (p0 : IsPair s.heap TI (.ref i1) (.ref i2)) (o0 : IsPair s.heap TO a b)
    (h1 : Sit tp s.heap i1 l1 n1) (h2 : Sit tq s.heap i2 l2 n2) (q1 : Ssq tp s.heap l1 xs) (q2 : Ssq tq s.heap l2 ys) (hx : xs[n1]? = some x) (hy : ys[n2]? = some y)
    (k : ∀ h', IsZip h' z TI TO (rawInt s.heap.objs.size) → IsPair h' TO x y → Sit tp h' i1 l1 (n1 + 1) → Sit tq h' i2 l2 (n2 + 1) → IsPair h' s.heap.objs.size x y → h'.objs.size = s.heap.objs.size + 1 →
      (∀ c o, c ≠ z → c ≠ TO → c ≠ i1 → c ≠ i2 → s.heap.get? c = some o → h'.get? c = some o) → Q (some (.ref s.heap.objs.size)) { s with heap := h' }) : wpAny (model prog w) A (pyNext (.ref z)) Q E s := by
  have hT : s.TypeIs (.ref z) "zip" := ⟨_, z0, rfl⟩
  unfold pyNext
  exact wpAny_bind (wpAny_attempt (wpAny_callSpecial?_slot (name := Str.ofString "__next__") hT F.slot_zip_next
    (wpAny_call_entry F.slot_zip_next hT F.entry_zip_next (zipS_item D z0 p0 o0 h1 h2 q1 q2 hx hy fun h' b1 b2 b3 b4 b5 b6 b7 => wpAny_pure (k h' b1 b2 b3 b4 b5 b6 b7)) (F.args_zip_next_1 _))))
theorem nextS_end {Q : Option Value → Shared → Prop} (hh : A.handled = none) (D : ZipApart z TI TO i1 i2 l1 l2) (z0 : IsZip s.heap z TI TO .none) (p0 : IsPair s.heap TI (.ref i1) (.ref i2)) (o0 : IsPair s.heap TO a b)
    (h1 : Sit tp s.heap i1 l1 n1) (h2 : Sit tq s.heap i2 l2 n2) (q1 : Ssq tp s.heap l1 xs) (q2 : Ssq tq s.heap l2 ys) (hend : xs[n1]? = none ∨ ys[n2]? = none)
    (k : ∀ h', (∀ c o, c ≠ z → c ≠ TO → c ≠ i1 → c ≠ i2 → s.heap.get? c = some o → h'.get? c = some o) → Q none { s with heap := h' }) : wpAny (model prog w) A (pyNext (.ref z)) Q E s := by
  have hT : s.TypeIs (.ref z) "zip" := ⟨_, z0, rfl⟩
  unfold pyNext
  refine wpAny_bind (wpAny_attempt (wpAny_callSpecial?_slot (name := Str.ofString "__next__") hT F.slot_zip_next
    (wpAny_call_entry F.slot_zip_next hT F.entry_zip_next (zipS_end hh D z0 p0 o0 h1 h2 q1 q2 hend fun h' e hk ⟨o, g1, g2⟩ => ?_) (F.args_zip_next_1 _))))
  exact wpAny_bind (wpAny_isInstance (T := "StopIteration") (b := true) ⟨o, g1, g2⟩ isSubtype_stop (wpAny_pure (k _ hk)))
end
def itCls (tp : Bool) : String := if tp = true then "tuple_iterator" else "list_iterator"
abbrev zp1 (tp : Bool) (h : Heap) (l1 : Addr) : Heap := h.push { cls := .type (itCls tp), data := .fields #[.ref l1, .int 0 0] }
abbrev zp2 (tp tq : Bool) (h : Heap) (l1 l2 : Addr) : Heap := (zp1 tp h l1).push { cls := .type (itCls tq), data := .fields #[.ref l2, .int 0 0] }
abbrev zp3 (tp tq : Bool) (h : Heap) (l1 l2 : Addr) : Heap := (zp2 tp tq h l1 l2).push { cls := .type "tuple", data := .seq #[.ref h.objs.size, .ref (zp1 tp h l1).objs.size] }
abbrev zp4 (tp tq : Bool) (h : Heap) (l1 l2 : Addr) : Heap := (zp3 tp tq h l1 l2).push { cls := .type "tuple", data := .seq #[.none, .none] }
abbrev zp5 (tp tq : Bool) (h : Heap) (l1 l2 : Addr) : Heap := (zp4 tp tq h l1 l2).push { cls := .type "zip", data := .fields #[.none, .bool false, .bool false, .ref (zp2 tp tq h l1 l2).objs.size, .ref (zp3 tp tq h l1 l2).objs.size] }
theorem iterS {prog : Program} {w : World} {A : Around} {E : Value → Shared → Prop} {s : Shared} {tp : Bool} {l : Addr} {xs : Array Value} {Q : Value → Shared → Prop} (h : Ssq tp s.heap l xs)
    (k : Q (.ref s.heap.objs.size) { s with heap := s.heap.push { cls := .type (itCls tp), data := .fields #[.ref l, .int 0 0] } }) : wpAny (model prog w) A (pyIter (.ref l)) Q E s := by
  cases tp
  · exact wpAny_pyIter_list h k
  · exact wpAny_pyIter_tuple h k
theorem newS (tp tq : Bool) (l1 l2 : Addr) (xs ys : Array Value) :
    Meets (Builtin.«zip.__new__» ⟨[.type "zip", .ref l1, .ref l2], []⟩) (fun _ R s => Ssq tp s.heap l1 xs ∧ Ssq tq s.heap l2 ys ∧
      R (.ok (.ret (.ref (zp4 tp tq s.heap l1 l2).objs.size))) { s with heap := zp5 tp tq s.heap l1 l2 }) :=
  .of_wp fun prog w A R s h => by
    obtain ⟨hp, g, d, tk, os⟩ := s; obtain ⟨e1, e2, h⟩ := h
    have hsub := sub_zip
    have L1 : Ssq tp (Shared.heap ⟨hp, g, d, tk, os⟩) l1 xs := e1
    have L2' : Ssq tq (Shared.heap ⟨hp.push { cls := .type (itCls tp), data := .fields #[.ref l1, .int 0 0] }, g, d, tk, os⟩) l2 ys := Ssq.at e2 fun o q => Heap.get?_push_of_some _ q
    wp_walk using iterS L1, iterS L2'
    exact ⟨_, rfl, h⟩
end Px
namespace Px
open PySem PySem.Spec PyProof.Rows L2
def Sq (tp : Bool) (K : PySem.W.Frag) (H : Hp) (a : Addr) (xs : List V) : Prop := if tp = true then SqT K H a xs else SqL K H a xs
theorem Sq.raw {X : Cx} {pins : List (Addr × Obj)} {σ : L2.St} {H : Hp} {s : Shared} {tp : Bool} {a : Addr} {xs : List V} (I : L2.Inv X pins σ H s) (h : Sq tp X.K H a xs) : ∃ its : List Value, Vals xs its ∧ Ssq tp s.heap a its.toArray ∧ xs.length ≤ sizeLine := by
  cases tp
  · obtain ⟨its, r, p, z⟩ := I.list h; exact ⟨its, r, p.isList, z⟩
  · obtain ⟨its, r, p, z⟩ := I.tuple h; exact ⟨its, r, p, z⟩
theorem Sq.inj {X : Cx} {pins : List (Addr × Obj)} {σ : L2.St} {H : Hp} {s : Shared} {tp : Bool} {a : Addr} {xs ys : List V} (I : L2.Inv X pins σ H s) (h : Sq tp X.K H a xs) (h' : Sq tp X.K H a ys) : xs = ys := by
  cases tp
  · exact I.list_inj h h'
  · exact I.tuple_inj h h'
theorem Ssq.lt {tp : Bool} {h : Heap} {l : Addr} {xs : Array Value} (x : Ssq tp h l xs) : l < h.objs.size := by
  cases tp
  · obtain ⟨o, ho, _⟩ := x; exact Heap.lt_size ho
  · obtain ⟨o, ho, _⟩ := x; exact Heap.lt_size ho
section
variable {prog : Program} {w : World} {A : Around} {E : Value → Shared → Prop} {s : Shared}
theorem callS {tp tq : Bool} {l1 l2 : Addr} {xs ys : Array Value} {Q : Value → Shared → Prop} (e1 : Ssq tp s.heap l1 xs) (e2 : Ssq tq s.heap l2 ys)
    (k : ∀ h', IsZip h' (s.heap.objs.size + 4) (s.heap.objs.size + 2) (s.heap.objs.size + 3) .none → IsPair h' (s.heap.objs.size + 2) (.ref s.heap.objs.size) (.ref (s.heap.objs.size + 1)) →
      IsPair h' (s.heap.objs.size + 3) .none .none → Sit tp h' s.heap.objs.size l1 0 → Sit tq h' (s.heap.objs.size + 1) l2 0 →
      (∀ c o, s.heap.get? c = some o → h'.get? c = some o) → Q (.ref (s.heap.objs.size + 4)) { s with heap := h' }) : wpAny (model prog w) A (call (.type "zip") [.ref l1, .ref l2]) Q E s := by
  refine callType_new F.called_zip (by decide) (F.typeCall_zip_2 _ _) (F.newCall_zip_2 _ _) (fun obj => F.args_object_init_3 obj _ _) F.entry_zip_new (newS tp tq l1 l2 xs ys) ⟨e1, e2, ?_⟩
  have n1 : (zp1 tp s.heap l1).objs.size = s.heap.objs.size + 1 := Heap.size_push ..
  have n2 : (zp2 tp tq s.heap l1 l2).objs.size = s.heap.objs.size + 2 := by rw [Heap.size_push, n1]
  have n3 : (zp3 tp tq s.heap l1 l2).objs.size = s.heap.objs.size + 3 := by rw [Heap.size_push, n2]
  have n4 : (zp4 tp tq s.heap l1 l2).objs.size = s.heap.objs.size + 4 := by rw [Heap.size_push, n3]
  have g5 : (zp5 tp tq s.heap l1 l2).get? (zp4 tp tq s.heap l1 l2).objs.size = some _ := Heap.get?_push_size _ rfl
  have g4 : (zp5 tp tq s.heap l1 l2).get? (zp3 tp tq s.heap l1 l2).objs.size = some _ := Heap.get?_push_of_some _ (Heap.get?_push_size _ rfl)
  have g3 : (zp5 tp tq s.heap l1 l2).get? (zp2 tp tq s.heap l1 l2).objs.size = some _ := Heap.get?_push_of_some _ (Heap.get?_push_of_some _ (Heap.get?_push_size _ rfl))
  have g2 : (zp5 tp tq s.heap l1 l2).get? (zp1 tp s.heap l1).objs.size = some _ := Heap.get?_push_of_some _ (Heap.get?_push_of_some _ (Heap.get?_push_of_some _ (Heap.get?_push_size _ rfl)))
  have g1 : (zp5 tp tq s.heap l1 l2).get? s.heap.objs.size = some _ := Heap.get?_push_of_some _ (Heap.get?_push_of_some _ (Heap.get?_push_of_some _ (Heap.get?_push_of_some _ (Heap.get?_push_size _ rfl))))
  show _ ∧ _
  rw [n2, n3, n4] at g5
  rw [n1, n2] at g3
  rw [n3] at g4
  rw [n1] at g2
  rw [n4]
  have sit : ∀ (tp : Bool) {h : Heap} {it l : Addr}, h.get? it = some { cls := .type (itCls tp), data := .fields #[.ref l, .int 0 0] } → Sit tp h it l 0 := fun tp h it l q => by
    cases tp
    · exact ⟨_, q, rfl, rfl⟩
    · exact ⟨_, q, rfl, rfl⟩
  exact ⟨⟨_, g5, rfl⟩, k _ g5 g3 g4 (sit tp g1) (sit tq g2) fun c o x => Heap.get?_push_of_some _ (Heap.get?_push_of_some _ (Heap.get?_push_of_some _ (Heap.get?_push_of_some _ (Heap.get?_push_of_some _ x))))⟩
end
/-- what stands at a and b, item by item in new pairs -/
def Itz2 (tp tq : Bool) (K : PySem.W.Frag) (a b : Addr) : It :=
  ⟨fun i H => ∃ (xs ys : List V) (x y : V), Sq tp K H a xs ∧ Sq tq K H b ys ∧ xs[i]? = some x ∧ ys[i]? = some y,
    fun i H v H' => ∃ T x y, v = .ref T ∧ H T = none ∧ H' = upd H T (.tup [x, y]) ∧ (∀ xs, Sq tp K H a xs → xs[i]? = some x) ∧ ∀ ys, Sq tq K H b ys → ys[i]? = some y,
    fun i H => ∃ xs ys : List V, Sq tp K H a xs ∧ Sq tq K H b ys ∧ (xs.length ≤ i ∨ ys.length ≤ i)⟩
theorem turn_zipS {P : Program} {w : World} {K : PySem.W.Frag} {elts : List Expr} {kk : Nat} {tpos : Pos} {tp tq : Bool} {a b z TI TO i1 i2 : Addr} (D : ZipApart z TI TO i1 i2 a b) :
    Turn P w K (.Tuple elts kk tpos) (Itz2 tp tq K a b) [z, TI, TO, i1, i2] z (fun i h => IsZip h z TI TO .none ∧ IsPair h TI (.ref i1) (.ref i2) ∧ (∃ x y, IsPair h TO x y) ∧ Sit tp h i1 a i ∧ Sit tq h i2 b i) where
  mem := by simp
  obj := fun i h st c hc => by
    obtain ⟨hz, hTI, ⟨x, y, hTO⟩, h1, h2⟩ := st
    have e' : c = z ∨ c = TI ∨ c = TO ∨ c = i1 ∨ c = i2 := by simpa using hc
    rcases e' with q | q | q | q | q
    · rw [q]; exact ⟨_, hz, fun v q => nomatch q⟩
    · rw [q]; exact ⟨_, hTI, fun v q => nomatch q⟩
    · rw [q]; exact ⟨_, hTO, fun v q => nomatch q⟩
    · rw [q]; exact h1.obj
    · rw [q]; exact h2.obj
  keep := fun i h h' st k => by
    obtain ⟨hz, hTI, ⟨x, y, hTO⟩, h1, h2⟩ := st
    exact ⟨k z (by simp) _ hz, k TI (by simp) _ hTI, ⟨x, y, k TO (by simp) _ hTO⟩, h1.at fun o q => k i1 (by simp) o q, h2.at fun o q => k i2 (by simp) o q⟩
  item := by
    intro X hP hw hK hc i pins s σ H E I hf st hg
    subst hP hw hK
    obtain ⟨hz, hTI, ⟨x0, y0, hTO⟩, h1, h2⟩ := st
    obtain ⟨xs, ys, x, y, hqx, hqy, hx, hy⟩ := hg
    obtain ⟨its, rv, p, _⟩ := hqx.raw I
    obtain ⟨its2, rv2, p2, _⟩ := hqy.raw I
    obtain ⟨u, hu, ru⟩ := rv.get hx
    obtain ⟨u2, hu2, ru2⟩ := rv2.get hy
    have hzl : z < s.heap.objs.size := Heap.lt_size hz
    refine nextS_item D hz hTI hTO h1 h2 p p2 (x := u) (y := u2) (by simpa using hu) (by simpa using hu2) fun h' z' TO' h1' h2' hT hsz hk => ?_
    refine ⟨_, rfl, wpAny_letOwnedTupleGo_zip (s := { s with heap := h' }) z' fun h'' z'' sb => ?_⟩
    have hT2 : h''.get? s.heap.objs.size = some { cls := .type "tuple", data := .seq #[u, u2] } := (sb.2 _ (Nat.ne_of_gt hzl)).trans hT
    have new : ObjOk X.prog X.w (upd H s.heap.objs.size (.tup [x, y])) h'' s.heap.objs.size (.tup [x, y]) :=
      ⟨by show 2 ≤ sizeLine; decide, [u, u2], .cons ru (.cons ru2 .nil), ⟨_, hT2, rfl, _, rfl⟩⟩
    have I1 : L2.Inv X pins σ (upd H s.heap.objs.size (.tup [x, y])) { s with heap := h'' } :=
      I.turnedNew (t' := s.toks) (ch := [z, TI, TO, i1, i2]) (fun c o hb q => (sb.2 c (fun q' => hb (by simp [q']))).trans (hk c o (fun q' => hb (by simp [q'])) (fun q' => hb (by simp [q'])) (fun q' => hb (by simp [q'])) (fun q' => hb (by simp [q'])) q)) hf (Nat.le_refl _) new
    refine ⟨.ref s.heap.objs.size, _, I1, rfl, ⟨_, x, y, rfl, I.hok.fresh (Nat.le_refl _), rfl, fun l hl => by rw [hl.inj I hqx]; exact hx, fun l hl => by rw [hl.inj I hqy]; exact hy⟩, ⟨z'', ?_, ⟨u, u2, ?_⟩, ?_, ?_⟩, fun c hcm => ?_⟩
    · exact (sb.2 _ D.TIz).trans (hk _ _ D.TIz D.TITO D.TIi1 D.TIi2 hTI)
    · exact (sb.2 _ D.TOz).trans TO'
    · exact h1'.at fun o q => (sb.2 _ D.i1z).trans q
    · exact h2'.at fun o q => (sb.2 _ D.i2z).trans q
    · have hlt : c < s.heap.objs.size := by
        have e' : c = z ∨ c = TI ∨ c = TO ∨ c = i1 ∨ c = i2 := by simpa using hcm
        rcases e' with q | q | q | q | q
        · rw [q]; exact hzl
        · rw [q]; exact Heap.lt_size hTI
        · rw [q]; exact Heap.lt_size hTO
        · rw [q]; obtain ⟨_, e1, _⟩ := h1.obj; exact Heap.lt_size e1
        · rw [q]; obtain ⟨_, e2, _⟩ := h2.obj; exact Heap.lt_size e2
      rw [upd_ne (Nat.ne_of_lt hlt)]
      exact (hf c hcm).1
  done := by
    intro X hP hw hK hc i pins s σ H E I hf st hg
    subst hP hw hK
    obtain ⟨hz, hTI, ⟨x0, y0, hTO⟩, h1, h2⟩ := st
    obtain ⟨xs, ys, hqx, hqy, hend⟩ := hg
    obtain ⟨its, rv, p, _⟩ := hqx.raw I
    obtain ⟨its2, rv2, p2, _⟩ := hqy.raw I
    have l1 := rv.length
    have l2 := rv2.length
    have he : its.toArray[i]? = none ∨ its2.toArray[i]? = none := by
      rcases hend with q | q
      · exact .inl (by simp; omega)
      · exact .inr (by simp; omega)
    exact nextS_end (I.ok.hd hc) D hz hTI hTO h1 h2 p p2 he fun h' hk => ⟨rfl, I.turnedL (t' := s.toks) (ch := [z, TI, TO, i1, i2]) (fun c o hb q =>
      hk c o (fun q' => hb (by simp [q'])) (fun q' => hb (by simp [q'])) (fun q' => hb (by simp [q'])) (fun q' => hb (by simp [q'])) q) hf⟩
  self := fun A i s Q E st h => wpAny_pyIter_zip st.1 h
def iZipS (tp tq : Bool) (K : PySem.W.Frag) (ta : TA) : TI := fun σ H R => ta σ H fun vs H1 => ∃ a b xs ys, vs = [.ref a, .ref b] ∧ Sq tp K H1 a xs ∧ Sq tq K H1 b ys ∧ R (Itz2 tp tq K a b) H1
theorem pi_zipS (tp tq : Bool) {X : Cx} {e e2 : Expr} {ta : TA} {p pos tpos : Pos} {elts : List Expr} {kk : Nat} (hm : X.mg "zip" = none) (ha : PA X [e, e2] ta) (hg : Gl X "zip" := by rfl)
    (hs : starEach [e, e2] X.env = (false, eval e X.env) :: starEach [e2] X.env := by rfl) (hpl : (backTo pos (starEach [e2] X.env)).any (·.1) = false := by rfl) :
    PI X (.Tuple elts kk tpos) (.Call (.Name "zip" p) [e, e2] [] pos) (iZipS tp tq X.K ta) := by
  intro pins s σ H R I h
  refine Call_ (ld_blt I hg hm boot_zip5 (PyProof.Rows.callWith_type1 (thn (ha pos pins s σ H _ I h) fun us s1 ⟨vs, H1, I1, r1, q1⟩ => ?_) hs hpl))
  obtain ⟨a, b, xs, ys, ex, hqx, hqy, q⟩ := q1
  subst ex
  cases r1 with
  | cons r rr =>
    cases rr with
    | cons r' rr =>
      cases rr
      cases r
      cases r'
      obtain ⟨its, rv, p1, _⟩ := hqx.raw I1
      obtain ⟨its2, rv2, p2, _⟩ := hqy.raw I1
      refine callS p1 p2 fun h' hz hTI hTO h1 h2 hk => wpAny_pyIter_zip hz ?_
      have I2 : L2.Inv X pins σ H1 { s1 with heap := h' } := I1.kept (t' := s1.toks) hk
      refine ⟨s1.heap.objs.size + 4, [s1.heap.objs.size + 4, s1.heap.objs.size + 2, s1.heap.objs.size + 3, s1.heap.objs.size, s1.heap.objs.size + 1], _, _, H1, rfl, I2, turn_zipS (PySem.W.ktu_apart s1.heap.objs.size a b p1.lt p2.lt), ⟨hz, hTI, ⟨_, _, hTO⟩, h1, h2⟩, fun c hcm => ?_, q⟩
      have e' : c = s1.heap.objs.size + 4 ∨ c = s1.heap.objs.size + 2 ∨ c = s1.heap.objs.size + 3 ∨ c = s1.heap.objs.size ∨ c = s1.heap.objs.size + 1 := by simpa using hcm
      have hle : s1.heap.objs.size ≤ c := by
        rcases e' with z | z | z | z | z <;> rw [z] <;> first | exact Nat.le_add_right _ _ | exact Nat.le_refl _
      exact I1.fpOk hle (I1.hok.fresh hle)
/-! ### the turns, for a loop and a comprehension -/
theorem for_zip {tp tq : Bool} {K : PySem.W.Frag} {a b : Addr} {xs ys : List V} {g : TG} {tb : TS} {D : Ends} {σ : L2.St} {H : Hp} (Pv : Nat → L2.St → Hp → Prop) (h0 : Pv 0 σ H)
    (hl : ∀ i σ H, i ≤ min xs.length ys.length → Pv i σ H → Sq tp K H a xs ∧ Sq tq K H b ys)
    (hs : ∀ i x y T σ H, xs[i]? = some x → ys[i]? = some y → Pv i σ H → H T = none → g (.ref T) σ (upd H T (.tup [x, y])) fun σ2 H2 => tb { D with nx := Pv (i + 1), ct := Pv (i + 1), bk := D.nx } σ2 H2) (hd : ∀ σ H, Pv (min xs.length ys.length) σ H → D.nx σ H) :
    ∃ W : Nat → Nat → L2.St → Hp → Prop, (∃ m, W 0 m σ H) ∧ ∀ i m σ H, W i m σ H →
      ((Itz2 tp tq K a b).stop i H ∧ D.nx σ H) ∨ ((Itz2 tp tq K a b).go i H ∧ ∃ N : L2.St → Hp → Prop, (∀ σ' H', N σ' H' → ∃ m', m' < m ∧ W (i + 1) m' σ' H') ∧ ∀ x H', (Itz2 tp tq K a b).yld i H x H' → g x σ H' fun σ2 H2 => tb { D with nx := N, ct := N, bk := D.nx } σ2 H2) := by
  refine ⟨fun i m σ H => m = min xs.length ys.length - i ∧ i ≤ min xs.length ys.length ∧ Pv i σ H, ⟨min xs.length ys.length, by simp, Nat.zero_le _, h0⟩, ?_⟩
  rintro i m σ H ⟨rfl, hi, p⟩
  obtain ⟨q1, q2⟩ := hl i σ H hi p
  by_cases hlt : i < min xs.length ys.length
  · have hx : i < xs.length := by omega
    have hy : i < ys.length := by omega
    refine .inr ⟨⟨xs, ys, xs[i], ys[i], q1, q2, by simp [hx], by simp [hy]⟩, Pv (i + 1), fun σ' H' p' => ⟨min xs.length ys.length - (i + 1), by omega, rfl, hlt, p'⟩, fun v H' yl => ?_⟩
    obtain ⟨T, x, y, rfl, hT, rfl, e1, e2⟩ := yl
    exact hs i x y T σ H (e1 xs q1) (e2 ys q2) p hT
  · have e : i = min xs.length ys.length := by omega
    subst e
    exact .inl ⟨⟨xs, ys, q1, q2, by omega⟩, hd σ H p⟩
end Px
namespace Px
open PySem PySem.Spec PyProof.Rows L2
theorem drawsT {prog : Program} {w : World} {A : Around} (hh : A.handled = none) (it l : Addr) (ne : l ≠ it) (xs : Array Value) :
    Draws prog w A it [it, l] xs.size (fun i v => xs[i]? = some v) (fun i h => h.IsTupleIter it l i ∧ h.IsTuple l xs) where
  live := fun _ _ st => let ⟨o, ho, _⟩ := st.1; ⟨o, ho⟩
  frame := fun _ _ _ st k => ⟨st.1.at fun o e => k it (by simp) o e, let ⟨o, ho, r⟩ := st.2; ⟨o, k l (by simp) o ho, r⟩⟩
  item := fun i s Q E hi st k => nextT_item st.1 st.2 (x := xs[i]) (by simp [hi]) fun h' a b => k _ h' s.toks (by simp [hi]) ⟨a, st.2.extBut b.extBut ne⟩ b
  done := fun s Q E st k => nextT_end hh st.1 st.2 (by simp) k
theorem enumNewT (l : Addr) (o : Obj) (xs : Array Value) (n : Nat) (hc : o.cls = .type "tuple") (hd : o.data = .seq xs n) :
    Meets (Builtin.«enumerate.__new__» ⟨[.type "enumerate", .ref l], []⟩) (fun _ R s => s.heap.get? l = some o ∧
      R (.ok (.ret (.ref (s.heap.push { cls := .type "tuple_iterator", data := .fields #[.ref l, .int 0 0] }).objs.size)))
        { s with heap := (s.heap.push { cls := .type "tuple_iterator", data := .fields #[.ref l, .int 0 0] }).push { cls := .type "enumerate", data := .fields #[.none, .bool false, .ref s.heap.objs.size, rawInt 0, .none, .none] } }) :=
  .of_wp fun prog w A R s h => by
    obtain ⟨cl, dct, dt, sl⟩ := o
    simp only at hc hd
    subst hc hd
    obtain ⟨hp, g, d, tk, os⟩ := s; obtain ⟨hl, h⟩ := h
    have hsub := sub_enumerate
    have hL : Heap.IsTuple (Shared.heap ⟨hp, g, d, tk, os⟩) l xs := ⟨_, hl, rfl, n, rfl⟩
    wp_walk using AutoSeq1.wpAny_loadPart' hl
    refine wpAny_stack_any fun st => wpAny_pure ?_
    split
    · rename_i c _ _ _ _ _
      cases (c == Value.type "enumerate")
      · wp_walk using AutoSeq1.wpAny_loadPart' hl, wpAny_pyIter_tuple hL
        exact ⟨_, rfl, h⟩
      · wp_walk using AutoSeq1.wpAny_loadPart' hl, wpAny_pyIter_tuple hL
        exact ⟨_, rfl, h⟩
    · wp_walk using AutoSeq1.wpAny_loadPart' hl, wpAny_pyIter_tuple hL
      exact ⟨_, rfl, h⟩
theorem callEnumT {prog : Program} {w : World} {A : Around} {E : Value → Shared → Prop} {s : Shared} {l : Addr} {xs : Array Value} {Q : Value → Shared → Prop} (hL : IsTup s.heap l xs)
    (k : ∀ h', IsEnum h' (s.heap.objs.size + 1) s.heap.objs.size 0 .none → h'.IsTupleIter s.heap.objs.size l 0 → (∀ b o, s.heap.get? b = some o → h'.get? b = some o) → Q (.ref (s.heap.objs.size + 1)) { s with heap := h' }) :
    wpAny (model prog w) A (call (.type "enumerate") [.ref l]) Q E s := by
  obtain ⟨o, hl, hc, n, hd⟩ := hL
  refine callType_new F.called_enumerate (by decide) (F.typeCall_enumerate_1 _) (F.newCall_enumerate_1 _) (fun obj => F.args_object_init_2 obj _) F.entry_enumerate_new (enumNewT l o xs n hc hd) ⟨hl, ?_⟩
  have n1 : (s.heap.push { cls := .type "tuple_iterator", data := .fields #[.ref l, .int 0 0] }).objs.size = s.heap.objs.size + 1 := Heap.size_push ..
  show _ ∧ _
  rw [n1]
  have g2 : ((s.heap.push { cls := .type "tuple_iterator", data := .fields #[.ref l, .int 0 0] }).push { cls := .type "enumerate", data := .fields #[.none, .bool false, .ref s.heap.objs.size, rawInt 0, .none, .none] }).get? (s.heap.push { cls := .type "tuple_iterator", data := .fields #[.ref l, .int 0 0] }).objs.size = some _ := Heap.get?_push_size _ rfl
  rw [n1] at g2
  have g1 : ((s.heap.push { cls := .type "tuple_iterator", data := .fields #[.ref l, .int 0 0] }).push { cls := .type "enumerate", data := .fields #[.none, .bool false, .ref s.heap.objs.size, rawInt 0, .none, .none] }).get? s.heap.objs.size = some _ := Heap.get?_push_of_some _ (Heap.get?_push_size _ rfl)
  exact ⟨⟨_, g2, rfl⟩, k _ g2 ⟨_, g1, rfl, rfl⟩ fun b o q => Heap.get?_push_of_some _ (Heap.get?_push_of_some _ q)⟩
/-- a tuple's items, each in a new pair -/
def Ite2 (K : PySem.W.Frag) (a : Addr) : It :=
  ⟨fun i H => ∃ (xs : List V) (x : V), SqT K H a xs ∧ xs[i]? = some x, fun i H v H' => ∃ T x, v = .ref T ∧ H T = none ∧ H' = upd H T (.tup [.int (i : Nat), x]) ∧ ∀ xs, SqT K H a xs → xs[i]? = some x, fun i H => ∃ xs : List V, SqT K H a xs ∧ xs.length = i⟩
theorem turn_enumT {P : Program} {w : World} {K : PySem.W.Frag} {elts : List Expr} {kk : Nat} {tpos : Pos} (a e it : Addr) :
    Turn P w K (.Tuple elts kk tpos) (Ite2 K a) [e, it] e (fun i h => (∃ old, IsEnum h e it ((i : Nat) : Int) old) ∧ h.IsTupleIter it a i ∧ e ≠ it) where
  mem := by simp
  obj := fun i h st b hb => by
    obtain ⟨⟨old, he⟩, ⟨o, ho, hc, hd⟩, _⟩ := st
    have e' : b = e ∨ b = it := by simpa using hb
    rcases e' with z | z
    · rw [z]; exact ⟨_, he, fun v q => nomatch q⟩
    · rw [z]; exact ⟨o, ho, fun v q => by rw [hd] at q; cases q⟩
  keep := fun i h h' st k => let ⟨⟨old, he⟩, hi, hne⟩ := st; ⟨⟨old, k e (by simp) _ he⟩, hi.at fun o q => k it (by simp) o q, hne⟩
  item := by
    intro X hP hw hK hc i pins s σ H E I hf st hg
    subst hP hw hK
    obtain ⟨⟨old, he⟩, hit, hne⟩ := st
    obtain ⟨xs, x, hq, hx⟩ := hg
    obtain ⟨its, rv, p, hz⟩ := I.tuple hq
    obtain ⟨u, hu, ru⟩ := rv.get hx
    have hel : e < s.heap.objs.size := Heap.lt_size he
    have hil : it < s.heap.objs.size := by obtain ⟨_, q, _⟩ := hit; exact Heap.lt_size q
    have nea : e ≠ a := fun q => by
      obtain ⟨o, ho, hcl, _⟩ := p
      have he' : s.heap.get? e = some _ := he
      rw [q, ho] at he'
      cases he'
      simp at hcl
    have nia : a ≠ it := fun q => by
      obtain ⟨o, ho, hcl, _⟩ := p
      obtain ⟨o2, ho2, hcl2, _⟩ := hit
      rw [q, ho2] at ho
      cases ho
      rw [hcl2] at hcl
      simp at hcl
    have hlt : i < its.toArray.size := by
      rw [List.size_toArray, ← rv.length]
      exact (List.getElem?_eq_some_iff.mp hx).1
    refine wpAny_pyNext_enum_itemD (drawsT (prog := X.prog) (w := X.w) (A := X.A.in1) (show X.A.in1.handled = none from I.ok.hd hc) it a nia its.toArray) he ⟨hit, p⟩ hlt hne (by simp [hne, nea]) fun v h' tk hP ho st' hT hsz hk => ?_
    have hv : v = u := by
      have e1 : its.toArray[i]? = some v := hP
      have e2 : its.toArray[i]? = some u := by simpa using hu
      rw [e1] at e2
      exact Option.some.inj e2
    subst hv
    refine ⟨_, rfl, wpAny_letOwnedTupleGo_enum (s := { s with heap := h', toks := tk + 1 }) ho fun h'' he' sb => ?_⟩
    have hT2 : h''.get? s.heap.objs.size = some { cls := .type "tuple", data := .seq #[.int i tk, v] } := (sb.2 _ (Nat.ne_of_gt hel)).trans hT
    have new : ObjOk X.prog X.w (upd H s.heap.objs.size (.tup [.int (i : Nat), x])) h'' s.heap.objs.size (.tup [.int (i : Nat), x]) :=
      ⟨by show 2 ≤ sizeLine; decide, [.int i tk, v], .cons ⟨_, rfl⟩ (.cons ru .nil), ⟨_, hT2, rfl, _, rfl⟩⟩
    have I1 : L2.Inv X pins σ (upd H s.heap.objs.size (.tup [.int (i : Nat), x])) { s with heap := h'', toks := tk + 1 } :=
      I.turnedNew (ch := [e, it]) (fun b ob hb q => (sb.2 b (fun z => hb (by simp [z]))).trans (hk b ob (fun z => hb (by simp [z])) (fun z => hb (by simp [z])) q)) hf (Nat.le_refl _) new
    refine ⟨.ref s.heap.objs.size, _, I1, rfl, ⟨_, x, rfl, I.hok.fresh (Nat.le_refl _), rfl, fun ys hy => by rw [I.tuple_inj hy hq]; exact hx⟩, ⟨⟨v, ?_⟩, st'.1.at fun o q => (sb.2 it (Ne.symm hne)).trans q, hne⟩, fun b hb => ?_⟩
    · have e1 : ((i + 1 : Nat) : Int) = (i : Int) + 1 := by omega
      rw [e1]; exact he'
    · have hb' : b < s.heap.objs.size := by
        have e' : b = e ∨ b = it := by simpa using hb
        rcases e' with z | z
        · rw [z]; exact hel
        · rw [z]; exact hil
      rw [upd_ne (Nat.ne_of_lt hb')]
      exact (hf b hb).1
  done := by
    intro X hP hw hK hc i pins s σ H E I hf st hg
    subst hP hw hK
    obtain ⟨⟨old, he⟩, hit, hne⟩ := st
    obtain ⟨xs, hq, hx⟩ := hg
    obtain ⟨its, rv, p, hz⟩ := I.tuple hq
    obtain ⟨f0, f1, f2, f3, f4, f5⟩ := hf it (by simp)
    have nia : a ≠ it := fun q => by
      obtain ⟨o, ho, hcl, _⟩ := p
      obtain ⟨o2, ho2, hcl2, _⟩ := hit
      rw [q, ho2] at ho
      cases ho
      rw [hcl2] at hcl
      simp at hcl
    have hl : its.toArray.size = i := by rw [List.size_toArray, ← rv.length]; exact hx
    exact wpAny_pyNext_enum_endD (drawsT (prog := X.prog) (w := X.w) (A := X.A.in1) (show X.A.in1.handled = none from I.ok.hd hc) it a nia its.toArray) he (by rw [hl]; exact ⟨hit, p⟩) fun h' eb => ⟨rfl, I.turned (t' := s.toks) (fun b o hb q => eb b o hb q) f0 f1 f3 f4 f5⟩
  self := fun A i s Q E st h => let ⟨⟨_, he⟩, _⟩ := st; wpAny_pyIter_enum he h
def iEnumT (K : PySem.W.Frag) (ta : TA) : TI := fun σ H R => ta σ H fun vs H1 => ∃ a xs, vs = [.ref a] ∧ SqT K H1 a xs ∧ R (Ite2 K a) H1
theorem pi_enumT {X : Cx} {e : Expr} {ta : TA} {p pos tpos : Pos} {elts : List Expr} {kk : Nat} (hm : X.mg "enumerate" = none) (ha : PA X [e] ta) (hg : Gl X "enumerate" := by rfl) (hs : starEach [e] X.env = [(false, eval e X.env)] := by rfl) :
    PI X (.Tuple elts kk tpos) (.Call (.Name "enumerate" p) [e] [] pos) (iEnumT X.K ta) := by
  intro pins s σ H R I h
  refine Call_ (ld_blt I hg hm boot_enumerate (PyProof.Rows.callWith_type1 (thn (ha pos pins s σ H _ I h) fun us s1 ⟨vs, H1, I1, r1, q1⟩ => ?_) hs rfl))
  obtain ⟨a, xs, ex, hq, q⟩ := q1
  subst ex
  cases r1 with
  | cons r rr =>
    cases rr
    cases r
    obtain ⟨its, rv, p', hz⟩ := I1.tuple hq
    refine callEnumT p' fun h' he hit hk => wpAny_pyIter_enum he ?_
    have I2 : L2.Inv X pins σ H1 { s1 with heap := h' } := I1.kept (t' := s1.toks) hk
    refine ⟨s1.heap.objs.size + 1, [s1.heap.objs.size + 1, s1.heap.objs.size], _, _, H1, rfl, I2, turn_enumT a (s1.heap.objs.size + 1) s1.heap.objs.size, ⟨⟨.none, he⟩, hit, Nat.succ_ne_self _⟩, fun b hb => ?_, q⟩
    have e' : b = s1.heap.objs.size + 1 ∨ b = s1.heap.objs.size := by simpa using hb
    have hle : s1.heap.objs.size ≤ b := by
      rcases e' with z | z
      · rw [z]; exact Nat.le_add_right _ _
      · rw [z]; exact Nat.le_refl _
    exact I1.fpOk hle (I1.hok.fresh hle)
theorem for_enumT {K : PySem.W.Frag} {a : Addr} {xs : List V} {g : TG} {tb : TS} {D : Ends} {σ : L2.St} {H : Hp} (Pv : Nat → L2.St → Hp → Prop) (h0 : Pv 0 σ H)
    (hl : ∀ i σ H, i ≤ xs.length → Pv i σ H → SqT K H a xs)
    (hs : ∀ i x T σ H, xs[i]? = some x → Pv i σ H → H T = none → g (.ref T) σ (upd H T (.tup [.int (i : Nat), x])) fun σ2 H2 => tb { D with nx := Pv (i + 1), ct := Pv (i + 1), bk := D.nx } σ2 H2) (hd : ∀ σ H, Pv xs.length σ H → D.nx σ H) :
    ∃ W : Nat → Nat → L2.St → Hp → Prop, (∃ m, W 0 m σ H) ∧ ∀ i m σ H, W i m σ H →
      ((Ite2 K a).stop i H ∧ D.nx σ H) ∨ ((Ite2 K a).go i H ∧ ∃ N : L2.St → Hp → Prop, (∀ σ' H', N σ' H' → ∃ m', m' < m ∧ W (i + 1) m' σ' H') ∧ ∀ x H', (Ite2 K a).yld i H x H' → g x σ H' fun σ2 H2 => tb { D with nx := N, ct := N, bk := D.nx } σ2 H2) := by
  refine ⟨fun i m σ H => m = xs.length - i ∧ i ≤ xs.length ∧ Pv i σ H, ⟨xs.length, by simp, Nat.zero_le _, h0⟩, ?_⟩
  rintro i m σ H ⟨rfl, hi, p⟩
  have q := hl i σ H hi p
  by_cases hlt : i < xs.length
  · refine .inr ⟨⟨xs, xs[i], q, by simp [hlt]⟩, Pv (i + 1), fun σ' H' p' => ⟨xs.length - (i + 1), by omega, rfl, hlt, p'⟩, fun v H' yl => ?_⟩
    obtain ⟨T, x, rfl, hT, rfl, e1⟩ := yl
    exact hs i x T σ H (e1 xs q) p hT
  · have e : i = xs.length := by omega
    subst e
    exact .inl ⟨⟨xs, q, rfl⟩, hd σ H p⟩
theorem for_enum {K : PySem.W.Frag} {a : Addr} {xs : List V} {g : TG} {tb : TS} {D : Ends} {σ : L2.St} {H : Hp} (Pv : Nat → L2.St → Hp → Prop) (h0 : Pv 0 σ H)
    (hl : ∀ i σ H, i ≤ xs.length → Pv i σ H → SqL K H a xs)
    (hs : ∀ i x T σ H, xs[i]? = some x → Pv i σ H → H T = none → g (.ref T) σ (upd H T (.tup [.int (i : Nat), x])) fun σ2 H2 => tb { D with nx := Pv (i + 1), ct := Pv (i + 1), bk := D.nx } σ2 H2) (hd : ∀ σ H, Pv xs.length σ H → D.nx σ H) :
    ∃ W : Nat → Nat → L2.St → Hp → Prop, (∃ m, W 0 m σ H) ∧ ∀ i m σ H, W i m σ H →
      ((Ite K a).stop i H ∧ D.nx σ H) ∨ ((Ite K a).go i H ∧ ∃ N : L2.St → Hp → Prop, (∀ σ' H', N σ' H' → ∃ m', m' < m ∧ W (i + 1) m' σ' H') ∧ ∀ x H', (Ite K a).yld i H x H' → g x σ H' fun σ2 H2 => tb { D with nx := N, ct := N, bk := D.nx } σ2 H2) := by
  refine ⟨fun i m σ H => m = xs.length - i ∧ i ≤ xs.length ∧ Pv i σ H, ⟨xs.length, by simp, Nat.zero_le _, h0⟩, ?_⟩
  rintro i m σ H ⟨rfl, hi, p⟩
  have q := hl i σ H hi p
  by_cases hlt : i < xs.length
  · refine .inr ⟨⟨xs, xs[i], q, by simp [hlt]⟩, Pv (i + 1), fun σ' H' p' => ⟨xs.length - (i + 1), by omega, rfl, hlt, p'⟩, fun v H' yl => ?_⟩
    obtain ⟨T, x, rfl, hT, rfl, e1⟩ := yl
    exact hs i x T σ H (e1 xs q) p hT
  · have e : i = xs.length := by omega
    subst e
    exact .inl ⟨⟨xs, q, Nat.le_refl _⟩, hd σ H p⟩
end Px
namespace Px
open PySem PySem.Spec PyProof.Rows L2
/-! ### comprehensions that leave all as it was -/
theorem small_line {n : Nat} (h : n ≤ 100000) : n < sizeLine := Nat.lt_of_le_of_lt h (by decide)
theorem lc_grow {J : It} {n : Nat} {g : TG} {te : TE} {vs : List Nat} {σ : L2.St} {H1 : Hp} {Qd : Addr → Hp → Prop} (out : Nat → V) (hn : n ≤ 100000)
    (go : ∀ i H, i < n → Same H1 H → J.go i H) (stop : ∀ H, Same H1 H → J.stop n H)
    (hs : ∀ i x H2 H3 (R : VK), i < n → Same H1 H2 → J.yld i H2 x H3 → (∀ H4, Same H2 H4 → R (out i) H4) → g x (wipe σ vs) H3 fun σ2 H5 => wipe σ2 vs = wipe σ vs ∧ te σ2 H5 R)
    (gm : ∀ x σ0 H0 (Q1 Q2 : L2.St → Hp → Prop), (∀ s h, Q1 s h → Q2 s h) → g x σ0 H0 Q1 → g x σ0 H0 Q2)
    (hq : ∀ D H', H1 D = none → Same H1 H' → H' D = some (.lst ((List.range n).map out)) → Qd D H') :
    ∀ D, H1 D = none → ∃ W : Nat → Nat → Hp → Prop, (∃ m, W 0 m (upd H1 D (.lst []))) ∧ ∀ i m H, W i m H →
      (J.stop i H ∧ Qd D H) ∨ (J.go i H ∧ ∃ Nx : Hp → Prop, (∀ H', Nx H' → ∃ m', m' < m ∧ W (i + 1) m' H') ∧ ∀ x H', J.yld i H x H' → g x (wipe σ vs) H' fun σ2 H2 => wipe σ2 vs = wipe σ vs ∧ tYes σ2 H2 fun b H3 =>
        if b = true then te σ2 H3 fun y H4 => ∃ acc, H4 D = some (.lst acc) ∧ acc.length < sizeLine ∧ Nx (upd H4 D (.lst (acc ++ [y]))) else Nx H3) := by
  intro D hD
  refine ⟨fun i m H => m = n - i ∧ i ≤ n ∧ Same H1 H ∧ H D = some (.lst ((List.range i).map out)), ⟨n, by simp, Nat.zero_le _, same_new hD, upd_same⟩, ?_⟩
  rintro i m H ⟨rfl, hi, sm, hd⟩
  by_cases hlt : i < n
  · refine .inr ⟨go i H hlt sm, fun H' => Same H1 H' ∧ H' D = some (.lst ((List.range (i + 1)).map out)), fun H' ⟨p1, p2⟩ => ⟨n - (i + 1), by omega, rfl, hlt, p1, p2⟩, fun x H' y => ?_⟩
    refine gm _ _ _ _ _ (fun s h q => ?_) (hs i x H H' (fun y H4 => ∃ acc, H4 D = some (.lst acc) ∧ acc.length < sizeLine ∧ (Same H1 (upd H4 D (.lst (acc ++ [y]))) ∧ (upd H4 D (.lst (acc ++ [y]))) D = some (.lst ((List.range (i + 1)).map out)))) hlt sm y fun H4 s4 => ?_)
    · refine ⟨q.1, ?_⟩
      unfold tYes
      dsimp only
      rw [if_pos rfl]
      exact q.2
    · refine ⟨_, s4 _ _ hd, ?_, fun b o e => ?_, ?_⟩
      · rw [List.length_map, List.length_range]; exact small_line (by omega)
      · rw [upd_ne (ne_of_none e hD)]; exact s4 _ _ (sm _ _ e)
      · rw [upd_same, List.range_succ, List.map_append]; rfl
  · have e : i = n := by omega
    subst e
    exact .inl ⟨stop H sm, hq D H hD sm hd⟩
theorem gName_mono {j : Nat} (x : V) (σ0 : L2.St) (H0 : Hp) (Q1 Q2 : L2.St → Hp → Prop) (h : ∀ s h, Q1 s h → Q2 s h) (q : gName j x σ0 H0 Q1) : gName j x σ0 H0 Q2 := h _ _ q
theorem wipe1 (σ : L2.St) (j : Nat) (v : Option V) : wipe ((wipe σ [j]).set j v) [j] = wipe σ [j] := by
  show ((σ.set j none).set j v).set j none = σ.set j none
  rw [List.set_set, List.set_set]
theorem gTup_mono {K : PySem.W.Frag} {j k : Nat} (x : V) (σ0 : L2.St) (H0 : Hp) (Q1 Q2 : L2.St → Hp → Prop) (h : ∀ s h, Q1 s h → Q2 s h) (q : gTup K 2 (gCons (gName j) (gCons (gName k) gNil)) x σ0 H0 Q1) : gTup K 2 (gCons (gName j) (gCons (gName k) gNil)) x σ0 H0 Q2 := by
  obtain ⟨a, xs, e1, e2, e3, v, r, e4, v2, r2, e5, e6, e7⟩ := q
  exact ⟨a, xs, e1, e2, e3, v, r, e4, v2, r2, e5, e6, h _ _ e7⟩
theorem wipe2 (σ : L2.St) {j k : Nat} (hjk : j ≠ k) (v u : Option V) : wipe (((wipe σ [j, k]).set j v).set k u) [j, k] = wipe σ [j, k] := by
  show (((((σ.set k none).set j none).set j v).set k u).set k none).set j none = (σ.set k none).set j none
  rw [List.set_set, List.set_set, List.set_comm _ _ hjk, List.set_set]
  rw [List.set_comm (i := k) (j := j) none none hjk.symm, List.set_comm (i := k) (j := j) none none hjk.symm] <;> simp [List.set_set]
/-- a pair just made, taken apart -/
theorem g2 {K : PySem.W.Frag} {j k : Nat} {T : Addr} {x y : V} {σ0 : L2.St} {H : Hp} {Q : L2.St → Hp → Prop} (h : Q ((σ0.set j (some x)).set k (some y)) (upd H T (.tup [x, y]))) :
    gTup K 2 (gCons (gName j) (gCons (gName k) gNil)) (.ref T) σ0 (upd H T (.tup [x, y])) Q :=
  ⟨T, [x, y], rfl, .inl (.inl upd_same), rfl, x, [y], rfl, y, [], rfl, rfl, h⟩
section
variable {K : PySem.W.Frag} {te : TE} {σ : L2.St} {H1 : Hp} {Qd : Addr → Hp → Prop} {ns ms : List Int}
/-- over a list of numbers -/
theorem lcI {a : Addr} {j : Nat} (f : Int → Int) (hl : LI H1 a ns) (hz : ns.length ≤ 100000)
    (hb : ∀ (i : Nat) (z : Int) (H2 : Hp) (R : VK), ns[i]? = some z → Same H1 H2 → (∀ H4, Same H2 H4 → R (.int (f z)) H4) → te ((wipe σ [j]).set j (some (.int z))) H2 R)
    (hq : ∀ D H', H1 D = none → Same H1 H' → LI H' D (ns.map f) → Qd D H') :
    ∀ D, H1 D = none → ∃ W : Nat → Nat → Hp → Prop, (∃ m, W 0 m (upd H1 D (.lst []))) ∧ ∀ i m H, W i m H →
      ((Itl K a).stop i H ∧ Qd D H) ∨ ((Itl K a).go i H ∧ ∃ Nx : Hp → Prop, (∀ H', Nx H' → ∃ m', m' < m ∧ W (i + 1) m' H') ∧ ∀ x H', (Itl K a).yld i H x H' → gName j x (wipe σ [j]) H' fun σ2 H2 => wipe σ2 [j] = wipe σ [j] ∧ tYes σ2 H2 fun b H3 =>
        if b = true then te σ2 H3 fun y H4 => ∃ acc, H4 D = some (.lst acc) ∧ acc.length < sizeLine ∧ Nx (upd H4 D (.lst (acc ++ [y]))) else Nx H3) := by
  refine lc_grow (n := ns.length) (fun i => .int (f (Ra26.at_ ns i))) hz (fun i H hi s => ⟨_, .int (Ra26.at_ ns i), (hl.same s).sq, by rw [List.getElem?_map, Pv.get_at hi]; rfl⟩) (fun H s => ⟨_, (hl.same s).sq, by rw [List.length_map]; exact Nat.le_refl _⟩) (fun i x H2 H3 R hi s y hR => ?_) gName_mono fun D H' hD s e => hq D H' hD s ?_
  · obtain ⟨rfl, e⟩ := y
    have e := e _ (hl.same s).sq
    rw [List.getElem?_map, Pv.get_at hi] at e
    have e : V.int (Ra26.at_ ns i) = x := Option.some.inj e
    subst e
    exact ⟨wipe1 _ _ _, hb i _ _ R (Pv.get_at hi) s hR⟩
  · show H' D = _
    rw [e, Pv.map_range f (n := ns.length) rfl, List.map_map]
    rfl
/-- over two sequences of numbers -/
theorem lcZ {tp tq : Bool} {a b : Addr} {j k : Nat} (hjk : j ≠ k) (f : Int → Int → Int) (hl : ∀ H, Same H1 H → Sq tp K H a (ns.map V.int)) (hm : ∀ H, Same H1 H → Sq tq K H b (ms.map V.int)) (hz : ns.length ≤ 100000)
    (hb : ∀ (i : Nat) (z y : Int) (H2 : Hp) (R : VK), ns[i]? = some z → ms[i]? = some y → Same H1 H2 → (∀ H4, Same H2 H4 → R (.int (f z y)) H4) → te (((wipe σ [j, k]).set j (some (.int z))).set k (some (.int y))) H2 R)
    (hq : ∀ D H', H1 D = none → Same H1 H' → LI H' D (List.zipWith f ns ms) → Qd D H') :
    ∀ D, H1 D = none → ∃ W : Nat → Nat → Hp → Prop, (∃ m, W 0 m (upd H1 D (.lst []))) ∧ ∀ i m H, W i m H →
      ((Itz2 tp tq K a b).stop i H ∧ Qd D H) ∨ ((Itz2 tp tq K a b).go i H ∧ ∃ Nx : Hp → Prop, (∀ H', Nx H' → ∃ m', m' < m ∧ W (i + 1) m' H') ∧ ∀ x H', (Itz2 tp tq K a b).yld i H x H' → gTup K 2 (gCons (gName j) (gCons (gName k) gNil)) x (wipe σ [j, k]) H' fun σ2 H2 => wipe σ2 [j, k] = wipe σ [j, k] ∧ tYes σ2 H2 fun b H3 =>
        if b = true then te σ2 H3 fun y H4 => ∃ acc, H4 D = some (.lst acc) ∧ acc.length < sizeLine ∧ Nx (upd H4 D (.lst (acc ++ [y]))) else Nx H3) := by
  have g1 : ∀ i, i < min ns.length ms.length → (ns.map V.int)[i]? = some (.int (Ra26.at_ ns i)) := fun i hi => by rw [List.getElem?_map, Pv.get_at (by omega)]; rfl
  have g3 : ∀ i, i < min ns.length ms.length → (ms.map V.int)[i]? = some (.int (Ra26.at_ ms i)) := fun i hi => by rw [List.getElem?_map, Pv.get_at (by omega)]; rfl
  refine lc_grow (n := min ns.length ms.length) (fun i => .int (f (Ra26.at_ ns i) (Ra26.at_ ms i))) (by omega) (fun i H hi s => ⟨_, _, _, _, hl H s, hm H s, g1 i hi, g3 i hi⟩) (fun H s => ⟨_, _, hl H s, hm H s, by rw [List.length_map, List.length_map]; omega⟩) (fun i x H2 H3 R hi s y hR => ?_) gTup_mono fun D H' hD s e => hq D H' hD s ?_
  · obtain ⟨T, x, y, rfl, hT, rfl, e1, e2⟩ := y
    have e1 := e1 _ (hl _ s)
    have e2 := e2 _ (hm _ s)
    rw [g1 i hi] at e1
    rw [g3 i hi] at e2
    cases e1
    cases e2
    refine g2 ⟨wipe2 _ hjk _ _, hb i _ _ _ R (Pv.get_at (by omega)) (Pv.get_at (by omega)) (s.trans (same_new hT)) fun H4 s4 => hR H4 ((same_new hT).trans s4)⟩
  · show H' D = _
    rw [e, Pv.zipWith_range f rfl, List.map_map]
    rfl
/-- over a list of numbers, with their places -/
theorem lcE {a : Addr} {j k : Nat} (hjk : j ≠ k) (f : Nat → Int → Int) (hl : LI H1 a ns) (hz : ns.length ≤ 100000)
    (hb : ∀ (i : Nat) (z : Int) (H2 : Hp) (R : VK), ns[i]? = some z → Same H1 H2 → (∀ H4, Same H2 H4 → R (.int (f i z)) H4) → te (((wipe σ [j, k]).set j (some (.int (i : Nat)))).set k (some (.int z))) H2 R)
    (hq : ∀ D H', H1 D = none → Same H1 H' → LI H' D (ns.mapIdx f) → Qd D H') :
    ∀ D, H1 D = none → ∃ W : Nat → Nat → Hp → Prop, (∃ m, W 0 m (upd H1 D (.lst []))) ∧ ∀ i m H, W i m H →
      ((Ite K a).stop i H ∧ Qd D H) ∨ ((Ite K a).go i H ∧ ∃ Nx : Hp → Prop, (∀ H', Nx H' → ∃ m', m' < m ∧ W (i + 1) m' H') ∧ ∀ x H', (Ite K a).yld i H x H' → gTup K 2 (gCons (gName j) (gCons (gName k) gNil)) x (wipe σ [j, k]) H' fun σ2 H2 => wipe σ2 [j, k] = wipe σ [j, k] ∧ tYes σ2 H2 fun b H3 =>
        if b = true then te σ2 H3 fun y H4 => ∃ acc, H4 D = some (.lst acc) ∧ acc.length < sizeLine ∧ Nx (upd H4 D (.lst (acc ++ [y]))) else Nx H3) := by
  have g1 : ∀ i, i < ns.length → (ns.map V.int)[i]? = some (.int (Ra26.at_ ns i)) := fun i hi => by rw [List.getElem?_map, Pv.get_at hi]; rfl
  refine lc_grow (n := ns.length) (fun i => .int (f i (Ra26.at_ ns i))) hz (fun i H hi s => ⟨_, _, (hl.same s).sq, g1 i hi⟩) (fun H s => ⟨_, (hl.same s).sq, by rw [List.length_map]; exact Nat.le_refl _⟩) (fun i x H2 H3 R hi s y hR => ?_) gTup_mono fun D H' hD s e => hq D H' hD s ?_
  · obtain ⟨T, x, rfl, hT, rfl, e1⟩ := y
    have e1 := e1 _ (hl.same s).sq
    rw [g1 i hi] at e1
    cases e1
    exact g2 ⟨wipe2 _ hjk _ _, hb i _ _ R (Pv.get_at hi) (s.trans (same_new hT)) fun H4 s4 => hR H4 ((same_new hT).trans s4)⟩
  · show H' D = _
    rw [e]
    congr 2
    apply List.ext_getElem?
    intro i
    rw [List.getElem?_map, List.getElem?_map, List.getElem?_mapIdx]
    by_cases hi : i < ns.length
    · rw [List.getElem?_range hi, Pv.get_at hi]; rfl
    · rw [List.getElem?_eq_none (by simpa using hi), List.getElem?_eq_none (by simpa using hi)]; rfl
/-- over a range -/
theorem lcR {lo : Int} {n j : Nat} (f : Nat → Int) (hz : n ≤ 100000)
    (hb : ∀ i H2 (R : VK), i < n → Same H1 H2 → (∀ H4, Same H2 H4 → R (.int (f i)) H4) → te ((wipe σ [j]).set j (some (.int (lo + i)))) H2 R)
    (hq : ∀ D H', H1 D = none → Same H1 H' → LI H' D ((List.range n).map f) → Qd D H') :
    ∀ D, H1 D = none → ∃ W : Nat → Nat → Hp → Prop, (∃ m, W 0 m (upd H1 D (.lst []))) ∧ ∀ i m H, W i m H →
      ((Itr lo n).stop i H ∧ Qd D H) ∨ ((Itr lo n).go i H ∧ ∃ Nx : Hp → Prop, (∀ H', Nx H' → ∃ m', m' < m ∧ W (i + 1) m' H') ∧ ∀ x H', (Itr lo n).yld i H x H' → gName j x (wipe σ [j]) H' fun σ2 H2 => wipe σ2 [j] = wipe σ [j] ∧ tYes σ2 H2 fun b H3 =>
        if b = true then te σ2 H3 fun y H4 => ∃ acc, H4 D = some (.lst acc) ∧ acc.length < sizeLine ∧ Nx (upd H4 D (.lst (acc ++ [y]))) else Nx H3) := by
  refine lc_grow (n := n) (fun i => .int (f i)) hz (fun i H hi s => hi) (fun H s => Nat.le_refl n) (fun i x H2 H3 R hi s y hR => ?_) gName_mono fun D H' hD s e => hq D H' hD s ?_
  · obtain ⟨rfl, rfl⟩ := y
    exact ⟨wipe1 _ _ _, hb i _ R hi s hR⟩
  · show H' D = _
    rw [e, List.map_map]
    rfl
/-- over a range with a step -/
theorem lcC {lo c : Int} {n j : Nat} (f : Nat → Int) (hz : n ≤ 100000)
    (hb : ∀ i H2 (R : VK), i < n → Same H1 H2 → (∀ H4, Same H2 H4 → R (.int (f i)) H4) → te ((wipe σ [j]).set j (some (.int (lo + (i : Nat) * c)))) H2 R)
    (hq : ∀ D H', H1 D = none → Same H1 H' → LI H' D ((List.range n).map f) → Qd D H') :
    ∀ D, H1 D = none → ∃ W : Nat → Nat → Hp → Prop, (∃ m, W 0 m (upd H1 D (.lst []))) ∧ ∀ i m H, W i m H →
      ((Itc lo c n).stop i H ∧ Qd D H) ∨ ((Itc lo c n).go i H ∧ ∃ Nx : Hp → Prop, (∀ H', Nx H' → ∃ m', m' < m ∧ W (i + 1) m' H') ∧ ∀ x H', (Itc lo c n).yld i H x H' → gName j x (wipe σ [j]) H' fun σ2 H2 => wipe σ2 [j] = wipe σ [j] ∧ tYes σ2 H2 fun b H3 =>
        if b = true then te σ2 H3 fun y H4 => ∃ acc, H4 D = some (.lst acc) ∧ acc.length < sizeLine ∧ Nx (upd H4 D (.lst (acc ++ [y]))) else Nx H3) := by
  refine lc_grow (n := n) (fun i => .int (f i)) hz (fun i H hi s => hi) (fun H s => Nat.le_refl n) (fun i x H2 H3 R hi s y hR => ?_) gName_mono fun D H' hD s e => hq D H' hD s ?_
  · obtain ⟨rfl, rfl⟩ := y
    exact ⟨wipe1 _ _ _, hb i _ R hi s hR⟩
  · show H' D = _
    rw [e, List.map_map]
    rfl
end
end Px
namespace Px
open PySem PySem.Spec PyProof.Rows L2
/-! methods and classes -/
structure MM (K : PySem.W.Frag) (C : Addr) (m qual : Str) (st : Stmt) : Prop where
  ex : ∃ f fd, Fun K m qual st f fd ∧ Meth K C m f
structure MI (K : PySem.W.Frag) (C : Addr) (qual : Str) (st : Stmt) : Prop where
  ex : ∃ f fd, Fun K "__init__" qual st f fd ∧ Mk K C f
structure Dm (P : Program) (w : World) (K : PySem.W.Frag) (mg : Str → Option Value) (base : Heap) (C : Addr) (m : Str) (ps : List Str) (k : Nat) (sp : Sp) : Prop where
  ex : ∃ f fd, FnOk P w K mg base CX0 k f fd ps sp ∧ Meth K C m f ∧ Binds K fd ps []
  cl : Cls K C
structure Di (P : Program) (w : World) (K : PySem.W.Frag) (mg : Str → Option Value) (base : Heap) (cn : Str) (C : Addr) (k : Nat) (sp : Sp) : Prop where
  ex : ∃ f fd, FnOk P w K mg base CX0 k f fd ["self"] sp ∧ Mk K C f ∧ mg cn = some (.ref C) ∧ Binds K fd ["self"] []
section
variable {P : Program} {w : World} {K : PySem.W.Frag} {mg : Str → Option Value} {base : Heap}
theorem Dm.mk' {C : Addr} {m qual : Str} {st : Stmt} {N ps : List Str} {k : Nat} {sp : Sp} (c : Cls K C) (F : MM K C m qual st) (S : FnScope N ps (defScope st))
    (hb : ∀ (kV doc pm : Value) (an : Option Addr) (cdv ct : Value) (us : List Value), us.length = ps.length → bindArgs (PySem.W.fnOf m qual (defArgs st) (defBody st) (defScope st) .none kV doc pm an cdv ct) ⟨us, []⟩ = pure (ps.zip us))
    (len : ∀ vs H Q E, sp vs H Q E → vs.length = ps.length) (body : BodyOk P w K mg base N qual st k sp) : Dm P w K mg base C m ps (k + 1) sp := by
  obtain ⟨f, fd, F, m⟩ := F.ex
  exact ⟨⟨f, fd, F.ok S len (fun cdv A outer s H vs Q E hr h => body f cdv A outer s H vs Q E hr h), m, F.binds hb⟩, c⟩
theorem Di.mk' {cn : Str} {C : Addr} {qual : Str} {st : Stmt} {N : List Str} {k : Nat} {sp : Sp} (hn : mg cn = some (.ref C)) (F : MI K C qual st) (S : FnScope N ["self"] (defScope st))
    (hb : ∀ (kV doc pm : Value) (an : Option Addr) (cdv ct : Value) (us : List Value), us.length = ["self"].length → bindArgs (PySem.W.fnOf "__init__" qual (defArgs st) (defBody st) (defScope st) .none kV doc pm an cdv ct) ⟨us, []⟩ = pure ((["self"] : List Str).zip us))
    (len : ∀ vs H Q E, sp vs H Q E → vs.length = 1) (body : BodyOk P w K mg base N qual st k sp) : Di P w K mg base cn C (k + 1) sp := by
  obtain ⟨f, fd, F, m⟩ := F.ex
  exact ⟨f, fd, F.ok S len (fun cdv A outer s H vs Q E hr h => body f cdv A outer s H vs Q E hr h), m, hn, F.binds hb⟩
end
section
variable {X : Cx} {C : Addr} {x m : Str} {ps : List Str} {k : Nat} {sp : Sp} {p pos apos : Pos} {o e : Expr} {es : List Expr} {ta : TE} {t : TA}
theorem pe_mt {pl : Sem Bool} (D : Dm X.prog X.w X.K X.mg X.base C m ps k sp) (hr : Room k X.A) (ho : PE X o ta) (ha : PA X (e :: es) t)
    (hst : starEach (e :: es) X.env = (false, eval e X.env) :: starEach es X.env := by rfl) (hpl : (backTo pos (starEach es X.env)).any (·.1) = false := by rfl)
    (ht : eval (.Call (.Attribute o m apos) (e :: es) [] pos) X.env = (do
      let ov ← eval o X.env
      standAt apos.atName
      let (f, first) ← holding [ov] (getMethod ov m pl)
      callWith pos f first (backTo pos (starEach (e :: es) X.env)) (backToKw pos (keywordEach [] X.env))) := by rfl) :
    PE X (.Call (.Attribute o m apos) (e :: es) [] pos) (tMeth C m sp [] E0 ta t) := by
  obtain ⟨⟨f, fd, F, mt, b⟩, c⟩ := D
  exact pe_meth ho c mt F hr b .nil pass0 ha hst hpl ht
theorem pe_mt0 {pl : Sem Bool} (D : Dm X.prog X.w X.K X.mg X.base C m ps k sp) (hr : Room k X.A) (ho : PE X o ta)
    (ht : eval (.Call (.Attribute o m apos) [] [] pos) X.env = (do
      let ov ← eval o X.env
      standAt apos.atName
      let (f, first) ← holding [ov] (getMethod ov m pl)
      callWith pos f first (backTo pos (starEach [] X.env)) (backToKw pos (keywordEach [] X.env))) := by rfl) :
    PE X (.Call (.Attribute o m apos) [] [] pos) (tMeth C m sp [] E0 ta tNil) := by
  obtain ⟨⟨f, fd, F, mt, b⟩, c⟩ := D
  exact pe_meth0 ho c mt F hr b .nil pass0 ht
theorem pe_mk0 (D : Di X.prog X.w X.K X.mg X.base x C k sp) (hr : Room (k + 1) X.A) (hg : Gl X x := by rfl) (hdb : (x == ("__debug__" : Str)) = false := by decide) : PE X (.Call (.Name x p) [] [] pos) (tMake C sp [] E0 tNil) := by
  obtain ⟨f, fd, F, M, m, b⟩ := D.ex
  exact pe_make0 M F hr hg m b .nil pass0 hdb
end
section
variable {X : Cx}
/-- two names at once -/
theorem pg_pair (K : PySem.W.Frag) (i j : Nat) {x y : Str} {px py pt : Pos} {kk : Nat} (hK : X.K = K) (hc : X.calm = true) (hN : X.N.Nodup) (hi : X.N[i]? = some x) (hj : X.N[j]? = some y) (hx : Loc X.env.scope x) (hy : Loc X.env.scope y)
    (fx : X.fn x = true ∨ X.env.scope.names.lookup x = some .local) (fy : X.fn y = true ∨ X.env.scope.names.lookup y = some .local) : PG X (.Tuple [.Name x px, .Name y py] kk pt) (gTup K 2 (gCons (gName i) (gCons (gName j) gNil))) := by
  subst hK
  exact pg_tup hc (pgs_cons (pg_name hN hi hx fx) (pgs_cons (pg_name hN hj hy fy) pgs_nil))
end
section
variable {X : Cx} (K : PySem.W.Frag) (hK : X.K = K)
include hK
theorem pe_tupK {x : Str} {pos : Pos} {xs : List V} (h : MT K X.mg x xs) (hg : Gl X x := by rfl) (hd : (x == ("__debug__" : Str)) = false := by decide) : PE X (.Name x pos) (tTupG K xs) := by
  subst hK; exact pe_tupG h hg hd
theorem ix_tupK : IxR X (rIxT K) := by subst hK; exact ix_tup
theorem ix_listK : IxR X (rIxL K) := by subst hK; exact ix_list
theorem sl_listK : SlR X (rSlL K) := by subst hK; exact sl_list
theorem len_seqK : CallR X (.builtin "len") (fun xs H Q => ∃ p ys, xs = [.ref p] ∧ (SqL K H p ys ∨ SqT K H p ys) ∧ Q (.int ys.length) H) := by subst hK; exact call_len_seq
theorem pe_fldK {e : Expr} {f : Str} {pos : Pos} {ta : TE} (he : PE X e ta) (hb : attributeBase e f X.env (eval e X.env) = eval e X.env) : PE X (.Attribute e f pos) (tFld K ta f) := by subst hK; exact pe_fld he hb
end
/-! the text as it stands behind the top -/
structure Ad where
  cFront : Addr
  cFlattener : Addr
  cShaper : Addr
  cCoder : Addr
  cDecoder : Addr
  cTelephone : Addr
structure Txt (K : PySem.W.Frag) (mg : Str → Option Value) (C : Ad) : Prop where
  c_ORDER : ∃ t, mg "ORDER" = some (.int 8 t)
  c_QUARTER : ∃ t, mg "QUARTER" = some (.int 40 t)
  c_SHORTEST_LAG : ∃ t, mg "SHORTEST_LAG" = some (.int 40 t)
  c_LONGEST_LAG : ∃ t, mg "LONGEST_LAG" = some (.int 120 t)
  c_LOWEST : ∃ t, mg "LOWEST" = some (.int (-32768) t)
  c_HIGHEST : ∃ t, mg "HIGHEST" = some (.int 32767 t)
  c_LOWEST_LONG : ∃ t, mg "LOWEST_LONG" = some (.int (-2147483648) t)
  c_HIGHEST_LONG : ∃ t, mg "HIGHEST_LONG" = some (.int 2147483647 t)
  c_HEADROOM_forecast : ∃ t, mg "HEADROOM_forecast" = some (.int 6 t)
  c_MARK : ∃ t, mg "MARK" = some (.int 13 t)
  c_QUARTERS : ∃ t, mg "QUARTERS" = some (.int 4 t)
  c_BITS_BEHIND_MARK : ∃ t, mg "BITS_BEHIND_MARK" = some (.int 260 t)
  c_PULSES : ∃ t, mg "PULSES" = some (.int 13 t)
  c_GRIDS : ∃ t, mg "GRIDS" = some (.int 4 t)
  c_SPACING : ∃ t, mg "SPACING" = some (.int 3 t)
  c_HEADROOM_reflections : ∃ t, mg "HEADROOM_reflections" = some (.int 4 t)
  c_BEGIN : ∃ t, mg "BEGIN" = some (.int 0 t)
  c_TO_BYTES : ∃ t, mg "TO_BYTES" = some (.int 1 t)
  c_TO_SAMPLES : ∃ t, mg "TO_SAMPLES" = some (.int 2 t)
  c_DONE : ∃ t, mg "DONE" = some (.int 0 t)
  c_NOT_A_FRAME : ∃ t, mg "NOT_A_FRAME" = some (.int (-1) t)
  t_GAINS : MT K mg "GAINS" [.int 3277, .int 11469, .int 21299, .int 32767]
  t_GAIN_BOUNDS : MT K mg "GAIN_BOUNDS" [.int 6554, .int 16384, .int 26214]
  t_SCALES : MT K mg "SCALES" [.int 20480, .int 20480, .int 20480, .int 20480, .int 13964, .int 15360, .int 8534, .int 9036]
  t_OFFSETS : MT K mg "OFFSETS" [.int 0, .int 0, .int 2048, .int (-2560), .int 94, .int (-1792), .int (-341), .int (-1144)]
  t_LOWEST_CODES : MT K mg "LOWEST_CODES" [.int (-32), .int (-32), .int (-16), .int (-16), .int (-8), .int (-8), .int (-4), .int (-4)]
  t_INVERSES : MT K mg "INVERSES" [.int 13107, .int 13107, .int 13107, .int 13107, .int 19223, .int 17476, .int 31454, .int 29708]
  t_SPECTRUM_WIDTHS : MT K mg "SPECTRUM_WIDTHS" [.int 6, .int 6, .int 5, .int 5, .int 4, .int 4, .int 3, .int 3]
  t_QUARTER_WIDTHS : MT K mg "QUARTER_WIDTHS" [.int 7, .int 2, .int 2, .int 6, .int 3, .int 3, .int 3, .int 3, .int 3, .int 3, .int 3, .int 3, .int 3, .int 3, .int 3, .int 3, .int 3]
  t_WEIGHTS : MT K mg "WEIGHTS" [.int (-134), .int (-374), .int 0, .int 2054, .int 5741, .int 8192, .int 5741, .int 2054, .int 0, .int (-374), .int (-134)]
  t_SHRINKS : MT K mg "SHRINKS" [.int 29128, .int 26215, .int 23832, .int 21846, .int 20165, .int 18725, .int 17476, .int 16384]
  t_GROWTHS : MT K mg "GROWTHS" [.int 18431, .int 20479, .int 22527, .int 24575, .int 26623, .int 28671, .int 30719, .int 32767]
  u_STRETCHES : ∃ a0 a1 a2 a3, MT K mg "STRETCHES" [.ref a0, .ref a1, .ref a2, .ref a3] ∧ (∀ H, SqT K H a0 [.int 0, .int 13]) ∧ (∀ H, SqT K H a1 [.int 13, .int 27]) ∧ (∀ H, SqT K H a2 [.int 27, .int 40]) ∧ ∀ H, SqT K H a3 [.int 40, .int 160]
  b_max : mg "max" = none
  b_min : mg "min" = none
  b_sum : mg "sum" = none
  b_len : mg "len" = none
  b_abs : mg "abs" = none
  b_list : mg "list" = none
  b_range : mg "range" = none
  b_zip : mg "zip" = none
  b_enumerate : mg "enumerate" = none
  f_stopped : FT K mg "stopped" (top 9)
  f_stopped_long : FT K mg "stopped_long" (top 10)
  f_low_bits : FT K mg "low_bits" (top 11)
  f_plus : FT K mg "plus" (top 12)
  f_minus : FT K mg "minus" (top 13)
  f_rounded_product : FT K mg "rounded_product" (top 14)
  f_product : FT K mg "product" (top 15)
  f_size : FT K mg "size" (top 16)
  f_greatest_size : FT K mg "greatest_size" (top 17)
  f_with_sign_of : FT K mg "with_sign_of" (top 18)
  f_doublings : FT K mg "doublings" (top 19)
  f_headroom_shift : FT K mg "headroom_shift" (top 20)
  f_at_lag : FT K mg "at_lag" (top 25)
  f_resemblance : FT K mg "resemblance" (top 26)
  f_best_lag : FT K mg "best_lag" (top 27)
  f_gain_code : FT K mg "gain_code" (top 28)
  f_lag_and_gain : FT K mg "lag_and_gain" (top 29)
  f_forecast : FT K mg "forecast" (top 30)
  f_faded : FT K mg "faded" (top 33)
  f_bent : FT K mg "bent" (top 40)
  f_unbent : FT K mg "unbent" (top 41)
  f_code_of : FT K mg "code_of" (top 42)
  f_codes_of : FT K mg "codes_of" (top 43)
  f_number_of : FT K mg "number_of" (top 44)
  f_numbers_of : FT K mg "numbers_of" (top 45)
  f_mostly : FT K mg "mostly" (top 46)
  f_between : FT K mg "between" (top 47)
  f_factors_of : FT K mg "factors_of" (top 48)
  f_filters : FT K mg "filters" (top 49)
  f_widths : FT K mg "widths" (top 59)
  f_packed : FT K mg "packed" (top 60)
  f_is_marked : FT K mg "is_marked" (top 61)
  f_unpacked : FT K mg "unpacked" (top 62)
  f_spectrum_part : FT K mg "spectrum_part" (top 63)
  f_quarter_parts : FT K mg "quarter_parts" (top 64)
  f_weighed : FT K mg "weighed" (top 72)
  f_weighed_one : FT K mg "weighed_one" (top 73)
  f_on_grid : FT K mg "on_grid" (top 74)
  f_energy : FT K mg "energy" (top 75)
  f_best_grid : FT K mg "best_grid" (top 76)
  f_size_code : FT K mg "size_code" (top 77)
  f_exponent_and_mantissa : FT K mg "exponent_and_mantissa" (top 78)
  f_pulse_codes : FT K mg "pulse_codes" (top 79)
  f_pulse_values : FT K mg "pulse_values" (top 80)
  f_spread : FT K mg "spread" (top 81)
  f_rebuilt : FT K mg "rebuilt" (top 82)
  f_lowered : FT K mg "lowered" (top 85)
  f_lifted : FT K mg "lifted" (top 86)
  f_likeness : FT K mg "likeness" (top 87)
  f_likenesses : FT K mg "likenesses" (top 88)
  f_normed : FT K mg "normed" (top 89)
  f_quotient : FT K mg "quotient" (top 90)
  f_reflection : FT K mg "reflection" (top 91)
  f_next_ahead : FT K mg "next_ahead" (top 92)
  f_next_behind : FT K mg "next_behind" (top 93)
  f_reflections : FT K mg "reflections" (top 94)
  f_scale_shift : FT K mg "scale_shift" (top 95)
  f_row_at : FT K mg "row_at" (top 107)
  f_answers : FT K mg "answers" (top 108)
  k_Front : Cls K C.cFront
  n_Front : mg "Front" = some (.ref C.cFront)
  a_Front_last_halved : NoAttr K C.cFront "last_halved"
  a_Front_steady_free : NoAttr K C.cFront "steady_free"
  a_Front_last_rounded : NoAttr K C.cFront "last_rounded"
  m_Front_init : MI K C.cFront "Front.__init__" (inClass (top 32) 0)
  m_Front_raised : MM K C.cFront "raised" "Front.raised" (inClass (top 32) 1)
  m_Front_raised_one : MM K C.cFront "raised_one" "Front.raised_one" (inClass (top 32) 2)
  k_Flattener : Cls K C.cFlattener
  n_Flattener : mg "Flattener" = some (.ref C.cFlattener)
  a_Flattener_delayed : NoAttr K C.cFlattener "delayed"
  m_Flattener_init : MI K C.cFlattener "Flattener.__init__" (inClass (top 51) 0)
  m_Flattener_flat : MM K C.cFlattener "flat" "Flattener.flat" (inClass (top 51) 1)
  m_Flattener_flat_one : MM K C.cFlattener "flat_one" "Flattener.flat_one" (inClass (top 51) 2)
  k_Shaper : Cls K C.cShaper
  n_Shaper : mg "Shaper" = some (.ref C.cShaper)
  a_Shaper_delayed : NoAttr K C.cShaper "delayed"
  m_Shaper_init : MI K C.cShaper "Shaper.__init__" (inClass (top 52) 0)
  m_Shaper_shaped : MM K C.cShaper "shaped" "Shaper.shaped" (inClass (top 52) 1)
  m_Shaper_shaped_one : MM K C.cShaper "shaped_one" "Shaper.shaped_one" (inClass (top 52) 2)
  k_Coder : Cls K C.cCoder
  n_Coder : mg "Coder" = some (.ref C.cCoder)
  a_Coder_front : NoAttr K C.cCoder "front"
  a_Coder_flattener : NoAttr K C.cCoder "flattener"
  a_Coder_spectrum : NoAttr K C.cCoder "spectrum"
  a_Coder_past : NoAttr K C.cCoder "past"
  m_Coder_init : MI K C.cCoder "Coder.__init__" (inClass (top 97) 0)
  m_Coder_frame_of : MM K C.cCoder "frame_of" "Coder.frame_of" (inClass (top 97) 1)
  m_Coder_residual_of : MM K C.cCoder "residual_of" "Coder.residual_of" (inClass (top 97) 2)
  m_Coder_quarter_codes : MM K C.cCoder "quarter_codes" "Coder.quarter_codes" (inClass (top 97) 3)
  k_Decoder : Cls K C.cDecoder
  n_Decoder : mg "Decoder" = some (.ref C.cDecoder)
  a_Decoder_shaper : NoAttr K C.cDecoder "shaper"
  a_Decoder_spectrum : NoAttr K C.cDecoder "spectrum"
  a_Decoder_past : NoAttr K C.cDecoder "past"
  a_Decoder_lag : NoAttr K C.cDecoder "lag"
  a_Decoder_last_deep : NoAttr K C.cDecoder "last_deep"
  m_Decoder_init : MI K C.cDecoder "Decoder.__init__" (inClass (top 99) 0)
  m_Decoder_samples_of : MM K C.cDecoder "samples_of" "Decoder.samples_of" (inClass (top 99) 1)
  m_Decoder_residual_of : MM K C.cDecoder "residual_of" "Decoder.residual_of" (inClass (top 99) 2)
  m_Decoder_deepened : MM K C.cDecoder "deepened" "Decoder.deepened" (inClass (top 99) 3)
  k_Telephone : Cls K C.cTelephone
  n_Telephone : mg "Telephone" = some (.ref C.cTelephone)
  a_Telephone_coder : NoAttr K C.cTelephone "coder"
  a_Telephone_decoder : NoAttr K C.cTelephone "decoder"
  m_Telephone_init : MI K C.cTelephone "Telephone.__init__" (inClass (top 106) 0)
  m_Telephone_answer : MM K C.cTelephone "answer" "Telephone.answer" (inClass (top 106) 1)
  m_Telephone_begin : MM K C.cTelephone "begin" "Telephone.begin" (inClass (top 106) 2)
  m_Telephone_answer_to_frame : MM K C.cTelephone "answer_to_frame" "Telephone.answer_to_frame" (inClass (top 106) 3)
end Px
namespace Px
open PySem PySem.Spec PyProof.Rows L2
local macro_rules | `(tactic| walk_at "rd") => `(tactic| repeat (first | refine ⟨_, rfl, ?_⟩ | refine ⟨_, _, rfl, rfl, ?_⟩ | refine ⟨_, _, rfl, ?_⟩ | refine ⟨trivial, ?_⟩ | refine ⟨(show (0 : Int) ≤ _ by decide), ?_⟩ | refine ⟨Or.inl ⟨by decide, by decide⟩, ?_⟩ | refine ⟨Or.inr ⟨by decide, by decide⟩, ?_⟩))
variable {P : Program} {w : World} {K : PySem.W.Frag} {mg : Str → Option Value} {base : Heap} {C : Ad}
/-! promises over lists -/
def spLI (R : List Int → Prop) (f : List Int → Int) : Sp := fun vs H Q _ => ∃ a ns, vs = [.ref a] ∧ LI H a ns ∧ R ns ∧ ∀ H', Same H H' → Q (.int (f ns)) H'
def spLL (R : List Int → Prop) (f : List Int → List Int) : Sp := fun vs H Q _ => ∃ a ns, vs = [.ref a] ∧ LI H a ns ∧ R ns ∧ ∀ p H', Same H H' → H p = none → LI H' p (f ns) → Q (.ref p) H'
def spLiI (R : List Int → Int → Prop) (f : List Int → Int → Int) : Sp := fun vs H Q _ => ∃ a ns i, vs = [.ref a, .int i] ∧ LI H a ns ∧ R ns i ∧ ∀ H', Same H H' → Q (.int (f ns i)) H'
def spLiL (R : List Int → Int → Prop) (f : List Int → Int → List Int) : Sp := fun vs H Q _ => ∃ a ns i, vs = [.ref a, .int i] ∧ LI H a ns ∧ R ns i ∧ ∀ p H', Same H H' → H p = none → LI H' p (f ns i) → Q (.ref p) H'
theorem spLI_len {R f} {vs : List V} {H : Hp} {Q : VK} {E : XK} (h : spLI R f vs H Q E) : vs.length = 1 := by obtain ⟨_, _, rfl, _⟩ := h; rfl
theorem spLL_len {R f} {vs : List V} {H : Hp} {Q : VK} {E : XK} (h : spLL R f vs H Q E) : vs.length = 1 := by obtain ⟨_, _, rfl, _⟩ := h; rfl
theorem spLiI_len {R f} {vs : List V} {H : Hp} {Q : VK} {E : XK} (h : spLiI R f vs H Q E) : vs.length = 2 := by obtain ⟨_, _, _, rfl, _⟩ := h; rfl
theorem spLiL_len {R f} {vs : List V} {H : Hp} {Q : VK} {E : XK} (h : spLiL R f vs H Q E) : vs.length = 2 := by obtain ⟨_, _, _, rfl, _⟩ := h; rfl
theorem qint {Q : VK} {H : Hp} {i j : Int} (h : Q (.int i) H) (e : i = j) : Q (.int j) H := e ▸ h
abbrev s_stopped : Stmt := (top 9)
theorem sc_stopped : FnScope ["value"] ["value"] (defScope s_stopped) := ⟨rfl, rfl, rfl, by decide +kernel, rfl, by decide +kernel, by decide +kernel⟩
theorem d_stopped (T : Txt K mg C) : Df P w K mg base "stopped" ["value"] 1 (sp1 (fun _ => True) Ra26.stop16) := by
  refine .mk' T.f_stopped sc_stopped (fun _ _ _ _ _ _ us hl => match us, hl with | [_], _ => rfl) (fun vs H Q E h => sp1_len h) fun f cdv A outer s H vs Q E hr h => ?_
  obtain ⟨i, rfl, _, k⟩ := h
  refine ⟨_, (pss_cons (ps_if (pt_cmpR op_gt (pv 0) (pe_cst T.c_HIGHEST) (nomark _)) (pss_one (ps_ret (pe_cst T.c_HIGHEST))) pss_nil)
      (pss_cons (ps_if (pt_cmpR op_lt (pv 0) (pe_cst T.c_LOWEST) (nomark _)) (pss_one (ps_ret (pe_cst T.c_LOWEST))) pss_nil)
      (pss_one (ps_ret (pv 0))))), ?_⟩
  walk_at "rd"
  refine ite2 (fun h => qint k (Pv.stop16_hi (of_decide_eq_true h))) (fun h => ?_)
  walk_at "rd"
  refine ite2 (fun h2 => qint k (Pv.stop16_lo (of_decide_eq_true h2))) (fun h2 => ?_)
  walk_at "rd"
  simp only [decide_eq_true_eq] at h h2
  exact qint k (Pv.stop16_in ⟨by omega, by omega⟩)
abbrev s_stopped_long : Stmt := (top 10)
theorem sc_stopped_long : FnScope ["value"] ["value"] (defScope s_stopped_long) := ⟨rfl, rfl, rfl, by decide +kernel, rfl, by decide +kernel, by decide +kernel⟩
theorem d_stopped_long (T : Txt K mg C) : Df P w K mg base "stopped_long" ["value"] 1 (sp1 (fun _ => True) Ra26.stop32) := by
  refine .mk' T.f_stopped_long sc_stopped_long (fun _ _ _ _ _ _ us hl => match us, hl with | [_], _ => rfl) (fun vs H Q E h => sp1_len h) fun f cdv A outer s H vs Q E hr h => ?_
  obtain ⟨i, rfl, _, k⟩ := h
  refine ⟨_, (pss_cons (ps_if (pt_cmpR op_gt (pv 0) (pe_cst T.c_HIGHEST_LONG) (nomark _)) (pss_one (ps_ret (pe_cst T.c_HIGHEST_LONG))) pss_nil)
      (pss_cons (ps_if (pt_cmpR op_lt (pv 0) (pe_cst T.c_LOWEST_LONG) (nomark _)) (pss_one (ps_ret (pe_cst T.c_LOWEST_LONG))) pss_nil)
      (pss_one (ps_ret (pv 0))))), ?_⟩
  walk_at "rd"
  refine ite2 (fun h => qint k (Pv.stop32_hi (of_decide_eq_true h))) (fun h => ?_)
  walk_at "rd"
  refine ite2 (fun h2 => qint k (Pv.stop32_lo (of_decide_eq_true h2))) (fun h2 => ?_)
  walk_at "rd"
  simp only [decide_eq_true_eq] at h h2
  exact qint k (Pv.stop32_in (by omega) (by omega))
abbrev s_low_bits : Stmt := (top 11)
theorem sc_low_bits : FnScope ["value"] ["value"] (defScope s_low_bits) := ⟨rfl, rfl, rfl, by decide +kernel, rfl, by decide +kernel, by decide +kernel⟩
theorem d_low_bits (T : Txt K mg C) : Df P w K mg base "low_bits" ["value"] 1 (sp1 (fun _ => True) Ra26.cut) := by
  refine .mk' T.f_low_bits sc_low_bits (fun _ _ _ _ _ _ us hl => match us, hl with | [_], _ => rfl) (fun vs H Q E h => sp1_len h) fun f cdv A outer s H vs Q E hr h => ?_
  obtain ⟨i, rfl, _, k⟩ := h
  refine ⟨_, (pss_one (ps_ret (pe_op op_sub (pe_op op_and (pe_op op_add (pv 0) pe_int) pe_int) pe_int))), ?_⟩
  walk_at "rd"
  exact qint k (by rw [Pv.cut_eq, bitAnd_m16])
abbrev s_plus : Stmt := (top 12)
theorem sc_plus : FnScope ["first", "second"] ["first", "second"] (defScope s_plus) := ⟨rfl, rfl, rfl, by decide +kernel, rfl, by decide +kernel, by decide +kernel⟩
theorem d_plus (T : Txt K mg C) : Df P w K mg base "plus" ["first", "second"] 2 (sp2 (fun _ _ => True) Ra26.add) := by
  refine .mk' T.f_plus sc_plus (fun _ _ _ _ _ _ us hl => match us, hl with | [_, _], _ => rfl) (fun vs H Q E h => sp2_len h) fun f cdv A outer s H vs Q E hr h => ?_
  obtain ⟨i, j, rfl, _, k⟩ := h
  refine ⟨_, (pss_one (ps_ret (pe_fn (d_stopped T) (hr.mono (by decide)) (pa_cons (pe_op op_add (pv 0) (pv 1)) pa_nil)))), ?_⟩
  walk_at "rd"
  exact k
abbrev s_minus : Stmt := (top 13)
theorem sc_minus : FnScope ["first", "second"] ["first", "second"] (defScope s_minus) := ⟨rfl, rfl, rfl, by decide +kernel, rfl, by decide +kernel, by decide +kernel⟩
theorem d_minus (T : Txt K mg C) : Df P w K mg base "minus" ["first", "second"] 2 (sp2 (fun _ _ => True) Ra26.sub) := by
  refine .mk' T.f_minus sc_minus (fun _ _ _ _ _ _ us hl => match us, hl with | [_, _], _ => rfl) (fun vs H Q E h => sp2_len h) fun f cdv A outer s H vs Q E hr h => ?_
  obtain ⟨i, j, rfl, _, k⟩ := h
  refine ⟨_, (pss_one (ps_ret (pe_fn (d_stopped T) (hr.mono (by decide)) (pa_cons (pe_op op_sub (pv 0) (pv 1)) pa_nil)))), ?_⟩
  walk_at "rd"
  exact k
abbrev s_rounded_product : Stmt := (top 14)
theorem sc_rounded_product : FnScope ["first", "second"] ["first", "second"] (defScope s_rounded_product) := ⟨rfl, rfl, rfl, by decide +kernel, rfl, by decide +kernel, by decide +kernel⟩
theorem d_rounded_product (T : Txt K mg C) : Df P w K mg base "rounded_product" ["first", "second"] 2 (sp2 CMul Ra26.mulR) := by
  refine .mk' T.f_rounded_product sc_rounded_product (fun _ _ _ _ _ _ us hl => match us, hl with | [_, _], _ => rfl) (fun vs H Q E h => sp2_len h) fun f cdv A outer s H vs Q E hr h => ?_
  obtain ⟨i, j, rfl, c, k⟩ := h
  refine ⟨_, (pss_one (ps_ret (pe_fn (d_stopped T) (hr.mono (by decide)) (pa_cons (pe_op op_shr (pe_op op_add (pe_op op_mul (pv 0) (pv 1)) pe_int) pe_int) pa_nil)))), ?_⟩
  refine ⟨_, rfl, _, rfl, _, _, rfl, rfl, c, ?_⟩
  walk_at "rd"
  exact k
abbrev s_product : Stmt := (top 15)
theorem sc_product : FnScope ["first", "second"] ["first", "second"] (defScope s_product) := ⟨rfl, rfl, rfl, by decide +kernel, rfl, by decide +kernel, by decide +kernel⟩
theorem d_product (T : Txt K mg C) : Df P w K mg base "product" ["first", "second"] 2 (sp2 CMul Ra26.mul) := by
  refine .mk' T.f_product sc_product (fun _ _ _ _ _ _ us hl => match us, hl with | [_, _], _ => rfl) (fun vs H Q E h => sp2_len h) fun f cdv A outer s H vs Q E hr h => ?_
  obtain ⟨i, j, rfl, c, k⟩ := h
  refine ⟨_, (pss_one (ps_ret (pe_fn (d_stopped T) (hr.mono (by decide)) (pa_cons (pe_op op_shr (pe_op op_mul (pv 0) (pv 1)) pe_int) pa_nil)))), ?_⟩
  refine ⟨_, rfl, _, rfl, _, _, rfl, rfl, c, ?_⟩
  walk_at "rd"
  exact k
abbrev s_size : Stmt := (top 16)
theorem sc_size : FnScope ["value"] ["value"] (defScope s_size) := ⟨rfl, rfl, rfl, by decide +kernel, rfl, by decide +kernel, by decide +kernel⟩
theorem d_size (T : Txt K mg C) : Df P w K mg base "size" ["value"] 2 (sp1 (fun _ => True) Pv.sz) := by
  refine .mk' T.f_size sc_size (fun _ _ _ _ _ _ us hl => match us, hl with | [_], _ => rfl) (fun vs H Q E h => sp1_len h) fun f cdv A outer s H vs Q E hr h => ?_
  obtain ⟨i, rfl, _, k⟩ := h
  refine ⟨_, (pss_one (ps_ret (pe_fn (d_stopped T) (hr.mono (by decide)) (pa_cons (pe_callB call_abs (by rfl) T.b_abs boot_abs (pa_cons (pv 0) pa_nil)) pa_nil)))), ?_⟩
  exact ⟨_, rfl, _, rfl, _, rfl, trivial, k⟩
abbrev s_with_sign_of : Stmt := (top 18)
theorem sc_with_sign_of : FnScope ["value", "magnitude"] ["value", "magnitude"] (defScope s_with_sign_of) := ⟨rfl, rfl, rfl, by decide +kernel, rfl, by decide +kernel, by decide +kernel⟩
theorem d_with_sign_of (T : Txt K mg C) : Df P w K mg base "with_sign_of" ["value", "magnitude"] 1 (sp2 (fun _ _ => True) Pv.sgn) := by
  refine .mk' T.f_with_sign_of sc_with_sign_of (fun _ _ _ _ _ _ us hl => match us, hl with | [_, _], _ => rfl) (fun vs H Q E h => sp2_len h) fun f cdv A outer s H vs Q E hr h => ?_
  obtain ⟨i, j, rfl, _, k⟩ := h
  refine ⟨_, (pss_cons (ps_if (pt_cmpR op_lt (pv 0) pe_int (nomark _)) (pss_one (ps_ret (pe_un un_neg (pv 1)))) pss_nil)
      (pss_one (ps_ret (pv 1)))), ?_⟩
  walk_at "rd"
  refine ite2 (fun h => ?_) (fun h => ?_)
  · have h := of_decide_eq_true h
    walk_at "rd"
    exact qint k (if_pos h)
  · simp only [decide_eq_true_eq] at h
    walk_at "rd"
    exact qint k (if_neg h)
abbrev s_doublings : Stmt := (top 19)
theorem sc_doublings : FnScope ["value"] ["value"] (defScope s_doublings) := ⟨rfl, rfl, rfl, by decide +kernel, rfl, by decide +kernel, by decide +kernel⟩
theorem d_doublings (T : Txt K mg C) : Df P w K mg base "doublings" ["value"] 1 (sp1 (fun i => 0 < i ∧ i < 2147483648) fun i => (Ra26.norm i : Nat)) := by
  refine .mk' T.f_doublings sc_doublings (fun _ _ _ _ _ _ us hl => match us, hl with | [_], _ => rfl) (fun vs H Q E h => sp1_len h) fun f cdv A outer s H vs Q E hr h => ?_
  obtain ⟨i, rfl, ⟨h0, h1⟩, k⟩ := h
  refine ⟨_, (pss_cons (ps_if (pt_cmpR op_lt (pv 0) pe_int (nomark _)) (pss_one (ps_ret (pe_op op_sub pe_int (pe_bm0 PySem.F.plainAttrs_int PySem.F.slot_int_bit_length PySem.F.type_int_bit_length mt_bits (pe_un un_inv (pv 0)))))) pss_nil)
      (pss_one (ps_ret (pe_op op_sub pe_int (pe_bm0 PySem.F.plainAttrs_int PySem.F.slot_int_bit_length PySem.F.type_int_bit_length mt_bits (pv 0)))))), ?_⟩
  walk_at "rd"
  refine ite2 (fun h => absurd (of_decide_eq_true h) (by omega)) (fun h => ?_)
  refine ⟨_, rfl, rfl, _, rfl, rfl, _, _, rfl, rfl, qint k ?_⟩
  show ((Ra26.norm i : Nat) : Int) = _
  rw [← Pv.norm_bits h0 h1]
  unfold Builtin.Int.intBits
  rw [if_neg (by simp; omega)]
abbrev s_greatest_size : Stmt := (top 17)
theorem sc_greatest_size : FnScope ["values", "value"] ["values"] (defScope s_greatest_size) := ⟨rfl, rfl, rfl, by decide +kernel, rfl, by decide +kernel, by decide +kernel⟩
theorem d_greatest_size (T : Txt K mg C) : Df P w K mg base "greatest_size" ["values"] 3 (spLI (fun ns => 0 < ns.length ∧ ns.length ≤ 1000 ∧ Pv.Ws ns) Ra26.peak) := by
  refine .mk' T.f_greatest_size sc_greatest_size (fun _ _ _ _ _ _ us hl => match us, hl with | [_], _ => rfl) (fun vs H Q E h => spLI_len h) fun f cdv A outer s H vs Q E hr h => ?_
  obtain ⟨a, ns, rfl, hl, ⟨h0, h1, hw⟩, k⟩ := h
  refine ⟨_, (pss_one (ps_ret (pe_callB (cr_max rfl) (by rfl) T.b_max boot_max (pa_cons (pe_lc (own := [("value", 1)]) rfl sc_greatest_size.nd (pi_list (pv 0)) (blkOk_by (by kernel_rfl)) (fun _ _ _ _ _ => (pg_name (i := 1) sc_greatest_size.nd rfl (Or.inl rfl))) (fun _ _ _ _ _ => pts_nil) (fun _ _ _ _ _ => (pe_fn (d_size T) (hr.mono (by decide)) (pa_cons (pv 1) pa_nil)))) pa_nil)))), ?_⟩
  refine ⟨_, rfl, a, rfl, ⟨_, hl.sq⟩, lcI Pv.sz hl (by omega) (fun i z H2 R hz s2 hR => ?_) fun D H' hD s2 e => ?_⟩
  · exact ⟨_, rfl, _, rfl, trivial, hR _ (Same.refl _)⟩
  · refine ⟨D, ns.map Pv.sz, rfl, e.sq, by rw [List.length_map]; exact h0, fun m hm hx => ?_⟩
    rw [Pv.peak_is hw hm hx]
    exact k H' s2
end Px
namespace Px
open PySem PySem.Spec PyProof.Rows L2
local macro_rules | `(tactic| walk_at "rd") => `(tactic| repeat (first | refine ⟨_, rfl, ?_⟩ | refine ⟨_, _, rfl, rfl, ?_⟩ | refine ⟨_, _, rfl, ?_⟩ | refine ⟨rfl, ?_⟩ | refine ⟨trivial, ?_⟩ | refine ⟨(show (0 : Int) ≤ _ by decide), ?_⟩ | refine ⟨Or.inl ⟨by decide, by decide⟩, ?_⟩ | refine ⟨Or.inr ⟨by decide, by decide⟩, ?_⟩))
variable {P : Program} {w : World} {K : PySem.W.Frag} {mg : Str → Option Value} {base : Heap} {C : Ad}
theorem cutI (ns : List Int) (i j : Nat) : cutV (ns.map V.int) (some (i : Int)) (some (j : Int)) = ((ns.drop i).take (j - i)).map V.int := by
  unfold cutV
  rw [HT.sIx_nat, HT.sIx_nat, List.length_map, ← List.map_drop, ← List.map_take]
  congr 1
  by_cases h : i ≤ ns.length
  · rw [Nat.min_eq_left h]
    by_cases h2 : j ≤ ns.length
    · rw [Nat.min_eq_left h2]
    · rw [Nat.min_eq_right (by omega), List.take_of_length_le (by rw [List.length_drop]; omega), List.take_of_length_le (by rw [List.length_drop]; omega)]
  · rw [List.drop_of_length_le (by omega), List.drop_of_length_le (by omega), List.take_nil, List.take_nil]
theorem cutF (ns : List Int) (i : Nat) : cutV (ns.map V.int) (some (i : Int)) none = (ns.drop i).map V.int := by
  unfold cutV
  rw [HT.sIx_nat, HT.sIx_none, List.length_map, ← List.map_drop, ← List.map_take]
  congr 1
  by_cases h : i ≤ ns.length
  · rw [Nat.min_eq_left h, List.take_of_length_le (by rw [List.length_drop]; omega)]
  · rw [List.drop_of_length_le (by omega), List.drop_of_length_le (by omega), List.take_nil]
theorem cutT (ns : List Int) (j : Nat) : cutV (ns.map V.int) none (some (j : Int)) = (ns.take j).map V.int := by
  unfold cutV
  rw [HT.sIx_nat, HT.sIx_none, List.length_map, ← List.map_drop, ← List.map_take]
  congr 1
  rw [List.drop_zero, Nat.sub_zero]
  by_cases h : j ≤ ns.length
  · rw [Nat.min_eq_left h]
  · rw [Nat.min_eq_right (by omega), List.take_of_length_le (Nat.le_refl _), List.take_of_length_le (by omega)]
theorem cmulW {i j : Int} (h : Pv.W i) : CMul i j := by
  obtain ⟨a, b⟩ := h
  exact .inl ⟨by omega, by omega⟩
theorem cmulW' {i j : Int} (h : Pv.W j) : CMul i j := by
  obtain ⟨a, b⟩ := h
  exact .inr ⟨by omega, by omega⟩
theorem W_get {ns : List Int} (h : Pv.Ws ns) {i : Nat} {z : Int} (e : ns[i]? = some z) : Pv.W z := h z (List.mem_of_getElem? e)
theorem li_new {H : Hp} {p : Addr} {ns : List Int} : LI (upd H p (.lst (ns.map V.int))) p ns := upd_same
theorem li_new' {H : Hp} {p : Addr} {ns : List Int} {xs : List V} (e : xs = ns.map V.int) : LI (upd H p (.lst xs)) p ns := by rw [e]; exact upd_same
abbrev s_headroom_shift : Stmt := (top 20)
theorem sc_headroom_shift : FnScope ["values", "bits", "greatest"] ["values", "bits"] (defScope s_headroom_shift) := ⟨rfl, rfl, rfl, by decide +kernel, rfl, by decide +kernel, by decide +kernel⟩
theorem d_headroom_shift (T : Txt K mg C) : Df P w K mg base "headroom_shift" ["values", "bits"] 4 (spLiI (fun ns i => (0 < ns.length ∧ ns.length ≤ 1000 ∧ Pv.Ws ns) ∧ 0 ≤ i ∧ i ≤ 10) fun ns i => (Pv.kOf i.toNat (Ra26.peak ns) : Nat)) := by
  refine .mk' T.f_headroom_shift sc_headroom_shift (fun _ _ _ _ _ _ us hl => match us, hl with | [_, _], _ => rfl) (fun vs H Q E h => spLiI_len h) fun f cdv A outer s H vs Q E hr h => ?_
  obtain ⟨a, ns, i, rfl, hl, ⟨hc, b0, b1⟩, k⟩ := h
  refine ⟨_, (pss_cons (ps_set (i := 2) sc_headroom_shift.nd rfl (Or.inl rfl) (pe_fn (d_greatest_size T) (hr.mono (by decide)) (pa_cons (pv 0) pa_nil)))
      (pss_cons (ps_if (pt_cmpR op_eq (pv 2) pe_int (nomark _)) (pss_one (ps_ret pe_int)) pss_nil)
      (pss_one (ps_ret (pe_callB (call_max2 rfl) (by rfl) T.b_max boot_max (pa_cons pe_int (pa_cons (pe_op op_sub (pv 1) (pe_fn (d_doublings T) (hr.mono (by decide)) (pa_cons (pe_op op_mul pe_int (pv 2)) pa_nil))) pa_nil))))))), ?_⟩
  refine ⟨_, rfl, a, ns, rfl, hl, hc, fun H1 s1 => ?_⟩
  walk_at "rd"
  have p0 := Pv.peak_nn ns
  have p1 := Pv.peak_le hc.2.2
  refine ite2 (fun h => ?_) (fun h => ?_)
  · have h : V.int (Ra26.peak ns) = V.int 0 := of_decide_eq_true h
    have h : Ra26.peak ns = 0 := by injection h
    exact qint (k H1 s1) (by show ((Pv.kOf _ _ : Nat) : Int) = 0; unfold Pv.kOf; rw [if_pos h]; rfl)
  · have h : ¬ Ra26.peak ns = 0 := fun q => h (decide_eq_true (by rw [q]))
    simp only [Ra26.N] at *
    refine ⟨_, rfl, _, rfl, _, _, rfl, rfl, .inl ⟨by decide, by decide⟩, _, rfl, ⟨by omega, by omega⟩, _, _, rfl, rfl, _, _, rfl, qint (k H1 s1) ?_⟩
    show ((Pv.kOf _ _ : Nat) : Int) = (if i - ((Ra26.norm (65536 * Ra26.peak ns) : Nat) : Int) > 0 then i - ((Ra26.norm (65536 * Ra26.peak ns) : Nat) : Int) else 0)
    unfold Pv.kOf
    rw [if_neg h, Int.mul_comm (Ra26.peak ns)]
    split <;> omega
abbrev s_at_lag : Stmt := (top 25)
theorem sc_at_lag : FnScope ["past", "lag", "start"] ["past", "lag"] (defScope s_at_lag) := ⟨rfl, rfl, rfl, by decide +kernel, rfl, by decide +kernel, by decide +kernel⟩
theorem d_at_lag (T : Txt K mg C) : Df P w K mg base "at_lag" ["past", "lag"] 1 (spLiL (fun ns i => ns.length = 120 ∧ 40 ≤ i ∧ i ≤ 120) fun ns i => Pv.atLag ns i.toNat) := by
  refine .mk' T.f_at_lag sc_at_lag (fun _ _ _ _ _ _ us hl => match us, hl with | [_, _], _ => rfl) (fun vs H Q E h => spLiL_len h) fun f cdv A outer s H vs Q E hr h => ?_
  obtain ⟨a, ns, i, rfl, hl, ⟨h1, h2, h3⟩, k⟩ := h
  refine ⟨_, (pss_cons (ps_set (i := 2) sc_at_lag.nd rfl (Or.inl rfl) (pe_op op_sub (pe_cst T.c_LONGEST_LAG) (pv 1)))
      (pss_one (ps_ret (pe_slice (sl_listK K rfl) (pv 0) (po_some (pv 2)) (po_some (pe_op op_add (pv 2) (pe_cst T.c_QUARTER))))))), ?_⟩
  walk_at "rd"
  refine ⟨a, _, rfl, hl.sq, fun p hp => k p _ (same_new hp) hp (li_new' ?_)⟩
  have e1 : (120 : Int) - i = ((120 - i.toNat : Nat) : Int) := by omega
  have e2 : ((120 - i.toNat : Nat) : Int) + 40 = ((120 - i.toNat + 40 : Nat) : Int) := by omega
  rw [e1, e2, cutI]
  unfold Pv.atLag
  congr 2
  omega
def spR (R : List Int → List Int → Int → Prop) (f : List Int → List Int → Int → Int) : Sp := fun vs H Q _ => ∃ a b ns ms i, vs = [.ref a, .ref b, .int i] ∧ LI H a ns ∧ LI H b ms ∧ R ns ms i ∧ ∀ H', Same H H' → Q (.int (f ns ms i)) H'
abbrev s_resemblance : Stmt := (top 26)
theorem sc_resemblance : FnScope ["quarter", "past", "lag", "now", "before"] ["quarter", "past", "lag"] (defScope s_resemblance) := ⟨rfl, rfl, rfl, by decide +kernel, rfl, by decide +kernel, by decide +kernel⟩
theorem d_resemblance (T : Txt K mg C) : Df P w K mg base "resemblance" ["quarter", "past", "lag"] 2 (spR (fun ns ms i => ns.length = 40 ∧ Pv.Ws ns ∧ ms.length = 120 ∧ 40 ≤ i ∧ i ≤ 120) fun ns ms i => Pv.goes ns ms i.toNat) := by
  refine .mk' T.f_resemblance sc_resemblance (fun _ _ _ _ _ _ us hl => match us, hl with | [_, _, _], _ => rfl) (fun vs H Q E h => by obtain ⟨_, _, _, _, _, rfl, _⟩ := h; rfl) fun f cdv A outer s H vs Q E hr h => ?_
  obtain ⟨a, b, ns, ms, i, rfl, hl, hm, ⟨h1, hw, h2, h3, h4⟩, k⟩ := h
  refine ⟨_, (pss_one (ps_ret (pe_callB (cr_sum rfl) (by rfl) T.b_sum boot_sum (pa_cons (pe_lc (own := [("now", 3), ("before", 4)]) rfl sc_resemblance.nd (pi_zipS false false T.b_zip (pa_cons (pv 0) (pa_cons (pe_fn (d_at_lag T) (hr.mono (by decide)) (pa_cons (pv 1) (pa_cons (pv 2) pa_nil))) pa_nil))) (blkOk_by (by kernel_rfl)) (fun _ _ _ _ _ => (pg_pair K 3 4 rfl rfl sc_resemblance.nd rfl rfl (Or.inl rfl) (Or.inl rfl) (.inr rfl) (.inr rfl))) (fun _ _ _ _ _ => pts_nil) (fun _ _ _ _ _ => (pe_op op_mul (pv 3) (pv 4)))) pa_nil)))), ?_⟩
  refine ⟨_, rfl, _, rfl, _, rfl, b, ms, i, rfl, hm, ⟨h2, h3, h4⟩, fun p H1 s1 hp hp1 => ?_⟩
  refine ⟨a, p, _, _, rfl, (hl.same s1).sq, hp1.sq, lcZ (by decide) (fun x y => x * y) (fun H s => ((hl.same s1).same s).sq) (fun H s => (hp1.same s).sq) (by omega) (fun i z y H2 R hz hy s2 hR => ?_) fun D H' hD s2 e => ?_⟩
  · exact ⟨_, rfl, _, rfl, _, _, rfl, rfl, cmulW (W_get hw hz), hR _ (Same.refl _)⟩
  · refine ⟨D, _, rfl, e.sq, qint (k H' (s1.trans s2)) (Pv.goes_eq h1 h2 (by omega) (by omega)).symm⟩
def spBL (R : List Int → List Int → Prop) (f : List Int → List Int → Int) : Sp := fun vs H Q _ => ∃ a b ns ms, vs = [.ref a, .ref b] ∧ LI H a ns ∧ LI H b ms ∧ R ns ms ∧ ∀ H', Same H H' → Q (.int (f ns ms)) H'
abbrev s_best_lag : Stmt := (top 27)
theorem sc_best_lag : FnScope ["quarter", "past", "found", "greatest", "lag", "value"] ["quarter", "past"] (defScope s_best_lag) := ⟨rfl, rfl, rfl, by decide +kernel, rfl, by decide +kernel, by decide +kernel⟩
theorem d_best_lag (T : Txt K mg C) : Df P w K mg base "best_lag" ["quarter", "past"] 3 (spBL (fun ns ms => ns.length = 40 ∧ Pv.Ws ns ∧ ms.length = 120) fun ns ms => ((Pv.bestTo ns ms 81).2 : Nat)) := by
  refine .mk' T.f_best_lag sc_best_lag (fun _ _ _ _ _ _ us hl => match us, hl with | [_, _], _ => rfl) (fun vs H Q E h => by obtain ⟨_, _, _, _, rfl, _⟩ := h; rfl) fun f cdv A outer s H vs Q E hr h => ?_
  obtain ⟨a, b, ns, ms, rfl, hl, hm, ⟨h1, hw, h2⟩, k⟩ := h
  refine ⟨_, (pss_cons (ps_set (i := 2) sc_best_lag.nd rfl (Or.inl rfl) (pe_cst T.c_SHORTEST_LAG))
      (pss_cons (ps_set (i := 3) sc_best_lag.nd rfl (Or.inl rfl) pe_int)
      (pss_cons (ps_for PassesOwn.never rfl (pi_range2 rfl T.b_range (pa_cons (pe_cst T.c_SHORTEST_LAG) (pa_cons (pe_op op_add (pe_cst T.c_LONGEST_LAG) pe_int) pa_nil))) (pg_name (i := 4) sc_best_lag.nd rfl (Or.inl rfl)) (pss_cons (ps_set (i := 5) sc_best_lag.nd rfl (Or.inl rfl) (pe_fn (d_resemblance T) (hr.mono (by decide)) (pa_cons (pv 0) (pa_cons (pv 1) (pa_cons (pv 4) pa_nil)))))
      (pss_one (ps_if (pt_cmpR op_gt (pv 5) (pv 3) (nomark _)) (pss_cons (ps_set (i := 2) sc_best_lag.nd rfl (Or.inl rfl) (pv 4))
      (pss_one (ps_set (i := 3) sc_best_lag.nd rfl (Or.inl rfl) (pv 5)))) pss_nil))))
      (pss_one (ps_ret (pv 2)))))), ?_⟩
  refine ⟨_, _, rfl, rfl, 40, 121, rfl, ⟨by decide, by decide, by decide, by decide⟩, ?_⟩
  refine for_range (n := 81) (fun i σ H1 => ∃ v5 v6, Same H H1 ∧ σ = [some (.ref a), some (.ref b), some (.int ((Pv.bestTo ns ms i).2 : Nat)), some (.int (Pv.bestTo ns ms i).1), v5, v6]) ⟨none, none, Same.refl _, rfl⟩ ?_ ?_
  · rintro i σ H1 hi ⟨v5, v6, s1, rfl⟩
    refine ⟨_, rfl, _, rfl, _, rfl, a, b, ns, ms, _, rfl, hl.same s1, hm.same s1, ⟨h1, hw, h2, by omega, by omega⟩, fun H2 s2 => ?_⟩
    walk_at "rd"
    have e : (40 + (i : Int)).toNat = 40 + i := by omega
    refine ite2 (fun h => ?_) (fun h => ?_)
    · have h : (Pv.bestTo ns ms i).1 < Pv.goes ns ms (40 + (i : Int)).toNat := of_decide_eq_true h
      walk_at "rd"
      refine ⟨some (V.int (40 + (i : Int))), some (V.int (Pv.goes ns ms (40 + (i : Int)).toNat)), s1.trans s2, ?_⟩
      rw [e] at h
      rw [Pv.bestTo_succ, if_pos h]
      show [_, _, some (V.int (40 + (i : Int))), some (V.int (Pv.goes ns ms (40 + (i : Int)).toNat)), _, _] = _
      rw [e]
      rfl
    · have h : ¬ (Pv.bestTo ns ms i).1 < Pv.goes ns ms (40 + (i : Int)).toNat := fun q => h (decide_eq_true q)
      refine ⟨some (V.int (40 + (i : Int))), some (V.int (Pv.goes ns ms (40 + (i : Int)).toNat)), s1.trans s2, ?_⟩
      rw [e] at h
      rw [Pv.bestTo_succ, if_neg h]
      rfl
  · rintro σ H1 ⟨v5, v6, s1, rfl⟩
    walk_at "rd"
    exact k H1 s1
def spG (R : Int → Int → Prop) (f : Int → Int → Int) : Sp := fun vs H Q _ => ∃ i j, vs = [.int i, .int j] ∧ R i j ∧ ∀ H', Same H H' → Q (.int (f i j)) H'
abbrev s_gain_code : Stmt := (top 28)
theorem sc_gain_code : FnScope ["fit", "power", "shift", "share", "whole", "code", "bound"] ["fit", "power"] (defScope s_gain_code) := ⟨rfl, rfl, rfl, by decide +kernel, rfl, by decide +kernel, by decide +kernel⟩
theorem d_gain_code (T : Txt K mg C) : Df P w K mg base "gain_code" ["fit", "power"] 3 (spG (fun i j => 0 ≤ j ∧ j ≤ 1342177280) fun i j => (Pv.gainOf i j : Nat)) := by
  refine .mk' T.f_gain_code sc_gain_code (fun _ _ _ _ _ _ us hl => match us, hl with | [_, _], _ => rfl) (fun vs H Q E h => by obtain ⟨_, _, rfl, _⟩ := h; rfl) fun f cdv A outer s H vs Q E hr h => ?_
  obtain ⟨i, j, rfl, ⟨j0, j1⟩, k⟩ := h
  refine ⟨_, (pss_cons (ps_if (pt_cmpR op_le (pv 0) pe_int (nomark _)) (pss_one (ps_ret pe_int)) pss_nil)
      (pss_cons (ps_if (pt_cmpR op_ge (pv 0) (pv 1) (nomark _)) (pss_one (ps_ret pe_int)) pss_nil)
      (pss_cons (ps_set (i := 2) sc_gain_code.nd rfl (Or.inl rfl) (pe_fn (d_doublings T) (hr.mono (by decide)) (pa_cons (pv 1) pa_nil)))
      (pss_cons (ps_set (i := 3) sc_gain_code.nd rfl (Or.inl rfl) (pe_op op_shr (pe_op op_shlB (pv 0) (pv 2)) pe_int))
      (pss_cons (ps_set (i := 4) sc_gain_code.nd rfl (Or.inl rfl) (pe_op op_shr (pe_op op_shlB (pv 1) (pv 2)) pe_int))
      (pss_cons (ps_for PassesOwn.never rfl (pi_enumT T.b_enumerate (pa_cons (pe_tupK K rfl T.t_GAIN_BOUNDS) pa_nil)) (pg_pair K 5 6 rfl rfl sc_gain_code.nd rfl rfl (Or.inl rfl) (Or.inl rfl) (.inl rfl) (.inl rfl)) (pss_one (ps_if (pt_cmpR op_le (pv 3) (pe_fn (d_product T) (hr.mono (by decide)) (pa_cons (pv 4) (pa_cons (pv 6) pa_nil))) (nomark _)) (pss_one (ps_ret (pv 5))) pss_nil)))
      (pss_one (ps_ret pe_int)))))))), ?_⟩
  walk_at "rd"
  refine ite2 (fun h => ?_) (fun h => ?_)
  · exact qint (k H (Same.refl _)) (by show ((Pv.gainOf i j : Nat) : Int) = 0; unfold Pv.gainOf; rw [if_pos (of_decide_eq_true h)]; rfl)
  · simp only [decide_eq_true_eq] at h
    walk_at "rd"
    refine ite2 (fun h2 => ?_) (fun h2 => ?_)
    · exact qint (k H (Same.refl _)) (by show ((Pv.gainOf i j : Nat) : Int) = 3; unfold Pv.gainOf; rw [if_neg h, if_pos (of_decide_eq_true h2)]; rfl)
    · simp only [decide_eq_true_eq] at h2
      have jp : 0 < j := by omega
      have sh : CSh i (Ra26.norm j : Nat) := .small (by omega) (by omega) (by have := Pv.norm_le30 jp; omega)
      have sh2 : CSh j (Ra26.norm j : Nat) := .small (by omega) (by omega) (by have := Pv.norm_le30 jp; omega)
      refine ⟨_, rfl, _, rfl, ⟨jp, by omega⟩, ?_⟩
      refine ⟨_, rfl, _, rfl, _, _, rfl, rfl, sh, _, _, rfl, rfl, (show (0 : Int) ≤ 16 by decide), ?_⟩
      refine ⟨_, rfl, _, rfl, _, _, rfl, rfl, sh2, _, _, rfl, rfl, (show (0 : Int) ≤ 16 by decide), ?_⟩
      intro ga hga
      refine ⟨ga, _, rfl, hga H, ?_⟩
      have nn : ((Ra26.norm j : Nat) : Int).toNat = Ra26.norm j := Int.toNat_natCast _
      have gd : Pv.gainOf i j = (if i * 2 ^ Ra26.norm j / 65536 ≤ Ra26.mul (j * 2 ^ Ra26.norm j / 65536) 6554 then 0 else if i * 2 ^ Ra26.norm j / 65536 ≤ Ra26.mul (j * 2 ^ Ra26.norm j / 65536) 16384 then 1 else
          if i * 2 ^ Ra26.norm j / 65536 ≤ Ra26.mul (j * 2 ^ Ra26.norm j / 65536) 26214 then 2 else 3) := by
        unfold Pv.gainOf
        rw [if_neg h, if_neg h2]
        rfl
      have w16 : Pv.W (j * 2 ^ Ra26.norm j / 65536) := by
        have := Pv.norm_shift jp (by omega)
        have p : (0 : Int) < 2 ^ Ra26.norm j := Pv.tp _
        have q : 0 < j * 2 ^ Ra26.norm j := Int.mul_pos jp p
        exact ⟨by omega, by omega⟩
      have e16 : (2 : Int) ^ (16 : Int).toNat = 65536 := by decide
      obtain ⟨S, hS⟩ : ∃ S, S = i * 2 ^ ((Ra26.norm j : Nat) : Int).toNat / 2 ^ (16 : Int).toNat := ⟨_, rfl⟩
      obtain ⟨U, hU⟩ : ∃ U, U = j * 2 ^ ((Ra26.norm j : Nat) : Int).toNat / 2 ^ (16 : Int).toNat := ⟨_, rfl⟩
      have hS' := hS
      have hU' := hU
      rw [nn, e16] at hS' hU'
      rw [← hS', ← hU'] at gd
      rw [← hU'] at w16
      refine for_enumT (fun n σ H1 => ∃ v5 v6, Same H H1 ∧ σ = [some (.int i), some (.int j), some (.int (Ra26.norm j : Nat)), some (.int S), some (.int U), v5, v6] ∧
        (0 < n → ¬ S ≤ Ra26.mul U 6554) ∧ (1 < n → ¬ S ≤ Ra26.mul U 16384) ∧ (2 < n → ¬ S ≤ Ra26.mul U 26214)) ⟨none, none, Same.refl _, by rw [hS, hU]; rfl, fun z => absurd z (by omega), fun z => absurd z (by omega), fun z => absurd z (by omega)⟩ (fun n σ H1 _ _ => hga H1) ?_ ?_
      · rintro n x Tt σ H1 hx ⟨v5, v6, s1, rfl, q0, q1, q2⟩ hT
        refine g2 ?_
        obtain ⟨z, rfl⟩ : ∃ z, x = V.int z := by
          match n, hx with
          | 0, hx => exact ⟨_, (Option.some.inj hx).symm⟩
          | 1, hx => exact ⟨_, (Option.some.inj hx).symm⟩
          | 2, hx => exact ⟨_, (Option.some.inj hx).symm⟩
        refine ⟨_, rfl, _, rfl, _, rfl, _, _, rfl, cmulW w16, _, _, rfl, rfl, _, rfl, ?_⟩
        refine ite2 (fun hh => ?_) (fun hh => ?_)
        · have hh := of_decide_eq_true hh
          walk_at "rd"
          refine qint (k _ (s1.trans (same_new hT))) ?_
          show ((Pv.gainOf i j : Nat) : Int) = _
          rw [gd]
          match n, hx with
          | 0, hx => cases hx; rw [if_pos hh]
          | 1, hx => cases hx; rw [if_neg (q0 (by omega)), if_pos hh]
          | 2, hx => cases hx; rw [if_neg (q0 (by omega)), if_neg (q1 (by omega)), if_pos hh]
        · simp only [decide_eq_true_eq] at hh
          refine ⟨_, _, s1.trans (same_new hT), rfl, ?_⟩
          match n, hx with
          | 0, hx => cases hx; exact ⟨fun _ => hh, fun z => absurd z (by omega), fun z => absurd z (by omega)⟩
          | 1, hx => cases hx; exact ⟨fun _ => q0 (by omega), fun _ => hh, fun z => absurd z (by omega)⟩
          | 2, hx => cases hx; exact ⟨fun _ => q0 (by omega), fun _ => q1 (by omega), fun _ => hh⟩
      · rintro σ H1 ⟨v5, v6, s1, rfl, q0, q1, q2⟩
        refine qint (k H1 s1) ?_
        show ((Pv.gainOf i j : Nat) : Int) = 3
        rw [gd, if_neg (q0 (by decide)), if_neg (q1 (by decide)), if_neg (q2 (by decide))]
        rfl
end Px
namespace Px
open PySem PySem.Spec PyProof.Rows L2
local macro_rules | `(tactic| walk_at "rd") => `(tactic| repeat (first | refine ⟨_, rfl, ?_⟩ | refine ⟨_, _, rfl, rfl, ?_⟩ | refine ⟨_, _, rfl, ?_⟩ | refine ⟨rfl, ?_⟩ | refine ⟨trivial, ?_⟩ | refine ⟨(show (0 : Int) ≤ _ by decide), ?_⟩ | refine ⟨Or.inl ⟨by decide, by decide⟩, ?_⟩ | refine ⟨Or.inr ⟨by decide, by decide⟩, ?_⟩))
variable {P : Program} {w : World} {K : PySem.W.Frag} {mg : Str → Option Value} {base : Heap} {C : Ad}
theorem shr_W {z : Int} (n : Nat) (h : Pv.W z) : Pv.W (z / 2 ^ n) := by
  obtain ⟨a, b⟩ := h
  have p : (0 : Int) < 2 ^ n := Pv.tp n
  refine ⟨?_, ?_⟩
  · exact (Int.le_ediv_iff_mul_le p).mpr (by
      have : (-32768 : Int) * 2 ^ n ≤ -32768 * 1 := by
        rw [Int.neg_mul, Int.neg_mul]
        have : (32768 : Int) * 1 ≤ 32768 * 2 ^ n := Int.mul_le_mul_of_nonneg_left (by omega) (by omega)
        omega
      omega)
  · by_cases hz : 0 ≤ z
    · exact Int.le_trans (Int.ediv_le_self _ hz) b
    · have : z / 2 ^ n < 0 := Int.ediv_neg_of_neg_of_pos (by omega) p
      omega
def spLG (R : List Int → List Int → Prop) (f : List Int → List Int → Int × Int) : Sp := fun vs H Q _ => ∃ a b ns ms, vs = [.ref a, .ref b] ∧ LI H a ns ∧ LI H b ms ∧ R ns ms ∧ ∀ p H', Same H H' → H p = none → H' p = some (.tup [.int (f ns ms).1, .int (f ns ms).2]) → Q (.ref p) H'
abbrev s_lag_and_gain : Stmt := (top 29)
theorem sc_lag_and_gain : FnScope ["residual", "past", "shift", "value", "lowered", "lag", "fit", "power"] ["residual", "past"] (defScope s_lag_and_gain) := ⟨rfl, rfl, rfl, by decide +kernel, rfl, by decide +kernel, by decide +kernel⟩
theorem d_lag_and_gain (T : Txt K mg C) : Df P w K mg base "lag_and_gain" ["residual", "past"] 5 (spLG (fun ns ms => ns.length = 40 ∧ Pv.Ws ns ∧ ms.length = 120 ∧ Pv.Ws ms) fun ns ms => ((Ra26.lagOf ns ms).1, (Ra26.lagOf ns ms).2)) := by
  refine .mk' T.f_lag_and_gain sc_lag_and_gain (fun _ _ _ _ _ _ us hl => match us, hl with | [_, _], _ => rfl) (fun vs H Q E h => by obtain ⟨_, _, _, _, rfl, _⟩ := h; rfl) fun f cdv A outer s H vs Q E hr h => ?_
  obtain ⟨a, b, ns, ms, rfl, hl, hm, ⟨h1, hw, h2, hw2⟩, k⟩ := h
  refine ⟨_, (pss_cons (ps_set (i := 2) sc_lag_and_gain.nd rfl (Or.inr rfl) (pe_fn (d_headroom_shift T) (hr.mono (by decide)) (pa_cons (pv 0) (pa_cons (pe_cst T.c_HEADROOM_forecast) pa_nil))))
      (pss_cons (ps_setLc (i := 4) rfl sc_lag_and_gain.nd rfl rfl (sw_true rfl rfl rfl rfl) (own := [("value", 3)]) (pi_list (pv 0)) (blkOk_by (by kernel_rfl)) (fun _ _ _ _ _ => (pg_name (i := 3) sc_lag_and_gain.nd rfl (Or.inl rfl))) (fun _ _ _ _ _ => pts_nil) (fun _ _ _ _ _ => (pe_op op_shr (pv 3) (pv 2))))
      (pss_cons (ps_set (i := 5) sc_lag_and_gain.nd rfl (Or.inl rfl) (pe_fn (d_best_lag T) (hr.mono (by decide)) (pa_cons (pv 4) (pa_cons (pv 1) pa_nil))))
      (pss_cons (ps_set (i := 6) sc_lag_and_gain.nd rfl (Or.inl rfl) (pe_op op_shr (pe_op op_mul pe_int (pe_callB (call_max2 rfl) (by rfl) T.b_max boot_max (pa_cons pe_int (pa_cons (pe_fn (d_resemblance T) (hr.mono (by decide)) (pa_cons (pv 4) (pa_cons (pv 1) (pa_cons (pv 5) pa_nil)))) pa_nil)))) (pe_op op_sub (pe_cst T.c_HEADROOM_forecast) (pv 2))))
      (pss_cons (ps_set (i := 7) sc_lag_and_gain.nd rfl (Or.inl rfl) (pe_op op_mul pe_int (pe_callB (cr_sum rfl) (by rfl) T.b_sum boot_sum (pa_cons (pe_lc (own := [("value", 3)]) rfl sc_lag_and_gain.nd (pi_list (pe_fn (d_at_lag T) (hr.mono (by decide)) (pa_cons (pv 1) (pa_cons (pv 5) pa_nil)))) (blkOk_by (by kernel_rfl)) (fun _ _ _ _ _ => (pg_name (i := 3) sc_lag_and_gain.nd rfl (Or.inl rfl))) (fun _ _ _ _ _ => pts_nil) (fun _ _ _ _ _ => (pe_op op_mul (pe_op op_shr (pv 3) pe_int) (pe_op op_shr (pv 3) pe_int)))) pa_nil))))
      (pss_one (ps_ret (pe_tup (pa_cons (pv 5) (pa_cons (pe_fn (d_gain_code T) (hr.mono (by decide)) (pa_cons (pv 6) (pa_cons (pv 7) pa_nil))) pa_nil)))))))))), ?_⟩
  refine ⟨_, rfl, a, ns, 6, rfl, hl, ⟨⟨by omega, by omega, hw⟩, by decide, by decide⟩, fun H1 s1 => ?_⟩
  have e6 : (6 : Int).toNat = 6 := rfl
  have kn : ((Pv.kOf 6 (Ra26.peak ns) : Nat) : Int).toNat = Pv.kOf 6 (Ra26.peak ns) := Int.toNat_natCast _
  have k6 := Pv.kOf_le 6 (Ra26.peak ns)
  have kk := Pv.lagOf_eq ns ms
  generalize hkk : Pv.kOf 6 (Ra26.peak ns) = kq at *
  refine ⟨_, rfl, a, rfl, ⟨_, (hl.same s1).sq⟩, lcI (fun x => x / 2 ^ kq) (hl.same s1) (by omega) (fun i z H2 R hz s2 hR => ?_) fun D H2 hD s2 hL => ?_⟩
  · refine ⟨_, rfl, _, rfl, _, _, rfl, rfl, ?_, ?_⟩
    · show (0 : Int) ≤ ((Pv.kOf 6 (Ra26.peak ns) : Nat) : Int); omega
    · have := hR H2 (Same.refl _)
      show R (.int (z / 2 ^ ((Pv.kOf 6 (Ra26.peak ns) : Nat) : Int).toNat)) H2
      rw [hkk, kn]; exact this
  have s12 := s1.trans s2
  have lw : (ns.map fun x => x / 2 ^ kq).length = 40 := by rw [List.length_map]; exact h1
  have ww : Pv.Ws (ns.map fun x => x / 2 ^ kq) := fun z hz => by
    obtain ⟨x, hx, rfl⟩ := List.mem_map.mp hz
    exact shr_W _ (hw x hx)
  refine ⟨_, rfl, _, rfl, D, b, _, ms, rfl, hL, hm.same s12, ⟨lw, ww, h2⟩, fun H3 s3 => ?_⟩
  have s13 := s12.trans s3
  obtain ⟨l1, l2, _⟩ := Pv.bestTo_ok (ns.map fun x => x / 2 ^ kq) ms 81 (by decide)
  have bf := Pv.best_fit (ns.map fun x => x / 2 ^ kq) ms
  generalize hbb : Pv.bestTo (ns.map fun x => x / 2 ^ kq) ms 81 = bb at *
  refine ⟨_, rfl, _, rfl, _, rfl, D, b, _, ms, _, rfl, hL.same s3, hm.same s13, ⟨lw, ww, h2, by show (40 : Int) ≤ ((Pv.bestTo _ _ 81).2 : Nat); rw [hbb]; omega, by show ((Pv.bestTo _ _ 81).2 : Nat) ≤ (120 : Int); rw [hbb]; omega⟩, fun H4 s4 => ?_⟩
  have s14 := s13.trans s4
  refine ⟨_, _, rfl, _, _, rfl, rfl, .inl ⟨by decide, by decide⟩, _, rfl, _, _, rfl, rfl, _, _, rfl, rfl, ?_, ?_⟩
  · show (0 : Int) ≤ 6 - ((Pv.kOf 6 (Ra26.peak ns) : Nat) : Int); omega
  refine ⟨_, rfl, _, rfl, b, ms, _, rfl, hm.same s14, ⟨h2, by show (40 : Int) ≤ ((Pv.bestTo _ _ 81).2 : Nat); rw [hbb]; omega, by show ((Pv.bestTo _ _ 81).2 : Nat) ≤ (120 : Int); rw [hbb]; omega⟩, fun p H5 s5 hp hp5 => ?_⟩
  have s15 := s14.trans s5
  refine ⟨p, rfl, ⟨_, hp5.sq⟩, lcI (fun v => v / 8 * (v / 8)) hp5 (by rw [Pv.atLag_len h2 (by show 40 ≤ ((Pv.bestTo _ _ 81).2 : Int).toNat; rw [hbb]; omega) (by show ((Pv.bestTo _ _ 81).2 : Int).toNat ≤ 120; rw [hbb]; omega)]; decide) (fun i z H2 R hz s2 hR => ?_) fun D2 H6 hD2 s6 hL2 => ?_⟩
  · have wz := W_get (Pv.atLag_W hw2 _) hz
    refine ⟨_, rfl, _, _, rfl, rfl, (show (0 : Int) ≤ 3 by decide), _, rfl, _, _, rfl, rfl, (show (0 : Int) ≤ 3 by decide), _, _, rfl, rfl, ?_, hR _ (Same.refl _)⟩
    exact cmulW (shr_W 3 wz)
  have s16 := s15.trans s6
  refine ⟨D2, _, rfl, hL2.sq, _, _, rfl, rfl, .inl ⟨by decide, by decide⟩, ?_⟩
  have pe := Pv.power_eq h2 (lag := bb.2) l1 l2
  have pb := Pv.power_bd hw2 bb.2
  refine ⟨_, rfl, _, rfl, _, rfl, _, _, rfl, ?_, fun H7 s7 => ?_⟩
  · show 0 ≤ 2 * ((Pv.atLag ms ((Pv.bestTo _ _ 81).2 : Int).toNat).map fun v => v / 8 * (v / 8)).sum ∧ 2 * ((Pv.atLag ms ((Pv.bestTo _ _ 81).2 : Int).toNat).map fun v => v / 8 * (v / 8)).sum ≤ 1342177280
    rw [hbb, Int.toNat_natCast, pe]; exact pb
  refine ⟨by show 2 ≤ sizeLine; decide, fun q hq => k q _ ((s16.trans s7).trans (same_new hq)) ((s16.trans s7).free hq) ?_⟩
  rw [upd_same]
  have e1 : ((6 : Int) - ((Pv.kOf 6 (Ra26.peak ns) : Nat) : Int)).toNat = 6 - kq := by rw [hkk]; omega
  show some (HO.tup [V.int ((Pv.bestTo _ _ 81).2 : Nat), V.int ((Pv.gainOf (2 * (if Pv.goes _ _ ((Pv.bestTo _ _ 81).2 : Int).toNat > 0 then Pv.goes _ _ ((Pv.bestTo _ _ 81).2 : Int).toNat else 0) / 2 ^ ((6 : Int) - ((Pv.kOf 6 (Ra26.peak ns) : Nat) : Int)).toNat) (2 * ((Pv.atLag ms ((Pv.bestTo _ _ 81).2 : Int).toNat).map fun v => v / 8 * (v / 8)).sum) : Nat) : Int)]) = some (HO.tup [V.int ((Ra26.lagOf ns ms).1 : Nat), V.int ((Ra26.lagOf ns ms).2 : Nat)])
  rw [e1, hbb, Int.toNat_natCast, pe, bf, kk]
def spF (R : List Int → Int → Int → Prop) (f : List Int → Int → Int → List Int) : Sp := fun vs H Q _ => ∃ a ns i j, vs = [.ref a, .int i, .int j] ∧ LI H a ns ∧ R ns i j ∧ ∀ p H', Same H H' → H p = none → LI H' p (f ns i j) → Q (.ref p) H'
abbrev s_forecast : Stmt := (top 30)
theorem sc_forecast : FnScope ["past", "lag", "gain", "value"] ["past", "lag", "gain"] (defScope s_forecast) := ⟨rfl, rfl, rfl, by decide +kernel, rfl, by decide +kernel, by decide +kernel⟩
theorem d_forecast (T : Txt K mg C) : Df P w K mg base "forecast" ["past", "lag", "gain"] 3 (spF (fun ns i j => ns.length = 120 ∧ Pv.Ws ns ∧ 40 ≤ i ∧ i ≤ 120 ∧ 0 ≤ j ∧ j ≤ 3) fun ns i j => Pv.fore ns i.toNat j.toNat) := by
  refine .mk' T.f_forecast sc_forecast (fun _ _ _ _ _ _ us hl => match us, hl with | [_, _, _], _ => rfl) (fun vs H Q E h => by obtain ⟨_, _, _, _, rfl, _⟩ := h; rfl) fun f cdv A outer s H vs Q E hr h => ?_
  obtain ⟨a, ns, i, j, rfl, hl, ⟨h1, hw, i0, i1, j0, j1⟩, k⟩ := h
  refine ⟨_, (pss_one (ps_ret (pe_lc (own := [("value", 3)]) rfl sc_forecast.nd (pi_list (pe_fn (d_at_lag T) (hr.mono (by decide)) (pa_cons (pv 0) (pa_cons (pv 1) pa_nil)))) (blkOk_by (by kernel_rfl)) (fun _ _ _ _ _ => (pg_name (i := 3) sc_forecast.nd rfl (Or.inl rfl))) (fun _ _ _ _ _ => pts_nil) (fun _ _ _ _ _ => (pe_fn (d_rounded_product T) (hr.mono (by decide)) (pa_cons (pe_ix (ix_tupK K rfl) (pe_tupK K rfl T.t_GAINS) (pv 2) (fun _ _ => rfl)) (pa_cons (pv 3) pa_nil))))))), ?_⟩
  refine ⟨_, rfl, _, rfl, a, ns, i, rfl, hl, ⟨h1, i0, i1⟩, fun p H1 s1 hp hp1 => ?_⟩
  refine ⟨p, rfl, ⟨_, hp1.sq⟩, lcI (fun v => Ra26.mulR (Ra26.at_ Ra26.GAIN j.toNat) v) hp1 (by rw [Pv.atLag_len h1 (by omega) (by omega)]; decide) (fun n z H2 R hz s2 hR => ?_) fun D H2 hD s2 e => ?_⟩
  · intro g hg
    have hj : j = ((j.toNat : Nat) : Int) := by omega
    have hat : atI ([V.int 3277, V.int 11469, V.int 21299, V.int 32767] : List V) j = some (V.int (Ra26.at_ Ra26.GAIN j.toNat)) := by
      rw [hj]
      refine atI_nat ?_
      have : j.toNat < 4 := by omega
      match j.toNat, this with
      | 0, _ => rfl
      | 1, _ => rfl
      | 2, _ => rfl
      | 3, _ => rfl
    exact ⟨_, rfl, g, _, _, _, rfl, rfl, hg H2, hat, _, rfl, _, _, rfl, cmulW' (W_get (Pv.atLag_W hw _) hz), hR _ (Same.refl _)⟩
  · refine k D H2 (s1.trans s2) (s1.free hD) ?_
    rw [Pv.fore_eq h1 (by omega) (by omega)] at e
    exact e
end Px
namespace Px
open PySem PySem.Spec PyProof.Rows L2
local macro_rules | `(tactic| walk_at "rd") => `(tactic| repeat (first | refine ⟨_, rfl, ?_⟩ | refine ⟨_, _, rfl, rfl, ?_⟩ | refine ⟨_, _, rfl, ?_⟩ | refine ⟨rfl, ?_⟩ | refine ⟨trivial, ?_⟩ | refine ⟨(show (0 : Int) ≤ _ by decide), ?_⟩ | refine ⟨Or.inl ⟨by decide, by decide⟩, ?_⟩ | refine ⟨Or.inr ⟨by decide, by decide⟩, ?_⟩))
variable {P : Program} {w : World} {K : PySem.W.Frag} {mg : Str → Option Value} {base : Heap} {C : Ad}
theorem at_tab {ns : List Int} {i : Int} (h0 : 0 ≤ i) (h1 : i < (ns.length : Nat)) : atI (ns.map V.int) i = some (.int (Ra26.at_ ns i.toNat)) := by
  have e : i = ((i.toNat : Nat) : Int) := by omega
  rw [e]
  refine atI_nat ?_
  rw [List.getElem?_map, Pv.get_at (by omega), Int.toNat_natCast]
  rfl
theorem tyes {σ : L2.St} {H : Hp} {X Y : Hp → Prop} (h : X H) : tYes σ H fun b H3 => if b = true then X H3 else Y H3 := by
  unfold tYes
  dsimp only
  rw [if_pos rfl]
  exact h
abbrev s_bent : Stmt := (top 40)
theorem sc_bent : FnScope ["turn", "span"] ["turn"] (defScope s_bent) := ⟨rfl, rfl, rfl, by decide +kernel, rfl, by decide +kernel, by decide +kernel⟩
theorem d_bent (T : Txt K mg C) : Df P w K mg base "bent" ["turn"] 3 (sp1 Pv.W Ra26.area) := by
  refine .mk' T.f_bent sc_bent (fun _ _ _ _ _ _ us hl => match us, hl with | [_], _ => rfl) (fun vs H Q E h => sp1_len h) fun f cdv A outer s H vs Q E hr h => ?_
  obtain ⟨i, rfl, hw, k⟩ := h
  refine ⟨_, (pss_cons (ps_set (i := 1) sc_bent.nd rfl (Or.inl rfl) (pe_fn (d_size T) (hr.mono (by decide)) (pa_cons (pv 0) pa_nil)))
      (pss_cons (ps_if (pt_cmpR op_lt (pv 1) pe_int (nomark _)) (pss_one (ps_ret (pe_fn (d_with_sign_of T) (hr.mono (by decide)) (pa_cons (pv 0) (pa_cons (pe_op op_shr (pv 1) pe_int) pa_nil))))) pss_nil)
      (pss_cons (ps_if (pt_cmpR op_lt (pv 1) pe_int (nomark _)) (pss_one (ps_ret (pe_fn (d_with_sign_of T) (hr.mono (by decide)) (pa_cons (pv 0) (pa_cons (pe_op op_sub (pv 1) pe_int) pa_nil))))) pss_nil)
      (pss_one (ps_ret (pe_fn (d_with_sign_of T) (hr.mono (by decide)) (pa_cons (pv 0) (pa_cons (pe_op op_mul pe_int (pe_op op_sub (pv 1) pe_int)) pa_nil)))))))), ?_⟩
  walk_at "rd"
  refine ite2 (fun h => ?_) (fun h => ?_)
  · walk_at "rd"
    exact qint k (Pv.area_a hw (of_decide_eq_true h))
  · simp only [decide_eq_true_eq] at h
    walk_at "rd"
    refine ite2 (fun h2 => ?_) (fun h2 => ?_)
    · walk_at "rd"
      exact qint k (Pv.area_b hw h (of_decide_eq_true h2))
    · simp only [decide_eq_true_eq] at h2
      walk_at "rd"
      exact qint k (Pv.area_c hw h h2)
abbrev s_unbent : Stmt := (top 41)
theorem sc_unbent : FnScope ["value", "span"] ["value"] (defScope s_unbent) := ⟨rfl, rfl, rfl, by decide +kernel, rfl, by decide +kernel, by decide +kernel⟩
theorem d_unbent (T : Txt K mg C) : Df P w K mg base "unbent" ["value"] 3 (sp1 Pv.W Ra26.back) := by
  refine .mk' T.f_unbent sc_unbent (fun _ _ _ _ _ _ us hl => match us, hl with | [_], _ => rfl) (fun vs H Q E h => sp1_len h) fun f cdv A outer s H vs Q E hr h => ?_
  obtain ⟨i, rfl, hw, k⟩ := h
  refine ⟨_, (pss_cons (ps_set (i := 1) sc_unbent.nd rfl (Or.inl rfl) (pe_fn (d_size T) (hr.mono (by decide)) (pa_cons (pv 0) pa_nil)))
      (pss_cons (ps_if (pt_cmpR op_lt (pv 1) pe_int (nomark _)) (pss_one (ps_ret (pe_fn (d_with_sign_of T) (hr.mono (by decide)) (pa_cons (pv 0) (pa_cons (pe_op op_mul pe_int (pv 1)) pa_nil))))) pss_nil)
      (pss_cons (ps_if (pt_cmpR op_lt (pv 1) pe_int (nomark _)) (pss_one (ps_ret (pe_fn (d_with_sign_of T) (hr.mono (by decide)) (pa_cons (pv 0) (pa_cons (pe_op op_add (pv 1) pe_int) pa_nil))))) pss_nil)
      (pss_one (ps_ret (pe_fn (d_with_sign_of T) (hr.mono (by decide)) (pa_cons (pv 0) (pa_cons (pe_fn (d_plus T) (hr.mono (by decide)) (pa_cons (pe_op op_shr (pv 1) pe_int) (pa_cons pe_int pa_nil))) pa_nil)))))))), ?_⟩
  walk_at "rd"
  refine ite2 (fun h => ?_) (fun h => ?_)
  · walk_at "rd"
    exact qint k (Pv.back_a hw (of_decide_eq_true h))
  · simp only [decide_eq_true_eq] at h
    walk_at "rd"
    refine ite2 (fun h2 => ?_) (fun h2 => ?_)
    · walk_at "rd"
      exact qint k (Pv.back_b hw h (of_decide_eq_true h2))
    · simp only [decide_eq_true_eq] at h2
      walk_at "rd"
      exact qint k (Pv.back_c hw h h2)
abbrev s_code_of : Stmt := (top 42)
theorem sc_code_of : FnScope ["place", "value", "lowest", "scaled"] ["place", "value"] (defScope s_code_of) := ⟨rfl, rfl, rfl, by decide +kernel, rfl, by decide +kernel, by decide +kernel⟩
theorem d_code_of (T : Txt K mg C) : Df P w K mg base "code_of" ["place", "value"] 3 (sp2 (fun i j => (0 ≤ i ∧ i < 8) ∧ Pv.W j) fun i j => Ra26.coded i.toNat j) := by
  refine .mk' T.f_code_of sc_code_of (fun _ _ _ _ _ _ us hl => match us, hl with | [_, _], _ => rfl) (fun vs H Q E h => sp2_len h) fun f cdv A outer s H vs Q E hr h => ?_
  obtain ⟨i, j, rfl, ⟨⟨h0, h1⟩, hw⟩, k⟩ := h
  refine ⟨_, (pss_cons (ps_set (i := 2) sc_code_of.nd rfl (Or.inl rfl) (pe_ix (ix_tupK K rfl) (pe_tupK K rfl T.t_LOWEST_CODES) (pv 0) (fun _ _ => rfl)))
      (pss_cons (ps_set (i := 3) sc_code_of.nd rfl (Or.inl rfl) (pe_fn (d_plus T) (hr.mono (by decide)) (pa_cons (pe_fn (d_plus T) (hr.mono (by decide)) (pa_cons (pe_fn (d_product T) (hr.mono (by decide)) (pa_cons (pe_ix (ix_tupK K rfl) (pe_tupK K rfl T.t_SCALES) (pv 0) (fun _ _ => rfl)) (pa_cons (pv 1) pa_nil))) (pa_cons (pe_ix (ix_tupK K rfl) (pe_tupK K rfl T.t_OFFSETS) (pv 0) (fun _ _ => rfl)) pa_nil))) (pa_cons pe_int pa_nil))))
      (pss_one (ps_ret (pe_callB (call_min2 rfl) (by rfl) T.b_min boot_min (pa_cons (pe_callB (call_max2 rfl) (by rfl) T.b_max boot_max (pa_cons (pe_op op_sub (pe_op op_shr (pv 3) pe_int) (pv 2)) (pa_cons pe_int pa_nil))) (pa_cons (pe_op op_sub (pe_op op_mul (pe_un un_neg pe_int) (pv 2)) pe_int) pa_nil))))))), ?_⟩
  intro t1 g1
  refine ⟨_, rfl, t1, _, _, _, rfl, rfl, g1 H, at_tab (ns := Ra26.LOW) h0 h1, ?_⟩
  intro t2 g2
  refine ⟨_, rfl, t2, _, _, _, rfl, rfl, g2 H, at_tab (ns := Ra26.A) h0 h1, _, rfl, _, _, rfl, .inr ⟨by obtain ⟨a, b⟩ := hw; omega, by obtain ⟨a, b⟩ := hw; omega⟩, ?_⟩
  intro t3 g3
  refine ⟨_, rfl, t3, _, _, _, rfl, rfl, g3 H, at_tab (ns := Ra26.OFFSET) h0 h1, ?_⟩
  walk_at "rd"
  exact qint k (Pv.coded_py (by omega) j)
abbrev s_codes_of : Stmt := (top 43)
theorem sc_codes_of : FnScope ["turns", "place", "turn"] ["turns"] (defScope s_codes_of) := ⟨rfl, rfl, rfl, by decide +kernel, rfl, by decide +kernel, by decide +kernel⟩
theorem d_codes_of (T : Txt K mg C) : Df P w K mg base "codes_of" ["turns"] 4 (spLL (fun ns => ns.length = 8 ∧ Pv.Ws ns) fun ns => ns.mapIdx fun i y => Ra26.coded i (Ra26.area y)) := by
  refine .mk' T.f_codes_of sc_codes_of (fun _ _ _ _ _ _ us hl => match us, hl with | [_], _ => rfl) (fun vs H Q E h => spLL_len h) fun f cdv A outer s H vs Q E hr h => ?_
  obtain ⟨a, ns, rfl, hl, ⟨h1, hw⟩, k⟩ := h
  refine ⟨_, (pss_one (ps_ret (pe_lc (own := [("place", 1), ("turn", 2)]) rfl sc_codes_of.nd (pi_enum rfl T.b_enumerate (pa_cons (pv 0) pa_nil)) (blkOk_by (by kernel_rfl)) (fun _ _ _ _ _ => (pg_pair K 1 2 rfl rfl sc_codes_of.nd rfl rfl (Or.inl rfl) (Or.inl rfl) (.inr rfl) (.inr rfl))) (fun _ _ _ _ _ => pts_nil) (fun _ _ _ _ _ => (pe_fn (d_code_of T) (hr.mono (by decide)) (pa_cons (pv 1) (pa_cons (pe_fn (d_bent T) (hr.mono (by decide)) (pa_cons (pv 2) pa_nil)) pa_nil))))))), ?_⟩
  refine ⟨_, rfl, a, _, rfl, hl.sq, lcE (by decide) (fun i y => Ra26.coded i (Ra26.area y)) hl (by omega) (fun i z H2 R hz s2 hR => ?_) fun D H2 hD s2 e => k D H2 s2 hD e⟩
  have hi := (List.getElem?_eq_some_iff.mp hz).1
  have wz : Pv.W z := hw z (List.mem_of_getElem? hz)
  refine ⟨_, rfl, _, rfl, _, rfl, wz, _, _, rfl, ⟨⟨by omega, by omega⟩, Pv.area_W wz⟩, ?_⟩
  exact hR H2 (Same.refl _)
abbrev s_number_of : Stmt := (top 44)
theorem sc_number_of : FnScope ["place", "code", "raised", "half"] ["place", "code"] (defScope s_number_of) := ⟨rfl, rfl, rfl, by decide +kernel, rfl, by decide +kernel, by decide +kernel⟩
theorem d_number_of (T : Txt K mg C) : Df P w K mg base "number_of" ["place", "code"] 3 (sp2 (fun i j => (0 ≤ i ∧ i < 8) ∧ 0 ≤ j ∧ j ≤ -2 * Ra26.at_ Ra26.LOW i.toNat - 1) fun i j => Ra26.decoded i.toNat j) := by
  refine .mk' T.f_number_of sc_number_of (fun _ _ _ _ _ _ us hl => match us, hl with | [_, _], _ => rfl) (fun vs H Q E h => sp2_len h) fun f cdv A outer s H vs Q E hr h => ?_
  obtain ⟨i, j, rfl, ⟨⟨h0, h1⟩, j0, j1⟩, k⟩ := h
  refine ⟨_, (pss_cons (ps_set (i := 2) sc_number_of.nd rfl (Or.inl rfl) (pe_fn (d_minus T) (hr.mono (by decide)) (pa_cons (pe_op op_mul pe_int (pe_op op_add (pv 1) (pe_ix (ix_tupK K rfl) (pe_tupK K rfl T.t_LOWEST_CODES) (pv 0) (fun _ _ => rfl)))) (pa_cons (pe_op op_mul pe_int (pe_ix (ix_tupK K rfl) (pe_tupK K rfl T.t_OFFSETS) (pv 0) (fun _ _ => rfl))) pa_nil))))
      (pss_cons (ps_set (i := 3) sc_number_of.nd rfl (Or.inl rfl) (pe_fn (d_rounded_product T) (hr.mono (by decide)) (pa_cons (pe_ix (ix_tupK K rfl) (pe_tupK K rfl T.t_INVERSES) (pv 0) (fun _ _ => rfl)) (pa_cons (pv 2) pa_nil))))
      (pss_one (ps_ret (pe_fn (d_plus T) (hr.mono (by decide)) (pa_cons (pv 3) (pa_cons (pv 3) pa_nil))))))), ?_⟩
  refine ⟨_, rfl, ?_⟩
  intro t1 g1
  refine ⟨_, rfl, t1, _, _, _, rfl, rfl, g1 H, at_tab (ns := Ra26.LOW) h0 h1, _, _, rfl, rfl, _, _, rfl, rfl, .inl ⟨by decide, by decide⟩, ?_⟩
  intro t2 g2
  refine ⟨_, rfl, t2, _, _, _, rfl, rfl, g2 H, at_tab (ns := Ra26.OFFSET) h0 h1, _, _, rfl, rfl, .inl ⟨by decide, by decide⟩, _, _, rfl, trivial, ?_⟩
  intro t3 g3
  refine ⟨_, rfl, t3, _, _, _, rfl, rfl, g3 H, at_tab (ns := Ra26.INVERSE) h0 h1, _, rfl, _, _, rfl, .inr ?_, ?_⟩
  · obtain ⟨a, b⟩ := Pv.sub_W (1024 * (j + Ra26.at_ Ra26.LOW i.toNat)) (2 * Ra26.at_ Ra26.OFFSET i.toNat)
    exact ⟨by omega, by omega⟩
  walk_at "rd"
  exact qint k (Pv.decoded_py (by omega) j0 j1)
abbrev s_numbers_of : Stmt := (top 45)
theorem sc_numbers_of : FnScope ["codes", "place", "code"] ["codes"] (defScope s_numbers_of) := ⟨rfl, rfl, rfl, by decide +kernel, rfl, by decide +kernel, by decide +kernel⟩
theorem d_numbers_of (T : Txt K mg C) : Df P w K mg base "numbers_of" ["codes"] 4 (spLL Pv.CodesOk fun ns => ns.mapIdx fun i y => Ra26.decoded i y) := by
  refine .mk' T.f_numbers_of sc_numbers_of (fun _ _ _ _ _ _ us hl => match us, hl with | [_], _ => rfl) (fun vs H Q E h => spLL_len h) fun f cdv A outer s H vs Q E hr h => ?_
  obtain ⟨a, ns, rfl, hl, ⟨h1, hw⟩, k⟩ := h
  refine ⟨_, (pss_one (ps_ret (pe_lc (own := [("place", 1), ("code", 2)]) rfl sc_numbers_of.nd (pi_enum rfl T.b_enumerate (pa_cons (pv 0) pa_nil)) (blkOk_by (by kernel_rfl)) (fun _ _ _ _ _ => (pg_pair K 1 2 rfl rfl sc_numbers_of.nd rfl rfl (Or.inl rfl) (Or.inl rfl) (.inr rfl) (.inr rfl))) (fun _ _ _ _ _ => pts_nil) (fun _ _ _ _ _ => (pe_fn (d_number_of T) (hr.mono (by decide)) (pa_cons (pv 1) (pa_cons (pv 2) pa_nil))))))), ?_⟩
  refine ⟨_, rfl, a, _, rfl, hl.sq, lcE (by decide) (fun i y => Ra26.decoded i y) hl (by omega) (fun i z H2 R hz s2 hR => ?_) fun D H2 hD s2 e => k D H2 s2 hD e⟩
  have hi := (List.getElem?_eq_some_iff.mp hz).1
  have wz := hw i (by omega)
  rw [Pv.at_get hz] at wz
  refine ⟨_, rfl, _, rfl, _, _, rfl, ⟨⟨by omega, by omega⟩, wz.1, ?_⟩, ?_⟩
  · rw [Int.toNat_natCast]; exact wz.2
  · exact hR H2 (Same.refl _)
abbrev s_mostly : Stmt := (top 46)
theorem sc_mostly : FnScope ["main", "other"] ["main", "other"] (defScope s_mostly) := ⟨rfl, rfl, rfl, by decide +kernel, rfl, by decide +kernel, by decide +kernel⟩
theorem d_mostly (T : Txt K mg C) : Df P w K mg base "mostly" ["main", "other"] 3 (sp2 (fun _ _ => True) Pv.mostly) := by
  refine .mk' T.f_mostly sc_mostly (fun _ _ _ _ _ _ us hl => match us, hl with | [_, _], _ => rfl) (fun vs H Q E h => sp2_len h) fun f cdv A outer s H vs Q E hr h => ?_
  obtain ⟨i, j, rfl, _, k⟩ := h
  refine ⟨_, (pss_one (ps_ret (pe_fn (d_plus T) (hr.mono (by decide)) (pa_cons (pe_fn (d_plus T) (hr.mono (by decide)) (pa_cons (pe_op op_shr (pv 0) pe_int) (pa_cons (pe_op op_shr (pv 1) pe_int) pa_nil))) (pa_cons (pe_op op_shr (pv 0) pe_int) pa_nil))))), ?_⟩
  walk_at "rd"
  exact qint k rfl
/-- four lists of numbers -/
def Four (H : Hp) (p : Addr) (f : Nat → List Int) : Prop := ∃ a0 a1 a2 a3, H p = some (.lst [.ref a0, .ref a1, .ref a2, .ref a3]) ∧ LI H a0 (f 0) ∧ LI H a1 (f 1) ∧ LI H a2 (f 2) ∧ LI H a3 (f 3)
def spFour (R : List Int → List Int → Prop) (f : List Int → List Int → Nat → List Int) : Sp := fun vs H Q _ => ∃ a b ns ms, vs = [.ref a, .ref b] ∧ LI H a ns ∧ LI H b ms ∧ R ns ms ∧ ∀ p H', Same H H' → H p = none → Four H' p (f ns ms) → Q (.ref p) H'
abbrev s_between : Stmt := (top 47)
theorem sc_between : FnScope ["before", "now", "old", "new"] ["before", "now"] (defScope s_between) := ⟨rfl, rfl, rfl, by decide +kernel, rfl, by decide +kernel, by decide +kernel⟩
theorem d_between (T : Txt K mg C) : Df P w K mg base "between" ["before", "now"] 4 (spFour (fun ns ms => ns.length = 8 ∧ ms.length = 8) fun ns ms k => Ra26.between k ns ms) := by
  refine .mk' T.f_between sc_between (fun _ _ _ _ _ _ us hl => match us, hl with | [_, _], _ => rfl) (fun vs H Q E h => by obtain ⟨_, _, _, _, rfl, _⟩ := h; rfl) fun f cdv A outer s H vs Q E hr h => ?_
  obtain ⟨a, b, ns, ms, rfl, hl, hm, ⟨h1, h2⟩, k⟩ := h
  refine ⟨_, (pss_one (ps_ret (pe_lst (pa_cons (pe_lc (own := [("old", 2), ("new", 3)]) rfl sc_between.nd (pi_zipS false false T.b_zip (pa_cons (pv 0) (pa_cons (pv 1) pa_nil))) (blkOk_by (by kernel_rfl)) (fun _ _ _ _ _ => (pg_pair K 2 3 rfl rfl sc_between.nd rfl rfl (Or.inl rfl) (Or.inl rfl) (.inr rfl) (.inr rfl))) (fun _ _ _ _ _ => pts_nil) (fun _ _ _ _ _ => (pe_fn (d_mostly T) (hr.mono (by decide)) (pa_cons (pv 2) (pa_cons (pv 3) pa_nil))))) (pa_cons (pe_lc (own := [("old", 2), ("new", 3)]) rfl sc_between.nd (pi_zipS false false T.b_zip (pa_cons (pv 0) (pa_cons (pv 1) pa_nil))) (blkOk_by (by kernel_rfl)) (fun _ _ _ _ _ => (pg_pair K 2 3 rfl rfl sc_between.nd rfl rfl (Or.inl rfl) (Or.inl rfl) (.inr rfl) (.inr rfl))) (fun _ _ _ _ _ => pts_nil) (fun _ _ _ _ _ => (pe_fn (d_plus T) (hr.mono (by decide)) (pa_cons (pe_op op_shr (pv 2) pe_int) (pa_cons (pe_op op_shr (pv 3) pe_int) pa_nil))))) (pa_cons (pe_lc (own := [("old", 2), ("new", 3)]) rfl sc_between.nd (pi_zipS false false T.b_zip (pa_cons (pv 0) (pa_cons (pv 1) pa_nil))) (blkOk_by (by kernel_rfl)) (fun _ _ _ _ _ => (pg_pair K 2 3 rfl rfl sc_between.nd rfl rfl (Or.inl rfl) (Or.inl rfl) (.inr rfl) (.inr rfl))) (fun _ _ _ _ _ => pts_nil) (fun _ _ _ _ _ => (pe_fn (d_mostly T) (hr.mono (by decide)) (pa_cons (pv 3) (pa_cons (pv 2) pa_nil))))) (pa_cons (pe_callTy call_list_of (by rfl) T.b_list PyProof.Rows.boot_list (pa_cons (pv 1) pa_nil)) pa_nil))))))), ?_⟩
  refine ⟨_, rfl, _, rfl, a, b, _, _, rfl, hl.sq, hm.sq, lcZ (by decide) (fun old new => Pv.mostly old new) (fun H s => (hl.same s).sq) (fun H s => (hm.same s).sq) (by omega) (fun i z y H2 R hz hy s2 hR => ?_) fun D0 H1 hD0 s1 e0 => ?_⟩
  · exact ⟨_, rfl, _, rfl, _, _, rfl, trivial, hR _ (Same.refl _)⟩
  refine ⟨_, rfl, _, rfl, a, b, _, _, rfl, (hl.same s1).sq, (hm.same s1).sq, lcZ (by decide) (fun old new => Ra26.add (old / 2) (new / 2)) (fun H s => (hl.same (s1.trans s)).sq) (fun H s => (hm.same (s1.trans s)).sq) (by omega) (fun i z y H2 R hz hy s2 hR => ?_) fun D1 H2 hD1 s2 e1 => ?_⟩
  · walk_at "rd"
    exact hR _ (Same.refl _)
  have s02 := s1.trans s2
  refine ⟨_, rfl, _, rfl, a, b, _, _, rfl, (hl.same s02).sq, (hm.same s02).sq, lcZ (by decide) (fun old new => Pv.mostly new old) (fun H s => (hl.same (s02.trans s)).sq) (fun H s => (hm.same (s02.trans s)).sq) (by omega) (fun i z y H2 R hz hy s2 hR => ?_) fun D2 H3 hD2 s3 e2 => ?_⟩
  · exact ⟨_, rfl, _, rfl, _, _, rfl, trivial, hR _ (Same.refl _)⟩
  have s03 := s02.trans s3
  refine ⟨_, rfl, b, _, rfl, .inl (hm.same s03).sq, fun D3 hD3 => ?_⟩
  have s4 : Same H3 (upd H3 D3 (.lst (ms.map V.int))) := same_new hD3
  refine ⟨by show 4 ≤ sizeLine; decide, fun p hp => ?_⟩
  have s5 := same_new (o := .lst [.ref D0, .ref D1, .ref D2, .ref D3]) hp
  refine k p _ ((s03.trans s4).trans s5) ((s03.trans s4).free hp) ⟨D0, D1, D2, D3, upd_same, ?_, ?_, ?_, ?_⟩
  · show LI _ _ (Ra26.between 0 ns ms)
    rw [Pv.between0 h1 h2]; exact e0.same (((s2.trans s3).trans s4).trans s5)
  · show LI _ _ (Ra26.between 1 ns ms)
    rw [Pv.between1 h1 h2]; exact e1.same ((s3.trans s4).trans s5)
  · show LI _ _ (Ra26.between 2 ns ms)
    rw [Pv.between2 h1 h2]; exact e2.same (s4.trans s5)
  · show LI _ _ (Ra26.between 3 ns ms)
    rw [Pv.between3 h2]; exact LI.same (show LI _ D3 ms from upd_same) s5
abbrev s_factors_of : Stmt := (top 48)
theorem sc_factors_of : FnScope ["spectrum", "value"] ["spectrum"] (defScope s_factors_of) := ⟨rfl, rfl, rfl, by decide +kernel, rfl, by decide +kernel, by decide +kernel⟩
theorem d_factors_of (T : Txt K mg C) : Df P w K mg base "factors_of" ["spectrum"] 4 (spLL (fun ns => ns.length ≤ 1000 ∧ Pv.Ws ns) fun ns => ns.map Ra26.back) := by
  refine .mk' T.f_factors_of sc_factors_of (fun _ _ _ _ _ _ us hl => match us, hl with | [_], _ => rfl) (fun vs H Q E h => spLL_len h) fun f cdv A outer s H vs Q E hr h => ?_
  obtain ⟨a, ns, rfl, hl, ⟨h1, hw⟩, k⟩ := h
  refine ⟨_, (pss_one (ps_ret (pe_lc (own := [("value", 1)]) rfl sc_factors_of.nd (pi_list (pv 0)) (blkOk_by (by kernel_rfl)) (fun _ _ _ _ _ => (pg_name (i := 1) sc_factors_of.nd rfl (Or.inl rfl))) (fun _ _ _ _ _ => pts_nil) (fun _ _ _ _ _ => (pe_fn (d_unbent T) (hr.mono (by decide)) (pa_cons (pv 1) pa_nil)))))), ?_⟩
  refine ⟨_, rfl, a, rfl, ⟨_, hl.sq⟩, lcI Ra26.back hl (by omega) (fun i z H2 R hz s2 hR => ?_) fun D H2 hD s2 e => k D H2 s2 hD e⟩
  exact ⟨_, rfl, _, rfl, hw z (List.mem_of_getElem? hz), hR _ (Same.refl _)⟩
abbrev s_filters : Stmt := (top 49)
theorem sc_filters : FnScope ["before", "now", "spectrum"] ["before", "now"] (defScope s_filters) := ⟨rfl, rfl, rfl, by decide +kernel, rfl, by decide +kernel, by decide +kernel⟩
theorem d_filters (T : Txt K mg C) : Df P w K mg base "filters" ["before", "now"] 5 (spFour (fun ns ms => (ns.length = 8 ∧ ms.length = 8) ∧ Pv.Ws ms) fun ns ms k => Pv.facs ns ms k) := by
  refine .mk' T.f_filters sc_filters (fun _ _ _ _ _ _ us hl => match us, hl with | [_, _], _ => rfl) (fun vs H Q E h => by obtain ⟨_, _, _, _, rfl, _⟩ := h; rfl) fun f cdv A outer s H vs Q E hr h => ?_
  obtain ⟨a, b, ns, ms, rfl, hl, hm, ⟨h12, hw⟩, k⟩ := h
  refine ⟨_, (pss_one (ps_ret (pe_lc (own := [("spectrum", 2)]) rfl sc_filters.nd (pi_list (pe_fn (d_between T) (hr.mono (by decide)) (pa_cons (pv 0) (pa_cons (pv 1) pa_nil)))) (blkOk_by (by kernel_rfl)) (fun _ _ _ _ _ => (pg_name (i := 2) sc_filters.nd rfl (Or.inl rfl))) (fun _ _ _ _ _ => pts_nil) (fun _ _ _ _ _ => (pe_fn (d_factors_of T) (hr.mono (by decide)) (pa_cons (pv 2) pa_nil)))))), ?_⟩
  refine ⟨_, rfl, _, rfl, a, b, ns, ms, rfl, hl, hm, h12, fun p H1 s1 hp ⟨a0, a1, a2, a3, ep, e0, e1, e2, e3⟩ => ?_⟩
  refine ⟨p, rfl, ⟨_, SqL.of ep⟩, fun D hD => ?_⟩
  have li : ∀ (i : Nat) (x : V), ([.ref a0, .ref a1, .ref a2, .ref a3] : List V)[i]? = some x → ∃ q, x = .ref q ∧ LI H1 q (Ra26.between i ns ms) := fun i x h => by
    match i, h with
    | 0, h => cases h; exact ⟨_, rfl, e0⟩
    | 1, h => cases h; exact ⟨_, rfl, e1⟩
    | 2, h => cases h; exact ⟨_, rfl, e2⟩
    | 3, h => cases h; exact ⟨_, rfl, e3⟩
  refine lc_list (xs := [.ref a0, .ref a1, .ref a2, .ref a3]) (fun i H2 => Same H1 H2 ∧ ∃ bs : List Addr, bs.length = i ∧ H2 D = some (.lst (bs.map V.ref)) ∧ ∀ (j : Nat) q, bs[j]? = some q → LI H2 q (Pv.facs ns ms j)) ⟨same_new hD, [], rfl, upd_same, fun j q h => by simp at h⟩ (fun i H2 _ q => SqL.of (q.1 _ _ ep)) ?_ ?_
  · rintro i x H2 hx ⟨s2, bs, bl, hd, hb⟩
    obtain ⟨q, rfl, hq⟩ := li i x hx
    refine ⟨rfl, ?_⟩
    refine tyes ?_
    refine ⟨_, rfl, q, _, rfl, hq.same s2, ⟨by rw [Pv.between_len]; decide, Pv.between_W i hw⟩, fun r H3 s3 hr3 hr => ?_⟩
    refine ⟨_, s3 _ _ hd, by rw [List.length_map, bl]; exact small_line (by have := (List.getElem?_eq_some_iff.mp hx).1; simp at this; omega), fun b o e => ?_, bs ++ [r], by rw [List.length_append, bl]; rfl, by rw [upd_same, List.map_append]; rfl, fun j q' hj => ?_⟩
    · rw [upd_ne (ne_of_none e hD)]; exact s3 _ _ (s2 _ _ e)
    · by_cases hji : j < bs.length
      · rw [List.getElem?_append_left hji] at hj
        have h3 := hb j q' hj
        have nD : q' ≠ D := by
          intro z
          have h4 : H2 q' = _ := h3
          rw [z, hd] at h4
          have h5 := congrArg (fun o => match o with | some (HO.lst l) => l.length | _ => 0) h4
          injection h4 with h4; injection h4 with h4
          cases hbs : bs with
          | nil => rw [hbs] at hji; simp at hji
          | cons c cs =>
            rw [hbs] at h4
            cases hf : Pv.facs ns ms j with
            | nil => rw [hf] at h4; simp at h4
            | cons z0 zs => rw [hf] at h4; simp at h4
        show upd H3 D _ q' = _
        rw [upd_ne nD]; exact s3 _ _ h3
      · have : j = bs.length := by
          have := (List.getElem?_eq_some_iff.mp hj).1
          rw [List.length_append] at this; simp at this; omega
        subst this
        rw [List.getElem?_append_right (Nat.le_refl _)] at hj
        simp at hj
        subst hj
        have nD : r ≠ D := fun z => by rw [z, hd] at hr3; cases hr3
        show upd H3 D _ r = _
        rw [upd_ne nD, bl]; exact hr
  · rintro H2 ⟨s2, bs, bl, hd, hb⟩
    have bl : bs.length = 4 := bl
    obtain ⟨b0, b1, b2, b3, rfl⟩ : ∃ b0 b1 b2 b3, bs = [b0, b1, b2, b3] := by
      match bs, bl with
      | [b0, b1, b2, b3], _ => exact ⟨_, _, _, _, rfl⟩
    exact k D H2 (s1.trans s2) (s1.free hD) ⟨b0, b1, b2, b3, hd, hb 0 _ rfl, hb 1 _ rfl, hb 2 _ rfl, hb 3 _ rfl⟩
end Px
namespace Px
open PySem PySem.Spec PyProof.Rows L2
local macro_rules | `(tactic| walk_at "rd") => `(tactic| repeat (first | refine ⟨_, rfl, ?_⟩ | refine ⟨_, _, rfl, rfl, ?_⟩ | refine ⟨_, _, rfl, ?_⟩ | refine ⟨rfl, ?_⟩ | refine ⟨trivial, ?_⟩ | refine ⟨(show (0 : Int) ≤ _ by decide), ?_⟩ | refine ⟨Or.inl ⟨by decide, by decide⟩, ?_⟩ | refine ⟨Or.inr ⟨by decide, by decide⟩, ?_⟩))
variable {P : Program} {w : World} {K : PySem.W.Frag} {mg : Str → Option Value} {base : Heap} {C : Ad}
theorem rep_at {H : Hp} {l : Addr} {k : Int} {Q : VK} (hl : H l = none) (h0 : 0 ≤ k) (h1 : k ≤ 100000) (h : ∀ p H', Same H H' → H p = none → LI H' p (List.replicate k.toNat 0) → Q (.ref p) H') :
    rRep (.ref l) (.int k) (upd H l (.lst [V.int 0])) Q := by
  refine ⟨l, k, [.int 0], rfl, rfl, upd_same, by omega, by omega, ?_, fun p hp => h p _ ((same_new hl).trans (same_new hp)) ((same_new hl).free hp) ?_⟩
  · show 1 * k.toNat ≤ sizeLine
    have := small_line (n := k.toNat) (by omega)
    omega
  · refine li_new' ?_
    generalize k.toNat = n
    induction n with
    | zero => rfl
    | succ n ih => rw [List.replicate_succ, List.flatten_cons, ih]; rfl
theorem cat_at {H : Hp} {l b : Addr} {xs zs : List Int} {Q : VK} (h1 : LI H l xs) (h2 : LI H b zs) (hz : xs.length + zs.length ≤ 100000) (h : ∀ p H', Same H H' → H p = none → LI H' p (xs ++ zs) → Q (.ref p) H') : rCat (.ref l) (.ref b) H Q := by
  refine ⟨l, b, _, _, rfl, rfl, h1, h2, ?_, fun p hp => h p _ (same_new hp) hp (li_new' (by rw [List.map_append]))⟩
  rw [List.length_map, List.length_map]
  exact Nat.le_of_lt (small_line hz)
abbrev s_weighed_one : Stmt := (top 73)
theorem sc_weighed_one : FnScope ["window", "value", "weight", "total"] ["window"] (defScope s_weighed_one) := ⟨rfl, rfl, rfl, by decide +kernel, rfl, by decide +kernel, by decide +kernel⟩
theorem d_weighed_one (T : Txt K mg C) : Df P w K mg base "weighed_one" ["window"] 2 (spLI (fun ns => ns.length ≤ 1000 ∧ Pv.Ws ns) Pv.wOne) := by
  refine .mk' T.f_weighed_one sc_weighed_one (fun _ _ _ _ _ _ us hl => match us, hl with | [_], _ => rfl) (fun vs H Q E h => spLI_len h) fun f cdv A outer s H vs Q E hr h => ?_
  obtain ⟨a, ns, rfl, hl, ⟨h1, hw⟩, k⟩ := h
  refine ⟨_, (pss_cons (ps_set (i := 3) sc_weighed_one.nd rfl (Or.inl rfl) (pe_callB (cr_sum rfl) (by rfl) T.b_sum boot_sum (pa_cons (pe_lc (own := [("value", 1), ("weight", 2)]) rfl sc_weighed_one.nd (pi_zipS false true T.b_zip (pa_cons (pv 0) (pa_cons (pe_tupK K rfl T.t_WEIGHTS) pa_nil))) (blkOk_by (by kernel_rfl)) (fun _ _ _ _ _ => (pg_pair K 1 2 rfl rfl sc_weighed_one.nd rfl rfl (Or.inl rfl) (Or.inl rfl) (.inr rfl) (.inr rfl))) (fun _ _ _ _ _ => pts_nil) (fun _ _ _ _ _ => (pe_op op_mul (pv 1) (pv 2)))) pa_nil)))
      (pss_one (ps_ret (pe_fn (d_stopped T) (hr.mono (by decide)) (pa_cons (pe_op op_shr (pe_op op_add pe_int (pv 3)) pe_int) pa_nil))))), ?_⟩
  refine ⟨_, rfl, fun t ht => ?_⟩
  refine ⟨a, t, _, _, rfl, hl.sq, ht H, lcZ (ms := Ra26.TAPS) (by decide) (fun x y => x * y) (fun H s => (hl.same s).sq) (fun H s => ht H) (by omega) (fun i z y H2 R hz hy s2 hR => ?_) fun D H1 hD s1 e => ?_⟩
  · exact ⟨_, rfl, _, rfl, _, _, rfl, rfl, cmulW (W_get hw hz), hR _ (Same.refl _)⟩
  · refine ⟨D, _, rfl, e.sq, ?_⟩
    walk_at "rd"
    exact qint (k H1 s1) rfl
theorem pad_W {e : List Int} (h : Pv.Ws e) : Pv.Ws (Pv.pad e) := Pv.Ws_append (Pv.Ws_append (Pv.Ws_replicate _) h) (Pv.Ws_replicate _)
abbrev s_weighed : Stmt := (top 72)
theorem sc_weighed : FnScope ["rest", "padded", "place"] ["rest"] (defScope s_weighed) := ⟨rfl, rfl, rfl, by decide +kernel, rfl, by decide +kernel, by decide +kernel⟩
theorem d_weighed (T : Txt K mg C) : Df P w K mg base "weighed" ["rest"] 3 (spLL (fun ns => ns.length = 40 ∧ Pv.Ws ns) Ra26.weighted) := by
  refine .mk' T.f_weighed sc_weighed (fun _ _ _ _ _ _ us hl => match us, hl with | [_], _ => rfl) (fun vs H Q E h => spLL_len h) fun f cdv A outer s H vs Q E hr h => ?_
  obtain ⟨a, ns, rfl, hl, ⟨h1, hw⟩, k⟩ := h
  refine ⟨_, (pss_cons (ps_set (i := 1) sc_weighed.nd rfl (Or.inr rfl) (pe_op op_cat (pe_op op_cat (pe_op op_rep (pe_lst (pa_cons pe_int pa_nil)) pe_int) (pv 0)) (pe_op op_rep (pe_lst (pa_cons pe_int pa_nil)) pe_int)))
      (pss_one (ps_ret (pe_lc (own := [("place", 2)]) rfl sc_weighed.nd (pi_range1 rfl T.b_range (pa_cons (pe_cst T.c_QUARTER) pa_nil)) (blkOk_by (by kernel_rfl)) (fun _ _ _ _ _ => (pg_name (i := 2) sc_weighed.nd rfl (Or.inl rfl))) (fun _ _ _ _ _ => pts_nil) (fun _ _ _ _ _ => (pe_fn (d_weighed_one T) (hr.mono (by decide)) (pa_cons (pe_slice (sl_listK K rfl) (pv 1) (po_some (pv 2)) (po_some (pe_op op_add (pv 2) (pe_callB (len_seqK K rfl) (by rfl) T.b_len PySem.boot_len (pa_cons (pe_tupK K rfl T.t_WEIGHTS) pa_nil))))) pa_nil))))))), ?_⟩
  refine ⟨by show 1 ≤ sizeLine; decide, fun l hl0 => ?_⟩
  dsimp only [tC]
  refine rep_at hl0 (by decide) (by decide) fun p H1 s1 hp e1 => ⟨_, rfl, ?_⟩
  refine cat_at e1 (hl.same s1) (by rw [List.length_replicate]; show 5 + _ ≤ _; omega) fun p2 H2 s2 hp2 e2 => ?_
  refine ⟨by show 1 ≤ sizeLine; decide, fun l2 hl2 => ?_⟩
  dsimp only [tC]
  refine rep_at hl2 (by decide) (by decide) fun p3 H3 s3 hp3 e3 => ?_
  refine cat_at (e2.same s3) e3 (by rw [List.length_append, List.length_replicate]; show 5 + _ + 5 ≤ _; omega) fun p4 H4 s4 hp4 e4 => ?_
  have e4 : LI H4 p4 (Pv.pad ns) := e4
  have s04 := ((s1.trans s2).trans s3).trans s4
  refine ⟨40, rfl, by decide, by decide, lcR (n := 40) (fun i => Pv.wOne (((Pv.pad ns).drop i).take 11)) (by decide) (fun i H5 R hi s5 hR => ?_) fun D H5 hD s5 e5 => ?_⟩
  · refine ⟨_, rfl, _, rfl, _, rfl, _, rfl, fun t ht => ?_⟩
    refine ⟨t, _, rfl, .inr (ht H5), _, _, rfl, rfl, _, rfl, p4, _, rfl, (e4.same s5).sq, fun q hq => ?_⟩
    have ei : (0 : Int) + (i : Nat) = ((i : Nat) : Int) := by omega
    have ej : (0 : Int) + (i : Nat) + ((([.int (-134), .int (-374), .int 0, .int 2054, .int 5741, .int 8192, .int 5741, .int 2054, .int 0, .int (-374), .int (-134)] : List V).length : Nat) : Int) = ((i + 11 : Nat) : Int) := by show (0 : Int) + (i : Nat) + 11 = _; omega
    have ec : cutV ((Pv.pad ns).map V.int) (some ((0 : Int) + (i : Nat))) (some ((0 : Int) + (i : Nat) + ((([.int (-134), .int (-374), .int 0, .int 2054, .int 5741, .int 8192, .int 5741, .int 2054, .int 0, .int (-374), .int (-134)] : List V).length : Nat) : Int))) = (((Pv.pad ns).drop i).take 11).map V.int := by
      rw [ej, ei, cutI]
      congr 2; omega
    refine ⟨q, _, rfl, li_new' ec, ⟨?_, Pv.Ws_take _ (Pv.Ws_drop _ (pad_W hw))⟩, fun H6 s6 => hR H6 ((same_new hq).trans s6)⟩
    rw [List.length_take]; omega
  · refine k D H5 (s04.trans s5) (s04.free hD) ?_
    rw [Pv.weighted_eq h1] at e5
    exact e5
theorem pick_grid {ns : List Int} (h : ns.length = 40) {g : Int} (g0 : 0 ≤ g) (g1 : g ≤ 3) : pickNums ns (some g) (some (g + 3 * 13)) (some 3) = Pv.onGrid ns g.toNat := by
  unfold pickNums
  rw [h]
  have get : ∀ k, k < 40 → ns[k]? = some (Ra26.at_ ns k) := fun k hk => Pv.get_at (by omega)
  have c : g = 0 ∨ g = 1 ∨ g = 2 ∨ g = 3 := by omega
  rcases c with rfl | rfl | rfl | rfl
  · have e : sliceRange (sliceBounds (some 0) (some (0 + 3 * 13)) (some 3) 40).1 (sliceBounds (some 0) (some (0 + 3 * 13)) (some 3) 40).2.1 (sliceBounds (some 0) (some (0 + 3 * 13)) (some 3) 40).2.2 = [0, 3, 6, 9, 12, 15, 18, 21, 24, 27, 30, 33, 36] := by decide +kernel
    rw [e]
    simp only [List.filterMap_cons, List.filterMap_nil, get 0 (by decide), get 3 (by decide), get 6 (by decide), get 9 (by decide), get 12 (by decide), get 15 (by decide), get 18 (by decide), get 21 (by decide), get 24 (by decide), get 27 (by decide), get 30 (by decide), get 33 (by decide), get 36 (by decide)]
    rfl
  · have e : sliceRange (sliceBounds (some 1) (some (1 + 3 * 13)) (some 3) 40).1 (sliceBounds (some 1) (some (1 + 3 * 13)) (some 3) 40).2.1 (sliceBounds (some 1) (some (1 + 3 * 13)) (some 3) 40).2.2 = [1, 4, 7, 10, 13, 16, 19, 22, 25, 28, 31, 34, 37] := by decide +kernel
    rw [e]
    simp only [List.filterMap_cons, List.filterMap_nil, get 1 (by decide), get 4 (by decide), get 7 (by decide), get 10 (by decide), get 13 (by decide), get 16 (by decide), get 19 (by decide), get 22 (by decide), get 25 (by decide), get 28 (by decide), get 31 (by decide), get 34 (by decide), get 37 (by decide)]
    rfl
  · have e : sliceRange (sliceBounds (some 2) (some (2 + 3 * 13)) (some 3) 40).1 (sliceBounds (some 2) (some (2 + 3 * 13)) (some 3) 40).2.1 (sliceBounds (some 2) (some (2 + 3 * 13)) (some 3) 40).2.2 = [2, 5, 8, 11, 14, 17, 20, 23, 26, 29, 32, 35, 38] := by decide +kernel
    rw [e]
    simp only [List.filterMap_cons, List.filterMap_nil, get 2 (by decide), get 5 (by decide), get 8 (by decide), get 11 (by decide), get 14 (by decide), get 17 (by decide), get 20 (by decide), get 23 (by decide), get 26 (by decide), get 29 (by decide), get 32 (by decide), get 35 (by decide), get 38 (by decide)]
    rfl
  · have e : sliceRange (sliceBounds (some 3) (some (3 + 3 * 13)) (some 3) 40).1 (sliceBounds (some 3) (some (3 + 3 * 13)) (some 3) 40).2.1 (sliceBounds (some 3) (some (3 + 3 * 13)) (some 3) 40).2.2 = [3, 6, 9, 12, 15, 18, 21, 24, 27, 30, 33, 36, 39] := by decide +kernel
    rw [e]
    simp only [List.filterMap_cons, List.filterMap_nil, get 3 (by decide), get 6 (by decide), get 9 (by decide), get 12 (by decide), get 15 (by decide), get 18 (by decide), get 21 (by decide), get 24 (by decide), get 27 (by decide), get 30 (by decide), get 33 (by decide), get 36 (by decide), get 39 (by decide)]
    rfl
abbrev s_on_grid : Stmt := (top 74)
theorem sc_on_grid : FnScope ["values", "grid"] ["values", "grid"] (defScope s_on_grid) := ⟨rfl, rfl, rfl, by decide +kernel, rfl, by decide +kernel, by decide +kernel⟩
theorem d_on_grid (T : Txt K mg C) : Df P w K mg base "on_grid" ["values", "grid"] 1 (spLiL (fun ns i => ns.length = 40 ∧ 0 ≤ i ∧ i ≤ 3) fun ns i => Pv.onGrid ns i.toNat) := by
  refine .mk' T.f_on_grid sc_on_grid (fun _ _ _ _ _ _ us hl => match us, hl with | [_, _], _ => rfl) (fun vs H Q E h => spLiL_len h) fun f cdv A outer s H vs Q E hr h => ?_
  obtain ⟨a, ns, i, rfl, hl, ⟨h1, i0, i1⟩, k⟩ := h
  refine ⟨_, (pss_one (ps_ret (pe_sliceS (pv 0) (po_some (pv 1)) (po_some (pe_op op_add (pv 1) (pe_op op_mul (pe_cst T.c_SPACING) (pe_cst T.c_PULSES)))) (po_some (pe_cst T.c_SPACING))))), ?_⟩
  walk_at "rd"
  refine ⟨a, ns, rfl, hl.sq, by decide, fun p hp => k p _ (same_new hp) hp (li_new' ?_)⟩
  rw [pick_grid h1 i0 i1]
abbrev s_energy : Stmt := (top 75)
theorem sc_energy : FnScope ["values", "value"] ["values"] (defScope s_energy) := ⟨rfl, rfl, rfl, by decide +kernel, rfl, by decide +kernel, by decide +kernel⟩
theorem d_energy (T : Txt K mg C) : Df P w K mg base "energy" ["values"] 1 (spLI (fun ns => ns.length ≤ 1000 ∧ Pv.Ws ns) Pv.energy) := by
  refine .mk' T.f_energy sc_energy (fun _ _ _ _ _ _ us hl => match us, hl with | [_], _ => rfl) (fun vs H Q E h => spLI_len h) fun f cdv A outer s H vs Q E hr h => ?_
  obtain ⟨a, ns, rfl, hl, ⟨h1, hw⟩, k⟩ := h
  refine ⟨_, (pss_one (ps_ret (pe_callB (cr_sum rfl) (by rfl) T.b_sum boot_sum (pa_cons (pe_lc (own := [("value", 1)]) rfl sc_energy.nd (pi_list (pv 0)) (blkOk_by (by kernel_rfl)) (fun _ _ _ _ _ => (pg_name (i := 1) sc_energy.nd rfl (Or.inl rfl))) (fun _ _ _ _ _ => pts_nil) (fun _ _ _ _ _ => (pe_op op_mul (pe_op op_shr (pv 1) pe_int) (pe_op op_shr (pv 1) pe_int)))) pa_nil)))), ?_⟩
  refine ⟨_, rfl, a, rfl, ⟨_, hl.sq⟩, lcI (fun x => x / 4 * (x / 4)) hl (by omega) (fun i z H2 R hz s2 hR => ?_) fun D H1 hD s1 e => ?_⟩
  · refine ⟨_, rfl, _, _, rfl, rfl, (show (0 : Int) ≤ 2 by decide), _, rfl, _, _, rfl, rfl, (show (0 : Int) ≤ 2 by decide), _, _, rfl, rfl, cmulW (shr_W 2 (W_get hw hz)), hR _ (Same.refl _)⟩
  · exact ⟨D, _, rfl, e.sq, k H1 s1⟩
abbrev s_best_grid : Stmt := (top 76)
theorem sc_best_grid : FnScope ["values", "grid", "energies"] ["values"] (defScope s_best_grid) := ⟨rfl, rfl, rfl, by decide +kernel, rfl, by decide +kernel, by decide +kernel⟩
theorem d_best_grid (T : Txt K mg C) : Df P w K mg base "best_grid" ["values"] 2 (spLI (fun ns => ns.length = 40 ∧ Pv.Ws ns) fun ns => (Ra26.gridOf ns : Nat)) := by
  refine .mk' T.f_best_grid sc_best_grid (fun _ _ _ _ _ _ us hl => match us, hl with | [_], _ => rfl) (fun vs H Q E h => spLI_len h) fun f cdv A outer s H vs Q E hr h => ?_
  obtain ⟨a, ns, rfl, hl, ⟨h1, hw⟩, k⟩ := h
  refine ⟨_, (pss_cons (ps_setLc (i := 2) rfl sc_best_grid.nd rfl rfl (sw_true rfl rfl rfl rfl) (own := [("grid", 1)]) (pi_range1 rfl T.b_range (pa_cons (pe_cst T.c_GRIDS) pa_nil)) (blkOk_by (by kernel_rfl)) (fun _ _ _ _ _ => (pg_name (i := 1) sc_best_grid.nd rfl (Or.inl rfl))) (fun _ _ _ _ _ => pts_nil) (fun _ _ _ _ _ => (pe_fn (d_energy T) (hr.mono (by decide)) (pa_cons (pe_fn (d_on_grid T) (hr.mono (by decide)) (pa_cons (pv 0) (pa_cons (pv 1) pa_nil))) pa_nil))))
      (pss_one (ps_ret (pe_bm PySem.F.plainAttrs_list PySem.F.slot_list_index PySem.F.type_list_index mt_index (pv 2) (pa_cons (pe_callB (cr_max rfl) (by rfl) T.b_max boot_max (pa_cons (pv 2) pa_nil)) pa_nil))))), ?_⟩
  refine ⟨4, rfl, by decide, by decide, lcR (n := 4) (fun i => Pv.en ns i) (by decide) (fun i H2 R hi s2 hR => ?_) fun D H1 hD s1 e => ?_⟩
  · refine ⟨_, rfl, _, rfl, a, ns, _, rfl, hl.same s2, ⟨h1, by omega, by omega⟩, fun p H3 s3 hp hp3 => ?_⟩
    have ei : ((0 : Int) + (i : Nat)).toNat = i := by omega
    have hp3 : LI H3 p (Pv.onGrid ns ((0 : Int) + (i : Nat)).toNat) := hp3
    rw [ei] at hp3
    refine ⟨p, _, rfl, hp3, ⟨by rw [Pv.onGrid_len]; decide, Pv.onGrid_W hw i⟩, fun H4 s4 => ?_⟩
    rw [Pv.energy_eq]
    exact hR H4 (s3.trans s4)
  · have e : LI H1 D [Pv.en ns 0, Pv.en ns 1, Pv.en ns 2, Pv.en ns 3] := e
    refine ⟨_, rfl, .inl ⟨rfl, _, e.sq⟩, _, rfl, D, _, rfl, e.sq, (by show 0 < 4; decide), fun m hm hx => ?_⟩
    have x0 := hx _ (List.mem_cons_self ..)
    have x1 : Pv.en ns 1 ≤ m := hx _ (by simp)
    have x2 : Pv.en ns 2 ≤ m := hx _ (by simp)
    have x3 : Pv.en ns 3 ≤ m := hx _ (by simp)
    have fl : ((([Pv.en ns 0, Pv.en ns 1, Pv.en ns 2, Pv.en ns 3] : List Int).map V.int)).all flatV = true := rfl
    have key : ∀ j : Nat, j < 4 → Pv.en ns j = m → (∀ i, i < j → Pv.en ns i ≠ m) → rIndex K (.ref D) [.int m] H1 Q := fun j hj ej hlt => by
      have gg : ∀ (i : Nat) (z : V), (([Pv.en ns 0, Pv.en ns 1, Pv.en ns 2, Pv.en ns 3] : List Int).map V.int)[i]? = some z → z = .int (Pv.en ns i) := fun i z h => by
        match i, h with
        | 0, h => cases h; rfl
        | 1, h => cases h; rfl
        | 2, h => cases h; rfl
        | 3, h => cases h; rfl
      refine ⟨D, _, .int m, j, .int (Pv.en ns j), rfl, rfl, e.sq, rfl, fl, ?_, ?_, fun i z hi hz => ?_, ?_⟩
      · match j, hj with
        | 0, _ => rfl
        | 1, _ => rfl
        | 2, _ => rfl
        | 3, _ => rfl
      · rw [ej]; show (m == m) = true; simp
      · rw [gg i z hz]
        show (Pv.en ns i == m) = false
        simpa using hlt i hi
      · refine qint (k H1 s1) ?_
        show ((Ra26.gridOf ns : Nat) : Int) = _
        rw [Pv.grid_is ns hj (fun i hi => by
          rw [ej]
          match i, hi with
          | 0, _ => exact x0
          | 1, _ => exact x1
          | 2, _ => exact x2
          | 3, _ => exact x3) (fun i hi => by rw [ej]; exact hlt i hi)]
    by_cases q0 : Pv.en ns 0 = m
    · exact key 0 (by decide) q0 (fun i hi => absurd hi (by omega))
    by_cases q1 : Pv.en ns 1 = m
    · exact key 1 (by decide) q1 (fun i hi => by have : i = 0 := by omega
                                                 subst this; exact q0)
    by_cases q2 : Pv.en ns 2 = m
    · exact key 2 (by decide) q2 (fun i hi => by
        match i, hi with
        | 0, _ => exact q0
        | 1, _ => exact q1)
    · have q3 : Pv.en ns 3 = m := by
        simp only [List.mem_cons, List.not_mem_nil, or_false] at hm
        rcases hm with z | z | z | z
        · exact absurd z.symm q0
        · exact absurd z.symm q1
        · exact absurd z.symm q2
        · exact z.symm
      exact key 3 (by decide) q3 (fun i hi => by
        match i, hi with
        | 0, _ => exact q0
        | 1, _ => exact q1
        | 2, _ => exact q2)
end Px
namespace Px
open PySem PySem.Spec PyProof.Rows L2
local macro_rules | `(tactic| walk_at "rd") => `(tactic| repeat (first | refine ⟨_, rfl, ?_⟩ | refine ⟨_, _, rfl, rfl, ?_⟩ | refine ⟨_, _, rfl, ?_⟩ | refine ⟨rfl, ?_⟩ | refine ⟨trivial, ?_⟩ | refine ⟨(show (0 : Int) ≤ _ by decide), ?_⟩ | refine ⟨Or.inl ⟨by decide, by decide⟩, ?_⟩ | refine ⟨Or.inr ⟨by decide, by decide⟩, ?_⟩))
variable {P : Program} {w : World} {K : PySem.W.Frag} {mg : Str → Option Value} {base : Heap} {C : Ad}
def sp1S (R : Int → Prop) (f : Int → Int) : Sp := fun vs H Q _ => ∃ i, vs = [.int i] ∧ R i ∧ ∀ H', Same H H' → Q (.int (f i)) H'
abbrev s_size_code : Stmt := (top 77)
theorem sc_size_code : FnScope ["greatest", "bits", "shift"] ["greatest"] (defScope s_size_code) := ⟨rfl, rfl, rfl, by decide +kernel, rfl, by decide +kernel, by decide +kernel⟩
theorem d_size_code (T : Txt K mg C) : Df P w K mg base "size_code" ["greatest"] 1 (sp1S (fun i => 0 ≤ i ∧ i ≤ 32767) Ra26.sizeCode) := by
  refine .mk' T.f_size_code sc_size_code (fun _ _ _ _ _ _ us hl => match us, hl with | [_], _ => rfl) (fun vs H Q E h => by obtain ⟨_, rfl, _⟩ := h; rfl) fun f cdv A outer s H vs Q E hr h => ?_
  obtain ⟨i, rfl, ⟨i0, i1⟩, k⟩ := h
  refine ⟨_, (pss_cons (ps_set (i := 2) sc_size_code.nd rfl (Or.inl rfl) (pe_callB (len_seqK K rfl) (by rfl) T.b_len PySem.boot_len (pa_cons (pe_lc (own := [("bits", 1)]) rfl sc_size_code.nd (pi_range2 rfl T.b_range (pa_cons pe_int (pa_cons pe_int pa_nil))) (blkOk_by (by kernel_rfl)) (fun _ _ _ _ _ => (pg_name (i := 1) sc_size_code.nd rfl (Or.inl rfl))) (fun _ _ _ _ _ => (pts_one (pt_cmpR op_gt (pe_op op_shr (pv 0) (pv 1)) pe_int (nomark _)))) (fun _ _ _ _ _ => (pv 1))) pa_nil)))
      (pss_one (ps_ret (pe_op op_add (pe_op op_shr (pv 0) (pe_op op_add (pv 2) pe_int)) (pe_op op_mul pe_int (pv 2)))))), ?_⟩
  refine ⟨9, 15, rfl, ⟨by decide, by decide, by decide, by decide⟩, fun D hD => ?_⟩
  refine lc_range (n := 6) (fun n H2 => Same H H2 ∧ ∃ l, H2 D = some (.lst l) ∧ l.length = Pv.cnt i n ∧ l.length ≤ n) ⟨same_new hD, [], upd_same, rfl, Nat.le_refl _⟩ ?_ ?_
  · rintro n H2 hn ⟨s2, l, hd, hl, hle⟩
    refine ⟨rfl, ?_⟩
    have en : ((9 : Int) + (n : Nat)).toNat = 9 + n := by omega
    refine ⟨_, rfl, _, rfl, _, _, rfl, rfl, (by show (0 : Int) ≤ 9 + (n : Nat); omega), _, _, rfl, rfl, _, rfl, ?_⟩
    refine ite2 (fun h => ?_) (fun h => ?_)
    · have h : 0 < i / 2 ^ ((9 : Int) + (n : Nat)).toNat := of_decide_eq_true h
      rw [en] at h
      refine ⟨_, rfl, l, hd, small_line (by omega), fun b o e => ?_, _, upd_same, ?_, ?_⟩
      · rw [upd_ne (ne_of_none e hD)]; exact s2 _ _ e
      · rw [List.length_append, hl]; show _ = if _ then _ else _; rw [if_pos h]; rfl
      · rw [List.length_append]; show l.length + 1 ≤ _; omega
    · have h : ¬ 0 < i / 2 ^ ((9 : Int) + (n : Nat)).toNat := fun q => h (decide_eq_true q)
      rw [en] at h
      refine ⟨s2, l, hd, ?_, by omega⟩
      rw [hl]; show _ = if _ then _ else _; rw [if_neg h]
  · rintro H2 ⟨s2, l, hd, hl, hle⟩
    refine ⟨D, l, rfl, .inl (SqL.of hd), ?_⟩
    refine ⟨_, rfl, _, rfl, _, _, rfl, rfl, _, _, rfl, rfl, (by show (0 : Int) ≤ (l.length : Nat) + 5; omega), _, rfl, _, _, rfl, rfl, .inl ⟨by decide, by decide⟩, _, _, rfl, rfl, qint (k H2 s2) ?_⟩
    rw [Pv.sizeCode_eq i0 i1]
    show _ = i / 2 ^ (((l.length : Nat) : Int) + 5).toNat + 8 * ((l.length : Nat) : Int)
    have e1 : (((l.length : Nat) : Int) + 5).toNat = Pv.cnt i 6 + 5 := by rw [hl]; omega
    rw [e1, hl]
def spEM (R : Int → Prop) (f : Int → Int × Int) : Sp := fun vs H Q _ => ∃ i, vs = [.int i] ∧ R i ∧ ∀ p H', Same H H' → H p = none → H' p = some (.tup [.int (f i).1, .int (f i).2]) → Q (.ref p) H'
abbrev s_exponent_and_mantissa : Stmt := (top 78)
theorem sc_exponent_and_mantissa : FnScope ["code", "exponent", "mantissa"] ["code"] (defScope s_exponent_and_mantissa) := ⟨rfl, rfl, rfl, by decide +kernel, rfl, by decide +kernel, by decide +kernel⟩
theorem d_exponent_and_mantissa (T : Txt K mg C) : Df P w K mg base "exponent_and_mantissa" ["code"] 1 (spEM (fun i => 0 ≤ i ∧ i ≤ 63) Ra26.sizeOf_) := by
  refine .mk' T.f_exponent_and_mantissa sc_exponent_and_mantissa (fun _ _ _ _ _ _ us hl => match us, hl with | [_], _ => rfl) (fun vs H Q E h => by obtain ⟨_, rfl, _⟩ := h; rfl) fun f cdv A outer s H vs Q E hr h => ?_
  obtain ⟨c, rfl, ⟨c0, c1⟩, k⟩ := h
  refine ⟨_, (pss_cons (ps_set (i := 1) sc_exponent_and_mantissa.nd rfl (Or.inl rfl) pe_int)
      (pss_cons (ps_if (pt_cmpR op_gt (pv 0) pe_int (nomark _)) (pss_one (ps_set (i := 1) sc_exponent_and_mantissa.nd rfl (Or.inl rfl) (pe_op op_sub (pe_op op_shr (pv 0) pe_int) pe_int))) pss_nil)
      (pss_cons (ps_set (i := 2) sc_exponent_and_mantissa.nd rfl (Or.inl rfl) (pe_op op_sub (pv 0) (pe_op op_mul pe_int (pv 1))))
      (pss_cons (ps_if (pt_cmpR op_eq (pv 2) pe_int (nomark _)) (pss_one (ps_ret (pe_tup (pa_cons (pe_un un_neg pe_int) (pa_cons pe_int pa_nil))))) pss_nil)
      (pss_cons (ps_while PassesOwn.never (pt_cmpR op_le (pv 2) pe_int (nomark _)) (pss_cons (ps_set (i := 2) sc_exponent_and_mantissa.nd rfl (Or.inl rfl) (pe_op op_add (pe_op op_mul pe_int (pv 2)) pe_int))
      (pss_one (ps_aug (i := 1) sc_exponent_and_mantissa.nd rfl (Or.inl rfl) pe_int ip_sub))))
      (pss_one (ps_ret (pe_tup (pa_cons (pv 1) (pa_cons (pe_op op_sub (pv 2) pe_int) pa_nil)))))))))), ?_⟩
  have bd := Pv.exp0_bd c0 c1
  have rest : ∀ e : Int, e = Pv.exp0 c → (tSeq (tAsg (tOp (rI0 fun i j => V.int (i - j)) (tVar 0) (tOp (rI CMul fun i j => V.int (i * j)) (tC (V.int 8)) (tVar 1))) (gName 2)) (tSeq (tIfS (tTest (tOp rEq (tVar 2) (tC (V.int 0)))) (tRet (tTup (tCons (tUn (rU fun i => V.int (-i)) (tC (V.int 4))) (tCons (tC (V.int 7)) tNil)))) tNext) (tSeq (tWhile (tTest (tOp (rI0 fun i j => V.bl (decide (i ≤ j))) (tVar 2) (tC (V.int 7)))) (tSeq (tAsg (tOp (rI0 fun i j => V.int (i + j)) (tOp (rI CMul fun i j => V.int (i * j)) (tC (V.int 2)) (tVar 2)) (tC (V.int 1))) (gName 2)) (tAug 1 (tC (V.int 1)) (ipI fun i j => i - j)))) (tRet (tTup (tCons (tVar 1) (tCons (tOp (rI0 fun i j => V.int (i - j)) (tVar 2) (tC (V.int 8))) tNil))))))) { nx := fun x H' => Q V.non H', rt := Q } [some (.int c), some (.int e), none] H := by
    intro e he
    refine ⟨_, rfl, _, rfl, _, _, rfl, rfl, .inl ⟨by decide, by decide⟩, _, _, rfl, rfl, ?_⟩
    refine ⟨_, rfl, rfl, _, rfl, ?_⟩
    refine ite2 (fun h => ?_) (fun h => ?_)
    · have h : V.int (c - 8 * e) = V.int 0 := of_decide_eq_true h
      have h : c - 8 * e = 0 := by injection h
      refine ⟨_, rfl, by show 2 ≤ sizeLine; decide, fun p hp => k p _ (same_new hp) hp ?_⟩
      rw [upd_same, Pv.sizeOf_zero (by rw [← he]; exact h)]
    · have h : ¬ c - 8 * e = 0 := fun q => h (decide_eq_true (show V.int (c - 8 * e) = V.int 0 by rw [q]))
      rw [← he] at bd
      have sz := Pv.sizeOf_grown (c := c) (by rw [← he]; exact h)
      rw [← he] at sz
      refine while_by (fun σ H1 => H1 = H ∧ ∃ (n : Nat) (e' m : Int), σ = [some (.int c), some (.int e'), some (.int m)] ∧ n ≤ 3 ∧ Ra26.grown 3 e (c - 8 * e) = Ra26.grown n e' m ∧ 16 ≤ (m + 1) * 2 ^ n) (fun σ _ => match σ with | [_, _, some (.int m)] => (100 - m).toNat | _ => 0) ⟨rfl, 3, e, c - 8 * e, rfl, Nat.le_refl _, rfl, by show 16 ≤ (c - 8 * e + 1) * 8; omega⟩ ?_ ?_
      · rintro σ H1 ⟨rfl, n, e', m, rfl, hn, hg, hm⟩
        refine ⟨_, rfl, _, _, rfl, rfl, _, rfl, ?_⟩
        refine ite2 (fun q => ?_) (fun q => ?_)
        · have q : m ≤ 7 := of_decide_eq_true q
          have n0 : n ≠ 0 := fun z => by rw [z] at hm; simp at hm; omega
          obtain ⟨n', rfl⟩ : ∃ n', n = n' + 1 := ⟨n - 1, by omega⟩
          have m0 : 0 < m + 1 := by
            have p : (0 : Int) < 2 ^ (n' + 1) := Pv.tp _
            apply Decidable.byContradiction
            intro z
            have := Int.mul_le_mul_of_nonneg_right (show m + 1 ≤ 0 by omega) (Int.le_of_lt p)
            omega
          refine ⟨_, rfl, _, _, rfl, rfl, .inl ⟨by decide, by decide⟩, _, _, rfl, rfl, _, rfl, _, _, rfl, rfl, ⟨rfl, n', e' - 1, 2 * m + 1, rfl, by omega, ?_, ?_⟩, ?_⟩
          · rw [hg]; exact Pv.grown_go n' q
          · rw [Int.pow_succ] at hm
            have : (2 * m + 1 + 1) * 2 ^ n' = (m + 1) * (2 ^ n' * 2) := by
              rw [show (2 * m + 1 + 1 : Int) = (m + 1) * 2 by omega, Int.mul_assoc, Int.mul_comm 2]
            rw [this]; exact hm
          · show (100 - (2 * m + 1)).toNat < (100 - m).toNat
            omega
        · have q : ¬ m ≤ 7 := fun z => q (decide_eq_true z)
          refine ⟨_, rfl, _, rfl, _, _, rfl, rfl, by show 2 ≤ sizeLine; decide, fun p hp => k p _ (same_new hp) hp ?_⟩
          rw [upd_same, sz, hg, Pv.grown_end n q]
      · intro σ H1 Q1 Q2 hQ h
        obtain ⟨v, e1, i, j, e2, e3, b, e4, q⟩ := h
        exact ⟨v, e1, i, j, e2, e3, b, e4, hQ _ _ q⟩
  refine ⟨_, rfl, _, _, rfl, rfl, _, rfl, ?_⟩
  refine ite2 (fun h => ?_) (fun h => ?_)
  · have h : 15 < c := of_decide_eq_true h
    refine ⟨_, rfl, _, _, rfl, rfl, (show (0 : Int) ≤ 3 by decide), _, _, rfl, rfl, ?_⟩
    exact rest _ (by unfold Pv.exp0; rw [if_pos h]; rfl)
  · have h : ¬ 15 < c := fun q => h (decide_eq_true q)
    exact rest 0 (by unfold Pv.exp0; rw [if_neg h])
abbrev s_pulse_codes : Stmt := (top 79)
theorem sc_pulse_codes : FnScope ["values", "code", "parts", "shift", "shrink", "value"] ["values", "code"] (defScope s_pulse_codes) := ⟨rfl, rfl, rfl, by decide +kernel, rfl, by decide +kernel, by decide +kernel⟩
theorem d_pulse_codes (T : Txt K mg C) : Df P w K mg base "pulse_codes" ["values", "code"] 3 (spLiL (fun ns i => ns.length ≤ 1000 ∧ Pv.Ws ns ∧ 0 ≤ i ∧ i ≤ 63) fun ns i => ns.map fun y => Ra26.pulseCode i y) := by
  refine .mk' T.f_pulse_codes sc_pulse_codes (fun _ _ _ _ _ _ us hl => match us, hl with | [_, _], _ => rfl) (fun vs H Q E h => spLiL_len h) fun f cdv A outer s H vs Q E hr h => ?_
  obtain ⟨a, ns, c, rfl, hl, ⟨h1, hw, c0, c1⟩, k⟩ := h
  refine ⟨_, (pss_cons (ps_set (i := 2) sc_pulse_codes.nd rfl (Or.inl rfl) (pe_fn (d_exponent_and_mantissa T) (hr.mono (by decide)) (pa_cons (pv 1) pa_nil)))
      (pss_cons (ps_set (i := 3) sc_pulse_codes.nd rfl (Or.inr rfl) (pe_op op_sub pe_int (pe_ix (ix_tupK K rfl) (pv 2) pe_int (fun _ _ => rfl))))
      (pss_cons (ps_set (i := 4) sc_pulse_codes.nd rfl (Or.inr rfl) (pe_ix (ix_tupK K rfl) (pe_tupK K rfl T.t_SHRINKS) (pe_ix (ix_tupK K rfl) (pv 2) pe_int (fun _ _ => rfl)) (fun _ _ => rfl)))
      (pss_one (ps_ret (pe_lc (own := [("value", 5)]) rfl sc_pulse_codes.nd (pi_list (pv 0)) (blkOk_by (by kernel_rfl)) (fun _ _ _ _ _ => (pg_name (i := 5) sc_pulse_codes.nd rfl (Or.inl rfl))) (fun _ _ _ _ _ => pts_nil) (fun _ _ _ _ _ => (pe_op op_add (pe_op op_shr (pe_fn (d_product T) (hr.mono (by decide)) (pa_cons (pe_fn (d_low_bits T) (hr.mono (by decide)) (pa_cons (pe_op op_shlB (pv 5) (pv 3)) pa_nil)) (pa_cons (pv 4) pa_nil))) pe_int) pe_int)))))))), ?_⟩
  obtain ⟨b1, b2, b3, b4, _⟩ := Pv.ok_at c0 c1
  refine ⟨_, rfl, c, rfl, ⟨c0, c1⟩, fun p H1 s1 hp ep => ?_⟩
  refine ⟨_, rfl, p, _, _, _, rfl, rfl, SqT.of ep, atI_nat (j := 0) rfl, _, _, rfl, rfl, ?_⟩
  intro t ht
  refine ⟨_, rfl, p, _, _, _, rfl, rfl, SqT.of ep, atI_nat (j := 1) rfl, t, _, _, _, rfl, rfl, ht H1, at_tab (ns := Ra26.REDUCE) b3 (by show (Ra26.sizeOf_ c).2 < 8; omega), ?_⟩
  refine ⟨_, rfl, a, rfl, ⟨_, (hl.same s1).sq⟩, lcI (fun y => Ra26.pulseCode c y) (hl.same s1) (by omega) (fun i z H2 R hz s2 hR => ?_) fun D H2 hD s2 e => k D H2 (s1.trans s2) (s1.free hD) e⟩
  have wz := W_get hw hz
  refine ⟨_, rfl, _, rfl, _, _, rfl, rfl, CSh.small (by obtain ⟨x, y⟩ := wz; omega) (by omega) (by omega), _, rfl, trivial, _, rfl, _, _, rfl, cmulW (Pv.cut_W _), ?_⟩
  walk_at "rd"
  exact qint (hR H2 (Same.refl _)) rfl
abbrev s_pulse_values : Stmt := (top 80)
theorem sc_pulse_values : FnScope ["codes", "code", "parts", "shift", "growth", "half", "pulse"] ["codes", "code"] (defScope s_pulse_values) := ⟨rfl, rfl, rfl, by decide +kernel, rfl, by decide +kernel, by decide +kernel⟩
theorem d_pulse_values (T : Txt K mg C) : Df P w K mg base "pulse_values" ["codes", "code"] 3 (spLiL (fun ns i => ns.length ≤ 1000 ∧ (∀ k ∈ ns, 0 ≤ k ∧ k ≤ 7) ∧ 0 ≤ i ∧ i ≤ 63) fun ns i => ns.map fun y => Ra26.pulse i y) := by
  refine .mk' T.f_pulse_values sc_pulse_values (fun _ _ _ _ _ _ us hl => match us, hl with | [_, _], _ => rfl) (fun vs H Q E h => spLiL_len h) fun f cdv A outer s H vs Q E hr h => ?_
  obtain ⟨a, ns, c, rfl, hl, ⟨h1, hw, c0, c1⟩, k⟩ := h
  refine ⟨_, (pss_cons (ps_set (i := 2) sc_pulse_values.nd rfl (Or.inl rfl) (pe_fn (d_exponent_and_mantissa T) (hr.mono (by decide)) (pa_cons (pv 1) pa_nil)))
      (pss_cons (ps_set (i := 3) sc_pulse_values.nd rfl (Or.inr rfl) (pe_op op_sub pe_int (pe_ix (ix_tupK K rfl) (pv 2) pe_int (fun _ _ => rfl))))
      (pss_cons (ps_set (i := 4) sc_pulse_values.nd rfl (Or.inr rfl) (pe_ix (ix_tupK K rfl) (pe_tupK K rfl T.t_GROWTHS) (pe_ix (ix_tupK K rfl) (pv 2) pe_int (fun _ _ => rfl)) (fun _ _ => rfl)))
      (pss_cons (ps_set (i := 5) sc_pulse_values.nd rfl (Or.inr rfl) (pe_op op_shr (pe_op op_shlB pe_int (pv 3)) pe_int))
      (pss_one (ps_ret (pe_lc (own := [("pulse", 6)]) rfl sc_pulse_values.nd (pi_list (pv 0)) (blkOk_by (by kernel_rfl)) (fun _ _ _ _ _ => (pg_name (i := 6) sc_pulse_values.nd rfl (Or.inl rfl))) (fun _ _ _ _ _ => pts_nil) (fun _ _ _ _ _ => (pe_op op_shr (pe_fn (d_plus T) (hr.mono (by decide)) (pa_cons (pe_fn (d_rounded_product T) (hr.mono (by decide)) (pa_cons (pv 4) (pa_cons (pe_op op_mul pe_int (pe_op op_sub (pe_op op_mul pe_int (pv 6)) pe_int)) pa_nil))) (pa_cons (pv 5) pa_nil))) (pv 3)))))))))), ?_⟩
  obtain ⟨b1, b2, b3, b4, _⟩ := Pv.ok_at c0 c1
  refine ⟨_, rfl, c, rfl, ⟨c0, c1⟩, fun p H1 s1 hp ep => ?_⟩
  refine ⟨_, rfl, p, _, _, _, rfl, rfl, SqT.of ep, atI_nat (j := 0) rfl, _, _, rfl, rfl, ?_⟩
  intro t ht
  refine ⟨_, rfl, p, _, _, _, rfl, rfl, SqT.of ep, atI_nat (j := 1) rfl, t, _, _, _, rfl, rfl, ht H1, at_tab (ns := Ra26.FACTOR) b3 (by show (Ra26.sizeOf_ c).2 < 8; omega), ?_⟩
  refine ⟨_, rfl, _, _, rfl, rfl, CSh.small (by decide) (by omega) (by omega), _, _, rfl, rfl, (show (0 : Int) ≤ 1 by decide), ?_⟩
  refine ⟨_, rfl, a, rfl, ⟨_, (hl.same s1).sq⟩, lcI (fun y => Ra26.pulse c y) (hl.same s1) (by omega) (fun i z H2 R hz s2 hR => ?_) fun D H2 hD s2 e => k D H2 (s1.trans s2) (s1.free hD) e⟩
  obtain ⟨z0, z1⟩ := hw z (List.mem_of_getElem? hz)
  refine ⟨_, rfl, _, rfl, _, _, rfl, rfl, .inl ⟨by decide, by decide⟩, _, _, rfl, rfl, _, _, rfl, rfl, .inl ⟨by decide, by decide⟩, _, _, rfl, .inr ⟨by omega, by omega⟩, _, rfl, _, _, rfl, trivial, _, rfl, _, _, rfl, rfl, (by show (0 : Int) ≤ 6 - (Ra26.sizeOf_ c).1; omega), ?_⟩
  exact qint (hR H2 (Same.refl _)) (Pv.pulse_py c0 c1 z0 z1)
abbrev s_spread : Stmt := (top 81)
theorem sc_spread : FnScope ["values", "grid", "out", "place", "value"] ["values", "grid"] (defScope s_spread) := ⟨rfl, rfl, rfl, by decide +kernel, rfl, by decide +kernel, by decide +kernel⟩
theorem d_spread (T : Txt K mg C) : Df P w K mg base "spread" ["values", "grid"] 1 (spLiL (fun ns i => ns.length = 13 ∧ 0 ≤ i ∧ i ≤ 3) fun ns i => Ra26.placed i.toNat ns) := by
  refine .mk' T.f_spread sc_spread (fun _ _ _ _ _ _ us hl => match us, hl with | [_, _], _ => rfl) (fun vs H Q E h => spLiL_len h) fun f cdv A outer s H vs Q E hr h => ?_
  obtain ⟨a, ns, g, rfl, hl, ⟨h1, g0, g1⟩, k⟩ := h
  refine ⟨_, (pss_cons (ps_set (i := 2) sc_spread.nd rfl (Or.inl rfl) (pe_op op_rep (pe_lst (pa_cons pe_int pa_nil)) (pe_cst T.c_QUARTER)))
      (pss_cons (ps_for PassesOwn.never rfl (pi_enum rfl T.b_enumerate (pa_cons (pv 0) pa_nil)) (pg_pair K 3 4 rfl rfl sc_spread.nd rfl rfl (Or.inl rfl) (Or.inl rfl) (.inl rfl) (.inl rfl)) (pss_one (ps_asg (pv 4) (pg_sub (pv 2) (pe_op op_add (pv 1) (pe_op op_mul (pe_cst T.c_SPACING) (pv 3))) set_list))))
      (pss_one (ps_ret (pv 2))))), ?_⟩
  refine ⟨by show 1 ≤ sizeLine; decide, fun l hl0 => ?_⟩
  dsimp only [tC]
  refine rep_at hl0 (by decide) (by decide) fun p H1 s1 hp e1 => ?_
  refine ⟨_, rfl, a, _, rfl, (hl.same s1).sq, ?_⟩
  refine for_enum (fun n σ H2 => ∃ v3 v4, (∀ b o, H b = some o → H2 b = some o) ∧ LI H2 p (Pv.laidTo g.toNat ns n) ∧ σ = [some (.ref a), some (.int g), some (.ref p), v3, v4]) ⟨none, none, s1, by rw [Pv.laid_zero]; exact e1, rfl⟩ (fun n σ H2 _ ⟨_, _, s2, _⟩ => (hl.same s2).sq) ?_ ?_
  · rintro n x Tt σ H2 hx ⟨v3, v4, s2, e2, rfl⟩ hT
    refine g2 ?_
    have hn : n < 13 := by have := (List.getElem?_eq_some_iff.mp hx).1; rw [List.length_map] at this; omega
    rw [List.getElem?_map, Pv.get_at (by omega)] at hx
    have hx : V.int (Ra26.at_ ns n) = x := Option.some.inj hx
    subst hx
    have nT : p ≠ Tt := ne_of_none e2 hT
    have pN : ∀ b o, H b = some o → b ≠ p := fun b o e z => by rw [z, hp] at e; cases e
    refine ⟨_, rfl, _, rfl, _, rfl, _, rfl, _, _, rfl, rfl, .inl ⟨by decide, by decide⟩, _, _, rfl, rfl, p, _, _, g.toNat + 3 * n, rfl, rfl, (by rw [upd_ne nT]; exact e2), ?_, ?_⟩
    · rw [List.length_map, Pv.laid_len]
      have e : g + 3 * (n : Int) = ((g.toNat + 3 * n : Nat) : Int) := by omega
      rw [e]
      unfold ixN
      rw [if_pos (by omega), if_pos (by omega), Int.toNat_natCast]
    · refine ⟨_, _, fun b o e => ?_, ?_, rfl⟩
      · rw [upd_ne (pN b o e), upd_ne (ne_of_none (s2 b o e) hT)]; exact s2 b o e
      · refine li_new' ?_
        rw [← Pv.laid_succ ns (by omega), List.map_set]
  · rintro σ H2 ⟨v3, v4, s2, e2, rfl⟩
    refine ⟨_, rfl, k p H2 s2 hp ?_⟩
    rw [List.length_map, h1, Pv.laid_all] at e2
    exact e2
def spRb (R : List Int → Int → Int → List Int → Prop) (f : List Int → Int → Int → List Int → List Int) : Sp := fun vs H Q _ => ∃ a b ns ms i j, vs = [.ref a, .int i, .int j, .ref b] ∧ LI H a ns ∧ LI H b ms ∧ R ns i j ms ∧ ∀ p H', Same H H' → H p = none → LI H' p (f ns i j ms) → Q (.ref p) H'
abbrev s_rebuilt : Stmt := (top 82)
theorem sc_rebuilt : FnScope ["awaited", "grid", "code", "pulses", "spread_out", "pulse", "value"] ["awaited", "grid", "code", "pulses"] (defScope s_rebuilt) := ⟨rfl, rfl, rfl, by decide +kernel, rfl, by decide +kernel, by decide +kernel⟩
theorem d_rebuilt (T : Txt K mg C) : Df P w K mg base "rebuilt" ["awaited", "grid", "code", "pulses"] 4 (spRb (fun ns i j ms => ns.length = 40 ∧ (0 ≤ i ∧ i ≤ 3) ∧ (0 ≤ j ∧ j ≤ 63) ∧ ms.length = 13 ∧ ∀ k ∈ ms, 0 ≤ k ∧ k ≤ 7) fun ns i j ms => Pv.built ns i.toNat j ms) := by
  refine .mk' T.f_rebuilt sc_rebuilt (fun _ _ _ _ _ _ us hl => match us, hl with | [_, _, _, _], _ => rfl) (fun vs H Q E h => by obtain ⟨_, _, _, _, _, _, rfl, _⟩ := h; rfl) fun f cdv A outer s H vs Q E hr h => ?_
  obtain ⟨a, b, ns, ms, i, j, rfl, hl, hm, ⟨h1, hi, ⟨j0, j1⟩, h2, hb⟩, k⟩ := h
  refine ⟨_, (pss_cons (ps_set (i := 4) sc_rebuilt.nd rfl (Or.inl rfl) (pe_fn (d_spread T) (hr.mono (by decide)) (pa_cons (pe_fn (d_pulse_values T) (hr.mono (by decide)) (pa_cons (pv 3) (pa_cons (pv 2) pa_nil))) (pa_cons (pv 1) pa_nil))))
      (pss_one (ps_ret (pe_lc (own := [("pulse", 5), ("value", 6)]) rfl sc_rebuilt.nd (pi_zipS false false T.b_zip (pa_cons (pv 4) (pa_cons (pv 0) pa_nil))) (blkOk_by (by kernel_rfl)) (fun _ _ _ _ _ => (pg_pair K 5 6 rfl rfl sc_rebuilt.nd rfl rfl (Or.inl rfl) (Or.inl rfl) (.inr rfl) (.inr rfl))) (fun _ _ _ _ _ => pts_nil) (fun _ _ _ _ _ => (pe_fn (d_plus T) (hr.mono (by decide)) (pa_cons (pv 5) (pa_cons (pv 6) pa_nil)))))))), ?_⟩
  refine ⟨_, rfl, _, rfl, b, ms, j, rfl, hm, ⟨by omega, hb, j0, j1⟩, fun p H1 s1 hp e1 => ?_⟩
  have lp : (ms.map fun y => Ra26.pulse j y).length = 13 := by rw [List.length_map]; exact h2
  refine ⟨_, rfl, p, _, i, rfl, e1, ⟨lp, hi.1, hi.2⟩, fun q H2 s2 hq e2 => ?_⟩
  have s02 := s1.trans s2
  refine ⟨_, rfl, _, rfl, q, a, _, _, rfl, e2.sq, (hl.same s02).sq, lcZ (by decide) (fun x y => Ra26.add x y) (fun H s => (e2.same s).sq) (fun H s => (hl.same (s02.trans s)).sq) (by rw [Pv.placed_len]; decide) (fun i z y H2 R hz hy s2 hR => ?_) fun D H3 hD s3 e3 => k D H3 (s02.trans s3) (s02.free hD) e3⟩
  exact ⟨_, rfl, _, rfl, _, _, rfl, trivial, hR _ (Same.refl _)⟩
end Px
namespace Px
open PySem PySem.Spec PyProof.Rows L2
local macro_rules | `(tactic| walk_at "rd") => `(tactic| repeat (first | refine ⟨_, rfl, ?_⟩ | refine ⟨_, _, rfl, rfl, ?_⟩ | refine ⟨_, _, rfl, ?_⟩ | refine ⟨rfl, ?_⟩ | refine ⟨trivial, ?_⟩ | refine ⟨(show (0 : Int) ≤ _ by decide), ?_⟩ | refine ⟨Or.inl ⟨by decide, by decide⟩, ?_⟩ | refine ⟨Or.inr ⟨by decide, by decide⟩, ?_⟩))
variable {P : Program} {w : World} {K : PySem.W.Frag} {mg : Str → Option Value} {base : Heap} {C : Ad}
abbrev s_lowered : Stmt := (top 85)
theorem sc_lowered : FnScope ["samples", "shift", "sample"] ["samples", "shift"] (defScope s_lowered) := ⟨rfl, rfl, rfl, by decide +kernel, rfl, by decide +kernel, by decide +kernel⟩
theorem d_lowered (T : Txt K mg C) : Df P w K mg base "lowered" ["samples", "shift"] 3 (spLiL (fun ns i => ns.length ≤ 1000 ∧ Pv.Ws ns ∧ 0 ≤ i ∧ i ≤ 4) fun ns i => Pv.lowered ns i.toNat) := by
  refine .mk' T.f_lowered sc_lowered (fun _ _ _ _ _ _ us hl => match us, hl with | [_, _], _ => rfl) (fun vs H Q E h => spLiL_len h) fun f cdv A outer s H vs Q E hr h => ?_
  obtain ⟨a, ns, i, rfl, hl, ⟨h1, hw, i0, i1⟩, k⟩ := h
  refine ⟨_, (pss_cons (ps_if (pt_cmpR op_eq (pv 1) pe_int (nomark _)) (pss_one (ps_ret (pe_callTy call_list_of (by rfl) T.b_list PyProof.Rows.boot_list (pa_cons (pv 0) pa_nil)))) pss_nil)
      (pss_one (ps_ret (pe_lc (own := [("sample", 2)]) rfl sc_lowered.nd (pi_list (pv 0)) (blkOk_by (by kernel_rfl)) (fun _ _ _ _ _ => (pg_name (i := 2) sc_lowered.nd rfl (Or.inl rfl))) (fun _ _ _ _ _ => pts_nil) (fun _ _ _ _ _ => (pe_fn (d_rounded_product T) (hr.mono (by decide)) (pa_cons (pv 2) (pa_cons (pe_op op_shlB pe_int (pe_op op_sub pe_int (pv 1))) pa_nil)))))))), ?_⟩
  walk_at "rd"
  refine ite2 (fun h => ?_) (fun h => ?_)
  · have h : V.int i = V.int 0 := of_decide_eq_true h
    have h : i = 0 := by injection h
    subst h
    refine ⟨_, rfl, a, _, rfl, .inl hl.sq, fun p hp => k p _ (same_new hp) hp (li_new' ?_)⟩
    rfl
  · have h : ¬ i = 0 := fun q => h (decide_eq_true (show V.int i = V.int 0 by rw [q]))
    have en : ((15 : Int) - i).toNat = 15 - i.toNat := by omega
    refine ⟨_, rfl, a, rfl, ⟨_, hl.sq⟩, lcI (fun x => Ra26.mulR x (2 ^ (15 - i.toNat))) hl (by omega) (fun n z H2 R hz s2 hR => ?_) fun D H2 hD s2 e => k D H2 s2 hD ?_⟩
    · refine ⟨_, rfl, _, rfl, _, _, rfl, rfl, _, _, rfl, rfl, CSh.small (by decide) (by omega) (by omega), _, _, rfl, cmulW (W_get hw hz), ?_⟩
      have := hR H2 (Same.refl _)
      show R (.int (Ra26.mulR z (1 * 2 ^ ((15 : Int) - i).toNat))) H2
      rw [en, Int.one_mul]; exact this
    · show LI H2 D (Pv.lowered ns i.toNat)
      unfold Pv.lowered
      rw [if_neg (by omega)]; exact e
abbrev s_lifted : Stmt := (top 86)
theorem sc_lifted : FnScope ["samples", "shift", "sample"] ["samples", "shift"] (defScope s_lifted) := ⟨rfl, rfl, rfl, by decide +kernel, rfl, by decide +kernel, by decide +kernel⟩
theorem d_lifted (T : Txt K mg C) : Df P w K mg base "lifted" ["samples", "shift"] 2 (spLiL (fun ns i => ns.length ≤ 1000 ∧ Pv.Ws ns ∧ 0 ≤ i ∧ i ≤ 4) fun ns i => Pv.lifted ns i.toNat) := by
  refine .mk' T.f_lifted sc_lifted (fun _ _ _ _ _ _ us hl => match us, hl with | [_, _], _ => rfl) (fun vs H Q E h => spLiL_len h) fun f cdv A outer s H vs Q E hr h => ?_
  obtain ⟨a, ns, i, rfl, hl, ⟨h1, hw, i0, i1⟩, k⟩ := h
  refine ⟨_, (pss_one (ps_ret (pe_lc (own := [("sample", 2)]) rfl sc_lifted.nd (pi_list (pv 0)) (blkOk_by (by kernel_rfl)) (fun _ _ _ _ _ => (pg_name (i := 2) sc_lifted.nd rfl (Or.inl rfl))) (fun _ _ _ _ _ => pts_nil) (fun _ _ _ _ _ => (pe_fn (d_low_bits T) (hr.mono (by decide)) (pa_cons (pe_op op_shlB (pv 2) (pv 1)) pa_nil)))))), ?_⟩
  refine ⟨_, rfl, a, rfl, ⟨_, hl.sq⟩, lcI (fun x => Ra26.cut (x * 2 ^ i.toNat)) hl (by omega) (fun n z H2 R hz s2 hR => ?_) fun D H2 hD s2 e => k D H2 s2 hD e⟩
  have wz := W_get hw hz
  exact ⟨_, rfl, _, rfl, _, _, rfl, rfl, CSh.small (by obtain ⟨x, y⟩ := wz; omega) (by omega) (by omega), _, rfl, trivial, hR H2 (Same.refl _)⟩
abbrev s_likeness : Stmt := (top 87)
theorem sc_likeness : FnScope ["samples", "lag", "now", "before"] ["samples", "lag"] (defScope s_likeness) := ⟨rfl, rfl, rfl, by decide +kernel, rfl, by decide +kernel, by decide +kernel⟩
theorem d_likeness (T : Txt K mg C) : Df P w K mg base "likeness" ["samples", "lag"] 1 (spLiI (fun ns i => ns.length ≤ 1000 ∧ Pv.Ws ns ∧ 0 ≤ i) fun ns i => Pv.like ns i.toNat) := by
  refine .mk' T.f_likeness sc_likeness (fun _ _ _ _ _ _ us hl => match us, hl with | [_, _], _ => rfl) (fun vs H Q E h => spLiI_len h) fun f cdv A outer s H vs Q E hr h => ?_
  obtain ⟨a, ns, i, rfl, hl, ⟨h1, hw, i0⟩, k⟩ := h
  refine ⟨_, (pss_one (ps_ret (pe_op op_mul pe_int (pe_callB (cr_sum rfl) (by rfl) T.b_sum boot_sum (pa_cons (pe_lc (own := [("now", 2), ("before", 3)]) rfl sc_likeness.nd (pi_zipS false false T.b_zip (pa_cons (pe_slice (sl_listK K rfl) (pv 0) (po_some (pv 1)) po_none) (pa_cons (pv 0) pa_nil))) (blkOk_by (by kernel_rfl)) (fun _ _ _ _ _ => (pg_pair K 2 3 rfl rfl sc_likeness.nd rfl rfl (Or.inl rfl) (Or.inl rfl) (.inr rfl) (.inr rfl))) (fun _ _ _ _ _ => pts_nil) (fun _ _ _ _ _ => (pe_op op_mul (pv 2) (pv 3)))) pa_nil))))), ?_⟩
  refine ⟨_, rfl, _, rfl, _, rfl, a, _, rfl, hl.sq, fun p hp => ?_⟩
  have ec : cutV (ns.map V.int) (some i) none = (ns.drop i.toNat).map V.int := by
    have e : i = ((i.toNat : Nat) : Int) := by omega
    rw [e, cutF, Int.toNat_natCast]
  have hd : LI (upd H p (.lst (cutV (ns.map V.int) (some i) none))) p (ns.drop i.toNat) := li_new' ec
  have s1 : Same H (upd H p (.lst (cutV (ns.map V.int) (some i) none))) := same_new hp
  refine ⟨_, rfl, p, a, _, _, rfl, hd.sq, (hl.same s1).sq, lcZ (by decide) (fun x y => x * y) (fun H s => (hd.same s).sq) (fun H s => (hl.same (s1.trans s)).sq) (by rw [List.length_drop]; omega) (fun n z y H2 R hz hy s2 hR => ?_) fun D H2 hD s2 e => ?_⟩
  · exact ⟨_, rfl, _, rfl, _, _, rfl, rfl, cmulW (W_get (Pv.Ws_drop _ hw) hz), hR _ (Same.refl _)⟩
  · exact ⟨D, _, rfl, e.sq, _, _, rfl, rfl, .inl ⟨by decide, by decide⟩, k H2 (s1.trans s2)⟩
abbrev s_likenesses : Stmt := (top 88)
theorem sc_likenesses : FnScope ["samples", "lag"] ["samples"] (defScope s_likenesses) := ⟨rfl, rfl, rfl, by decide +kernel, rfl, by decide +kernel, by decide +kernel⟩
theorem d_likenesses (T : Txt K mg C) : Df P w K mg base "likenesses" ["samples"] 2 (spLL (fun ns => ns.length ≤ 1000 ∧ Pv.Ws ns) Pv.likes) := by
  refine .mk' T.f_likenesses sc_likenesses (fun _ _ _ _ _ _ us hl => match us, hl with | [_], _ => rfl) (fun vs H Q E h => spLL_len h) fun f cdv A outer s H vs Q E hr h => ?_
  obtain ⟨a, ns, rfl, hl, ⟨h1, hw⟩, k⟩ := h
  refine ⟨_, (pss_one (ps_ret (pe_lc (own := [("lag", 1)]) rfl sc_likenesses.nd (pi_range1 rfl T.b_range (pa_cons (pe_op op_add (pe_cst T.c_ORDER) pe_int) pa_nil)) (blkOk_by (by kernel_rfl)) (fun _ _ _ _ _ => (pg_name (i := 1) sc_likenesses.nd rfl (Or.inl rfl))) (fun _ _ _ _ _ => pts_nil) (fun _ _ _ _ _ => (pe_fn (d_likeness T) (hr.mono (by decide)) (pa_cons (pv 0) (pa_cons (pv 1) pa_nil))))))), ?_⟩
  refine ⟨_, _, rfl, rfl, 9, rfl, by decide, by decide, lcR (n := 9) (fun i => Pv.like ns i) (by decide) (fun i H2 R hi s2 hR => ?_) fun D H2 hD s2 e => k D H2 s2 hD e⟩
  refine ⟨_, rfl, _, rfl, a, ns, _, rfl, hl.same s2, ⟨h1, hw, by omega⟩, fun H3 s3 => ?_⟩
  have ei : ((0 : Int) + (i : Nat)).toNat = i := by omega
  have := hR H3 s3
  show R (.int (Pv.like ns ((0 : Int) + (i : Nat)).toNat)) H3
  rw [ei]; exact this
abbrev s_normed : Stmt := (top 89)
theorem sc_normed : FnScope ["sums", "shift", "value"] ["sums"] (defScope s_normed) := ⟨rfl, rfl, rfl, by decide +kernel, rfl, by decide +kernel, by decide +kernel⟩
theorem d_normed (T : Txt K mg C) : Df P w K mg base "normed" ["sums"] 2 (spLL (fun ns => Pv.AcfOk ns ∧ Ra26.at_ ns 0 ≠ 0) Pv.normed) := by
  refine .mk' T.f_normed sc_normed (fun _ _ _ _ _ _ us hl => match us, hl with | [_], _ => rfl) (fun vs H Q E h => spLL_len h) fun f cdv A outer s H vs Q E hr h => ?_
  obtain ⟨a, ns, rfl, hl, ⟨ok, ne⟩, k⟩ := h
  refine ⟨_, (pss_cons (ps_set (i := 1) sc_normed.nd rfl (Or.inr rfl) (pe_fn (d_doublings T) (hr.mono (by decide)) (pa_cons (pe_ix (ix_listK K rfl) (pv 0) pe_int (fun _ _ => rfl)) pa_nil)))
      (pss_one (ps_ret (pe_lc (own := [("value", 2)]) rfl sc_normed.nd (pi_list (pv 0)) (blkOk_by (by kernel_rfl)) (fun _ _ _ _ _ => (pg_name (i := 2) sc_normed.nd rfl (Or.inl rfl))) (fun _ _ _ _ _ => pts_nil) (fun _ _ _ _ _ => (pe_op op_shr (pe_op op_shlB (pv 2) (pv 1)) pe_int)))))), ?_⟩
  have l9 := ok.len
  have p0 : 0 < Ra26.at_ ns 0 := by have := ok.nn; simp only [Ra26.N] at *; omega
  have p1 := ok.lt
  have nle := Pv.norm_le30 p0
  refine ⟨_, rfl, a, _, _, _, rfl, rfl, hl.sq, at_tab (ns := ns) (by decide) (by rw [l9]; decide), _, rfl, ⟨p0, p1⟩, ?_⟩
  refine ⟨_, rfl, a, rfl, ⟨_, hl.sq⟩, lcI (fun x => x * 2 ^ Ra26.norm (Ra26.at_ ns 0) / 65536) hl (by omega) (fun n z H2 R hz s2 hR => ?_) fun D H2 hD s2 e => k D H2 s2 hD e⟩
  obtain ⟨z1, z2⟩ := ok.bd z (List.mem_of_getElem? hz)
  refine ⟨_, rfl, _, rfl, _, _, rfl, rfl, CSh.small (by simp only [Ra26.N] at *; omega) (by show (0 : Int) ≤ (Ra26.norm (Ra26.at_ ns 0) : Nat); omega) (by show ((Ra26.norm (Ra26.at_ ns 0) : Nat) : Int) ≤ 1000; omega), _, _, rfl, rfl, (show (0 : Int) ≤ 16 by decide), ?_⟩
  have := hR H2 (Same.refl _)
  show R (.int (z * 2 ^ ((Ra26.norm (Ra26.at_ ns 0) : Nat) : Int).toNat / 2 ^ (16 : Int).toNat)) H2
  rw [Int.toNat_natCast]; exact this
abbrev s_quotient : Stmt := (top 90)
theorem sc_quotient : FnScope ["part", "whole"] ["part", "whole"] (defScope s_quotient) := ⟨rfl, rfl, rfl, by decide +kernel, rfl, by decide +kernel, by decide +kernel⟩
theorem d_quotient (T : Txt K mg C) : Df P w K mg base "quotient" ["part", "whole"] 1 (sp2 (fun i j => 0 ≤ i ∧ i ≤ j ∧ j ≤ 32767) Ra26.quotient) := by
  refine .mk' T.f_quotient sc_quotient (fun _ _ _ _ _ _ us hl => match us, hl with | [_, _], _ => rfl) (fun vs H Q E h => sp2_len h) fun f cdv A outer s H vs Q E hr h => ?_
  obtain ⟨i, j, rfl, ⟨h0, h1, h2⟩, k⟩ := h
  refine ⟨_, (pss_cons (ps_if (pt_cmpR op_eq (pv 0) (pv 1) (nomark _)) (pss_one (ps_ret pe_int)) pss_nil)
      (pss_one (ps_ret (pe_op op_fdiv (pe_op op_mul (pv 0) pe_int) (pv 1))))), ?_⟩
  walk_at "rd"
  refine ite2 (fun h => ?_) (fun h => ?_)
  · have h : V.int i = V.int j := of_decide_eq_true h
    have h : i = j := by injection h
    exact qint k (if_pos h)
  · have h : ¬ i = j := fun q => h (decide_eq_true (show V.int i = V.int j by rw [q]))
    refine ⟨_, rfl, _, _, rfl, rfl, .inr ⟨by decide, by decide⟩, _, rfl, _, _, rfl, rfl, ⟨by omega, by omega⟩, qint k (if_neg h)⟩
abbrev s_reflection : Stmt := (top 91)
theorem sc_reflection : FnScope ["ahead", "share"] ["ahead"] (defScope s_reflection) := ⟨rfl, rfl, rfl, by decide +kernel, rfl, by decide +kernel, by decide +kernel⟩
theorem d_reflection (T : Txt K mg C) : Df P w K mg base "reflection" ["ahead"] 3 (spLI (fun ns => 2 ≤ ns.length ∧ Pv.Ws ns ∧ Pv.sz (Ra26.at_ ns 1) ≤ Ra26.at_ ns 0) Pv.refl) := by
  refine .mk' T.f_reflection sc_reflection (fun _ _ _ _ _ _ us hl => match us, hl with | [_], _ => rfl) (fun vs H Q E h => spLI_len h) fun f cdv A outer s H vs Q E hr h => ?_
  obtain ⟨a, ns, rfl, hl, ⟨h1, hw, h2⟩, k⟩ := h
  refine ⟨_, (pss_cons (ps_set (i := 1) sc_reflection.nd rfl (Or.inl rfl) (pe_fn (d_quotient T) (hr.mono (by decide)) (pa_cons (pe_fn (d_size T) (hr.mono (by decide)) (pa_cons (pe_ix (ix_listK K rfl) (pv 0) pe_int (fun _ _ => rfl)) pa_nil)) (pa_cons (pe_ix (ix_listK K rfl) (pv 0) pe_int (fun _ _ => rfl)) pa_nil))))
      (pss_cons (ps_if (pt_cmpR op_gt (pe_ix (ix_listK K rfl) (pv 0) pe_int (fun _ _ => rfl)) pe_int (nomark _)) (pss_one (ps_ret (pe_un un_neg (pv 1)))) pss_nil)
      (pss_one (ps_ret (pv 1))))), ?_⟩
  have g0 : atI (ns.map V.int) 0 = some (.int (Ra26.at_ ns 0)) := at_tab (ns := ns) (by decide) (by omega)
  have g1 : atI (ns.map V.int) 1 = some (.int (Ra26.at_ ns 1)) := at_tab (ns := ns) (by decide) (by omega)
  have w0 := Pv.Ws_at hw 0
  refine ⟨_, rfl, a, _, _, _, rfl, rfl, hl.sq, g1, _, rfl, trivial, _, rfl, a, _, _, _, rfl, rfl, hl.sq, g0, _, _, rfl, ⟨Pv.sz_nn _, h2, w0.2⟩, ?_⟩
  refine ⟨_, rfl, a, _, _, _, rfl, rfl, hl.sq, g1, _, _, rfl, rfl, _, rfl, ?_⟩
  refine ite2 (fun h => ?_) (fun h => ?_)
  · have h : 0 < Ra26.at_ ns 1 := of_decide_eq_true h
    walk_at "rd"
    exact qint (k H (Same.refl _)) (if_pos h)
  · have h : ¬ 0 < Ra26.at_ ns 1 := fun q => h (decide_eq_true q)
    walk_at "rd"
    exact qint (k H (Same.refl _)) (if_neg h)
def spN (R : List Int → List Int → Int → Prop) (f : List Int → List Int → Int → List Int) : Sp := fun vs H Q _ => ∃ a b ns ms i, vs = [.ref a, .ref b, .int i] ∧ LI H a ns ∧ LI H b ms ∧ R ns ms i ∧ ∀ p H', Same H H' → H p = none → LI H' p (f ns ms i) → Q (.ref p) H'
abbrev s_next_ahead : Stmt := (top 92)
theorem sc_next_ahead : FnScope ["ahead", "behind", "turn", "head", "far", "near", "rest"] ["ahead", "behind", "turn"] (defScope s_next_ahead) := ⟨rfl, rfl, rfl, by decide +kernel, rfl, by decide +kernel, by decide +kernel⟩
theorem d_next_ahead (T : Txt K mg C) : Df P w K mg base "next_ahead" ["ahead", "behind", "turn"] 3 (spN (fun ns ms i => (2 ≤ ns.length ∧ ns.length ≤ 1000) ∧ Pv.W i) Pv.nextA) := by
  refine .mk' T.f_next_ahead sc_next_ahead (fun _ _ _ _ _ _ us hl => match us, hl with | [_, _, _], _ => rfl) (fun vs H Q E h => by obtain ⟨_, _, _, _, _, rfl, _⟩ := h; rfl) fun f cdv A outer s H vs Q E hr h => ?_
  obtain ⟨a, b, ns, ms, i, rfl, hl, hm, ⟨h1, hw⟩, k⟩ := h
  refine ⟨_, (pss_cons (ps_set (i := 3) sc_next_ahead.nd rfl (Or.inl rfl) (pe_lst (pa_cons (pe_fn (d_plus T) (hr.mono (by decide)) (pa_cons (pe_ix (ix_listK K rfl) (pv 0) pe_int (fun _ _ => rfl)) (pa_cons (pe_fn (d_rounded_product T) (hr.mono (by decide)) (pa_cons (pe_ix (ix_listK K rfl) (pv 0) pe_int (fun _ _ => rfl)) (pa_cons (pv 2) pa_nil))) pa_nil))) pa_nil)))
      (pss_cons (ps_setLc (i := 6) rfl sc_next_ahead.nd rfl rfl (sw_true rfl rfl rfl rfl) (own := [("far", 4), ("near", 5)]) (pi_zipS false false T.b_zip (pa_cons (pe_slice (sl_listK K rfl) (pv 0) (po_some pe_int) po_none) (pa_cons (pe_slice (sl_listK K rfl) (pv 1) (po_some pe_int) po_none) pa_nil))) (blkOk_by (by kernel_rfl)) (fun _ _ _ _ _ => (pg_pair K 4 5 rfl rfl sc_next_ahead.nd rfl rfl (Or.inl rfl) (Or.inl rfl) (.inr rfl) (.inr rfl))) (fun _ _ _ _ _ => pts_nil) (fun _ _ _ _ _ => (pe_fn (d_plus T) (hr.mono (by decide)) (pa_cons (pv 4) (pa_cons (pe_fn (d_rounded_product T) (hr.mono (by decide)) (pa_cons (pv 5) (pa_cons (pv 2) pa_nil))) pa_nil)))))
      (pss_one (ps_ret (pe_op op_cat (pv 3) (pv 6)))))), ?_⟩
  have g0 : atI (ns.map V.int) 0 = some (.int (Ra26.at_ ns 0)) := at_tab (ns := ns) (by decide) (by omega)
  have g1 : atI (ns.map V.int) 1 = some (.int (Ra26.at_ ns 1)) := at_tab (ns := ns) (by decide) (by omega)
  refine ⟨_, rfl, a, _, _, _, rfl, rfl, hl.sq, g0, _, rfl, a, _, _, _, rfl, rfl, hl.sq, g1, _, rfl, _, _, rfl, cmulW' hw, _, _, rfl, trivial, by show 1 ≤ sizeLine; decide, fun p hp => ?_⟩
  have s1 : Same H (upd H p (.lst [.int (Ra26.add (Ra26.at_ ns 0) (Ra26.mulR (Ra26.at_ ns 1) i))])) := same_new hp
  have hd1 : LI (upd H p (.lst [.int (Ra26.add (Ra26.at_ ns 0) (Ra26.mulR (Ra26.at_ ns 1) i))])) p [Ra26.add (Ra26.at_ ns 0) (Ra26.mulR (Ra26.at_ ns 1) i)] := upd_same
  generalize upd H p (.lst [.int (Ra26.add (Ra26.at_ ns 0) (Ra26.mulR (Ra26.at_ ns 1) i))]) = H1 at *
  refine ⟨_, rfl, _, rfl, a, _, rfl, (hl.same s1).sq, fun p2 hp2 => ?_⟩
  have s2 : Same H1 (upd H1 p2 (.lst (cutV (ns.map V.int) (some 2) none))) := same_new hp2
  have hd2 : LI (upd H1 p2 (.lst (cutV (ns.map V.int) (some 2) none))) p2 (ns.drop 2) := li_new' (cutF ns 2)
  generalize upd H1 p2 (.lst (cutV (ns.map V.int) (some 2) none)) = H2 at *
  have s02 := s1.trans s2
  refine ⟨_, rfl, _, rfl, b, _, rfl, (hm.same s02).sq, fun p3 hp3 => ?_⟩
  have s3 : Same H2 (upd H2 p3 (.lst (cutV (ms.map V.int) (some 1) none))) := same_new hp3
  have hd3 : LI (upd H2 p3 (.lst (cutV (ms.map V.int) (some 1) none))) p3 (ms.drop 1) := li_new' (cutF ms 1)
  generalize upd H2 p3 (.lst (cutV (ms.map V.int) (some 1) none)) = H3 at *
  have s03 := s02.trans s3
  refine ⟨p2, p3, _, _, rfl, (hd2.same s3).sq, hd3.sq, lcZ (by decide) (fun far near => Ra26.add far (Ra26.mulR near i)) (fun H s => (hd2.same (s3.trans s)).sq) (fun H s => (hd3.same s).sq) (by rw [List.length_drop]; omega) (fun n z y H5 R hz hy s5 hR => ?_) fun D H4 hD s4 e4 => ?_⟩
  · exact ⟨_, rfl, _, rfl, _, rfl, _, _, rfl, cmulW' hw, _, _, rfl, trivial, hR _ (Same.refl _)⟩
  · refine ⟨_, rfl, _, rfl, ?_⟩
    refine cat_at (hd1.same ((s2.trans s3).trans s4)) e4 (by rw [List.length_zipWith, List.length_drop]; show 1 + _ ≤ _; omega) fun q H5 s5 hq e5 => k q H5 ((s03.trans s4).trans s5) ((s03.trans s4).free hq) e5
abbrev s_next_behind : Stmt := (top 93)
theorem sc_next_behind : FnScope ["ahead", "behind", "turn", "head", "far", "near", "rest"] ["ahead", "behind", "turn"] (defScope s_next_behind) := ⟨rfl, rfl, rfl, by decide +kernel, rfl, by decide +kernel, by decide +kernel⟩
theorem d_next_behind (T : Txt K mg C) : Df P w K mg base "next_behind" ["ahead", "behind", "turn"] 3 (spN (fun ns ms i => (1 ≤ ms.length ∧ ns.length ≤ 1000) ∧ Pv.W i) Pv.nextB) := by
  refine .mk' T.f_next_behind sc_next_behind (fun _ _ _ _ _ _ us hl => match us, hl with | [_, _, _], _ => rfl) (fun vs H Q E h => by obtain ⟨_, _, _, _, _, rfl, _⟩ := h; rfl) fun f cdv A outer s H vs Q E hr h => ?_
  obtain ⟨a, b, ns, ms, i, rfl, hl, hm, ⟨h1, hw⟩, k⟩ := h
  refine ⟨_, (pss_cons (ps_set (i := 3) sc_next_behind.nd rfl (Or.inl rfl) (pe_lst (pa_cons (pe_ix (ix_listK K rfl) (pv 1) pe_int (fun _ _ => rfl)) pa_nil)))
      (pss_cons (ps_setLc (i := 6) rfl sc_next_behind.nd rfl rfl (sw_true rfl rfl rfl rfl) (own := [("far", 4), ("near", 5)]) (pi_zipS false false T.b_zip (pa_cons (pe_slice (sl_listK K rfl) (pv 0) (po_some pe_int) po_none) (pa_cons (pe_slice (sl_listK K rfl) (pv 1) (po_some pe_int) po_none) pa_nil))) (blkOk_by (by kernel_rfl)) (fun _ _ _ _ _ => (pg_pair K 4 5 rfl rfl sc_next_behind.nd rfl rfl (Or.inl rfl) (Or.inl rfl) (.inr rfl) (.inr rfl))) (fun _ _ _ _ _ => pts_nil) (fun _ _ _ _ _ => (pe_fn (d_plus T) (hr.mono (by decide)) (pa_cons (pv 5) (pa_cons (pe_fn (d_rounded_product T) (hr.mono (by decide)) (pa_cons (pv 4) (pa_cons (pv 2) pa_nil))) pa_nil)))))
      (pss_one (ps_ret (pe_op op_cat (pv 3) (pv 6)))))), ?_⟩
  have g0 : atI (ms.map V.int) 0 = some (.int (Ra26.at_ ms 0)) := at_tab (ns := ms) (by decide) (by omega)
  refine ⟨_, rfl, b, _, _, _, rfl, rfl, hm.sq, g0, by show 1 ≤ sizeLine; decide, fun p hp => ?_⟩
  have s1 : Same H (upd H p (.lst [.int (Ra26.at_ ms 0)])) := same_new hp
  have hd1 : LI (upd H p (.lst [.int (Ra26.at_ ms 0)])) p [Ra26.at_ ms 0] := upd_same
  generalize upd H p (.lst [.int (Ra26.at_ ms 0)]) = H1 at *
  refine ⟨_, rfl, _, rfl, a, _, rfl, (hl.same s1).sq, fun p2 hp2 => ?_⟩
  have s2 : Same H1 (upd H1 p2 (.lst (cutV (ns.map V.int) (some 2) none))) := same_new hp2
  have hd2 : LI (upd H1 p2 (.lst (cutV (ns.map V.int) (some 2) none))) p2 (ns.drop 2) := li_new' (cutF ns 2)
  generalize upd H1 p2 (.lst (cutV (ns.map V.int) (some 2) none)) = H2 at *
  have s02 := s1.trans s2
  refine ⟨_, rfl, _, rfl, b, _, rfl, (hm.same s02).sq, fun p3 hp3 => ?_⟩
  have s3 : Same H2 (upd H2 p3 (.lst (cutV (ms.map V.int) (some 1) none))) := same_new hp3
  have hd3 : LI (upd H2 p3 (.lst (cutV (ms.map V.int) (some 1) none))) p3 (ms.drop 1) := li_new' (cutF ms 1)
  generalize upd H2 p3 (.lst (cutV (ms.map V.int) (some 1) none)) = H3 at *
  have s03 := s02.trans s3
  refine ⟨p2, p3, _, _, rfl, (hd2.same s3).sq, hd3.sq, lcZ (by decide) (fun far near => Ra26.add near (Ra26.mulR far i)) (fun H s => (hd2.same (s3.trans s)).sq) (fun H s => (hd3.same s).sq) (by rw [List.length_drop]; omega) (fun n z y H5 R hz hy s5 hR => ?_) fun D H4 hD s4 e4 => ?_⟩
  · exact ⟨_, rfl, _, rfl, _, rfl, _, _, rfl, cmulW' hw, _, _, rfl, trivial, hR _ (Same.refl _)⟩
  · refine ⟨_, rfl, _, rfl, ?_⟩
    refine cat_at (hd1.same ((s2.trans s3).trans s4)) e4 (by rw [List.length_zipWith, List.length_drop]; show 1 + _ ≤ _; omega) fun q H5 s5 hq e5 => k q H5 ((s03.trans s4).trans s5) ((s03.trans s4).free hq) e5
abbrev s_scale_shift : Stmt := (top 95)
theorem sc_scale_shift : FnScope ["samples"] ["samples"] (defScope s_scale_shift) := ⟨rfl, rfl, rfl, by decide +kernel, rfl, by decide +kernel, by decide +kernel⟩
theorem d_scale_shift (T : Txt K mg C) : Df P w K mg base "scale_shift" ["samples"] 5 (spLI (fun ns => 0 < ns.length ∧ ns.length ≤ 1000 ∧ Pv.Ws ns) fun ns => (Pv.kOf 4 (Ra26.peak ns) : Nat)) := by
  refine .mk' T.f_scale_shift sc_scale_shift (fun _ _ _ _ _ _ us hl => match us, hl with | [_], _ => rfl) (fun vs H Q E h => spLI_len h) fun f cdv A outer s H vs Q E hr h => ?_
  obtain ⟨a, ns, rfl, hl, hc, k⟩ := h
  refine ⟨_, (pss_one (ps_ret (pe_fn (d_headroom_shift T) (hr.mono (by decide)) (pa_cons (pv 0) (pa_cons (pe_cst T.c_HEADROOM_reflections) pa_nil))))), ?_⟩
  exact ⟨_, rfl, a, ns, 4, rfl, hl, ⟨hc, by decide, by decide⟩, fun H1 s1 => k H1 s1⟩
abbrev s_reflections : Stmt := (top 94)
theorem sc_reflections : FnScope ["sums", "found", "ahead", "behind", "turn", "following"] ["sums"] (defScope s_reflections) := ⟨rfl, rfl, rfl, by decide +kernel, rfl, by decide +kernel, by decide +kernel⟩
theorem d_reflections (T : Txt K mg C) : Df P w K mg base "reflections" ["sums"] 4 (spLL Pv.AcfOk Ra26.reflections) := by
  refine .mk' T.f_reflections sc_reflections (fun _ _ _ _ _ _ us hl => match us, hl with | [_], _ => rfl) (fun vs H Q E h => spLL_len h) fun f cdv A outer s H vs Q E hr h => ?_
  obtain ⟨a, ns, rfl, hl, ok, k⟩ := h
  refine ⟨_, (pss_cons (ps_set (i := 1) sc_reflections.nd rfl (Or.inl rfl) (pe_lst pa_nil))
      (pss_cons (ps_if (pt_cmpR op_ne (pe_ix (ix_listK K rfl) (pv 0) pe_int (fun _ _ => rfl)) pe_int (nomark _)) (pss_cons (ps_set (i := 2) sc_reflections.nd rfl (Or.inl rfl) (pe_fn (d_normed T) (hr.mono (by decide)) (pa_cons (pv 0) pa_nil)))
      (pss_cons (ps_set (i := 3) sc_reflections.nd rfl (Or.inl rfl) (pe_callTy call_list_of (by rfl) T.b_list PyProof.Rows.boot_list (pa_cons (pv 2) pa_nil)))
      (pss_one (ps_while PassesOwn.never (PW.pt (pw_and (pt_cmpR op_lt (pe_callB (len_seqK K rfl) (by rfl) T.b_len PySem.boot_len (pa_cons (pv 1) pa_nil)) (pe_cst T.c_ORDER) (nomark _)) (pw_and1 (pt_cmpR op_ge (pe_ix (ix_listK K rfl) (pv 2) pe_int (fun _ _ => rfl)) (pe_fn (d_size T) (hr.mono (by decide)) (pa_cons (pe_ix (ix_listK K rfl) (pv 2) pe_int (fun _ _ => rfl)) pa_nil)) (nomark _))))) (pss_cons (ps_set (i := 4) sc_reflections.nd rfl (Or.inl rfl) (pe_fn (d_reflection T) (hr.mono (by decide)) (pa_cons (pv 2) pa_nil)))
      (pss_cons (ps_expr (pe_bm PySem.F.plainAttrs_list PySem.F.slot_list_append PySem.F.type_list_append mt_append (pv 1) (pa_cons (pv 4) pa_nil)))
      (pss_cons (ps_set (i := 5) sc_reflections.nd rfl (Or.inl rfl) (pe_fn (d_next_ahead T) (hr.mono (by decide)) (pa_cons (pv 2) (pa_cons (pv 3) (pa_cons (pv 4) pa_nil)))))
      (pss_cons (ps_set (i := 3) sc_reflections.nd rfl (Or.inl rfl) (pe_fn (d_next_behind T) (hr.mono (by decide)) (pa_cons (pv 2) (pa_cons (pv 3) (pa_cons (pv 4) pa_nil)))))
      (pss_one (ps_set (i := 2) sc_reflections.nd rfl (Or.inl rfl) (pv 5))))))))))) pss_nil)
      (pss_one (ps_ret (pe_op op_cat (pv 1) (pe_op op_rep (pe_lst (pa_cons pe_int pa_nil)) (pe_op op_sub (pe_cst T.c_ORDER) (pe_callB (len_seqK K rfl) (by rfl) T.b_len PySem.boot_len (pa_cons (pv 1) pa_nil))))))))), ?_⟩
  have l9 := ok.len
  refine ⟨by show 0 ≤ sizeLine; decide, fun pf hpf => ?_⟩
  have s1 : Same H (upd H pf (.lst [])) := same_new hpf
  have f1 : LI (upd H pf (.lst [])) pf [] := upd_same
  generalize upd H pf (.lst []) = H1 at *
  have g0 : atI (ns.map V.int) 0 = some (.int (Ra26.at_ ns 0)) := at_tab (ns := ns) (by decide) (by rw [l9]; decide)
  have fin : ∀ (F : List Int) (H2 : Hp) (σ : L2.St), F.length ≤ 8 → LI H2 pf F → (∀ b o, H b = some o → H2 b = some o) → σ[1]? = some (some (.ref pf)) → Ra26.reflections ns = F ++ List.replicate (8 - F.length) 0 →
      (tRet (tOp rCat (tVar 1) (tOp rRep (tLst (tCons (tC (V.int 0)) tNil)) (tOp (rI0 fun i j => V.int (i - j)) (tC (V.int 8)) (tCB (fun xs H Q => ∃ p ys, xs = [V.ref p] ∧ (SqL K H p ys ∨ SqT K H p ys) ∧ Q (V.int ys.length) H) (tCons (tVar 1) tNil)))))) { nx := fun x H' => Q V.non H', rt := Q } σ H2 := by
    intro F H2 σ hF hf s2 hs er
    refine ⟨_, hs, by show 1 ≤ sizeLine; decide, fun l0 hl0 => ⟨_, hs, pf, _, rfl, .inl (hf.same (same_new hl0)).sq, _, _, rfl, rfl, ?_⟩⟩
    have e8 : ((8 : Int) - (((F.map V.int).length : Nat) : Int)).toNat = 8 - F.length := by rw [List.length_map]; omega
    refine rep_at hl0 (by rw [List.length_map]; omega) (by omega) fun p H3 s3 hp e3 => ?_
    rw [e8] at e3
    refine cat_at (hf.same s3) e3 (by rw [List.length_replicate]; omega) fun q H4 s4 hq e4 => k q H4 (fun b o e => s4 _ _ (s3 _ _ (s2 _ _ e))) ?_ ?_
    · cases h : H q with
      | none => rfl
      | some o => rw [s3 _ _ (s2 _ _ h)] at hq; cases hq
    · rw [er]; exact e4
  refine ⟨_, rfl, a, _, _, _, rfl, rfl, (hl.same s1).sq, g0, rfl, _, rfl, ?_⟩
  by_cases h0 : Ra26.at_ ns 0 = 0
  · refine iteNS (by rw [h0]) ?_
    exact fin [] H1 _ (by decide) f1 s1 rfl (by rw [Pv.reflections_zero h0]; rfl)
  · have hd : decide (V.int (Ra26.at_ ns 0) = V.int 0) = false := decide_eq_false fun q => h0 (by injection q)
    rw [hd]
    refine iteT ?_
    refine ⟨_, rfl, a, ns, rfl, hl.same s1, ⟨ok, h0⟩, fun pa H2 s2 hpa e2 => ?_⟩
    have npa : pf ≠ pa := ne_of_none f1 hpa
    refine ⟨_, rfl, pa, _, rfl, .inl e2.sq, fun pb hpb => ?_⟩
    have npb : pf ≠ pb := ne_of_none (f1.same s2) hpb
    have s3 : Same H2 (upd H2 pb (.lst ((Pv.normed ns).map V.int))) := same_new hpb
    have e3 : LI (upd H2 pb (.lst ((Pv.normed ns).map V.int))) pb (Pv.normed ns) := upd_same
    generalize upd H2 pb (.lst ((Pv.normed ns).map V.int)) = H3 at *
    have nl : (Pv.normed ns).length = 9 := by rw [Pv.normed_len, l9]
    have nw := Pv.normed_W ok h0
    have re := Pv.reflections_eq h0
    refine ⟨fun m σ H4 => ∃ (F A B : List Int) (qa qb : Addr) (v4 v5 : Option V), σ = [some (.ref a), some (.ref pf), some (.ref qa), some (.ref qb), v4, v5] ∧ F.length + m = 8 ∧ LI H4 pf F ∧ LI H4 qa A ∧ LI H4 qb B ∧ pf ≠ qa ∧ pf ≠ qb ∧
      (∀ b o, H b = some o → H4 b = some o) ∧ A.length = m + 1 ∧ B.length = m + 1 ∧ Pv.Ws A ∧ Ra26.reflections ns = F ++ Ra26.schur m A B, ⟨8, [], _, _, pa, pb, none, none, rfl, rfl, f1.same (s2.trans s3), e2.same s3, e3, npa, npb, fun b o e => s3 _ _ (s2 _ _ (s1 _ _ e)), nl, nl, nw, re⟩, ?_⟩
    rintro m σ H4 ⟨F, A', B', qa, qb, v4, v5, rfl, hm, hf, ha, hb, na, nb, sm, la, lb, wa, er⟩
    refine ⟨_, rfl, pf, _, rfl, .inl hf.sq, _, _, rfl, rfl, _, rfl, ?_⟩
    refine ite2 (fun q => ?_) (fun q => ?_)
    · have q : (((F.map V.int).length : Nat) : Int) < 8 := of_decide_eq_true q
      rw [List.length_map] at q
      obtain ⟨m, rfl⟩ : ∃ m', m = m' + 1 := ⟨m - 1, by omega⟩
      have c0 : atI (A'.map V.int) 0 = some (.int (Ra26.at_ A' 0)) := at_tab (ns := A') (by decide) (by omega)
      have c1 : atI (A'.map V.int) 1 = some (.int (Ra26.at_ A' 1)) := at_tab (ns := A') (by decide) (by omega)
      refine ⟨_, rfl, qa, _, _, _, rfl, rfl, ha.sq, c0, _, rfl, qa, _, _, _, rfl, rfl, ha.sq, c1, _, rfl, trivial, _, _, rfl, rfl, _, rfl, ?_⟩
      refine ite2 (fun z => ?_) (fun z => ?_)
      · have z : Pv.sz (Ra26.at_ A' 1) ≤ Ra26.at_ A' 0 := of_decide_eq_true z
        refine ⟨fun σ' H' => ∃ m', m' < m + 1 ∧ ∃ (F A B : List Int) (qa qb : Addr) (v4 v5 : Option V), σ' = [some (.ref a), some (.ref pf), some (.ref qa), some (.ref qb), v4, v5] ∧ F.length + m' = 8 ∧ LI H' pf F ∧ LI H' qa A ∧ LI H' qb B ∧ pf ≠ qa ∧ pf ≠ qb ∧
          (∀ b o, H b = some o → H' b = some o) ∧ A.length = m' + 1 ∧ B.length = m' + 1 ∧ Pv.Ws A ∧ Ra26.reflections ns = F ++ Ra26.schur m' A B, fun _ _ h => h, ?_⟩
        refine ⟨_, rfl, qa, A', rfl, ha, ⟨by omega, wa, z⟩, fun H5 s5 => ?_⟩
        refine ⟨_, rfl, .inl ⟨rfl, _, (hf.same s5).sq⟩, _, rfl, pf, _, _, rfl, rfl, hf.same s5, by rw [List.length_map]; exact small_line (by omega), ?_⟩
        have f6 : LI (upd H5 pf (.lst (F.map V.int ++ [V.int (Pv.refl A')]))) pf (F ++ [Pv.refl A']) := li_new' (by rw [List.map_append]; rfl)
        have s6 : ∀ b o, b ≠ pf → H5 b = some o → (upd H5 pf (.lst (F.map V.int ++ [V.int (Pv.refl A')]))) b = some o := fun b o nb e => by rw [upd_ne nb]; exact e
        generalize upd H5 pf (.lst (F.map V.int ++ [V.int (Pv.refl A')])) = H6 at *
        have wr := Pv.refl_W z
        refine ⟨_, rfl, _, rfl, _, rfl, qa, qb, A', B', _, rfl, s6 _ _ na.symm (ha.same s5), s6 _ _ nb.symm (hb.same s5), ⟨⟨by omega, by omega⟩, wr⟩, fun p7 H7 s7 hp7 e7 => ?_⟩
        refine ⟨_, rfl, _, rfl, _, rfl, qa, qb, A', B', _, rfl, s7 _ _ (s6 _ _ na.symm (ha.same s5)), s7 _ _ (s6 _ _ nb.symm (hb.same s5)), ⟨⟨by omega, by omega⟩, wr⟩, fun p8 H8 s8 hp8 e8 => ?_⟩
        refine ⟨_, rfl, m, Nat.lt_succ_self m, F ++ [Pv.refl A'], _, _, p7, p8, _, _, rfl, by rw [List.length_append]; show F.length + 1 + m = 8; omega, f6.same (s7.trans s8), e7.same s8, e8, ne_of_none f6 hp7, ne_of_none (f6.same s7) hp8, fun b o e => s8 _ _ (s7 _ _ (s6 _ _ (fun zz => by rw [zz, hpf] at e; cases e) (s5 _ _ (sm _ _ e)))), Pv.nextA_len _ (by omega) (by omega), Pv.nextB_len _ (by omega) (by omega), Pv.nextA_W _ _ _, ?_⟩
        rw [er, Pv.schur_step (by omega) (by omega) (Pv.Ws_at wa 1) z, List.append_assoc]
        rfl
      · have z : ¬ Pv.sz (Ra26.at_ A' 1) ≤ Ra26.at_ A' 0 := fun q => z (decide_eq_true q)
        refine fin F H4 _ (by omega) hf sm rfl ?_
        rw [er, Pv.schur_stop (Pv.Ws_at wa 1) (by simp only [Ra26.N] at *; omega)]
        congr 2; omega
    · have q : ¬ (((F.map V.int).length : Nat) : Int) < 8 := fun z => q (decide_eq_true z)
      rw [List.length_map] at q
      have m0 : m = 0 := by omega
      subst m0
      refine fin F H4 _ (by omega) hf sm rfl ?_
      rw [er]
      have : 8 - F.length = 0 := by omega
      rw [this]; rfl
end Px
namespace Px
open PySem PySem.Spec PyProof.Rows L2
local macro_rules | `(tactic| walk_at "rd") => `(tactic| repeat (first | refine ⟨_, rfl, ?_⟩ | refine ⟨_, _, rfl, rfl, ?_⟩ | refine ⟨_, _, rfl, ?_⟩ | refine ⟨rfl, ?_⟩ | refine ⟨trivial, ?_⟩ | refine ⟨(show (0 : Int) ≤ _ by decide), ?_⟩ | refine ⟨Or.inl ⟨by decide, by decide⟩, ?_⟩ | refine ⟨Or.inr ⟨by decide, by decide⟩, ?_⟩))
variable {P : Program} {w : World} {K : PySem.W.Frag} {mg : Str → Option Value} {base : Heap} {C : Ad}
/-- the widths as values -/
def wdV : List V := Pv.WD.map fun (n : Nat) => V.int (n : Int)
def spW : Sp := fun vs H Q _ => vs = [] ∧ ∀ p H', Same H H' → H p = none → H' p = some (.tup wdV) → Q (.ref p) H'
abbrev s_widths : Stmt := (top 59)
theorem sc_widths : FnScope [] [] (defScope s_widths) := ⟨rfl, rfl, rfl, by decide +kernel, rfl, by decide +kernel, by decide +kernel⟩
theorem d_widths (T : Txt K mg C) : Df P w K mg base "widths" [] 1 spW := by
  refine .mk' T.f_widths sc_widths (fun _ _ _ _ _ _ us hl => match us, hl with | [], _ => rfl) (fun vs H Q E h => by obtain ⟨rfl, _⟩ := h; rfl) fun f cdv A outer s H vs Q E hr h => ?_
  obtain ⟨rfl, k⟩ := h
  refine ⟨_, (pss_one (ps_ret (pe_op op_catT (pe_tupK K rfl T.t_SPECTRUM_WIDTHS) (pe_op op_repT (pe_tupK K rfl T.t_QUARTER_WIDTHS) (pe_cst T.c_QUARTERS))))), ?_⟩
  intro t1 g1 t2 g2
  refine ⟨t2, _, rfl, rfl, g2 H, rfl, fun q hq => ?_⟩
  refine ⟨t1, q, _, _, rfl, rfl, g1 _, SqT.of upd_same, by simp, by decide, fun z => absurd z (by simp [List.replicate]), fun _ p hp => ?_⟩
  refine k p _ ((same_new hq).trans (same_new hp)) ((same_new hq).free hp) ?_
  rw [upd_same]
  rfl
theorem lc_rC {lo c : Int} {n : Nat} {g : TG} {tt : TT} {te : TE} {vs : List Nat} {σ : L2.St} {H1 : Hp} {D : Addr} {Qd : Hp → Prop} (Pv : Nat → Hp → Prop) (h0 : Pv 0 (upd H1 D (.lst [])))
    (hs : ∀ i H, i < n → Pv i H → g (.int (lo + (i : Nat) * c)) (wipe σ vs) H fun σ2 H2 => wipe σ2 vs = wipe σ vs ∧ tt σ2 H2 fun b H3 =>
      if b = true then te σ2 H3 fun y H4 => ∃ acc, H4 D = some (.lst acc) ∧ acc.length < sizeLine ∧ Pv (i + 1) (upd H4 D (.lst (acc ++ [y]))) else Pv (i + 1) H3) (hd : ∀ H, Pv n H → Qd H) :
    ∃ W : Nat → Nat → Hp → Prop, (∃ m, W 0 m (upd H1 D (.lst []))) ∧ ∀ i m H, W i m H →
      ((Itc lo c n).stop i H ∧ Qd H) ∨ ((Itc lo c n).go i H ∧ ∃ Nx : Hp → Prop, (∀ H', Nx H' → ∃ m', m' < m ∧ W (i + 1) m' H') ∧ ∀ x H', (Itc lo c n).yld i H x H' → g x (wipe σ vs) H' fun σ2 H2 => wipe σ2 vs = wipe σ vs ∧ tt σ2 H2 fun b H3 =>
        if b = true then te σ2 H3 fun y H4 => ∃ acc, H4 D = some (.lst acc) ∧ acc.length < sizeLine ∧ Nx (upd H4 D (.lst (acc ++ [y]))) else Nx H3) := by
  refine ⟨fun i m H => m = n - i ∧ i ≤ n ∧ Pv i H, ⟨n, by simp, Nat.zero_le _, h0⟩, ?_⟩
  rintro i m H ⟨rfl, hi, p⟩
  by_cases hlt : i < n
  · refine .inr ⟨hlt, Pv (i + 1), fun H' p' => ⟨n - (i + 1), by omega, rfl, hlt, p'⟩, fun x H' y => ?_⟩
    obtain ⟨e, y⟩ := y
    subst e y
    exact hs i _ hlt p
  · have e : i = n := by omega
    subst e
    exact .inl ⟨Nat.le_refl _, hd H p⟩
theorem natAbs_lt {z : Int} {n : Nat} (h0 : 0 ≤ z) (h : z < 2 ^ n) : z.natAbs < 2 ^ n := by
  have e : ((2 ^ n : Nat) : Int) = 2 ^ n := Pv.natPow n
  omega
def stepW (x : Int) (p : Nat × Int) : Int := x * 2 ^ p.1 + p.2
theorem wd_len : Pv.WD.length = 76 := by decide
theorem wd_le : ∀ x ∈ Pv.WD, x ≤ 7 := by decide
abbrev s_packed : Stmt := (top 60)
theorem sc_packed : FnScope ["codes", "whole", "width", "code", "shift"] ["codes"] (defScope s_packed) := ⟨rfl, rfl, rfl, by decide +kernel, rfl, by decide +kernel, by decide +kernel⟩
theorem d_packed (T : Txt K mg C) : Df P w K mg base "packed" ["codes"] 2 (spLL (fun ns => ns.length = 76 ∧ Pv.Fits Pv.WD ns) fun ns => (List.range 33).map fun i => Pv.wholeOf Pv.WD ns 13 / 2 ^ (256 - 8 * i) % 256) := by
  refine .mk' T.f_packed sc_packed (fun _ _ _ _ _ _ us hl => match us, hl with | [_], _ => rfl) (fun vs H Q E h => spLL_len h) fun f cdv A outer s H vs Q E hr h => ?_
  obtain ⟨a, ns, rfl, hl, ⟨h1, hf⟩, k⟩ := h
  refine ⟨_, (pss_cons (ps_set (i := 1) sc_packed.nd rfl (Or.inr rfl) (pe_cst T.c_MARK))
      (pss_cons (ps_for PassesOwn.never rfl (pi_zipS true false T.b_zip (pa_cons (pe_fn0 (d_widths T) (hr.mono (by decide))) (pa_cons (pv 0) pa_nil))) (pg_pair K 2 3 rfl rfl sc_packed.nd rfl rfl (Or.inl rfl) (Or.inl rfl) (.inl rfl) (.inl rfl)) (pss_one (ps_set (i := 1) sc_packed.nd rfl (Or.inr rfl) (pe_op op_or (pe_op op_shlB (pv 1) (pv 2)) (pv 3)))))
      (pss_one (ps_ret (pe_lc (own := [("shift", 4)]) rfl sc_packed.nd (pi_range3 rfl T.b_range (pa_cons (pe_op op_sub (pe_cst T.c_BITS_BEHIND_MARK) pe_int) (pa_cons (pe_un un_neg pe_int) (pa_cons (pe_un un_neg pe_int) pa_nil)))) (blkOk_by (by kernel_rfl)) (fun _ _ _ _ _ => (pg_name (i := 4) sc_packed.nd rfl (Or.inl rfl))) (fun _ _ _ _ _ => pts_nil) (fun _ _ _ _ _ => (pe_op op_and (pe_op op_shr (pv 1) (pv 4)) pe_int))))))), ?_⟩
  refine ⟨rfl, fun pt H1 s1 hpt ept => ⟨_, rfl, pt, a, wdV, _, rfl, SqT.of ept, (hl.same s1).sq, ?_⟩⟩
  have zl : (Pv.WD.zip ns).length = 76 := by rw [List.length_zip, wd_len, h1]; rfl
  refine for_zip (fun i σ H2 => ∃ v2 v3, Same H1 H2 ∧ σ = [some (.ref a), some (.int (((Pv.WD.zip ns).take i).foldl stepW 13)), v2, v3, none] ∧ 0 ≤ ((Pv.WD.zip ns).take i).foldl stepW 13 ∧ ((Pv.WD.zip ns).take i).foldl stepW 13 < 2 ^ (4 + 7 * i)) ⟨none, none, Same.refl _, rfl, (by show (0 : Int) ≤ 13; decide), (by show (13 : Int) < 2 ^ 4; decide)⟩ (fun i σ H2 _ ⟨_, _, s2, _⟩ => ⟨SqT.of (s2 _ _ ept), (hl.same (s1.trans s2)).sq⟩) ?_ ?_
  · rintro i x y Tt σ H2 hx hy ⟨v2, v3, s2, rfl, p0, p1⟩ hT
    refine g2 ?_
    have hi : i < 76 := by have := (List.getElem?_eq_some_iff.mp hy).1; rw [List.length_map] at this; omega
    have gz : (Pv.WD.zip ns)[i]? = some ((Pv.WD.zip ns)[i]'(by omega)) := List.getElem?_eq_getElem (by omega)
    have wd : Pv.WD[i]? = some (Pv.WD[i]'(by rw [wd_len]; omega)) := List.getElem?_eq_getElem _
    have nd : ns[i]? = some (ns[i]'(by omega)) := List.getElem?_eq_getElem _
    have ez : (Pv.WD.zip ns)[i]'(by omega) = (Pv.WD[i]'(by rw [wd_len]; omega), ns[i]'(by omega)) := List.getElem_zip
    generalize hwi : Pv.WD[i]'(by rw [wd_len]; omega) = wi at *
    generalize hci : ns[i]'(by omega) = ci at *
    have fit := hf (wi, ci) (by rw [← ez]; exact List.getElem_mem _)
    have w7 : wi ≤ 7 := wd_le wi (by rw [← hwi]; exact List.getElem_mem _)
    unfold wdV at hx
    rw [List.getElem?_map, wd] at hx
    rw [List.getElem?_map, nd] at hy
    have hx : V.int (wi : Int) = x := Option.some.inj hx
    have hy : V.int ci = y := Option.some.inj hy
    subst hx hy
    have et : ((Pv.WD.zip ns).take (i + 1)).foldl stepW 13 = ((Pv.WD.zip ns).take i).foldl stepW 13 * 2 ^ wi + ci := by
      rw [List.take_add_one, gz, ez, List.foldl_append]
      rfl
    generalize ((Pv.WD.zip ns).take i).foldl stepW 13 = W at *
    obtain ⟨f0, f1⟩ := fit
    have f0 : 0 ≤ ci := f0
    have f1 : ci < 2 ^ wi := f1
    have nn : ((wi : Nat) : Int).toNat = wi := Int.toNat_natCast _
    refine ⟨_, rfl, _, rfl, _, _, rfl, rfl, CSh.of (n := 536) (natAbs_lt p0 (Int.lt_of_lt_of_le p1 ?_)) (by omega) (by omega), _, rfl, _, _, rfl, rfl, ?_⟩
    · have e1 : ((2 ^ (4 + 7 * i) : Nat) : Int) = 2 ^ (4 + 7 * i) := Pv.natPow _
      have e2 : ((2 ^ 536 : Nat) : Int) = 2 ^ 536 := Pv.natPow _
      rw [← e1, ← e2]
      exact Int.ofNat_le.mpr (Nat.pow_le_pow_right (by decide) (by omega))
    · have ev : Builtin.bitOr (W * 2 ^ ((wi : Nat) : Int).toNat) ci = ((Pv.WD.zip ns).take (i + 1)).foldl stepW 13 := by
        rw [nn, Bits.bitOr_join' f0 f1 p0, et, Int.add_comm]
      refine ⟨some (.int wi), some (.int ci), s2.trans (same_new hT), ?_, ?_, ?_⟩
      · rw [← ev]; rfl
      · rw [et]
        have := Int.mul_nonneg p0 (Int.le_of_lt (Pv.tp wi))
        omega
      · rw [et]
        have e3 : (2 : Int) ^ (4 + 7 * (i + 1)) = 2 ^ (4 + 7 * i) * 2 ^ 7 := by
          rw [← Int.pow_add, Nat.mul_succ, Nat.add_assoc]
        have q1 : (W + 1) * 2 ^ wi ≤ 2 ^ (4 + 7 * i) * 2 ^ wi := Int.mul_le_mul_of_nonneg_right (by omega) (Int.le_of_lt (Pv.tp wi))
        have q2 : (2 : Int) ^ wi ≤ 2 ^ 7 := by
          have e4 : ((2 ^ wi : Nat) : Int) = 2 ^ wi := Pv.natPow _
          have e5 : ((2 ^ 7 : Nat) : Int) = 2 ^ 7 := Pv.natPow _
          rw [← e4, ← e5]
          exact Int.ofNat_le.mpr (Nat.pow_le_pow_right (by decide) w7)
        have q3 : (2 : Int) ^ (4 + 7 * i) * 2 ^ wi ≤ 2 ^ (4 + 7 * i) * 2 ^ 7 := Int.mul_le_mul_of_nonneg_left q2 (Int.le_of_lt (Pv.tp _))
        rw [Int.add_mul, Int.one_mul] at q1
        rw [e3]
        generalize W * 2 ^ wi = A1 at *
        generalize (2 : Int) ^ (4 + 7 * i) * 2 ^ 7 = A2 at *
        generalize (2 : Int) ^ (4 + 7 * i) * 2 ^ wi = A3 at *
        generalize (2 : Int) ^ wi = A4 at *
        omega
  · rintro σ H2 ⟨v2, v3, s2, rfl, p0, p1⟩
    have e76 : min wdV.length (ns.map V.int).length = 76 := by
      unfold wdV
      rw [List.length_map, List.length_map, wd_len, h1]; rfl
    rw [e76] at p0 p1 ⊢
    have ew : ((Pv.WD.zip ns).take 76).foldl stepW 13 = Pv.wholeOf Pv.WD ns 13 := by
      rw [List.take_of_length_le (by omega)]
      rfl
    rw [ew] at p0 p1 ⊢
    generalize hW : Pv.wholeOf Pv.WD ns 13 = W at p0 p1 ⊢
    have s02 := s1.trans s2
    refine ⟨_, _, rfl, rfl, _, rfl, _, rfl, 256, -1, -8, 33, rfl, ⟨by decide, by decide, by decide, by decide⟩, lcC (n := 33) (fun i => W / 2 ^ (256 - 8 * i) % 256) (by decide) (fun i H3 R hi s3 hR => ?_) fun D H3 hD s3 e3 => k D H3 (s02.trans s3) (s02.free hD) (by rw [← hW] at e3; exact e3)⟩
    have en : ((256 : Int) + (i : Nat) * (-8)).toNat = 256 - 8 * i := by omega
    refine ⟨_, rfl, _, rfl, _, _, rfl, rfl, (by show (0 : Int) ≤ 256 + (i : Nat) * (-8); omega), _, _, rfl, rfl, qint (hR H3 (Same.refl _)) ?_⟩
    show W / 2 ^ (256 - 8 * i) % 256 = Builtin.bitAnd (W / 2 ^ ((256 : Int) + (i : Nat) * (-8)).toNat) 255
    rw [en, bitAnd_m8]
def spM (R : List Int → Prop) (f : List Int → Bool) : Sp := fun vs H Q _ => ∃ a ns, vs = [.ref a] ∧ LI H a ns ∧ R ns ∧ Q (.bl (f ns)) H
abbrev s_is_marked : Stmt := (top 61)
theorem sc_is_marked : FnScope ["data"] ["data"] (defScope s_is_marked) := ⟨rfl, rfl, rfl, by decide +kernel, rfl, by decide +kernel, by decide +kernel⟩
theorem d_is_marked (T : Txt K mg C) : Df P w K mg base "is_marked" ["data"] 1 (spM (fun ns => 0 < ns.length) fun ns => decide (Ra26.at_ ns 0 / 16 = 13)) := by
  refine .mk' T.f_is_marked sc_is_marked (fun _ _ _ _ _ _ us hl => match us, hl with | [_], _ => rfl) (fun vs H Q E h => by obtain ⟨_, _, rfl, _⟩ := h; rfl) fun f cdv A outer s H vs Q E hr h => ?_
  obtain ⟨a, ns, rfl, hl, h1, k⟩ := h
  refine ⟨_, (pss_one (ps_ret (pe_cmpR op_eq (pe_op op_shr (pe_ix (ix_listK K rfl) (pv 0) pe_int (fun _ _ => rfl)) pe_int) (pe_cst T.c_MARK) (nomark _)))), ?_⟩
  refine ⟨_, rfl, a, _, _, _, rfl, rfl, hl.sq, at_tab (ns := ns) (by decide) (by omega), _, _, rfl, rfl, (show (0 : Int) ≤ 4 by decide), rfl, ?_⟩
  have e : decide (V.int (Ra26.at_ ns 0 / 16) = V.int 13) = decide (Ra26.at_ ns 0 / 16 = 13) := by
    by_cases q : Ra26.at_ ns 0 / 16 = 13
    · rw [decide_eq_true q, decide_eq_true (by rw [q])]
    · rw [decide_eq_false q, decide_eq_false (fun z => q (by injection z))]
  show Q (.bl (decide (V.int (Ra26.at_ ns 0 / 16) = V.int 13))) H
  rw [e]; exact k
def wholeB (ns : List Int) : Int := ns.foldl (fun a x => a * 256 + x) 0
theorem unp_snoc (W : Int) (x : Nat) : ∀ (ws : List Nat) (left : Nat), Pv.unp W (ws ++ [x]) left = Pv.unp W ws left ++ [W / 2 ^ (left - (ws.sum + x)) % 2 ^ x]
  | [], left => by simp [Pv.unp]
  | v :: ws, left => by
    show W / 2 ^ (left - v) % 2 ^ v :: Pv.unp W (ws ++ [x]) (left - v) = _
    rw [unp_snoc W x ws (left - v), List.sum_cons, Nat.sub_sub, ← Nat.add_assoc]
    rfl
theorem wd_sum (i : Nat) (h : i ≤ 76) : (Pv.WD.take i).sum ≤ 260 := by
  have h1 : (Pv.WD.take i).sum + (Pv.WD.drop i).sum = Pv.WD.sum := by rw [← List.sum_append, List.take_append_drop]
  have h2 : Pv.WD.sum = 260 := by decide
  omega
abbrev s_unpacked : Stmt := (top 62)
theorem sc_unpacked : FnScope ["data", "whole", "byte", "codes", "left", "width"] ["data"] (defScope s_unpacked) := ⟨rfl, rfl, rfl, by decide +kernel, rfl, by decide +kernel, by decide +kernel⟩
theorem d_unpacked (T : Txt K mg C) : Df P w K mg base "unpacked" ["data"] 2 (spLL (fun ns => ns.length = 33 ∧ ∀ x ∈ ns, 0 ≤ x ∧ x < 256) fun ns => Pv.unp (wholeB ns) Pv.WD 260) := by
  refine .mk' T.f_unpacked sc_unpacked (fun _ _ _ _ _ _ us hl => match us, hl with | [_], _ => rfl) (fun vs H Q E h => spLL_len h) fun f cdv A outer s H vs Q E hr h => ?_
  obtain ⟨a, ns, rfl, hl, ⟨h1, hb⟩, k⟩ := h
  refine ⟨_, (pss_cons (ps_set (i := 1) sc_unpacked.nd rfl (Or.inl rfl) pe_int)
      (pss_cons (ps_for PassesOwn.never rfl (pi_list (pv 0)) (pg_name (i := 2) sc_unpacked.nd rfl (Or.inl rfl)) (pss_one (ps_set (i := 1) sc_unpacked.nd rfl (Or.inl rfl) (pe_op op_or (pe_op op_shlB (pv 1) pe_int) (pv 2)))))
      (pss_cons (ps_set (i := 3) sc_unpacked.nd rfl (Or.inl rfl) (pe_lst pa_nil))
      (pss_cons (ps_set (i := 4) sc_unpacked.nd rfl (Or.inl rfl) (pe_cst T.c_BITS_BEHIND_MARK))
      (pss_cons (ps_for PassesOwn.never rfl (pi_tup (pe_fn0 (d_widths T) (hr.mono (by decide)))) (pg_name (i := 5) sc_unpacked.nd rfl (Or.inl rfl)) (pss_cons (ps_aug (i := 4) sc_unpacked.nd rfl (Or.inl rfl) (pv 5) ip_sub)
      (pss_one (ps_expr (pe_bm PySem.F.plainAttrs_list PySem.F.slot_list_append PySem.F.type_list_append mt_append (pv 3) (pa_cons (pe_op op_and (pe_op op_shr (pv 1) (pv 4)) (pe_op op_sub (pe_op op_shlB pe_int (pv 5)) pe_int)) pa_nil))))))
      (pss_one (ps_ret (pv 3)))))))), ?_⟩
  refine ⟨_, rfl, a, rfl, ⟨_, hl.sq⟩, ?_⟩
  refine for_list (xs := ns.map V.int) (fun i σ H2 => ∃ v2, H2 = H ∧ σ = [some (.ref a), some (.int (wholeB (ns.take i))), v2, none, none, none] ∧ 0 ≤ wholeB (ns.take i) ∧ wholeB (ns.take i) < 2 ^ (8 * i)) ⟨none, rfl, rfl, (by show (0 : Int) ≤ 0; decide), (by show (0 : Int) < 1; decide)⟩ (fun i σ H2 _ ⟨_, e, _⟩ => by rw [e]; exact hl.sq) ?_ ?_
  · rintro i x σ H2 hx ⟨v2, rfl, rfl, p0, p1⟩
    have hi : i < 33 := by have := (List.getElem?_eq_some_iff.mp hx).1; rw [List.length_map] at this; omega
    have nd : ns[i]? = some (ns[i]'(by omega)) := List.getElem?_eq_getElem _
    rw [List.getElem?_map, nd] at hx
    have hx : V.int (ns[i]'(by omega)) = x := Option.some.inj hx
    subst hx
    have bb := hb (ns[i]'(by omega)) (List.getElem_mem _)
    have et : wholeB (ns.take (i + 1)) = wholeB (ns.take i) * 256 + ns[i]'(by omega) := by
      unfold wholeB
      rw [List.take_add_one, nd, List.foldl_append]
      rfl
    generalize ns[i]'(by omega) = ci at *
    generalize wholeB (ns.take i) = W at *
    have e8 : (2 : Int) ^ (8 : Int).toNat = 256 := by decide
    refine ⟨_, rfl, _, _, rfl, rfl, CSh.of (n := 264) (natAbs_lt p0 (Int.lt_of_lt_of_le p1 ?_)) (by decide) (by decide), _, rfl, _, _, rfl, rfl, ?_⟩
    · have e1 : ((2 ^ (8 * i) : Nat) : Int) = 2 ^ (8 * i) := Pv.natPow _
      have e2 : ((2 ^ 264 : Nat) : Int) = 2 ^ 264 := Pv.natPow _
      rw [← e1, ← e2]
      exact Int.ofNat_le.mpr (Nat.pow_le_pow_right (by decide) (by omega))
    · have ev : Builtin.bitOr (W * 2 ^ (8 : Int).toNat) ci = wholeB (ns.take (i + 1)) := by
        rw [show (8 : Int).toNat = 8 from rfl, Bits.bitOr_join' bb.1 (by show ci < 256; omega) p0, et, Int.add_comm]
        rfl
      refine ⟨some (.int ci), rfl, ?_, ?_, ?_⟩
      · rw [← ev]; rfl
      · rw [et]; omega
      · rw [et, Nat.mul_succ, Int.pow_add]
        show W * 256 + ci < 2 ^ (8 * i) * 256
        omega
  · rintro σ H2 ⟨v2, rfl, rfl, p0, p1⟩
    rw [List.length_map, h1] at p0 p1 ⊢
    rw [List.take_of_length_le (by omega)] at p0 p1 ⊢
    generalize hW : wholeB ns = W at p0 p1 ⊢
    refine ⟨by show 0 ≤ sizeLine; decide, fun pc hpc => ?_⟩
    have s1 : Same H2 (upd H2 pc (.lst [])) := same_new hpc
    have e1 : LI (upd H2 pc (.lst [])) pc [] := upd_same
    generalize upd H2 pc (.lst []) = H3 at *
    refine ⟨rfl, fun pt H4 s4 hpt ept => ⟨pt, rfl, ⟨_, SqT.of ept⟩, ?_⟩⟩
    refine for_tup (xs := wdV) (fun i σ H5 => ∃ v5, (∀ b o, H2 b = some o → H5 b = some o) ∧ H5 pt = some (.tup wdV) ∧ LI H5 pc (Pv.unp W (Pv.WD.take i) 260) ∧ (Pv.unp W (Pv.WD.take i) 260).length ≤ i ∧ σ = [some (.ref a), some (.int W), v2, some (.ref pc), some (.int ((260 - (Pv.WD.take i).sum : Nat) : Int)), v5]) ⟨none, fun b o e => s4 _ _ (s1 _ _ e), ept, e1.same s4, Nat.le_refl _, rfl⟩ (fun i σ H5 _ ⟨_, _, e, _⟩ => SqT.of e) ?_ ?_
    · rintro i x σ H5 hx ⟨v5, s5, et, ec, ln, rfl⟩
      have hi : i < 76 := by have := (List.getElem?_eq_some_iff.mp hx).1; unfold wdV at this; rw [List.length_map, wd_len] at this; exact this
      have wd : Pv.WD[i]? = some (Pv.WD[i]'(by rw [wd_len]; omega)) := List.getElem?_eq_getElem _
      have tk : Pv.WD.take (i + 1) = Pv.WD.take i ++ [Pv.WD[i]'(by rw [wd_len]; omega)] := by rw [List.take_add_one, wd]; rfl
      have sm := wd_sum (i + 1) (by omega)
      have w7 : Pv.WD[i]'(by rw [wd_len]; omega) ≤ 7 := wd_le _ (List.getElem_mem _)
      unfold wdV at hx
      rw [List.getElem?_map, wd] at hx
      have hx : V.int ((Pv.WD[i]'(by rw [wd_len]; omega) : Nat) : Int) = x := Option.some.inj hx
      subst hx
      generalize Pv.WD[i]'(by rw [wd_len]; omega) = wi at *
      have us := unp_snoc W wi (Pv.WD.take i) 260
      rw [← tk] at us
      rw [tk, List.sum_append] at sm
      have sm : (Pv.WD.take i).sum + wi ≤ 260 := by simpa using sm
      have sumE : (Pv.WD.take (i + 1)).sum = (Pv.WD.take i).sum + wi := by rw [tk, List.sum_append]; simp
      generalize (Pv.WD.take i).sum = S at *
      generalize Pv.unp W (Pv.WD.take i) 260 = U at *
      have el : (((260 - S : Nat) : Int) - (wi : Int)).toNat = 260 - (S + wi) := by omega
      have npc : pt ≠ pc := fun z => by rw [z] at et; rw [show H5 pc = _ from ec] at et; cases et
      refine ⟨_, rfl, _, rfl, _, _, rfl, rfl, ?_⟩
      refine ⟨_, rfl, .inl ⟨rfl, _, ec.sq⟩, ?_⟩
      refine ⟨_, rfl, _, rfl, _, _, rfl, rfl, (by show (0 : Int) ≤ ((260 - S : Nat) : Int) - (wi : Int); omega), _, rfl, _, _, rfl, rfl, CSh.small (by decide) (by omega) (by omega), _, _, rfl, rfl, _, _, rfl, rfl, pc, _, _, rfl, rfl, ec, by rw [List.length_map]; exact small_line (by omega), ?_⟩
      have ev : Builtin.bitAnd (W / 2 ^ (((260 - S : Nat) : Int) - (wi : Int)).toNat) (1 * 2 ^ ((wi : Nat) : Int).toNat - 1) = W / 2 ^ (260 - (S + wi)) % 2 ^ wi := by
        rw [el, Int.toNat_natCast, Int.one_mul, Bits.bitAnd_mask wi (Int.ediv_nonneg p0 (Int.le_of_lt (Pv.tp _)))]
      refine ⟨some (.int (wi : Nat)), fun b o e => ?_, ?_, ?_, ?_, ?_⟩
      · rw [upd_ne (fun z => by rw [z, hpc] at e; cases e)]; exact s5 _ _ e
      · rw [upd_ne npc]; exact et
      · refine li_new' ?_
        rw [us, List.map_append]
        show U.map V.int ++ [V.int (Builtin.bitAnd (W / 2 ^ (((260 - S : Nat) : Int) - (wi : Int)).toNat) (1 * 2 ^ ((wi : Nat) : Int).toNat - 1))] = _
        rw [ev]; rfl
      · rw [us, List.length_append]; show U.length + 1 ≤ _; omega
      · rw [sumE]
        have e9 : ((260 - S : Nat) : Int) - (wi : Int) = ((260 - (S + wi) : Nat) : Int) := by omega
        rw [← e9]; rfl
    · rintro σ H5 ⟨v5, s5, et, ec, ln, rfl⟩
      have e76 : wdV.length = 76 := by unfold wdV; rw [List.length_map, wd_len]
      rw [e76, List.take_of_length_le (by rw [wd_len]; exact Nat.le_refl _)] at ec
      rw [← hW] at ec
      exact ⟨_, rfl, k pc H5 s5 hpc ec⟩
abbrev s_spectrum_part : Stmt := (top 63)
theorem sc_spectrum_part : FnScope ["codes"] ["codes"] (defScope s_spectrum_part) := ⟨rfl, rfl, rfl, by decide +kernel, rfl, by decide +kernel, by decide +kernel⟩
theorem d_spectrum_part (T : Txt K mg C) : Df P w K mg base "spectrum_part" ["codes"] 1 (spLL (fun _ => True) fun ns => ns.take 8) := by
  refine .mk' T.f_spectrum_part sc_spectrum_part (fun _ _ _ _ _ _ us hl => match us, hl with | [_], _ => rfl) (fun vs H Q E h => spLL_len h) fun f cdv A outer s H vs Q E hr h => ?_
  obtain ⟨a, ns, rfl, hl, _, k⟩ := h
  refine ⟨_, (pss_one (ps_ret (pe_slice (sl_listK K rfl) (pv 0) po_none (po_some (pe_callB (len_seqK K rfl) (by rfl) T.b_len PySem.boot_len (pa_cons (pe_tupK K rfl T.t_SPECTRUM_WIDTHS) pa_nil)))))), ?_⟩
  refine ⟨_, rfl, fun t ht => ⟨t, _, rfl, .inr (ht H), _, rfl, a, _, rfl, hl.sq, fun p hp => k p _ (same_new hp) hp (li_new' (cutT ns 8))⟩⟩
def spQ (R : List Int → Prop) (f : List Int → Nat → List Int) : Sp := fun vs H Q _ => ∃ a ns, vs = [.ref a] ∧ LI H a ns ∧ R ns ∧ ∀ p H', Same H H' → H p = none → Four H' p (f ns) → Q (.ref p) H'
abbrev s_quarter_parts : Stmt := (top 64)
theorem sc_quarter_parts : FnScope ["codes", "first", "step", "start"] ["codes"] (defScope s_quarter_parts) := ⟨rfl, rfl, rfl, by decide +kernel, rfl, by decide +kernel, by decide +kernel⟩
theorem d_quarter_parts (T : Txt K mg C) : Df P w K mg base "quarter_parts" ["codes"] 1 (spQ (fun ns => ns.length = 76) fun ns j => (ns.drop (8 + 17 * j)).take 17) := by
  refine .mk' T.f_quarter_parts sc_quarter_parts (fun _ _ _ _ _ _ us hl => match us, hl with | [_], _ => rfl) (fun vs H Q E h => by obtain ⟨_, _, rfl, _⟩ := h; rfl) fun f cdv A outer s H vs Q E hr h => ?_
  obtain ⟨a, ns, rfl, hl, h1, k⟩ := h
  refine ⟨_, (pss_cons (ps_set (i := 1) sc_quarter_parts.nd rfl (Or.inl rfl) (pe_callB (len_seqK K rfl) (by rfl) T.b_len PySem.boot_len (pa_cons (pe_tupK K rfl T.t_SPECTRUM_WIDTHS) pa_nil)))
      (pss_cons (ps_set (i := 2) sc_quarter_parts.nd rfl (Or.inr rfl) (pe_callB (len_seqK K rfl) (by rfl) T.b_len PySem.boot_len (pa_cons (pe_tupK K rfl T.t_QUARTER_WIDTHS) pa_nil)))
      (pss_one (ps_ret (pe_lc (own := [("start", 3)]) rfl sc_quarter_parts.nd (pi_range3 rfl T.b_range (pa_cons (pv 1) (pa_cons (pe_callB (len_seqK K rfl) (by rfl) T.b_len PySem.boot_len (pa_cons (pv 0) pa_nil)) (pa_cons (pv 2) pa_nil)))) (blkOk_by (by kernel_rfl)) (fun _ _ _ _ _ => (pg_name (i := 3) sc_quarter_parts.nd rfl (Or.inl rfl))) (fun _ _ _ _ _ => pts_nil) (fun _ _ _ _ _ => (pe_slice (sl_listK K rfl) (pv 0) (po_some (pv 3)) (po_some (pe_op op_add (pv 3) (pv 2)))))))))), ?_⟩
  refine fun t ht => ⟨t, _, rfl, .inr (ht H), fun t2 ht2 => ⟨t2, _, rfl, .inr (ht2 H), ?_⟩⟩
  refine ⟨_, rfl, _, rfl, a, _, rfl, .inl hl.sq, _, rfl, 8, 76, 17, 4, ?_, ⟨by decide, by decide, by decide, by decide⟩, fun D hD => ?_⟩
  · rw [List.length_map, h1]; rfl
  refine lc_rC (n := 4) (fun i H2 => Same H H2 ∧ ∃ bs : List Addr, bs.length = i ∧ H2 D = some (.lst (bs.map V.ref)) ∧ ∀ (j : Nat) q, bs[j]? = some q → LI H2 q ((ns.drop (8 + 17 * j)).take 17)) ⟨same_new hD, [], rfl, upd_same, fun j q h => by simp at h⟩ ?_ ?_
  · rintro i H2 hi ⟨s2, bs, bl, hd, hb⟩
    refine ⟨rfl, tyes ?_⟩
    refine ⟨_, rfl, _, rfl, _, rfl, _, rfl, _, rfl, _, _, rfl, rfl, _, rfl, a, _, rfl, (hl.same s2).sq, fun r hr3 => ?_⟩
    have ec : cutV (ns.map V.int) (some ((8 : Int) + (i : Nat) * 17)) (some ((8 : Int) + (i : Nat) * 17 + 17)) = ((ns.drop (8 + 17 * i)).take 17).map V.int := by
      have e1 : (8 : Int) + (i : Nat) * 17 = ((8 + 17 * i : Nat) : Int) := by omega
      have e2 : ((8 + 17 * i : Nat) : Int) + 17 = ((8 + 17 * i + 17 : Nat) : Int) := by omega
      rw [e1, e2, cutI]
      congr 2; omega
    have s3 := same_new (o := .lst (cutV (ns.map V.int) (some ((8 : Int) + (i : Nat) * 17)) (some ((8 : Int) + (i : Nat) * 17 + 17)))) hr3
    have hr : LI (upd H2 r (.lst (cutV (ns.map V.int) (some ((8 : Int) + (i : Nat) * 17)) (some ((8 : Int) + (i : Nat) * 17 + 17))))) r ((ns.drop (8 + 17 * i)).take 17) := li_new' ec
    refine ⟨_, s3 _ _ hd, by rw [List.length_map, bl]; exact small_line (by omega), fun b o e => ?_, bs ++ [r], by rw [List.length_append, bl]; rfl, by rw [upd_same, List.map_append]; rfl, fun j q' hj => ?_⟩
    · rw [upd_ne (ne_of_none e hD)]; exact s3 _ _ (s2 _ _ e)
    · by_cases hji : j < bs.length
      · rw [List.getElem?_append_left hji] at hj
        have h3 := hb j q' hj
        have nD : q' ≠ D := by
          intro z
          have h4 : H2 q' = _ := h3
          rw [z, hd] at h4
          injection h4 with h4; injection h4 with h4
          cases hbs : bs with
          | nil => rw [hbs] at hji; simp at hji
          | cons c cs =>
            rw [hbs] at h4
            cases hf : (ns.drop (8 + 17 * j)).take 17 with
            | nil => rw [hf] at h4; simp at h4
            | cons z0 zs => rw [hf] at h4; simp at h4
        show upd _ D _ q' = _
        rw [upd_ne nD]; exact s3 _ _ h3
      · have : j = bs.length := by
          have := (List.getElem?_eq_some_iff.mp hj).1
          rw [List.length_append] at this; simp at this; omega
        subst this
        rw [List.getElem?_append_right (Nat.le_refl _)] at hj
        simp at hj
        subst hj
        have nD : r ≠ D := fun z => by rw [z, hd] at hr3; cases hr3
        show upd _ D _ r = _
        rw [upd_ne nD, bl]; exact hr
  · rintro H2 ⟨s2, bs, bl, hd, hb⟩
    obtain ⟨b0, b1, b2, b3, rfl⟩ : ∃ b0 b1 b2 b3, bs = [b0, b1, b2, b3] := by
      match bs, bl with
      | [b0, b1, b2, b3], _ => exact ⟨_, _, _, _, rfl⟩
    exact k D H2 s2 hD ⟨b0, b1, b2, b3, hd, hb 0 _ rfl, hb 1 _ rfl, hb 2 _ rfl, hb 3 _ rfl⟩
end Px
namespace Px
open PySem PySem.Spec PyProof.Rows L2
local macro_rules | `(tactic| walk_at "rd") => `(tactic| repeat (first | refine ⟨_, rfl, ?_⟩ | refine ⟨_, _, rfl, rfl, ?_⟩ | refine ⟨_, _, rfl, ?_⟩ | refine ⟨rfl, ?_⟩ | refine ⟨trivial, ?_⟩ | refine ⟨(show (0 : Int) ≤ _ by decide), ?_⟩ | refine ⟨Or.inl ⟨by decide, by decide⟩, ?_⟩ | refine ⟨Or.inr ⟨by decide, by decide⟩, ?_⟩))
variable {P : Program} {w : World} {K : PySem.W.Frag} {mg : Str → Option Value} {base : Heap} {C : Ad}
/-! ### objects -/
def KeepX (H H' : Hp) (S : List Addr) : Prop := ∀ b o, H b = some o → b ∉ S → H' b = some o
theorem KeepX.refl (H : Hp) (S : List Addr) : KeepX H H S := fun _ _ e _ => e
theorem KeepX.trans {H H1 H2 : Hp} {S : List Addr} (a : KeepX H H1 S) (b : KeepX H1 H2 S) : KeepX H H2 S := fun c o e n => b c o (a c o e n) n
theorem KeepX.of {H H' : Hp} {S : List Addr} (s : Same H H') : KeepX H H' S := fun c o e _ => s c o e
theorem KeepX.sub {H H' : Hp} {S S' : List Addr} (a : KeepX H H' S) (h : ∀ b ∈ S, b ∈ S') : KeepX H H' S' := fun c o e n => a c o e fun m => n (h c m)
theorem KeepX.upd {H : Hp} {p : Addr} {o : HO} {S : List Addr} (h : p ∈ S) : KeepX H (upd H p o) S := fun c u e n => by
  rw [upd_ne (fun z => n (by rw [z]; exact h))]; exact e
theorem KeepX.li {H H' : Hp} {S : List Addr} {a : Addr} {ns : List Int} (k : KeepX H H' S) (h : LI H a ns) (n : a ∉ S) : LI H' a ns := k _ _ h n
/-! ### a comprehension whose element changes an object -/
def run {S : Type} (f : S → Int → Int × S) : List Int → S → List Int × S
  | [], st => ([], st)
  | z :: l, st => ((f st z).1 :: (run f l (f st z).2).1, (run f l (f st z).2).2)
theorem run_snoc {S : Type} (f : S → Int → Int × S) (z : Int) : ∀ (l : List Int) (st : S), run f (l ++ [z]) st = ((run f l st).1 ++ [(f (run f l st).2 z).1], (f (run f l st).2 z).2)
  | [], st => rfl
  | y :: l, st => by
    show ((f st y).1 :: (run f (l ++ [z]) (f st y).2).1, (run f (l ++ [z]) (f st y).2).2) = _
    rw [run_snoc f z l]
    rfl
theorem run_len {S : Type} (f : S → Int → Int × S) : ∀ (l : List Int) (st : S), (run f l st).1.length = l.length
  | [], _ => rfl
  | z :: l, st => by show (_ :: _).length = _; rw [List.length_cons, run_len f l, List.length_cons]
theorem lcS {S : Type} (f : S → Int → Int × S) (I : Addr → S → Hp → Prop) (B : List Addr) (st0 : S) {K : PySem.W.Frag} {te : TE} {σ : L2.St} {H1 : Hp} {Qd : Addr → Hp → Prop} {ns : List Int} {a : Addr} {j : Nat}
    (hl : LI H1 a ns) (ha : a ∉ B) (hz : ns.length ≤ 100000) (hB : ∀ b ∈ B, H1 b ≠ none)
    (h0 : ∀ D, H1 D = none → I D st0 (upd H1 D (.lst [])))
    (hu : ∀ D st H xs, H1 D = none → I D st H → I D st (upd H D (.lst xs)))
    (hb : ∀ (D : Addr) (i : Nat) (st : S) (z : Int) (H2 : Hp) (R : VK), H1 D = none → H2 D ≠ none → KeepX H1 H2 B → ns[i]? = some z → I D st H2 → (∀ H3, I D (f st z).2 H3 → KeepX H2 H3 B → R (.int (f st z).1) H3) → te ((wipe σ [j]).set j (some (.int z))) H2 R)
    (hq : ∀ D H', H1 D = none → KeepX H1 H' B → I D (run f ns st0).2 H' → LI H' D (run f ns st0).1 → Qd D H') :
    ∀ D, H1 D = none → ∃ W : Nat → Nat → Hp → Prop, (∃ m, W 0 m (upd H1 D (.lst []))) ∧ ∀ i m H, W i m H →
      ((Itl K a).stop i H ∧ Qd D H) ∨ ((Itl K a).go i H ∧ ∃ Nx : Hp → Prop, (∀ H', Nx H' → ∃ m', m' < m ∧ W (i + 1) m' H') ∧ ∀ x H', (Itl K a).yld i H x H' → gName j x (wipe σ [j]) H' fun σ2 H2 => wipe σ2 [j] = wipe σ [j] ∧ tYes σ2 H2 fun b H3 =>
        if b = true then te σ2 H3 fun y H4 => ∃ acc, H4 D = some (.lst acc) ∧ acc.length < sizeLine ∧ Nx (upd H4 D (.lst (acc ++ [y]))) else Nx H3) := by
  intro D hD
  have nB : D ∉ B := fun m => hB D m hD
  have naD : a ≠ D := ne_of_none hl hD
  refine lc_list (xs := ns.map V.int) (fun i H2 => KeepX H1 H2 B ∧ I D (run f (ns.take i) st0).2 H2 ∧ LI H2 D (run f (ns.take i) st0).1) ⟨KeepX.of (same_new hD), h0 D hD, upd_same⟩ (fun i H2 _ q => (q.1.li hl ha).sq) ?_ ?_
  · rintro i x H2 hx ⟨kx, hI, hd⟩
    have hi : i < ns.length := by have := (List.getElem?_eq_some_iff.mp hx).1; rw [List.length_map] at this; exact this
    rw [List.getElem?_map, Pv.get_at hi] at hx
    have hx : V.int (Ra26.at_ ns i) = x := Option.some.inj hx
    subst hx
    have tk : ns.take (i + 1) = ns.take i ++ [Ra26.at_ ns i] := by rw [List.take_add_one, Pv.get_at hi]; rfl
    refine ⟨wipe1 _ _ _, tyes ?_⟩
    refine hb D i _ _ H2 _ hD (by rw [show H2 D = _ from hd]; simp) kx (Pv.get_at hi) hI fun H3 hI3 k3 => ?_
    refine ⟨_, k3 _ _ hd nB, ?_, ?_, ?_, ?_⟩
    · rw [List.length_map, run_len, List.length_take]; exact small_line (by omega)
    · intro b o e n
      rw [upd_ne (ne_of_none e hD)]; exact k3 _ _ (kx _ _ e n) n
    · rw [tk, run_snoc]; exact hu D _ H3 _ hD hI3
    · rw [tk, run_snoc]
      refine li_new' ?_
      rw [List.map_append]; rfl
  · rintro H2 ⟨kx, hI, hd⟩
    rw [List.length_map, List.take_of_length_le (Nat.le_refl _)] at hI hd
    exact hq D H2 hD kx hI hd
theorem one_some {H : Hp} {p : Addr} {o : HO} (h : H p = some o) : ∀ b ∈ [p], H b ≠ none := fun b hb => by
  have e : b = p := by simpa using hb
  rw [e, h]
  simp
abbrev s_faded : Stmt := (top 33)
theorem sc_faded : FnScope ["kept", "change", "high", "low"] ["kept", "change"] (defScope s_faded) := ⟨rfl, rfl, rfl, by decide +kernel, rfl, by decide +kernel, by decide +kernel⟩
theorem d_faded (T : Txt K mg C) : Df P w K mg base "faded" ["kept", "change"] 3 (sp2 (fun _ _ => True) fun z c => Ra26.stop32 (32735 * (z / 32768) + 32768 * c + Ra26.mulR (z - 32768 * (z / 32768)) 32735)) := by
  refine .mk' T.f_faded sc_faded (fun _ _ _ _ _ _ us hl => match us, hl with | [_, _], _ => rfl) (fun vs H Q E h => sp2_len h) fun f cdv A outer s H vs Q E hr h => ?_
  obtain ⟨i, j, rfl, _, k⟩ := h
  refine ⟨_, (pss_cons (ps_set (i := 2) sc_faded.nd rfl (Or.inl rfl) (pe_op op_shr (pv 0) pe_int))
      (pss_cons (ps_set (i := 3) sc_faded.nd rfl (Or.inl rfl) (pe_op op_sub (pv 0) (pe_op op_mul pe_int (pv 2))))
      (pss_one (ps_ret (pe_fn (d_stopped_long T) (hr.mono (by decide)) (pa_cons (pe_op op_add (pe_op op_add (pe_op op_mul pe_int (pv 2)) (pe_op op_mul pe_int (pv 1))) (pe_fn (d_rounded_product T) (hr.mono (by decide)) (pa_cons (pv 3) (pa_cons pe_int pa_nil)))) pa_nil)))))), ?_⟩
  walk_at "rd"
  exact k
/-! ### Front -/
def fFront (z1 z2 mp : Int) : List (Str × V) := [("last_halved", .int z1), ("steady_free", .int z2), ("last_rounded", .int mp)]
def FrontAt (C : Ad) (H : Hp) (p : Addr) (z1 z2 mp : Int) : Prop := ∃ dx, H p = some (.ins C.cFront dx (fFront z1 z2 mp))
theorem fr1 (z1 z2 mp y : Int) : putF "last_halved" (.int y) (fFront z1 z2 mp) = fFront y z2 mp := by kernel_rfl
theorem fr2 (z1 z2 mp y : Int) : putF "steady_free" (.int y) (fFront z1 z2 mp) = fFront z1 y mp := by kernel_rfl
theorem fr3 (z1 z2 mp y : Int) : putF "last_rounded" (.int y) (fFront z1 z2 mp) = fFront z1 z2 y := by kernel_rfl
theorem fl1 (z1 z2 mp : Int) : (fFront z1 z2 mp).lookup ("last_halved" : Str) = some (.int z1) := by kernel_rfl
theorem fl2 (z1 z2 mp : Int) : (fFront z1 z2 mp).lookup ("steady_free" : Str) = some (.int z2) := by kernel_rfl
theorem fl3 (z1 z2 mp : Int) : (fFront z1 z2 mp).lookup ("last_rounded" : Str) = some (.int mp) := by kernel_rfl
/-- __init__ of a class: from the bare instance to what At says -/
def spIn (C : Addr) (At : Hp → Addr → Prop) : Sp := fun vs H Q _ => ∃ p dx, vs = [.ref p] ∧ H p = some (.ins C dx []) ∧ ∀ H', At H' p → KeepX H H' [p] → Q .non H'
abbrev s_Front___init__ : Stmt := (inClass (top 32) 0)
theorem sc_Front___init__ : FnScope ["self"] ["self"] (defScope s_Front___init__) := ⟨rfl, rfl, rfl, by decide +kernel, rfl, by decide +kernel, by decide +kernel⟩
theorem i_Front (T : Txt K mg C) : Di P w K mg base "Front" C.cFront 1 (spIn C.cFront fun H p => FrontAt C H p 0 0 0) := by
  refine .mk' T.n_Front T.m_Front_init sc_Front___init__ (fun _ _ _ _ _ _ us hl => match us, hl with | [_], _ => rfl) (fun vs H Q E h => by obtain ⟨_, _, rfl, _⟩ := h; rfl) fun f cdv A outer s H vs Q E hr h => ?_
  obtain ⟨p, dx, rfl, hp, k⟩ := h
  refine ⟨_, (pss_cons (ps_fld (pv 0) pe_int rfl)
      (pss_cons (ps_fld (pv 0) pe_int rfl)
      (pss_one (ps_fld (pv 0) pe_int rfl)))), ?_⟩
  refine ⟨_, rfl, p, _, dx, _, rfl, hp, T.k_Front, T.a_Front_last_halved, (by show 0 < 1000; decide), _, rfl, p, _, dx, _, rfl, upd_same, T.k_Front, T.a_Front_steady_free, (by show 1 < 1000; decide), _, rfl, p, _, dx, _, rfl, upd_same, T.k_Front, T.a_Front_last_rounded, (by decide +kernel), ?_⟩
  refine k _ ⟨dx, ?_⟩ (((KeepX.upd (by simp)).trans (KeepX.upd (by simp))).trans (KeepX.upd (by simp)))
  rw [upd_same]
  congr 2
def spRO (C : Ad) : Sp := fun vs H Q _ => ∃ p z1 z2 mp s, vs = [.ref p, .int s] ∧ FrontAt C H p z1 z2 mp ∧ Pv.ZOk z1 z2 ∧ Pv.W mp ∧ Pv.W s ∧
  ∀ H', FrontAt C H' p (Ra26.pre1 z1 z2 mp s).1 (Ra26.pre1 z1 z2 mp s).2.1 (Ra26.pre1 z1 z2 mp s).2.2.1 → KeepX H H' [p] → Q (.int (Ra26.pre1 z1 z2 mp s).2.2.2) H'
abbrev s_Front_raised_one : Stmt := (inClass (top 32) 2)
theorem sc_Front_raised_one : FnScope ["self", "sample", "halved", "change", "echo"] ["self", "sample"] (defScope s_Front_raised_one) := ⟨rfl, rfl, rfl, by decide +kernel, rfl, by decide +kernel, by decide +kernel⟩
theorem m_raised_one (T : Txt K mg C) : Dm P w K mg base C.cFront "raised_one" ["self", "sample"] 4 (spRO C) := by
  refine .mk' T.k_Front T.m_Front_raised_one sc_Front_raised_one (fun _ _ _ _ _ _ us hl => match us, hl with | [_, _], _ => rfl) (fun vs H Q E h => by obtain ⟨_, _, _, _, _, rfl, _⟩ := h; rfl) fun f cdv A outer s H vs Q E hr h => ?_
  obtain ⟨p, z1, z2, mp, x, rfl, ⟨dx, hp⟩, zo, wm, wx, k⟩ := h
  refine ⟨_, (pss_cons (ps_set (i := 2) sc_Front_raised_one.nd rfl (Or.inl rfl) (pe_op op_mul (pe_op op_shr (pv 1) pe_int) pe_int))
      (pss_cons (ps_set (i := 3) sc_Front_raised_one.nd rfl (Or.inl rfl) (pe_fn (d_minus T) (hr.mono (by decide)) (pa_cons (pv 2) (pa_cons (pe_fldK K rfl (pv 0) rfl) pa_nil))))
      (pss_cons (ps_fld (pv 0) (pv 2) rfl)
      (pss_cons (ps_fld (pv 0) (pe_fn (d_faded T) (hr.mono (by decide)) (pa_cons (pe_fldK K rfl (pv 0) rfl) (pa_cons (pv 3) pa_nil))) rfl)
      (pss_cons (ps_set (i := 4) sc_Front_raised_one.nd rfl (Or.inl rfl) (pe_fn (d_rounded_product T) (hr.mono (by decide)) (pa_cons (pe_fldK K rfl (pv 0) rfl) (pa_cons (pe_un un_neg pe_int) pa_nil))))
      (pss_cons (ps_fld (pv 0) (pe_op op_shr (pe_fn (d_stopped_long T) (hr.mono (by decide)) (pa_cons (pe_op op_add (pe_fldK K rfl (pv 0) rfl) pe_int) pa_nil)) pe_int) rfl)
      (pss_one (ps_ret (pe_fn (d_plus T) (hr.mono (by decide)) (pa_cons (pe_fldK K rfl (pv 0) rfl) (pa_cons (pv 4) pa_nil))))))))))), ?_⟩
  obtain ⟨q1, q2, q3, q4, q5⟩ := Pv.pre1_ok mp zo wx
  refine ⟨_, rfl, _, _, rfl, rfl, (show (0 : Int) ≤ 3 by decide), _, _, rfl, rfl, .inr ⟨by decide, by decide⟩, ?_⟩
  refine ⟨_, rfl, _, rfl, p, _, dx, _, _, rfl, hp, T.k_Front, T.a_Front_last_halved, fl1 _ _ _, _, _, rfl, trivial, ?_⟩
  refine ⟨_, rfl, _, rfl, p, _, dx, _, rfl, hp, T.k_Front, T.a_Front_last_halved, (by show 3 < 1000; decide), ?_⟩
  rw [fr1]
  refine ⟨_, rfl, p, _, dx, _, _, rfl, upd_same, T.k_Front, T.a_Front_steady_free, fl2 _ _ _, _, rfl, _, _, rfl, trivial, _, rfl, p, _, dx, _, rfl, upd_same, T.k_Front, T.a_Front_steady_free, (by show 3 < 1000; decide), ?_⟩
  rw [fr2, upd_upd]
  refine ⟨_, rfl, p, _, dx, _, _, rfl, upd_same, T.k_Front, T.a_Front_last_rounded, fl3 _ _ _, _, rfl, _, _, rfl, cmulW wm, ?_⟩
  refine ⟨_, rfl, p, _, dx, _, _, rfl, upd_same, T.k_Front, T.a_Front_steady_free, fl2 _ _ _, _, _, rfl, rfl, _, rfl, trivial, _, _, rfl, rfl, (show (0 : Int) ≤ 15 by decide), _, rfl, p, _, dx, _, rfl, upd_same, T.k_Front, T.a_Front_last_rounded, (by show 3 < 1000; decide), ?_⟩
  rw [fr3, upd_upd]
  refine ⟨_, rfl, p, _, dx, _, _, rfl, upd_same, T.k_Front, T.a_Front_last_rounded, fl3 _ _ _, _, rfl, _, _, rfl, trivial, ?_⟩
  have ec : Ra26.sub (x / 8 * 4) z1 = x / 8 * 4 - z1 := Pv.stop16_in q4
  have e2 : Ra26.stop32 (32735 * (z2 / 32768) + 32768 * Ra26.sub (x / 8 * 4) z1 + Ra26.mulR (z2 - 32768 * (z2 / 32768)) 32735) = (Ra26.pre1 z1 z2 mp x).2.1 := by
    rw [ec]
    show _ = Ra26.stop32 (z2 / 32768 * 32735 + ((x / 8 * 4 - z1) * 32768 + Ra26.mulR (z2 - z2 / 32768 * 32768) 32735))
    rw [Int.mul_comm (z2 / 32768) 32768]
    congr 1
    generalize Ra26.mulR (z2 - 32768 * (z2 / 32768)) 32735 = m
    generalize x / 8 * 4 - z1 = y
    simp only [Ra26.N] at *
    omega
  have e3 : Ra26.stop32 ((Ra26.pre1 z1 z2 mp x).2.1 + 16384) / 32768 = (Ra26.pre1 z1 z2 mp x).2.2.1 := q5.symm
  have key : ∀ y, y = Ra26.stop32 (32735 * (z2 / 32768) + 32768 * Ra26.sub (x / 8 * 4) z1 + Ra26.mulR (z2 - 32768 * (z2 / 32768)) 32735) → ∀ v, v = Ra26.stop32 (y + 16384) / 32768 →
      Q (.int (Ra26.add v (Ra26.mulR mp (-28180)))) (upd H p (.ins C.cFront dx (fFront (x / 8 * 4) y v))) := by
    intro y hy v hv
    rw [e2] at hy
    rw [hy, e3] at hv
    subst hv hy
    refine k _ ⟨dx, upd_same⟩ (KeepX.upd (by simp))
  exact key _ rfl _ rfl
theorem pre_run : ∀ (l : List Int) (z : Int × Int × Int), run (fun (z : Int × Int × Int) s => ((Ra26.pre1 z.1 z.2.1 z.2.2 s).2.2.2, ((Ra26.pre1 z.1 z.2.1 z.2.2 s).1, (Ra26.pre1 z.1 z.2.1 z.2.2 s).2.1, (Ra26.pre1 z.1 z.2.1 z.2.2 s).2.2.1))) l z = Ra26.pre l z.1 z.2.1 z.2.2
  | [], z => rfl
  | s :: l, z => by
    unfold run
    rw [pre_run l]
    rfl
def spRA (C : Ad) : Sp := fun vs H Q _ => ∃ p a z1 z2 mp ns, vs = [.ref p, .ref a] ∧ FrontAt C H p z1 z2 mp ∧ Pv.ZOk z1 z2 ∧ Pv.W mp ∧ LI H a ns ∧ ns.length ≤ 1000 ∧ Pv.Ws ns ∧
  ∀ q H', FrontAt C H' p (Ra26.pre ns z1 z2 mp).2.1 (Ra26.pre ns z1 z2 mp).2.2.1 (Ra26.pre ns z1 z2 mp).2.2.2 → KeepX H H' [p] → H q = none → LI H' q (Ra26.pre ns z1 z2 mp).1 → Q (.ref q) H'
abbrev s_Front_raised : Stmt := (inClass (top 32) 1)
theorem sc_Front_raised : FnScope ["self", "samples", "sample"] ["self", "samples"] (defScope s_Front_raised) := ⟨rfl, rfl, rfl, by decide +kernel, rfl, by decide +kernel, by decide +kernel⟩
theorem m_raised (T : Txt K mg C) : Dm P w K mg base C.cFront "raised" ["self", "samples"] 5 (spRA C) := by
  refine .mk' T.k_Front T.m_Front_raised sc_Front_raised (fun _ _ _ _ _ _ us hl => match us, hl with | [_, _], _ => rfl) (fun vs H Q E h => by obtain ⟨_, _, _, _, _, _, rfl, _⟩ := h; rfl) fun f cdv A outer s H vs Q E hr h => ?_
  obtain ⟨p, a, z1, z2, mp, ns, rfl, hF, zo, wm, hl, h1, hw, k⟩ := h
  refine ⟨_, (pss_one (ps_ret (pe_lc (own := [("sample", 2)]) rfl sc_Front_raised.nd (pi_list (pv 1)) (blkOk_by (by kernel_rfl)) (fun _ _ _ _ _ => (pg_name (i := 2) sc_Front_raised.nd rfl (Or.inl rfl))) (fun _ _ _ _ _ => pts_nil) (fun _ _ _ _ _ => (pe_mt (m_raised_one T) (hr.mono (by decide)) (pv 0) (pa_cons (pv 2) pa_nil)))))), ?_⟩
  obtain ⟨dx0, hp0⟩ := id hF
  have nap : a ≠ p := ne_of hl hp0 (by intro z; cases z)
  refine ⟨_, rfl, a, rfl, ⟨_, hl.sq⟩, lcS (fun (z : Int × Int × Int) s => ((Ra26.pre1 z.1 z.2.1 z.2.2 s).2.2.2, ((Ra26.pre1 z.1 z.2.1 z.2.2 s).1, (Ra26.pre1 z.1 z.2.1 z.2.2 s).2.1, (Ra26.pre1 z.1 z.2.1 z.2.2 s).2.2.1)))
    (fun D z H => FrontAt C H p z.1 z.2.1 z.2.2 ∧ Pv.ZOk z.1 z.2.1 ∧ Pv.W z.2.2) [p] (z1, z2, mp) hl (by simp [nap]) (by omega) (one_some hp0) ?_ ?_ ?_ ?_⟩
  · intro D hD
    exact ⟨⟨dx0, by rw [upd_ne (ne_of_none hp0 hD)]; exact hp0⟩, zo, wm⟩
  · intro D st H2 xs hD ⟨⟨dx, hp⟩, b, c⟩
    exact ⟨⟨dx, by rw [upd_ne (ne_of_none hp0 hD)]; exact hp⟩, b, c⟩
  · intro D i st z H2 R hD hD2 kx hz ⟨hF2, b, c⟩ hR
    obtain ⟨dx, hp⟩ := id hF2
    have wz := W_get hw hz
    obtain ⟨q1, q2, q3, q4, q5⟩ := Pv.pre1_ok st.2.2 b wz
    exact ⟨_, rfl, p, dx, _, rfl, hp, (by kernel_rfl), _, rfl, p, st.1, st.2.1, st.2.2, z, rfl, hF2, b, c, wz, fun H3 hF3 k3 => hR H3 ⟨hF3, q1, q2⟩ k3⟩
  · intro D H2 hD kx ⟨hF2, _, _⟩ e
    rw [pre_run] at hF2 e
    exact k D H2 hF2 kx hD e
end Px
namespace Px
open PySem PySem.Spec PyProof.Rows L2
local macro_rules | `(tactic| walk_at "rd") => `(tactic| repeat (first | refine ⟨_, rfl, ?_⟩ | refine ⟨_, _, rfl, rfl, ?_⟩ | refine ⟨_, _, rfl, ?_⟩ | refine ⟨rfl, ?_⟩ | refine ⟨trivial, ?_⟩ | refine ⟨(show (0 : Int) ≤ _ by decide), ?_⟩ | refine ⟨Or.inl ⟨by decide, by decide⟩, ?_⟩ | refine ⟨Or.inr ⟨by decide, by decide⟩, ?_⟩))
variable {P : Program} {w : World} {K : PySem.W.Frag} {mg : Str → Option Value} {base : Heap} {C : Ad}
def Al (H : Hp) (X : List Addr) : Prop := ∀ x ∈ X, H x ≠ none
theorem Al.keep {H H' : Hp} {X : List Addr} {p : Addr} (h : Al H X) (k : KeepX H H' [p]) (hp : H' p ≠ none) : Al H' X := fun x hx => by
  by_cases e : x = p
  · rw [e]; exact hp
  · cases q : H x with
    | none => exact absurd q (h x hx)
    | some o => rw [k x o q (by simp [e])]; simp
theorem Al.same {H H' : Hp} {X : List Addr} (h : Al H X) (k : Same H H') : Al H' X := fun x hx => by
  cases q : H x with
  | none => exact absurd q (h x hx)
  | some o => rw [k x o q]; simp
theorem Al.cons {H : Hp} {X : List Addr} {p : Addr} (hp : H p ≠ none) (h : Al H X) : Al H (p :: X) := fun x hx => by
  rcases List.mem_cons.mp hx with e | e
  · rw [e]; exact hp
  · exact h x e
theorem Al.nin {H : Hp} {X : List Addr} {p : Addr} (h : Al H X) (hp : H p = none) : p ∉ X := fun m => h p m hp
theorem li_ne {H : Hp} {a b : Addr} {xs ys : List Int} (h1 : LI H a xs) (h2 : LI H b ys) (h : xs.length ≠ ys.length) : a ≠ b := fun e => by
  have h1 : H a = _ := h1
  rw [e, show H b = _ from h2] at h1
  injection h1 with h1; injection h1 with h1
  have := congrArg List.length h1
  rw [List.length_map, List.length_map] at this
  exact h this.symm
theorem li_ins {H : Hp} {a p : Addr} {xs : List Int} {C0 dx : Addr} {fs : List (Str × V)} (h1 : LI H a xs) (h2 : H p = some (.ins C0 dx fs)) : a ≠ p := ne_of h1 h2 (by intro z; cases z)
/-! ### Flattener -/
def fOne (a : Addr) : List (Str × V) := [("delayed", .ref a)]
theorem fOne_put (a b : Addr) : putF "delayed" (.ref b) (fOne a) = fOne b := by kernel_rfl
theorem fOne_new (b : Addr) : putF "delayed" (.ref b) [] = fOne b := by kernel_rfl
theorem fOne_look (a : Addr) : (fOne a).lookup ("delayed" : Str) = some (.ref a) := by kernel_rfl
def FlatAt (C : Ad) (H : Hp) (p : Addr) (u : List Int) (X : List Addr) : Prop := ∃ dx a, H p = some (.ins C.cFlattener dx (fOne a)) ∧ LI H a u ∧ a ∉ X
def spInX (C : Addr) (At : List Addr → Hp → Addr → Prop) : Sp := fun vs H Q _ => ∃ p dx X, vs = [.ref p] ∧ H p = some (.ins C dx []) ∧ Al H X ∧ ∀ H', At X H' p → KeepX H H' [p] → Q .non H'
abbrev s_Flattener___init__ : Stmt := (inClass (top 51) 0)
theorem sc_Flattener___init__ : FnScope ["self"] ["self"] (defScope s_Flattener___init__) := ⟨rfl, rfl, rfl, by decide +kernel, rfl, by decide +kernel, by decide +kernel⟩
theorem i_Flattener (T : Txt K mg C) : Di P w K mg base "Flattener" C.cFlattener 1 (spInX C.cFlattener fun X H p => FlatAt C H p (List.replicate 8 0) X) := by
  refine .mk' T.n_Flattener T.m_Flattener_init sc_Flattener___init__ (fun _ _ _ _ _ _ us hl => match us, hl with | [_], _ => rfl) (fun vs H Q E h => by obtain ⟨_, _, _, rfl, _⟩ := h; rfl) fun f cdv A outer s H vs Q E hr h => ?_
  obtain ⟨p, dx, X, rfl, hp, al, k⟩ := h
  refine ⟨_, (pss_one (ps_fld (pv 0) (pe_op op_rep (pe_lst (pa_cons pe_int pa_nil)) (pe_cst T.c_ORDER)) rfl)), ?_⟩
  refine ⟨by show 1 ≤ sizeLine; decide, fun l hl0 => ?_⟩
  dsimp only [tC]
  refine rep_at hl0 (by decide) (by decide) fun q H1 s1 hq e1 => ?_
  refine ⟨_, rfl, p, _, dx, _, rfl, s1 _ _ hp, T.k_Flattener, T.a_Flattener_delayed, (by show 0 < 1000; decide), ?_⟩
  rw [fOne_new]
  have nqp : q ≠ p := li_ins e1 (s1 _ _ hp)
  exact k _ ⟨dx, q, upd_same, (by show upd _ _ _ q = _; rw [upd_ne nqp]; exact e1), al.nin hq⟩ ((KeepX.of s1).trans (KeepX.upd (by simp)))
def spFO (C : Ad) : Sp := fun vs H Q _ => ∃ p ar u row x X, vs = [.ref p, .int x, .ref ar] ∧ FlatAt C H p u X ∧ LI H ar row ∧ row.length = 8 ∧ u.length = 8 ∧ Pv.Ws u ∧ Pv.W x ∧ Al H X ∧
  ∀ H', FlatAt C H' p (Ra26.analyseAt row u x x).2 X → KeepX H H' [p] → Q (.int (Ra26.analyseAt row u x x).1) H'
abbrev s_Flattener_flat_one : Stmt := (inClass (top 51) 2)
theorem sc_Flattener_flat_one : FnScope ["self", "sample", "row", "delayed", "straight", "passing", "factor", "kept"] ["self", "sample", "row"] (defScope s_Flattener_flat_one) := ⟨rfl, rfl, rfl, by decide +kernel, rfl, by decide +kernel, by decide +kernel⟩
theorem m_flat_one (T : Txt K mg C) : Dm P w K mg base C.cFlattener "flat_one" ["self", "sample", "row"] 3 (spFO C) := by
  refine .mk' T.k_Flattener T.m_Flattener_flat_one sc_Flattener_flat_one (fun _ _ _ _ _ _ us hl => match us, hl with | [_, _, _], _ => rfl) (fun vs H Q E h => by obtain ⟨_, _, _, _, _, _, rfl, _⟩ := h; rfl) fun f cdv A outer s H vs Q E hr h => ?_
  obtain ⟨p, ar, u, row, x, X, rfl, ⟨dx, au, hp, hu, nX⟩, hr0, lr, lu, wu, wx, al, k⟩ := h
  refine ⟨_, (pss_cons (ps_set (i := 3) sc_Flattener_flat_one.nd rfl (Or.inl rfl) (pe_lst pa_nil))
      (pss_cons (ps_set (i := 4) sc_Flattener_flat_one.nd rfl (Or.inl rfl) (pv 1))
      (pss_cons (ps_set (i := 5) sc_Flattener_flat_one.nd rfl (Or.inl rfl) (pv 1))
      (pss_cons (ps_for PassesOwn.never rfl (pi_zipS false false T.b_zip (pa_cons (pv 2) (pa_cons (pe_fldK K rfl (pv 0) rfl) pa_nil))) (pg_pair K 6 7 rfl rfl sc_Flattener_flat_one.nd rfl rfl (Or.inl rfl) (Or.inl rfl) (.inl rfl) (.inl rfl)) (pss_cons (ps_expr (pe_bm PySem.F.plainAttrs_list PySem.F.slot_list_append PySem.F.type_list_append mt_append (pv 3) (pa_cons (pv 5) pa_nil)))
      (pss_cons (ps_set (i := 5) sc_Flattener_flat_one.nd rfl (Or.inl rfl) (pe_fn (d_plus T) (hr.mono (by decide)) (pa_cons (pv 7) (pa_cons (pe_fn (d_rounded_product T) (hr.mono (by decide)) (pa_cons (pv 6) (pa_cons (pv 4) pa_nil))) pa_nil))))
      (pss_one (ps_set (i := 4) sc_Flattener_flat_one.nd rfl (Or.inl rfl) (pe_fn (d_plus T) (hr.mono (by decide)) (pa_cons (pv 4) (pa_cons (pe_fn (d_rounded_product T) (hr.mono (by decide)) (pa_cons (pv 6) (pa_cons (pv 7) pa_nil))) pa_nil))))))))
      (pss_cons (ps_fld (pv 0) (pv 3) rfl)
      (pss_one (ps_ret (pv 4)))))))), ?_⟩
  refine ⟨by show 0 ≤ sizeLine; decide, fun pd hpd => ?_⟩
  have s1 : Same H (upd H pd (.lst [])) := same_new hpd
  have e1 : LI (upd H pd (.lst [])) pd [] := upd_same
  generalize upd H pd (.lst []) = H1 at *
  refine ⟨_, rfl, _, rfl, _, rfl, _, rfl, p, _, dx, _, _, rfl, s1 _ _ hp, T.k_Flattener, T.a_Flattener_delayed, fOne_look _, ar, au, _, _, rfl, (hr0.same s1).sq, (hu.same s1).sq, ?_⟩
  refine for_zip (fun j σ H2 => ∃ (L : List Int) (st pa : Int) (v6 v7 : Option V), σ = [some (.ref p), some (.int x), some (.ref ar), some (.ref pd), some (.int st), some (.int pa), v6, v7] ∧ LI H2 pd L ∧ L.length = j ∧ Pv.W st ∧ Pv.W pa ∧ Same H H2 ∧
    Ra26.analyseAt row u x x = ((Ra26.analyseAt (row.drop j) (u.drop j) st pa).1, L ++ (Ra26.analyseAt (row.drop j) (u.drop j) st pa).2)) ⟨[], x, x, none, none, rfl, e1, rfl, wx, wx, s1, rfl⟩ (fun j σ H2 _ ⟨_, _, _, _, _, _, _, _, _, _, s2, _⟩ => ⟨(hr0.same s2).sq, (hu.same s2).sq⟩) ?_ ?_
  · rintro j vx vy Tt σ H2 hx hy ⟨L, st, pa, v6, v7, rfl, hL, lL, ws, wp, s2, eq⟩ hT
    refine g2 ?_
    have hj : j < 8 := by have := (List.getElem?_eq_some_iff.mp hx).1; rw [List.length_map] at this; omega
    rw [List.getElem?_map, Pv.get_at (by omega)] at hx hy
    have hx : V.int (Ra26.at_ row j) = vx := Option.some.inj hx
    have hy : V.int (Ra26.at_ u j) = vy := Option.some.inj hy
    subst hx hy
    have s3 := s2.trans (same_new (o := .tup [.int (Ra26.at_ row j), .int (Ra26.at_ u j)]) hT)
    have hL3 : LI (upd H2 Tt (.tup [.int (Ra26.at_ row j), .int (Ra26.at_ u j)])) pd L := hL.same (same_new hT)
    generalize upd H2 Tt (.tup [.int (Ra26.at_ row j), .int (Ra26.at_ u j)]) = H3 at *
    refine ⟨_, rfl, .inl ⟨rfl, _, hL3.sq⟩, _, rfl, pd, _, _, rfl, rfl, hL3, by rw [List.length_map]; exact small_line (by omega), ?_⟩
    refine ⟨_, rfl, _, rfl, _, rfl, _, _, rfl, cmulW' ws, _, _, rfl, trivial, ?_⟩
    refine ⟨_, rfl, _, rfl, _, rfl, _, _, rfl, cmulW' (Pv.Ws_at wu j), _, _, rfl, trivial, ?_⟩
    refine ⟨L ++ [pa], _, _, _, _, rfl, li_new' (by rw [List.map_append]; rfl), by rw [List.length_append, lL]; rfl, Pv.add_W _ _, Pv.add_W _ _, fun b o e => ?_, ?_⟩
    · rw [upd_ne (fun z => by rw [z, hpd] at e; cases e)]; exact s3 _ _ e
    · rw [eq, Pv.anAt_step (by omega) (by omega), List.append_assoc]; rfl
  · rintro σ H2 ⟨L, st, pa, v6, v7, rfl, hL, lL, ws, wp, s2, eq⟩
    have e8 : min (row.map V.int).length (u.map V.int).length = 8 := by rw [List.length_map, List.length_map, lr, lu]; rfl
    rw [e8, Pv.anAt_end (by omega), List.append_nil] at eq
    refine ⟨_, rfl, _, rfl, p, _, dx, _, rfl, s2 _ _ hp, T.k_Flattener, T.a_Flattener_delayed, (by show 1 < 1000; decide), ?_⟩
    rw [fOne_put]
    have npp : pd ≠ p := li_ins hL (s2 _ _ hp)
    refine ⟨_, rfl, qint (k _ ⟨dx, pd, upd_same, ?_, al.nin hpd⟩ ((KeepX.of s2).trans (KeepX.upd (by simp)))) (by rw [eq])⟩
    rw [eq]
    show upd _ _ _ pd = _
    rw [upd_ne npp]; exact hL
theorem anRow_run (row : List Int) : ∀ (l u : List Int), run (fun u s => Ra26.analyseAt row u s s) l u = Pv.anRow row l u
  | [], u => rfl
  | s :: l, u => by
    unfold run
    rw [anRow_run row l]
    rfl
def spFl (C : Ad) : Sp := fun vs H Q _ => ∃ p as af l u rp X, vs = [.ref p, .ref as, .ref af] ∧ FlatAt C H p u X ∧ LI H as l ∧ Four H af rp ∧ l.length = 160 ∧ Pv.Ws l ∧ Pv.Ws u ∧ u.length = 8 ∧ (∀ k, (rp k).length = 8) ∧ Al H X ∧
  ∀ q H', FlatAt C H' p (Ra26.analyse rp 0 l u).2 X → KeepX H H' [p] → H q = none → LI H' q (Ra26.analyse rp 0 l u).1 → Q (.ref q) H'
theorem Four.keep {H H' : Hp} {p : Addr} {f : Nat → List Int} (h : Four H p f) (s : Same H H') : Four H' p f := by
  obtain ⟨a0, a1, a2, a3, e, h0, h1, h2, h3⟩ := h
  exact ⟨a0, a1, a2, a3, s _ _ e, h0.same s, h1.same s, h2.same s, h3.same s⟩
theorem four_at {H : Hp} {a0 a1 a2 a3 : Addr} {f : Nat → List Int} (h0 : LI H a0 (f 0)) (h1 : LI H a1 (f 1)) (h2 : LI H a2 (f 2)) (h3 : LI H a3 (f 3)) (i : Nat) (y : V) (h : ([.ref a0, .ref a1, .ref a2, .ref a3] : List V)[i]? = some y) : ∃ r, y = .ref r ∧ LI H r (f i) := by
  match i, h with
  | 0, h => cases h; exact ⟨_, rfl, h0⟩
  | 1, h => cases h; exact ⟨_, rfl, h1⟩
  | 2, h => cases h; exact ⟨_, rfl, h2⟩
  | 3, h => cases h; exact ⟨_, rfl, h3⟩
theorem stretch_at {K : PySem.W.Frag} {a0 a1 a2 a3 : Addr} (q0 : ∀ H, SqT K H a0 [.int 0, .int 13]) (q1 : ∀ H, SqT K H a1 [.int 13, .int 27]) (q2 : ∀ H, SqT K H a2 [.int 27, .int 40]) (q3 : ∀ H, SqT K H a3 [.int 40, .int 160])
    (i : Nat) (x : V) (h : ([.ref a0, .ref a1, .ref a2, .ref a3] : List V)[i]? = some x) : ∃ t, x = .ref t ∧ ∀ H, SqT K H t [.int ((Pv.lo i : Nat) : Int), .int ((Pv.hi i : Nat) : Int)] := by
  match i, h with
  | 0, h => cases h; exact ⟨_, rfl, q0⟩
  | 1, h => cases h; exact ⟨_, rfl, q1⟩
  | 2, h => cases h; exact ⟨_, rfl, q2⟩
  | 3, h => cases h; exact ⟨_, rfl, q3⟩
theorem cutOf_len {l : List Int} (h : l.length = 160) (i : Nat) : (Pv.cutOf l i).length ≤ 160 := by
  unfold Pv.cutOf; rw [List.length_take, List.length_drop]; omega
theorem lohi (i : Nat) : Pv.lo i ≤ Pv.hi i := by unfold Pv.lo Pv.hi; repeat' (split <;> try omega)
theorem anTo_len {rp : Nat → List Int} (hr : ∀ k, (rp k).length = 8) {l u : List Int} (h160 : l.length = 160) (h : Pv.Ws l) (hu : Pv.Ws u) (hl : u.length = 8) : ∀ i, (Pv.anTo rp l u i).1.length ≤ 160 * i
  | 0 => Nat.le_refl _
  | i + 1 => by
    show ((Pv.anTo rp l u i).1 ++ _).length ≤ _
    obtain ⟨a, b, c⟩ := Pv.anTo_ok hr h hu hl i
    rw [List.length_append, (Pv.anRow_ok (hr i) _ _ (Pv.cutOf_W h i) b c).2.2.2]
    have := anTo_len hr h160 h hu hl i
    have := cutOf_len h160 i
    omega
abbrev s_Flattener_flat : Stmt := (inClass (top 51) 1)
theorem sc_Flattener_flat : FnScope ["self", "samples", "factors", "out", "stretch", "row", "sample"] ["self", "samples", "factors"] (defScope s_Flattener_flat) := ⟨rfl, rfl, rfl, by decide +kernel, rfl, by decide +kernel, by decide +kernel⟩
theorem m_flat (T : Txt K mg C) : Dm P w K mg base C.cFlattener "flat" ["self", "samples", "factors"] 4 (spFl C) := by
  refine .mk' T.k_Flattener T.m_Flattener_flat sc_Flattener_flat (fun _ _ _ _ _ _ us hl => match us, hl with | [_, _, _], _ => rfl) (fun vs H Q E h => by obtain ⟨_, _, _, _, _, _, _, rfl, _⟩ := h; rfl) fun f cdv A outer s H vs Q E hr h => ?_
  obtain ⟨p, as, af, l, u, rp, X, rfl, hF, hl, ⟨r0, r1, r2, r3, ef, e0, e1, e2, e3⟩, l160, wl, wu, lu, lrp, al, k⟩ := h
  obtain ⟨b0, b1, b2, b3, hS, q0, q1, q2, q3⟩ := T.u_STRETCHES
  refine ⟨_, (pss_cons (ps_set (i := 3) sc_Flattener_flat.nd rfl (Or.inl rfl) (pe_lst pa_nil))
      (pss_cons (ps_for PassesOwn.never rfl (pi_zipS true false T.b_zip (pa_cons (pe_tupK K rfl hS) (pa_cons (pv 2) pa_nil))) (pg_pair K 4 5 rfl rfl sc_Flattener_flat.nd rfl rfl (Or.inl rfl) (Or.inr rfl) (.inl rfl) (.inl rfl)) (pss_one (ps_expr (pe_bm PySem.F.plainAttrs_list PySem.F.slot_list_extend PySem.F.type_list_extend mt_extend (pv 3) (pa_cons (pe_lc (own := [("sample", 6)]) rfl sc_Flattener_flat.nd (pi_list (pe_slice (sl_listK K rfl) (pv 1) (po_some (pe_ix (ix_tupK K rfl) (pv 4) pe_int (fun _ _ => rfl))) (po_some (pe_ix (ix_tupK K rfl) (pv 4) pe_int (fun _ _ => rfl))))) (blkOk_by (by kernel_rfl)) (fun _ _ _ _ _ => (pg_name (i := 6) sc_Flattener_flat.nd rfl (Or.inl rfl))) (fun _ _ _ _ _ => pts_nil) (fun _ _ _ _ _ => (pe_mt (m_flat_one T) (hr.mono (by decide)) (pv 0) (pa_cons (pv 6) (pa_cons (pv 5) pa_nil))))) pa_nil)))))
      (pss_one (ps_ret (pv 3))))), ?_⟩
  refine ⟨by show 0 ≤ sizeLine; decide, fun po hpo => ?_⟩
  have s1 : Same H (upd H po (.lst [])) := same_new hpo
  have o1 : LI (upd H po (.lst [])) po [] := upd_same
  generalize upd H po (.lst []) = H1 at *
  intro tS hT
  obtain ⟨dx0, au0, hp0, hu0, nX0⟩ := hF
  have pnp : po ≠ p := li_ins o1 (s1 _ _ hp0)
  refine ⟨_, rfl, tS, af, _, _, rfl, hT _, SqL.of (s1 _ _ ef), ?_⟩
  refine for_zip (fun i σ H2 => ∃ v4 v5, σ = [some (.ref p), some (.ref as), some (.ref af), some (.ref po), v4, v5, none] ∧ KeepX H H2 [p] ∧ FlatAt C H2 p (Pv.anTo rp l u i).2 (po :: X) ∧ LI H2 po (Pv.anTo rp l u i).1)
    ⟨none, none, rfl, KeepX.of s1, ⟨dx0, au0, s1 _ _ hp0, hu0.same s1, by simp only [List.mem_cons, not_or]; exact ⟨ne_of_none hu0 hpo, nX0⟩⟩, o1⟩ (fun i σ H2 _ ⟨_, _, _, kx, _⟩ => ⟨hT H2, SqL.of (kx _ _ ef (by simp; exact ne_of ef hp0 (by intro z; cases z)))⟩) ?_ ?_
  · rintro i x y Tt σ H2 hx hy ⟨v4, v5, rfl, kx, hF2, hO2⟩ hTt
    obtain ⟨t, rfl, ht⟩ := stretch_at q0 q1 q2 q3 i x hx
    obtain ⟨r, rfl, hrow⟩ := four_at e0 e1 e2 e3 i y hy
    refine g2 ?_
    have hi : i < 4 := (List.getElem?_eq_some_iff.mp hx).1
    have s3 : Same H2 (upd H2 Tt (.tup [.ref t, .ref r])) := same_new hTt
    have kx3 : KeepX H (upd H2 Tt (.tup [.ref t, .ref r])) [p] := kx.trans (KeepX.of s3)
    have hO3 : LI (upd H2 Tt (.tup [.ref t, .ref r])) po (Pv.anTo rp l u i).1 := hO2.same s3
    have hF3 : FlatAt C (upd H2 Tt (.tup [.ref t, .ref r])) p (Pv.anTo rp l u i).2 (po :: X) := by
      obtain ⟨dx, au, a1, a2, a3⟩ := hF2
      exact ⟨dx, au, s3 _ _ a1, a2.same s3, a3⟩
    generalize upd H2 Tt (.tup [.ref t, .ref r]) = H3 at *
    obtain ⟨dx3, au3, hp3, hu3, nX3⟩ := id hF3
    have nasp : as ≠ p := li_ins hl hp0
    have nrp : r ≠ p := li_ins hrow hp0
    have hl3 : LI H3 as l := kx3.li hl (by simp [nasp])
    have hr3 : LI H3 r (rp i) := kx3.li hrow (by simp [nrp])
    have al3 : Al H3 X := al.keep kx3 (by rw [hp3]; simp)
    refine ⟨_, rfl, .inl ⟨rfl, _, hO3.sq⟩, ?_⟩
    refine ⟨_, rfl, _, rfl, t, _, _, _, rfl, rfl, ht H3, atI_nat (j := 0) rfl, _, rfl, _, rfl, t, _, _, _, rfl, rfl, ht H3, atI_nat (j := 1) rfl, _, rfl, as, _, rfl, hl3.sq, fun pc hpc => ?_⟩
    have ec : cutV (l.map V.int) (some ((Pv.lo i : Nat) : Int)) (some ((Pv.hi i : Nat) : Int)) = (Pv.cutOf l i).map V.int := cutI l _ _
    have s4 : Same H3 (upd H3 pc (.lst (cutV (l.map V.int) (some ((Pv.lo i : Nat) : Int)) (some ((Pv.hi i : Nat) : Int))))) := same_new hpc
    have hc4 : LI (upd H3 pc (.lst (cutV (l.map V.int) (some ((Pv.lo i : Nat) : Int)) (some ((Pv.hi i : Nat) : Int))))) pc (Pv.cutOf l i) := li_new' ec
    generalize upd H3 pc (.lst (cutV (l.map V.int) (some ((Pv.lo i : Nat) : Int)) (some ((Pv.hi i : Nat) : Int)))) = H4 at *
    have npc : pc ≠ p := li_ins hc4 (s4 _ _ hp3)
    obtain ⟨wo, ws, ls⟩ := Pv.anTo_ok lrp wl wu lu i
    refine ⟨pc, rfl, ⟨_, hc4.sq⟩, lcS (fun u s => Ra26.analyseAt (rp i) u s s) (fun D st H => FlatAt C H p st (D :: po :: X) ∧ Pv.Ws st ∧ st.length = 8) [p] (Pv.anTo rp l u i).2 hc4 (by simp [npc]) (by have := cutOf_len l160 i; omega) (one_some (s4 _ _ hp3)) ?_ ?_ ?_ ?_⟩
    · intro D hD
      exact ⟨⟨dx3, au3, by rw [upd_ne (ne_of_none (s4 _ _ hp3) hD)]; exact s4 _ _ hp3, (hu3.same s4).same (same_new hD), by
        have := ne_of_none (hu3.same s4) hD
        simp only [List.mem_cons, not_or] at nX3 ⊢; exact ⟨this, nX3⟩⟩, ws, ls⟩
    · intro D st H5 xs hD ⟨⟨dx, au, a1, a2, a3⟩, b, c⟩
      have h1 : au ≠ D := by simp only [List.mem_cons, not_or] at a3; exact a3.1
      exact ⟨⟨dx, au, by rw [upd_ne (ne_of_none (s4 _ _ hp3) hD)]; exact a1, by show upd _ _ _ au = _; rw [upd_ne h1]; exact a2, a3⟩, b, c⟩
    · intro D n st z H5 R hD hD5 kx5 hz ⟨hF5, b, c⟩ hR
      obtain ⟨dx, au, a1, a2, a3⟩ := id hF5
      have wz := W_get (Pv.cutOf_W wl i) hz
      have hr5 : LI H5 r (rp i) := kx5.li (hr3.same s4) (by simp [nrp])
      have al5 : Al H5 (D :: po :: X) := .cons hD5 (.cons (by rw [kx5 _ _ (s4 _ _ hO3) (by simp [pnp])]; simp) ((al3.same s4).keep kx5 (by rw [a1]; simp)))
      obtain ⟨o1, o2, o3⟩ := Pv.anAt_ok (rp i) st z z wz wz
      exact ⟨_, rfl, p, dx, _, rfl, a1, (by kernel_rfl), _, rfl, _, rfl, p, r, st, rp i, z, _, rfl, hF5, hr5, lrp i, c, b, wz, al5, fun H6 hF6 k6 => hR H6 ⟨hF6, o2, by rw [o3, lrp i, c]; rfl⟩ k6⟩
    · intro D H5 hD kx5 ⟨hF5, _, _⟩ e
      rw [anRow_run] at hF5 e
      obtain ⟨dx, au, a1, a2, a3⟩ := id hF5
      have hO5 : LI H5 po (Pv.anTo rp l u i).1 := kx5.li (hO3.same s4) (by simp [pnp])
      have nau : au ≠ po := by simp only [List.mem_cons, not_or] at a3; exact a3.2.1
      have la := anTo_len lrp l160 wl wu lu i
      have lb := (Pv.anRow_ok (lrp i) _ _ (Pv.cutOf_W wl i) ws ls).2.2.2
      have lc := cutOf_len l160 i
      refine ⟨po, D, _, _, rfl, rfl, hO5, e, ?_, some (.ref t), some (.ref r), rfl, ?_, ?_, ?_⟩
      · rw [List.length_map, List.length_map, lb]
        exact Nat.le_of_lt (small_line (by omega))
      · intro b o eb nb
        rw [upd_ne (fun z => by rw [z, hpo] at eb; cases eb)]
        exact kx5 _ _ (s4 _ _ (kx3 _ _ eb nb)) nb
      · exact ⟨dx, au, by rw [upd_ne pnp.symm]; exact a1, by show upd _ _ _ au = _; rw [upd_ne nau]; exact a2, fun m => a3 (List.mem_cons_of_mem _ m)⟩
      · refine li_new' ?_
        rw [← List.map_append]; rfl
  · rintro σ H2 ⟨v4, v5, rfl, kx, hF2, hO2⟩
    have h4 : min ([.ref b0, .ref b1, .ref b2, .ref b3] : List V).length ([.ref r0, .ref r1, .ref r2, .ref r3] : List V).length = 4 := rfl
    rw [h4, Pv.an_four rp u l160] at hF2 hO2
    obtain ⟨dx, au, a1, a2, a3⟩ := hF2
    refine ⟨_, rfl, k po H2 ⟨dx, au, a1, a2, fun m => a3 (List.mem_cons_of_mem _ m)⟩ kx hpo hO2⟩
end Px
namespace Px
open PySem PySem.Spec PyProof.Rows L2
local macro_rules | `(tactic| walk_at "rd") => `(tactic| repeat (first | refine ⟨_, rfl, ?_⟩ | refine ⟨_, _, rfl, rfl, ?_⟩ | refine ⟨_, _, rfl, ?_⟩ | refine ⟨rfl, ?_⟩ | refine ⟨trivial, ?_⟩ | refine ⟨(show (0 : Int) ≤ _ by decide), ?_⟩ | refine ⟨Or.inl ⟨by decide, by decide⟩, ?_⟩ | refine ⟨Or.inr ⟨by decide, by decide⟩, ?_⟩))
variable {P : Program} {w : World} {K : PySem.W.Frag} {mg : Str → Option Value} {base : Heap} {C : Ad}
/-! ### Shaper -/
def ShapAt (C : Ad) (H : Hp) (p al : Addr) (v : List Int) : Prop := ∃ dx, H p = some (.ins C.cShaper dx (fOne al)) ∧ LI H al v
def spInS (C : Addr) (At : Hp → Addr → Addr → Prop) : Sp := fun vs H Q _ => ∃ p dx, vs = [.ref p] ∧ H p = some (.ins C dx []) ∧ ∀ al H', H al = none → At H' p al → KeepX H H' [p] → Q .non H'
abbrev s_Shaper___init__ : Stmt := (inClass (top 52) 0)
theorem sc_Shaper___init__ : FnScope ["self"] ["self"] (defScope s_Shaper___init__) := ⟨rfl, rfl, rfl, by decide +kernel, rfl, by decide +kernel, by decide +kernel⟩
theorem i_Shaper (T : Txt K mg C) : Di P w K mg base "Shaper" C.cShaper 1 (spInS C.cShaper fun H p al => ShapAt C H p al (List.replicate 9 0)) := by
  refine .mk' T.n_Shaper T.m_Shaper_init sc_Shaper___init__ (fun _ _ _ _ _ _ us hl => match us, hl with | [_], _ => rfl) (fun vs H Q E h => by obtain ⟨_, _, rfl, _⟩ := h; rfl) fun f cdv A outer s H vs Q E hr h => ?_
  obtain ⟨p, dx, rfl, hp, k⟩ := h
  refine ⟨_, (pss_one (ps_fld (pv 0) (pe_op op_rep (pe_lst (pa_cons pe_int pa_nil)) (pe_op op_add (pe_cst T.c_ORDER) pe_int)) rfl)), ?_⟩
  refine ⟨by show 1 ≤ sizeLine; decide, fun l hl0 => ⟨_, _, rfl, rfl, ?_⟩⟩
  refine rep_at hl0 (by decide) (by decide) fun q H1 s1 hq e1 => ?_
  refine ⟨_, rfl, p, _, dx, _, rfl, s1 _ _ hp, T.k_Shaper, T.a_Shaper_delayed, (by show 0 < 1000; decide), ?_⟩
  rw [fOne_new]
  have nqp : q ≠ p := li_ins e1 (s1 _ _ hp)
  exact k q _ hq ⟨dx, upd_same, (by show upd _ _ _ q = _; rw [upd_ne nqp]; exact e1)⟩ ((KeepX.of s1).trans (KeepX.upd (by simp)))
def spSO (C : Ad) : Sp := fun vs H Q _ => ∃ p al ar v row x, vs = [.ref p, .int x, .ref ar] ∧ ShapAt C H p al v ∧ LI H ar row ∧ row.length = 8 ∧ v.length = 9 ∧ Pv.Ws v ∧ Pv.W x ∧
  ∀ H', ShapAt C H' p al (Ra26.synthAt row v 8 x []).2 → KeepX H H' [al] → Q (.int (Ra26.synthAt row v 8 x []).1) H'
abbrev s_Shaper_shaped_one : Stmt := (inClass (top 52) 2)
theorem sc_Shaper_shaped_one : FnScope ["self", "sample", "row", "step", "kept"] ["self", "sample", "row"] (defScope s_Shaper_shaped_one) := ⟨rfl, rfl, rfl, by decide +kernel, rfl, by decide +kernel, by decide +kernel⟩
theorem m_shaped_one (T : Txt K mg C) : Dm P w K mg base C.cShaper "shaped_one" ["self", "sample", "row"] 3 (spSO C) := by
  refine .mk' T.k_Shaper T.m_Shaper_shaped_one sc_Shaper_shaped_one (fun _ _ _ _ _ _ us hl => match us, hl with | [_, _, _], _ => rfl) (fun vs H Q E h => by obtain ⟨_, _, _, _, _, _, rfl, _⟩ := h; rfl) fun f cdv A outer s H vs Q E hr h => ?_
  obtain ⟨p, al, ar, v, row, x, rfl, ⟨dx, hp, hv⟩, hr0, lr, lv, wv, wx, k⟩ := h
  refine ⟨_, (pss_cons (ps_for PassesOwn.never rfl (pi_range3 rfl T.b_range (pa_cons (pe_op op_sub (pe_cst T.c_ORDER) pe_int) (pa_cons (pe_un un_neg pe_int) (pa_cons (pe_un un_neg pe_int) pa_nil)))) (pg_name (i := 3) sc_Shaper_shaped_one.nd rfl (Or.inl rfl)) (pss_cons (ps_set (i := 4) sc_Shaper_shaped_one.nd rfl (Or.inl rfl) (pe_ix (ix_listK K rfl) (pe_fldK K rfl (pv 0) rfl) (pv 3) (fun _ _ => rfl)))
      (pss_cons (ps_set (i := 1) sc_Shaper_shaped_one.nd rfl (Or.inl rfl) (pe_fn (d_minus T) (hr.mono (by decide)) (pa_cons (pv 1) (pa_cons (pe_fn (d_rounded_product T) (hr.mono (by decide)) (pa_cons (pe_ix (ix_listK K rfl) (pv 2) (pv 3) (fun _ _ => rfl)) (pa_cons (pv 4) pa_nil))) pa_nil))))
      (pss_one (ps_asg (pe_fn (d_plus T) (hr.mono (by decide)) (pa_cons (pv 4) (pa_cons (pe_fn (d_rounded_product T) (hr.mono (by decide)) (pa_cons (pe_ix (ix_listK K rfl) (pv 2) (pv 3) (fun _ _ => rfl)) (pa_cons (pv 1) pa_nil))) pa_nil))) (pg_sub (pe_fldK K rfl (pv 0) rfl) (pe_op op_add (pv 3) pe_int) set_list))))))
      (pss_cons (ps_asg (pv 1) (pg_sub (pe_fldK K rfl (pv 0) rfl) pe_int set_list))
      (pss_one (ps_ret (pv 1))))), ?_⟩
  have nra : ar ≠ al := li_ne hr0 hv (by omega)
  have nap : al ≠ p := li_ins hv hp
  refine ⟨_, _, rfl, rfl, _, rfl, _, rfl, 7, -1, -1, 8, rfl, ⟨by decide, by decide, by decide, by decide⟩, ?_⟩
  refine for_rangeC (n := 8) (fun i σ H2 => ∃ (y : Int) (w : List Int) (v3 v4 : Option V), σ = [some (.ref p), some (.int y), some (.ref ar), v3, v4] ∧ KeepX H H2 [al] ∧ LI H2 al (v.take (9 - i) ++ w) ∧ w.length = i ∧ Pv.W y ∧ Pv.Ws w ∧ Ra26.synthAt row v 8 x [] = Ra26.synthAt row v (8 - i) y w)
    ⟨x, [], none, none, rfl, KeepX.refl _ _, by rw [List.take_of_length_le (by omega), List.append_nil]; exact hv, rfl, wx, Pv.Ws_nil, rfl⟩ ?_ ?_
  · rintro i σ H2 hi ⟨y, w, v3, v4, rfl, kx, hL, lw, wy, ww, eq⟩
    obtain ⟨j, ej⟩ : ∃ j, j = 7 - i := ⟨_, rfl⟩
    have e9 : 9 - i = j + 2 := by omega
    have e8 : 8 - i = j + 1 := by omega
    rw [e9] at hL
    rw [e8] at eq
    have hp2 := kx _ _ hp (by simp [nap.symm])
    have hr2 := kx.li hr0 (by simp [nra])
    have st : (7 : Int) + (i : Nat) * (-1) = ((j : Nat) : Int) := by omega
    have ll : (v.take (j + 2) ++ w).length = 9 := by rw [List.length_append, List.length_take]; omega
    have ga : atI ((v.take (j + 2) ++ w).map V.int) ((7 : Int) + (i : Nat) * (-1)) = some (.int (Ra26.at_ v j)) := by
      rw [st, at_tab (ns := v.take (j + 2) ++ w) (by omega) (by omega), Int.toNat_natCast, Pv.at_take_app (by omega)]
    have gr : atI (row.map V.int) ((7 : Int) + (i : Nat) * (-1)) = some (.int (Ra26.at_ row j)) := by
      rw [st, at_tab (ns := row) (by omega) (by omega), Int.toNat_natCast]
    refine ⟨_, rfl, p, _, dx, _, _, rfl, hp2, T.k_Shaper, T.a_Shaper_delayed, fOne_look _, _, rfl, al, _, _, _, rfl, rfl, hL.sq, ga, ?_⟩
    refine ⟨_, rfl, _, rfl, _, rfl, ar, _, _, _, rfl, rfl, hr2.sq, gr, _, rfl, _, _, rfl, cmulW' (Pv.Ws_at wv j), _, _, rfl, trivial, ?_⟩
    refine ⟨_, rfl, _, rfl, _, rfl, ar, _, _, _, rfl, rfl, hr2.sq, gr, _, rfl, _, _, rfl, cmulW' (Pv.sub_W _ _), _, _, rfl, trivial, ?_⟩
    refine ⟨_, rfl, p, _, dx, _, _, rfl, hp2, T.k_Shaper, T.a_Shaper_delayed, fOne_look _, _, rfl, _, _, rfl, rfl, al, _, _, j + 1, rfl, rfl, hL, ?_, ?_⟩
    · rw [List.length_map, ll]
      have e : (7 : Int) + (i : Nat) * (-1) + 1 = ((j + 1 : Nat) : Int) := by omega
      rw [e]
      unfold ixN
      rw [if_pos (by omega), if_pos (by omega), Int.toNat_natCast]
    · refine ⟨_, Ra26.add (Ra26.at_ v j) (Ra26.mulR (Ra26.at_ row j) (Ra26.sub y (Ra26.mulR (Ra26.at_ row j) (Ra26.at_ v j)))) :: w, _, _, rfl, kx.trans (KeepX.upd (by simp)), li_new' ?_, by rw [List.length_cons, lw], Pv.sub_W _ _, Pv.Ws_cons (Pv.add_W _ _) ww, ?_⟩
      · have e10 : 9 - (i + 1) = j + 1 := by omega
        rw [e10, ← Pv.set_take _ (by omega), List.map_set]
      · have e11 : 8 - (i + 1) = j := by omega
        rw [e11, eq, Pv.sy_step]
  · rintro σ H2 ⟨y, w, v3, v4, rfl, kx, hL, lw, wy, ww, eq⟩
    have hp2 := kx _ _ hp (by simp [nap.symm])
    rw [show 8 - 8 = 0 from rfl, Pv.sy_zero] at eq
    rw [show 9 - 8 = 1 from rfl] at hL
    refine ⟨_, rfl, _, rfl, p, _, dx, _, _, rfl, hp2, T.k_Shaper, T.a_Shaper_delayed, fOne_look _, al, _, _, 0, rfl, rfl, hL, ?_, ?_⟩
    · rw [List.length_map, List.length_append, List.length_take]
      unfold ixN
      rw [if_pos (by decide), if_pos (by omega)]
      rfl
    · refine ⟨_, rfl, qint (k _ ⟨dx, ?_, ?_⟩ (kx.trans (KeepX.upd (by simp)))) (by rw [eq])⟩
      · rw [upd_ne nap.symm]; exact hp2
      · rw [eq]
        refine li_new' ?_
        rw [← Pv.set_zero y (show 1 ≤ v.length by omega), List.map_set]
theorem syRow_run (row : List Int) : ∀ (l v : List Int), run (fun v s => Ra26.synthAt row v 8 s []) l v = Pv.syRow row l v
  | [], v => rfl
  | s :: l, v => by
    unfold run
    rw [syRow_run row l]
    rfl
def spSh (C : Ad) : Sp := fun vs H Q _ => ∃ p al as af l v rp, vs = [.ref p, .ref as, .ref af] ∧ ShapAt C H p al v ∧ LI H as l ∧ Four H af rp ∧ l.length = 160 ∧ Pv.Ws l ∧ Pv.Ws v ∧ v.length = 9 ∧ (∀ k, (rp k).length = 8) ∧
  ∀ q H', ShapAt C H' p al (Ra26.synth rp 0 l v).2 → KeepX H H' [al] → H q = none → LI H' q (Ra26.synth rp 0 l v).1 → Q (.ref q) H'
theorem syTo_len (rp : Nat → List Int) {l u : List Int} (h160 : l.length = 160) (h : Pv.Ws l) (hu : Pv.Ws u) (hl : u.length = 9) : ∀ i, (Pv.syTo rp l u i).1.length ≤ 160 * i
  | 0 => Nat.le_refl _
  | i + 1 => by
    show ((Pv.syTo rp l u i).1 ++ _).length ≤ _
    obtain ⟨a, b, c⟩ := Pv.syTo_ok rp h hu hl i
    rw [List.length_append, (Pv.syRow_ok (rp i) _ _ (Pv.cutOf_W h i) b c).2.2.2]
    have := syTo_len rp h160 h hu hl i
    have := cutOf_len h160 i
    omega
abbrev s_Shaper_shaped : Stmt := (inClass (top 52) 1)
theorem sc_Shaper_shaped : FnScope ["self", "samples", "factors", "out", "stretch", "row", "sample"] ["self", "samples", "factors"] (defScope s_Shaper_shaped) := ⟨rfl, rfl, rfl, by decide +kernel, rfl, by decide +kernel, by decide +kernel⟩
theorem m_shaped (T : Txt K mg C) : Dm P w K mg base C.cShaper "shaped" ["self", "samples", "factors"] 4 (spSh C) := by
  refine .mk' T.k_Shaper T.m_Shaper_shaped sc_Shaper_shaped (fun _ _ _ _ _ _ us hl => match us, hl with | [_, _, _], _ => rfl) (fun vs H Q E h => by obtain ⟨_, _, _, _, _, _, _, rfl, _⟩ := h; rfl) fun f cdv A outer s H vs Q E hr h => ?_
  obtain ⟨p, al, as, af, l, v, rp, rfl, hF, hl, ⟨r0, r1, r2, r3, ef, e0, e1, e2, e3⟩, l160, wl, wv, lv, lrp, k⟩ := h
  obtain ⟨b0, b1, b2, b3, hS, q0, q1, q2, q3⟩ := T.u_STRETCHES
  refine ⟨_, (pss_cons (ps_set (i := 3) sc_Shaper_shaped.nd rfl (Or.inl rfl) (pe_lst pa_nil))
      (pss_cons (ps_for PassesOwn.never rfl (pi_zipS true false T.b_zip (pa_cons (pe_tupK K rfl hS) (pa_cons (pv 2) pa_nil))) (pg_pair K 4 5 rfl rfl sc_Shaper_shaped.nd rfl rfl (Or.inl rfl) (Or.inr rfl) (.inl rfl) (.inl rfl)) (pss_one (ps_expr (pe_bm PySem.F.plainAttrs_list PySem.F.slot_list_extend PySem.F.type_list_extend mt_extend (pv 3) (pa_cons (pe_lc (own := [("sample", 6)]) rfl sc_Shaper_shaped.nd (pi_list (pe_slice (sl_listK K rfl) (pv 1) (po_some (pe_ix (ix_tupK K rfl) (pv 4) pe_int (fun _ _ => rfl))) (po_some (pe_ix (ix_tupK K rfl) (pv 4) pe_int (fun _ _ => rfl))))) (blkOk_by (by kernel_rfl)) (fun _ _ _ _ _ => (pg_name (i := 6) sc_Shaper_shaped.nd rfl (Or.inl rfl))) (fun _ _ _ _ _ => pts_nil) (fun _ _ _ _ _ => (pe_mt (m_shaped_one T) (hr.mono (by decide)) (pv 0) (pa_cons (pv 6) (pa_cons (pv 5) pa_nil))))) pa_nil)))))
      (pss_one (ps_ret (pv 3))))), ?_⟩
  refine ⟨by show 0 ≤ sizeLine; decide, fun po hpo => ?_⟩
  have s1 : Same H (upd H po (.lst [])) := same_new hpo
  have o1 : LI (upd H po (.lst [])) po [] := upd_same
  generalize upd H po (.lst []) = H1 at *
  intro tS hT
  obtain ⟨dx0, hp0, hv0⟩ := hF
  have pnl : po ≠ al := (ne_of_none hv0 hpo).symm
  have pnp : po ≠ p := li_ins o1 (s1 _ _ hp0)
  have nlp : al ≠ p := li_ins hv0 hp0
  have nfl : af ≠ al := fun z => by
    rw [z, show H al = _ from hv0] at ef
    injection ef with ef; injection ef with ef
    have := congrArg List.length ef
    rw [List.length_map, lv] at this
    simp at this
  refine ⟨_, rfl, tS, af, _, _, rfl, hT _, SqL.of (s1 _ _ ef), ?_⟩
  refine for_zip (fun i σ H2 => ∃ v4 v5, σ = [some (.ref p), some (.ref as), some (.ref af), some (.ref po), v4, v5, none] ∧ KeepX H H2 [al] ∧ ShapAt C H2 p al (Pv.syTo rp l v i).2 ∧ LI H2 po (Pv.syTo rp l v i).1)
    ⟨none, none, rfl, KeepX.of s1, ⟨dx0, s1 _ _ hp0, hv0.same s1⟩, o1⟩ (fun i σ H2 _ ⟨_, _, _, kx, _⟩ => ⟨hT H2, SqL.of (kx _ _ ef (by simp [nfl]))⟩) ?_ ?_
  · rintro i x y Tt σ H2 hx hy ⟨v4, v5, rfl, kx, hF2, hO2⟩ hTt
    obtain ⟨t, rfl, ht⟩ := stretch_at q0 q1 q2 q3 i x hx
    obtain ⟨r, rfl, hrow⟩ := four_at e0 e1 e2 e3 i y hy
    refine g2 ?_
    have hi : i < 4 := (List.getElem?_eq_some_iff.mp hx).1
    have s3 : Same H2 (upd H2 Tt (.tup [.ref t, .ref r])) := same_new hTt
    have kx3 : KeepX H (upd H2 Tt (.tup [.ref t, .ref r])) [al] := kx.trans (KeepX.of s3)
    have hO3 : LI (upd H2 Tt (.tup [.ref t, .ref r])) po (Pv.syTo rp l v i).1 := hO2.same s3
    have hF3 : ShapAt C (upd H2 Tt (.tup [.ref t, .ref r])) p al (Pv.syTo rp l v i).2 := by
      obtain ⟨dx, a1, a2⟩ := hF2
      exact ⟨dx, s3 _ _ a1, a2.same s3⟩
    generalize upd H2 Tt (.tup [.ref t, .ref r]) = H3 at *
    obtain ⟨dx3, hp3, hv3⟩ := id hF3
    have nas : as ≠ al := li_ne hl hv0 (by omega)
    have nrl : r ≠ al := li_ne hrow hv0 (by rw [lrp i]; omega)
    have hl3 : LI H3 as l := kx3.li hl (by simp [nas])
    have hr3 : LI H3 r (rp i) := kx3.li hrow (by simp [nrl])
    refine ⟨_, rfl, .inl ⟨rfl, _, hO3.sq⟩, ?_⟩
    refine ⟨_, rfl, _, rfl, t, _, _, _, rfl, rfl, ht H3, atI_nat (j := 0) rfl, _, rfl, _, rfl, t, _, _, _, rfl, rfl, ht H3, atI_nat (j := 1) rfl, _, rfl, as, _, rfl, hl3.sq, fun pc hpc => ?_⟩
    have ec : cutV (l.map V.int) (some ((Pv.lo i : Nat) : Int)) (some ((Pv.hi i : Nat) : Int)) = (Pv.cutOf l i).map V.int := cutI l _ _
    have s4 : Same H3 (upd H3 pc (.lst (cutV (l.map V.int) (some ((Pv.lo i : Nat) : Int)) (some ((Pv.hi i : Nat) : Int))))) := same_new hpc
    have hc4 : LI (upd H3 pc (.lst (cutV (l.map V.int) (some ((Pv.lo i : Nat) : Int)) (some ((Pv.hi i : Nat) : Int))))) pc (Pv.cutOf l i) := li_new' ec
    generalize upd H3 pc (.lst (cutV (l.map V.int) (some ((Pv.lo i : Nat) : Int)) (some ((Pv.hi i : Nat) : Int)))) = H4 at *
    have npc : pc ≠ al := (ne_of_none hv3 hpc).symm
    obtain ⟨wo, ws, ls⟩ := Pv.syTo_ok rp wl wv lv i
    refine ⟨pc, rfl, ⟨_, hc4.sq⟩, lcS (fun v s => Ra26.synthAt (rp i) v 8 s []) (fun D st H => ShapAt C H p al st ∧ Pv.Ws st ∧ st.length = 9) [al] (Pv.syTo rp l v i).2 hc4 (by simp [npc]) (by have := cutOf_len l160 i; omega) (one_some (s4 _ _ hv3)) ?_ ?_ ?_ ?_⟩
    · intro D hD
      exact ⟨⟨dx3, by rw [upd_ne (ne_of_none (s4 _ _ hp3) hD)]; exact s4 _ _ hp3, (hv3.same s4).same (same_new hD)⟩, ws, ls⟩
    · intro D st H5 xs hD ⟨⟨dx, a1, a2⟩, b, c⟩
      exact ⟨⟨dx, by rw [upd_ne (ne_of_none (s4 _ _ hp3) hD)]; exact a1, by show upd _ _ _ al = _; rw [upd_ne (ne_of_none (hv3.same s4) hD)]; exact a2⟩, b, c⟩
    · intro D n st z H5 R hD hD5 kx5 hz ⟨hF5, b, c⟩ hR
      obtain ⟨dx, a1, a2⟩ := id hF5
      have wz := W_get (Pv.cutOf_W wl i) hz
      have hr5 : LI H5 r (rp i) := kx5.li (hr3.same s4) (by simp [nrl])
      obtain ⟨o1, o2, o3⟩ := Pv.sy_ok (rp i) st 8 z [] wz Pv.Ws_nil
      exact ⟨_, rfl, p, dx, _, rfl, a1, (by kernel_rfl), _, rfl, _, rfl, p, al, r, st, rp i, z, rfl, hF5, hr5, lrp i, c, b, wz, fun H6 hF6 k6 => hR H6 ⟨hF6, o2, by rw [o3]; rfl⟩ k6⟩
    · intro D H5 hD kx5 ⟨hF5, _, _⟩ e
      rw [syRow_run] at hF5 e
      obtain ⟨dx, a1, a2⟩ := id hF5
      have hO5 : LI H5 po (Pv.syTo rp l v i).1 := kx5.li (hO3.same s4) (by simp [pnl])
      have la := syTo_len rp l160 wl wv lv i
      have lb := (Pv.syRow_ok (rp i) _ _ (Pv.cutOf_W wl i) ws ls).2.2.2
      have lc := cutOf_len l160 i
      refine ⟨po, D, _, _, rfl, rfl, hO5, e, ?_, some (.ref t), some (.ref r), rfl, ?_, ?_, ?_⟩
      · rw [List.length_map, List.length_map, lb]
        exact Nat.le_of_lt (small_line (by omega))
      · intro b o eb nb
        rw [upd_ne (fun z => by rw [z, hpo] at eb; cases eb)]
        exact kx5 _ _ (s4 _ _ (kx3 _ _ eb nb)) nb
      · exact ⟨dx, by rw [upd_ne pnp.symm]; exact a1, by show upd _ _ _ al = _; rw [upd_ne pnl.symm]; exact a2⟩
      · refine li_new' ?_
        rw [← List.map_append]; rfl
  · rintro σ H2 ⟨v4, v5, rfl, kx, hF2, hO2⟩
    have h4 : min ([.ref b0, .ref b1, .ref b2, .ref b3] : List V).length ([.ref r0, .ref r1, .ref r2, .ref r3] : List V).length = 4 := rfl
    rw [h4, Pv.sy_four rp v l160] at hF2 hO2
    exact ⟨_, rfl, k po H2 hF2 kx hpo hO2⟩
end Px
namespace Px
open PySem PySem.Spec PyProof.Rows L2
local macro_rules | `(tactic| walk_at "rd") => `(tactic| repeat (first | refine ⟨_, rfl, ?_⟩ | refine ⟨_, _, rfl, rfl, ?_⟩ | refine ⟨_, _, rfl, ?_⟩ | refine ⟨rfl, ?_⟩ | refine ⟨trivial, ?_⟩ | refine ⟨(show (0 : Int) ≤ _ by decide), ?_⟩ | refine ⟨Or.inl ⟨by decide, by decide⟩, ?_⟩ | refine ⟨Or.inr ⟨by decide, by decide⟩, ?_⟩))
variable {P : Program} {w : World} {K : PySem.W.Frag} {mg : Str → Option Value} {base : Heap} {C : Ad}
theorem ins_ne {H : Hp} {a b : Addr} {C1 d1 C2 d2 : Addr} {f1 f2 : List (Str × V)} (h1 : H a = some (.ins C1 d1 f1)) (h2 : H b = some (.ins C2 d2 f2)) (h : f1.length ≠ f2.length) : a ≠ b := fun e => by
  rw [e, h2] at h1
  injection h1 with h1; injection h1 with _ _ h1
  exact h (by rw [h1])
theorem made_same {H H' : Hp} {x dx : Addr} {o : HO} (hx : H x = none) (hd : H dx = none) (k : KeepX (upd (upd H dx (.own x)) x o) H' [x]) : Same H H' := fun b u e => by
  refine k b u ?_ (by simp [ne_of_none e hx])
  rw [upd_ne (ne_of_none e hx), upd_ne (ne_of_none e hd)]; exact e
theorem made_al {H : Hp} {x dx : Addr} {o : HO} {X : List Addr} (hx : H x = none) (hd : H dx = none) (a : Al H X) : Al (upd (upd H dx (.own x)) x o) X := fun y hy => by
  rw [upd_ne (fun z => by rw [z] at hy; exact a x hy hx), upd_ne (fun z => by rw [z] at hy; exact a dx hy hd)]
  exact a y hy
/-! ### Coder -/
def fCod (pfr pfl as ap : Addr) : List (Str × V) := [("front", .ref pfr), ("flattener", .ref pfl), ("spectrum", .ref as), ("past", .ref ap)]
theorem fc1 (a b c d : Addr) : (fCod a b c d).lookup ("front" : Str) = some (.ref a) := by kernel_rfl
theorem fc2 (a b c d : Addr) : (fCod a b c d).lookup ("flattener" : Str) = some (.ref b) := by kernel_rfl
theorem fc3 (a b c d : Addr) : (fCod a b c d).lookup ("spectrum" : Str) = some (.ref c) := by kernel_rfl
theorem fc4 (a b c d : Addr) : (fCod a b c d).lookup ("past" : Str) = some (.ref d) := by kernel_rfl
theorem fp3 (a b c d x : Addr) : putF "spectrum" (.ref x) (fCod a b c d) = fCod a b x d := by kernel_rfl
theorem fp4 (a b c d x : Addr) : putF "past" (.ref x) (fCod a b c d) = fCod a b c x := by kernel_rfl
theorem fpN (a b c d : Addr) : putF "past" (.ref d) (putF "spectrum" (.ref c) (putF "flattener" (.ref b) (putF "front" (.ref a) []))) = fCod a b c d := by kernel_rfl
theorem fn_one (a : Addr) : putF "front" (.ref a) [] = [(("front" : Str), V.ref a)] := by kernel_rfl
theorem fn_two (a b : Addr) : putF "flattener" (.ref b) [(("front" : Str), V.ref a)] = [(("front" : Str), V.ref a), ("flattener", .ref b)] := by kernel_rfl
theorem fn_three (a b c : Addr) : putF "spectrum" (.ref c) [(("front" : Str), V.ref a), ("flattener", .ref b)] = [(("front" : Str), V.ref a), ("flattener", .ref b), ("spectrum", .ref c)] := by kernel_rfl
theorem fn_four (a b c d : Addr) : putF "past" (.ref d) [(("front" : Str), V.ref a), ("flattener", .ref b), ("spectrum", .ref c)] = fCod a b c d := by kernel_rfl
def CoderAt (C : Ad) (H : Hp) (p pfr pfl : Addr) (s : Ra26.S) (X : List Addr) : Prop := ∃ dx as ap, H p = some (.ins C.cCoder dx (fCod pfr pfl as ap)) ∧ FrontAt C H pfr s.z1 s.z2 s.mp ∧ FlatAt C H pfl s.u X ∧ LI H as s.lar ∧ LI H ap s.d ∧ as ∉ X ∧ ap ∉ X
theorem FrontAt.same {H H' : Hp} {p : Addr} {a b c : Int} (h : FrontAt C H p a b c) (s : Same H H') : FrontAt C H' p a b c := let ⟨dx, e⟩ := h; ⟨dx, s _ _ e⟩
theorem FrontAt.keep {H H' : Hp} {p : Addr} {a b c : Int} {S : List Addr} (h : FrontAt C H p a b c) (s : KeepX H H' S) (n : p ∉ S) : FrontAt C H' p a b c := let ⟨dx, e⟩ := h; ⟨dx, s _ _ e n⟩
theorem FlatAt.same {H H' : Hp} {p : Addr} {u : List Int} {X : List Addr} (h : FlatAt C H p u X) (s : Same H H') : FlatAt C H' p u X := let ⟨dx, a, e, l, n⟩ := h; ⟨dx, a, s _ _ e, l.same s, n⟩
theorem CoderAt.same {H H' : Hp} {p pfr pfl : Addr} {t : Ra26.S} {X : List Addr} (h : CoderAt C H p pfr pfl t X) (s : Same H H') : CoderAt C H' p pfr pfl t X :=
  let ⟨dx, as, ap, e, f, g, l1, l2, n1, n2⟩ := h; ⟨dx, as, ap, s _ _ e, f.same s, g.same s, l1.same s, l2.same s, n1, n2⟩
theorem CoderAt.more {H : Hp} {p pfr pfl pc : Addr} {t : Ra26.S} {X : List Addr} (h : CoderAt C H p pfr pfl t X) (hc : H pc = none) : CoderAt C H p pfr pfl t (pc :: X) := by
  obtain ⟨dx, as, ap, e, f, ⟨d2, au, g1, g2, g3⟩, l1, l2, n1, n2⟩ := h
  refine ⟨dx, as, ap, e, f, ⟨d2, au, g1, g2, ?_⟩, l1, l2, ?_, ?_⟩
  · simp only [List.mem_cons, not_or]; exact ⟨ne_of_none g2 hc, g3⟩
  · simp only [List.mem_cons, not_or]; exact ⟨ne_of_none l1 hc, n1⟩
  · simp only [List.mem_cons, not_or]; exact ⟨ne_of_none l2 hc, n2⟩
theorem CoderAt.less {H : Hp} {p pfr pfl pc : Addr} {t : Ra26.S} {X : List Addr} (h : CoderAt C H p pfr pfl t (pc :: X)) : CoderAt C H p pfr pfl t X := by
  obtain ⟨dx, as, ap, e, f, ⟨d2, au, g1, g2, g3⟩, l1, l2, n1, n2⟩ := h
  exact ⟨dx, as, ap, e, f, ⟨d2, au, g1, g2, fun m => g3 (List.mem_cons_of_mem _ m)⟩, l1, l2, fun m => n1 (List.mem_cons_of_mem _ m), fun m => n2 (List.mem_cons_of_mem _ m)⟩
/-- a list of ours outside X is written -/
theorem CoderAt.write {H : Hp} {p pfr pfl pc : Addr} {t : Ra26.S} {X : List Addr} {l xs : List V} (h : CoderAt C H p pfr pfl t X) (hc : pc ∈ X) (hl : H pc = some (.lst l)) : CoderAt C (upd H pc (.lst xs)) p pfr pfl t X := by
  obtain ⟨dx, as, ap, e, ⟨d1, f1⟩, ⟨d2, au, g1, g2, g3⟩, l1, l2, n1, n2⟩ := h
  have ni : ∀ {q C0 d fs}, H q = some (.ins C0 d fs) → q ≠ pc := fun e => (ne_of hl e (by intro z; cases z)).symm
  have nl : ∀ {q}, q ∉ X → q ≠ pc := fun n z => n (z ▸ hc)
  exact ⟨dx, as, ap, by rw [upd_ne (ni e)]; exact e, ⟨d1, by rw [upd_ne (ni f1)]; exact f1⟩, ⟨d2, au, by rw [upd_ne (ni g1)]; exact g1, by show upd _ _ _ _ = _; rw [upd_ne (nl g3)]; exact g2, g3⟩, by show upd _ _ _ _ = _; rw [upd_ne (nl n1)]; exact l1, by show upd _ _ _ _ = _; rw [upd_ne (nl n2)]; exact l2, n1, n2⟩
def spInC (C : Ad) : Sp := fun vs H Q _ => ∃ p dx X, vs = [.ref p] ∧ H p = some (.ins C.cCoder dx []) ∧ Al H X ∧ ∀ pfr pfl H', H pfr = none → H pfl = none → CoderAt C H' p pfr pfl Ra26.fresh X → KeepX H H' [p] → Q .non H'
abbrev s_Coder___init__ : Stmt := (inClass (top 97) 0)
theorem sc_Coder___init__ : FnScope ["self"] ["self"] (defScope s_Coder___init__) := ⟨rfl, rfl, rfl, by decide +kernel, rfl, by decide +kernel, by decide +kernel⟩
theorem i_Coder (T : Txt K mg C) : Di P w K mg base "Coder" C.cCoder 3 (spInC C) := by
  refine .mk' T.n_Coder T.m_Coder_init sc_Coder___init__ (fun _ _ _ _ _ _ us hl => match us, hl with | [_], _ => rfl) (fun vs H Q E h => by obtain ⟨_, _, _, rfl, _⟩ := h; rfl) fun f cdv A outer s H vs Q E hr h => ?_
  obtain ⟨p, dx, X, rfl, hp, al, k⟩ := h
  refine ⟨_, (pss_cons (ps_fld (pv 0) (pe_mk0 (i_Front T) (hr.mono (by decide))) rfl)
      (pss_cons (ps_fld (pv 0) (pe_mk0 (i_Flattener T) (hr.mono (by decide))) rfl)
      (pss_cons (ps_fld (pv 0) (pe_op op_rep (pe_lst (pa_cons pe_int pa_nil)) (pe_cst T.c_ORDER)) rfl)
      (pss_one (ps_fld (pv 0) (pe_op op_rep (pe_lst (pa_cons pe_int pa_nil)) (pe_cst T.c_LONGEST_LAG)) rfl))))), ?_⟩
  intro x1 d1 nx1 nd1 ne1
  refine ⟨x1, d1, rfl, upd_same, fun H1 hF1 k1 => ⟨rfl, ?_⟩⟩
  have s1 : Same H H1 := made_same nx1 nd1 k1
  have npx1 : p ≠ x1 := ne_of_none hp nx1
  refine ⟨_, rfl, p, _, dx, _, rfl, s1 _ _ hp, T.k_Coder, T.a_Coder_front, (by show 0 < 1000; decide), ?_⟩
  rw [fn_one]
  have hF2 : FrontAt C (upd H1 p (.ins C.cCoder dx [(("front" : Str), V.ref x1)])) x1 0 0 0 := hF1.keep (S := [p]) (KeepX.upd (by simp)) (by simp [npx1.symm])
  have hp2 : (upd H1 p (.ins C.cCoder dx [(("front" : Str), V.ref x1)])) p = some (.ins C.cCoder dx [(("front" : Str), V.ref x1)]) := upd_same
  have k2 : KeepX H (upd H1 p (.ins C.cCoder dx [(("front" : Str), V.ref x1)])) [p] := (KeepX.of s1).trans (KeepX.upd (by simp))
  generalize upd H1 p (.ins C.cCoder dx [(("front" : Str), V.ref x1)]) = H2 at *
  have al2 : Al H2 X := al.keep k2 (by rw [hp2]; simp)
  intro x3 d3 nx3 nd3 ne3
  refine ⟨x3, d3, X, rfl, upd_same, made_al nx3 nd3 al2, fun H3 hF3 k3 => ⟨rfl, ?_⟩⟩
  have s3 : Same H2 H3 := made_same nx3 nd3 k3
  have npx3 : p ≠ x3 := ne_of_none hp2 nx3
  refine ⟨_, rfl, p, _, dx, _, rfl, s3 _ _ hp2, T.k_Coder, T.a_Coder_flattener, (by show 1 < 1000; decide), ?_⟩
  rw [fn_two]
  have hF4 : FrontAt C (upd H3 p (.ins C.cCoder dx [(("front" : Str), V.ref x1), ("flattener", .ref x3)])) x1 0 0 0 := (hF2.same s3).keep (S := [p]) (KeepX.upd (by simp)) (by simp [npx1.symm])
  have hG4 : FlatAt C (upd H3 p (.ins C.cCoder dx [(("front" : Str), V.ref x1), ("flattener", .ref x3)])) x3 (List.replicate 8 0) X := by
    obtain ⟨da, au, a1, a2, a3⟩ := hF3
    exact ⟨da, au, by rw [upd_ne npx3.symm]; exact a1, by show upd _ _ _ _ = _; rw [upd_ne (li_ins a2 (s3 _ _ hp2))]; exact a2, a3⟩
  have hp4 : (upd H3 p (.ins C.cCoder dx [(("front" : Str), V.ref x1), ("flattener", .ref x3)])) p = some (.ins C.cCoder dx [(("front" : Str), V.ref x1), ("flattener", .ref x3)]) := upd_same
  have k4 : KeepX H (upd H3 p (.ins C.cCoder dx [(("front" : Str), V.ref x1), ("flattener", .ref x3)])) [p] := (k2.trans (KeepX.of s3)).trans (KeepX.upd (by simp))
  generalize upd H3 p (.ins C.cCoder dx [(("front" : Str), V.ref x1), ("flattener", .ref x3)]) = H4 at *
  have al4 : Al H4 X := al.keep k4 (by rw [hp4]; simp)
  refine ⟨by show 1 ≤ sizeLine; decide, fun l5 hl5 => ?_⟩
  dsimp only [tC]
  refine rep_at hl5 (by decide) (by decide) fun q5 H5 s5 hq5 e5 => ?_
  refine ⟨_, rfl, p, _, dx, _, rfl, s5 _ _ hp4, T.k_Coder, T.a_Coder_spectrum, (by show 2 < 1000; decide), ?_⟩
  rw [fn_three]
  have n5 : q5 ≠ p := li_ins e5 (s5 _ _ hp4)
  have e6 : LI (upd H5 p (.ins C.cCoder dx [(("front" : Str), V.ref x1), ("flattener", .ref x3), ("spectrum", .ref q5)])) q5 (List.replicate 8 0) := by show upd _ _ _ _ = _; rw [upd_ne n5]; exact e5
  have hF6 : FrontAt C (upd H5 p (.ins C.cCoder dx [(("front" : Str), V.ref x1), ("flattener", .ref x3), ("spectrum", .ref q5)])) x1 0 0 0 := (hF4.same s5).keep (S := [p]) (KeepX.upd (by simp)) (by simp [npx1.symm])
  have hG6 : FlatAt C (upd H5 p (.ins C.cCoder dx [(("front" : Str), V.ref x1), ("flattener", .ref x3), ("spectrum", .ref q5)])) x3 (List.replicate 8 0) X := by
    obtain ⟨da, au, a1, a2, a3⟩ := hG4.same s5
    exact ⟨da, au, by rw [upd_ne npx3.symm]; exact a1, by show upd _ _ _ _ = _; rw [upd_ne (li_ins a2 (s5 _ _ hp4))]; exact a2, a3⟩
  have hp6 : (upd H5 p (.ins C.cCoder dx [(("front" : Str), V.ref x1), ("flattener", .ref x3), ("spectrum", .ref q5)])) p = some (.ins C.cCoder dx [(("front" : Str), V.ref x1), ("flattener", .ref x3), ("spectrum", .ref q5)]) := upd_same
  have k6 : KeepX H (upd H5 p (.ins C.cCoder dx [(("front" : Str), V.ref x1), ("flattener", .ref x3), ("spectrum", .ref q5)])) [p] := (k4.trans (KeepX.of s5)).trans (KeepX.upd (by simp))
  generalize upd H5 p (.ins C.cCoder dx [(("front" : Str), V.ref x1), ("flattener", .ref x3), ("spectrum", .ref q5)]) = H6 at *
  have al6 : Al H6 X := al.keep k6 (by rw [hp6]; simp)
  refine ⟨by show 1 ≤ sizeLine; decide, fun l7 hl7 => ?_⟩
  dsimp only [tC]
  refine rep_at hl7 (by decide) (by decide) fun q7 H7 s7 hq7 e7 => ?_
  refine ⟨_, rfl, p, _, dx, _, rfl, s7 _ _ hp6, T.k_Coder, T.a_Coder_past, (by show 3 < 1000; decide), ?_⟩
  rw [fn_four]
  have n7 : q7 ≠ p := li_ins e7 (s7 _ _ hp6)
  refine k x1 x3 _ nx1 (by
    cases h : H x3 with
    | none => rfl
    | some o =>
      have := k2 x3 o h (by simp [npx3.symm])
      rw [nx3] at this; cases this) ⟨dx, q5, q7, upd_same, (hF6.same s7).keep (S := [p]) (KeepX.upd (by simp)) (by simp [npx1.symm]), ?_, ?_, ?_, al4.nin hq5, al6.nin hq7⟩ ((k6.trans (KeepX.of s7)).trans (KeepX.upd (by simp)))
  · obtain ⟨da, au, a1, a2, a3⟩ := hG6.same s7
    exact ⟨da, au, by rw [upd_ne npx3.symm]; exact a1, by show upd _ _ _ _ = _; rw [upd_ne (li_ins a2 (s7 _ _ hp6))]; exact a2, a3⟩
  · show upd _ _ _ _ = _; rw [upd_ne n5]; exact s7 _ _ e6
  · show upd _ _ _ _ = _; rw [upd_ne n7]; exact e7
def spRes (C : Ad) : Sp := fun vs H Q _ => ∃ p pfr pfl a ac s X l c, vs = [.ref p, .ref a, .ref ac] ∧ CoderAt C H p pfr pfl s X ∧ LI H a l ∧ LI H ac c ∧ Pv.CodesOk c ∧ l.length = 160 ∧ Pv.Ws l ∧ s.lar.length = 8 ∧ Pv.Ws s.u ∧ s.u.length = 8 ∧ Al H X ∧
  ∀ q H', CoderAt C H' p pfr pfl { s with lar := c.mapIdx fun i y => Ra26.decoded i y, u := (Ra26.analyse (Pv.facs s.lar (c.mapIdx fun i y => Ra26.decoded i y)) 0 l s.u).2 } X → KeepX H H' [p, pfl] → H q = none →
    LI H' q (Ra26.analyse (Pv.facs s.lar (c.mapIdx fun i y => Ra26.decoded i y)) 0 l s.u).1 → Q (.ref q) H'
abbrev s_Coder_residual_of : Stmt := (inClass (top 97) 2)
theorem sc_Coder_residual_of : FnScope ["self", "samples", "codes", "now", "factors"] ["self", "samples", "codes"] (defScope s_Coder_residual_of) := ⟨rfl, rfl, rfl, by decide +kernel, rfl, by decide +kernel, by decide +kernel⟩
theorem m_Coder_residual_of (T : Txt K mg C) : Dm P w K mg base C.cCoder "residual_of" ["self", "samples", "codes"] 6 (spRes C) := by
  refine .mk' T.k_Coder T.m_Coder_residual_of sc_Coder_residual_of (fun _ _ _ _ _ _ us hl => match us, hl with | [_, _, _], _ => rfl) (fun vs H Q E h => by obtain ⟨_, _, _, _, _, _, _, _, _, rfl, _⟩ := h; rfl) fun f cdv A outer s H vs Q E hr h => ?_
  obtain ⟨p, pfr, pfl, a, ac, st, X, l, c, rfl, hC, hl, hc, cok, l160, wl, llar, wu, lu, al, k⟩ := h
  refine ⟨_, (pss_cons (ps_set (i := 3) sc_Coder_residual_of.nd rfl (Or.inl rfl) (pe_fn (d_numbers_of T) (hr.mono (by decide)) (pa_cons (pv 2) pa_nil)))
      (pss_cons (ps_set (i := 4) sc_Coder_residual_of.nd rfl (Or.inl rfl) (pe_fn (d_filters T) (hr.mono (by decide)) (pa_cons (pe_fldK K rfl (pv 0) rfl) (pa_cons (pv 3) pa_nil))))
      (pss_cons (ps_fld (pv 0) (pv 3) rfl)
      (pss_one (ps_ret (pe_mt (m_flat T) (hr.mono (by decide)) (pe_fldK K rfl (pv 0) rfl) (pa_cons (pv 1) (pa_cons (pv 4) pa_nil)))))))), ?_⟩
  obtain ⟨dx, as, ap, e, hF, hG, hla, hd, nas, nap⟩ := hC
  refine ⟨_, rfl, ac, c, rfl, hc, cok, fun pn H1 s1 hpn en => ?_⟩
  have ln : (c.mapIdx fun i y => Ra26.decoded i y).length = 8 := by rw [List.length_mapIdx]; exact cok.1
  have wn : Pv.Ws (c.mapIdx fun i y => Ra26.decoded i y) := Pv.mapIdx_W _ Pv.decoded_W _
  have en : LI H1 pn (c.mapIdx fun i y => Ra26.decoded i y) := en
  generalize (c.mapIdx fun i y => Ra26.decoded i y) = N at *
  refine ⟨_, rfl, p, _, dx, _, _, rfl, s1 _ _ e, T.k_Coder, T.a_Coder_spectrum, fc3 _ _ _ _, _, rfl, as, pn, _, _, rfl, hla.same s1, en, ⟨⟨llar, ln⟩, wn⟩, fun pf H2 s2 hpf e4 => ?_⟩
  have s02 := s1.trans s2
  refine ⟨_, rfl, _, rfl, p, _, dx, _, rfl, s02 _ _ e, T.k_Coder, T.a_Coder_spectrum, (by show 4 < 1000; decide), ?_⟩
  rw [fp3]
  obtain ⟨dfl, au, g1, g2, g3⟩ := hG
  obtain ⟨dfr, f1⟩ := hF
  have npf : pfl ≠ p := ins_ne g1 e (by show 1 ≠ 4; decide)
  have npr : pfr ≠ p := ins_ne f1 e (by show 3 ≠ 4; decide)
  have nrl : pfr ≠ pfl := ins_ne f1 g1 (by show 3 ≠ 1; decide)
  have up : ∀ b o, b ≠ p → H2 b = some o → (upd H2 p (.ins C.cCoder dx (fCod pfr pfl pn ap))) b = some o := fun b o n q => by rw [upd_ne n]; exact q
  have hp3 : (upd H2 p (.ins C.cCoder dx (fCod pfr pfl pn ap))) p = some (.ins C.cCoder dx (fCod pfr pfl pn ap)) := upd_same
  have k3 : KeepX H (upd H2 p (.ins C.cCoder dx (fCod pfr pfl pn ap))) [p] := (KeepX.of s02).trans (KeepX.upd (by simp))
  generalize upd H2 p (.ins C.cCoder dx (fCod pfr pfl pn ap)) = H3 at *
  have F3 : Four H3 pf (Pv.facs st.lar N) := by
    obtain ⟨c0, c1, c2, c3, ee, h0, h1, h2, h3⟩ := e4
    have ne : ∀ {q xs}, H2 q = some (HO.lst xs) → q ≠ p := fun z => ne_of z (s02 _ _ e) (by intro y; cases y)
    exact ⟨c0, c1, c2, c3, up _ _ (ne ee) ee, up _ _ (ne h0) h0, up _ _ (ne h1) h1, up _ _ (ne h2) h2, up _ _ (ne h3) h3⟩
  refine ⟨_, rfl, p, _, dx, _, _, rfl, hp3, T.k_Coder, T.a_Coder_flattener, fc2 _ _ _ _, pfl, dfl, _, rfl, up _ _ npf (s02 _ _ g1), (by kernel_rfl), _, rfl, _, rfl, ?_⟩
  refine ⟨pfl, a, pf, l, st.u, _, X, rfl, ⟨dfl, au, up _ _ npf (s02 _ _ g1), up _ _ (li_ins g2 e) (s02 _ _ g2), g3⟩, up _ _ (li_ins hl e) (s02 _ _ hl), F3, l160, wl, wu, lu, Pv.facs_len _ _, al.keep k3 (by rw [hp3]; simp), fun q H4 hG4 k4 hq eq => ?_⟩
  have npp : p ∉ [pfl] := by simp [npf.symm]
  refine k q H4 ⟨dx, pn, ap, k4 _ _ hp3 npp, ⟨dfr, k4 _ _ (up _ _ npr (s02 _ _ f1)) (by simp [nrl])⟩, hG4, ?_, ?_, al.nin hpn, nap⟩ ((k3.sub (by simp)).trans (k4.sub (by simp))) ?_ eq
  · have h1 : LI H3 pn N := up _ _ (li_ins (en.same s2) (s02 _ _ e)) (en.same s2)
    exact k4.li h1 (by simp; exact li_ins h1 (up _ _ npf (s02 _ _ g1)))
  · have h1 : LI H3 ap st.d := up _ _ (li_ins hd e) (s02 _ _ hd)
    exact k4.li h1 (by simp; exact li_ins h1 (up _ _ npf (s02 _ _ g1)))
  · cases hh : H q with
    | none => rfl
    | some o =>
      by_cases z : q = p
      · rw [z, hp3] at hq; cases hq
      · rw [k3 q o hh (by simp [z])] at hq; cases hq
end Px
namespace Px
open PySem PySem.Spec PyProof.Rows L2
local macro_rules | `(tactic| walk_at "rd") => `(tactic| repeat (first | refine ⟨_, rfl, ?_⟩ | refine ⟨_, _, rfl, rfl, ?_⟩ | refine ⟨_, _, rfl, ?_⟩ | refine ⟨rfl, ?_⟩ | refine ⟨trivial, ?_⟩ | refine ⟨(show (0 : Int) ≤ _ by decide), ?_⟩ | refine ⟨Or.inl ⟨by decide, by decide⟩, ?_⟩ | refine ⟨Or.inr ⟨by decide, by decide⟩, ?_⟩))
variable {P : Program} {w : World} {K : PySem.W.Frag} {mg : Str → Option Value} {base : Heap} {C : Ad}
def spQC (C : Ad) : Sp := fun vs H Q _ => ∃ p pfr pfl a s X d, vs = [.ref p, .ref a] ∧ CoderAt C H p pfr pfl s X ∧ LI H a d ∧ d.length = 40 ∧ Pv.Ws d ∧ Pv.Ws s.d ∧ s.d.length = 120 ∧ Al H X ∧
  ∀ q H', CoderAt C H' p pfr pfl { s with d := (Ra26.quarter d s.d).2 } X → KeepX H H' [p] → H q = none → LI H' q (Pv.subCodes (Ra26.quarter d s.d).1) → Q (.ref q) H'
abbrev s_Coder_quarter_codes : Stmt := (inClass (top 97) 3)
theorem sc_Coder_quarter_codes : FnScope ["self", "residual", "found", "awaited", "value", "guess", "values", "grid", "chosen", "code", "pulses"] ["self", "residual"] (defScope s_Coder_quarter_codes) := ⟨rfl, rfl, rfl, by decide +kernel, rfl, by decide +kernel, by decide +kernel⟩
theorem m_quarter_codes (T : Txt K mg C) : Dm P w K mg base C.cCoder "quarter_codes" ["self", "residual"] 6 (spQC C) := by
  refine .mk' T.k_Coder T.m_Coder_quarter_codes sc_Coder_quarter_codes (fun _ _ _ _ _ _ us hl => match us, hl with | [_, _], _ => rfl) (fun vs H Q E h => by obtain ⟨_, _, _, _, _, _, _, rfl, _⟩ := h; rfl) fun f cdv A outer s H vs Q E hr h => ?_
  obtain ⟨p, pfr, pfl, a, st, X, d, rfl, hC, hl, l40, wd, wh, lh, al, k⟩ := h
  refine ⟨_, (pss_cons (ps_set (i := 2) sc_Coder_quarter_codes.nd rfl (Or.inl rfl) (pe_fn (d_lag_and_gain T) (hr.mono (by decide)) (pa_cons (pv 1) (pa_cons (pe_fldK K rfl (pv 0) rfl) pa_nil))))
      (pss_cons (ps_set (i := 3) sc_Coder_quarter_codes.nd rfl (Or.inl rfl) (pe_fn (d_forecast T) (hr.mono (by decide)) (pa_cons (pe_fldK K rfl (pv 0) rfl) (pa_cons (pe_ix (ix_tupK K rfl) (pv 2) pe_int (fun _ _ => rfl)) (pa_cons (pe_ix (ix_tupK K rfl) (pv 2) pe_int (fun _ _ => rfl)) pa_nil)))))
      (pss_cons (ps_set (i := 6) sc_Coder_quarter_codes.nd rfl (Or.inl rfl) (pe_fn (d_weighed T) (hr.mono (by decide)) (pa_cons (pe_lc (own := [("value", 4), ("guess", 5)]) rfl sc_Coder_quarter_codes.nd (pi_zipS false false T.b_zip (pa_cons (pv 1) (pa_cons (pv 3) pa_nil))) (blkOk_by (by kernel_rfl)) (fun _ _ _ _ _ => (pg_pair K 4 5 rfl rfl sc_Coder_quarter_codes.nd rfl rfl (Or.inl rfl) (Or.inl rfl) (.inr rfl) (.inr rfl))) (fun _ _ _ _ _ => pts_nil) (fun _ _ _ _ _ => (pe_fn (d_minus T) (hr.mono (by decide)) (pa_cons (pv 4) (pa_cons (pv 5) pa_nil))))) pa_nil)))
      (pss_cons (ps_set (i := 7) sc_Coder_quarter_codes.nd rfl (Or.inl rfl) (pe_fn (d_best_grid T) (hr.mono (by decide)) (pa_cons (pv 6) pa_nil)))
      (pss_cons (ps_set (i := 8) sc_Coder_quarter_codes.nd rfl (Or.inl rfl) (pe_fn (d_on_grid T) (hr.mono (by decide)) (pa_cons (pv 6) (pa_cons (pv 7) pa_nil))))
      (pss_cons (ps_set (i := 9) sc_Coder_quarter_codes.nd rfl (Or.inl rfl) (pe_fn (d_size_code T) (hr.mono (by decide)) (pa_cons (pe_fn (d_greatest_size T) (hr.mono (by decide)) (pa_cons (pv 8) pa_nil)) pa_nil)))
      (pss_cons (ps_set (i := 10) sc_Coder_quarter_codes.nd rfl (Or.inl rfl) (pe_fn (d_pulse_codes T) (hr.mono (by decide)) (pa_cons (pv 8) (pa_cons (pv 9) pa_nil))))
      (pss_cons (ps_fld (pv 0) (pe_op op_cat (pe_slice (sl_listK K rfl) (pe_fldK K rfl (pv 0) rfl) (po_some (pe_cst T.c_QUARTER)) po_none) (pe_fn (d_rebuilt T) (hr.mono (by decide)) (pa_cons (pv 3) (pa_cons (pv 7) (pa_cons (pv 9) (pa_cons (pv 10) pa_nil)))))) rfl)
      (pss_one (ps_ret (pe_op op_cat (pe_lst (pa_cons (pe_ix (ix_tupK K rfl) (pv 2) pe_int (fun _ _ => rfl)) (pa_cons (pe_ix (ix_tupK K rfl) (pv 2) pe_int (fun _ _ => rfl)) (pa_cons (pv 7) (pa_cons (pv 9) pa_nil))))) (pv 10)))))))))))), ?_⟩
  obtain ⟨dx, as, ap, e, hF, hG, hla, hd, nas, nap⟩ := hC
  have qe := Pv.quarter_eq st.d l40
  have cb := Pv.qC_bd d st.d
  have pb := Pv.qP_bd d st.d
  have pl := Pv.qP_len d st.d
  obtain ⟨b1, b2, b3⟩ := Pv.lagOf_bd d st.d
  rw [qe] at k
  have qxe : Pv.qX d st.d = Ra26.weighted (List.zipWith (fun a b => Ra26.sub a b) d (Pv.fore st.d (Ra26.lagOf d st.d).1 (Ra26.lagOf d st.d).2)) := rfl
  have qce : Pv.qC d st.d = Ra26.sizeCode (Ra26.peak (Pv.onGrid (Pv.qX d st.d) (Ra26.gridOf (Pv.qX d st.d)))) := rfl
  have qpe : Pv.qP d st.d = (Pv.onGrid (Pv.qX d st.d) (Ra26.gridOf (Pv.qX d st.d))).map fun y => Ra26.pulseCode (Pv.qC d st.d) y := rfl
  generalize Pv.qX d st.d = X1 at *
  generalize Pv.qC d st.d = c1 at *
  generalize Pv.qP d st.d = P1 at *
  have g4 := Ra26.gridOf X1
  have gl : Ra26.gridOf X1 < 4 := Pv.gridOf_lt X1
  refine ⟨_, rfl, _, rfl, p, _, dx, _, _, rfl, e, T.k_Coder, T.a_Coder_past, fc4 _ _ _ _, a, ap, d, st.d, rfl, hl, hd, ⟨l40, wd, lh, wh⟩, fun pt H1 s1 hpt ept => ?_⟩
  have ept : H1 pt = some (.tup [.int ((Ra26.lagOf d st.d).1 : Nat), .int ((Ra26.lagOf d st.d).2 : Nat)]) := ept
  generalize Ra26.lagOf d st.d = lg at *
  have gt0 : atI ([.int ((lg.1 : Nat) : Int), .int ((lg.2 : Nat) : Int)] : List V) 0 = some (.int (lg.1 : Nat)) := atI_nat (j := 0) rfl
  have gt1 : atI ([.int ((lg.1 : Nat) : Int), .int ((lg.2 : Nat) : Int)] : List V) 1 = some (.int (lg.2 : Nat)) := atI_nat (j := 1) rfl
  refine ⟨_, rfl, p, _, dx, _, _, rfl, s1 _ _ e, T.k_Coder, T.a_Coder_past, fc4 _ _ _ _, _, rfl, pt, _, _, _, rfl, rfl, SqT.of ept, gt0, _, rfl, pt, _, _, _, rfl, rfl, SqT.of ept, gt1, ap, st.d, _, _, rfl, hd.same s1, ⟨lh, wh, by omega, by omega, by omega, by omega⟩, fun pw H2 s2 hpw ew => ?_⟩
  have ew : LI H2 pw (Pv.fore st.d ((lg.1 : Nat) : Int).toNat ((lg.2 : Nat) : Int).toNat) := ew
  rw [Int.toNat_natCast, Int.toNat_natCast] at ew
  have fl := Pv.fore_len st.d lg.1 lg.2
  have fw := Pv.fore_W st.d lg.1 lg.2
  generalize Pv.fore st.d lg.1 lg.2 = FO at *
  have s02 := s1.trans s2
  refine ⟨_, rfl, _, rfl, a, pw, _, _, rfl, (hl.same s02).sq, ew.sq, lcZ (by decide) (fun x y => Ra26.sub x y) (fun H s => (hl.same (s02.trans s)).sq) (fun H s => (ew.same s).sq) (by omega) (fun i z y H5 R hz hy s5 hR => ?_) fun pdf H3 hpdf s3 edf => ?_⟩
  · exact ⟨_, rfl, _, rfl, _, _, rfl, trivial, hR _ (Same.refl _)⟩
  have s03 := s02.trans s3
  refine ⟨pdf, _, rfl, edf, ⟨by rw [List.length_zipWith, l40, fl]; rfl, Pv.Ws_zipWith (fun _ _ => Pv.sub_W _ _) _ _⟩, fun pv' H4 s4 hpv ev => ?_⟩
  rw [← qxe] at ev
  have lx : X1.length = 40 := by rw [qxe]; exact Pv.weighted_len _
  have wx : Pv.Ws X1 := by rw [qxe]; exact Pv.weighted_W _
  have s04 := s03.trans s4
  refine ⟨_, rfl, pv', X1, rfl, ev, ⟨lx, wx⟩, fun H5 s5 => ?_⟩
  refine ⟨_, rfl, _, rfl, pv', X1, _, rfl, ev.same s5, ⟨lx, by show (0 : Int) ≤ (Ra26.gridOf X1 : Nat); omega, by show ((Ra26.gridOf X1 : Nat) : Int) ≤ 3; omega⟩, fun pc H6 s6 hpc ec => ?_⟩
  have ec : LI H6 pc (Pv.onGrid X1 ((Ra26.gridOf X1 : Nat) : Int).toNat) := ec
  rw [Int.toNat_natCast] at ec
  have lc := Pv.onGrid_len X1 (Ra26.gridOf X1)
  have wc := Pv.onGrid_W wx (Ra26.gridOf X1)
  have s06 := (s04.trans s5).trans s6
  refine ⟨_, rfl, pc, _, rfl, ec, ⟨by omega, by omega, wc⟩, fun H7 s7 => ?_⟩
  refine ⟨_, rfl, ⟨Pv.peak_nn _, Pv.peak_le wc⟩, fun H8 s8 => ?_⟩
  have s78 := s7.trans s8
  refine ⟨_, rfl, _, rfl, pc, _, _, rfl, ec.same s78, ⟨by omega, wc, by rw [← qce]; exact cb.1, by rw [← qce]; exact cb.2⟩, fun pp H9 s9 hpp ep => ?_⟩
  have ep : LI H9 pp ((Pv.onGrid X1 (Ra26.gridOf X1)).map fun y => Ra26.pulseCode (Ra26.sizeCode (Ra26.peak (Pv.onGrid X1 (Ra26.gridOf X1)))) y) := ep
  rw [← qce, ← qpe] at ep
  have s09 := (s06.trans s78).trans s9
  refine ⟨_, rfl, p, _, dx, _, _, rfl, s09 _ _ e, T.k_Coder, T.a_Coder_past, fc4 _ _ _ _, _, rfl, ap, _, rfl, (hd.same s09).sq, fun p10 hp10 => ?_⟩
  have s10 : Same H9 (upd H9 p10 (.lst (cutV (st.d.map V.int) (some 40) none))) := same_new hp10
  have e10 : LI (upd H9 p10 (.lst (cutV (st.d.map V.int) (some 40) none))) p10 (st.d.drop 40) := li_new' (cutF st.d 40)
  generalize upd H9 p10 (.lst (cutV (st.d.map V.int) (some 40) none)) = H10 at *
  have s010 := s09.trans s10
  refine ⟨_, rfl, _, rfl, _, rfl, _, rfl, pw, pp, FO, P1, _, _, rfl, ew.same ((((((s3.trans s4).trans s5).trans s6).trans s78).trans s9).trans s10), ep.same s10, ⟨fl, ⟨by show (0 : Int) ≤ (Ra26.gridOf X1 : Nat); omega, by show ((Ra26.gridOf X1 : Nat) : Int) ≤ 3; omega⟩, by rw [← qce]; exact cb, pl, pb⟩, fun p11 H11 s11 hp11 e11 => ?_⟩
  have e11 : LI H11 p11 (Pv.built FO ((Ra26.gridOf X1 : Nat) : Int).toNat (Ra26.sizeCode (Ra26.peak (Pv.onGrid X1 (Ra26.gridOf X1)))) P1) := e11
  rw [Int.toNat_natCast, ← qce] at e11
  have s011 := s010.trans s11
  refine cat_at (e10.same s11) e11 (by rw [List.length_drop, Pv.built_len _ _ _ fl]; omega) fun p12 H12 s12 hp12 e12 => ?_
  have s012 := s011.trans s12
  refine ⟨_, rfl, p, _, dx, _, rfl, s012 _ _ e, T.k_Coder, T.a_Coder_past, (by show 4 < 1000; decide), ?_⟩
  rw [fp4]
  have up : ∀ b o, b ≠ p → H12 b = some o → (upd H12 p (.ins C.cCoder dx (fCod pfr pfl as p12))) b = some o := fun b o n q => by rw [upd_ne n]; exact q
  have hp13 : (upd H12 p (.ins C.cCoder dx (fCod pfr pfl as p12))) p = some (.ins C.cCoder dx (fCod pfr pfl as p12)) := upd_same
  have k13 : KeepX H (upd H12 p (.ins C.cCoder dx (fCod pfr pfl as p12))) [p] := (KeepX.of s012).trans (KeepX.upd (by simp))
  have k1213 : KeepX H12 (upd H12 p (.ins C.cCoder dx (fCod pfr pfl as p12))) [p] := KeepX.upd (by simp)
  generalize upd H12 p (.ins C.cCoder dx (fCod pfr pfl as p12)) = H13 at *
  have pt13 : H13 pt = some (.tup [.int ((lg.1 : Nat) : Int), .int ((lg.2 : Nat) : Int)]) := by
    have h12 := ((((((((s2.trans s3).trans s4).trans s5).trans s6).trans s78).trans s9).trans s10).trans (s11.trans s12)) _ _ ept
    exact up _ _ (ne_of h12 (s012 _ _ e) (by intro z; cases z)) h12
  have pp13 : LI H13 pp P1 := by
    have h12 : LI H12 pp P1 := ep.same ((s10.trans s11).trans s12)
    exact up _ _ (li_ins h12 (s012 _ _ e)) h12
  refine ⟨_, rfl, pt, _, _, _, rfl, rfl, SqT.of pt13, gt0, _, rfl, pt, _, _, _, rfl, rfl, SqT.of pt13, gt1, _, rfl, _, rfl, by show 4 ≤ sizeLine; decide, fun p14 hp14 => ⟨_, rfl, ?_⟩⟩
  have s14 : Same H13 (upd H13 p14 (.lst [.int (lg.1 : Nat), .int (lg.2 : Nat), .int (Ra26.gridOf X1 : Nat), .int (Ra26.sizeCode (Ra26.peak (Pv.onGrid X1 (Ra26.gridOf X1))))])) := same_new hp14
  have e14 : LI (upd H13 p14 (.lst [.int (lg.1 : Nat), .int (lg.2 : Nat), .int (Ra26.gridOf X1 : Nat), .int (Ra26.sizeCode (Ra26.peak (Pv.onGrid X1 (Ra26.gridOf X1))))])) p14 [((lg.1 : Nat) : Int), ((lg.2 : Nat) : Int), ((Ra26.gridOf X1 : Nat) : Int), Ra26.sizeCode (Ra26.peak (Pv.onGrid X1 (Ra26.gridOf X1)))] := upd_same
  refine cat_at e14 (pp13.same s14) (by rw [pl]; show 4 + 13 ≤ _; decide) fun q H15 s15 hq eq => ?_
  rw [← qce] at eq
  obtain ⟨dfl, au, g1, g2, g3⟩ := hG
  obtain ⟨dfr, f1⟩ := hF
  have npf : pfl ≠ p := ins_ne g1 e (by show 1 ≠ 4; decide)
  have npr : pfr ≠ p := ins_ne f1 e (by show 3 ≠ 4; decide)
  have sE := s14.trans s15
  refine k q H15 ⟨dx, as, p12, sE _ _ hp13, ⟨dfr, sE _ _ (up _ _ npr (s012 _ _ f1))⟩, ⟨dfl, au, sE _ _ (up _ _ npf (s012 _ _ g1)), sE _ _ (up _ _ (li_ins g2 e) (s012 _ _ g2)), g3⟩, sE _ _ (up _ _ (li_ins hla e) (s012 _ _ hla)), sE _ _ (up _ _ (li_ins e12 (s012 _ _ e)) e12), nas, (al.same s011).nin hp12⟩ (k13.trans (KeepX.of sE)) ?_ eq
  cases hh : H q with
  | none => rfl
  | some o =>
    have hq' : H13 q = none := s14.free hq
    by_cases z : q = p
    · rw [z, hp13] at hq'; cases hq'
    · rw [k13 q o hh (by simp [z])] at hq'; cases hq'
def bytesI (s : Ra26.S) (l : List Int) : List Int := (Ra26.bytes (Ra26.frameBits (Ra26.encode s l).1)).map fun (x : Nat) => (x : Int)
def spFr (C : Ad) : Sp := fun vs H Q _ => ∃ p pfr pfl a s X l, vs = [.ref p, .ref a] ∧ CoderAt C H p pfr pfl s X ∧ Pv.Wf s ∧ LI H a l ∧ l.length = 160 ∧ Pv.Ws l ∧ Al H X ∧
  ∀ q H', CoderAt C H' p pfr pfl (Pv.eS s l) X → KeepX H H' [p, pfr, pfl] → H q = none → LI H' q (bytesI s l) → Q (.ref q) H'
theorem flat_snoc {α β : Type} (f : α → List β) (l : List α) (x : α) : (l ++ [x]).flatMap f = l.flatMap f ++ f x := by simp
abbrev s_Coder_frame_of : Stmt := (inClass (top 97) 1)
theorem sc_Coder_frame_of : FnScope ["self", "samples", "raised", "shift", "small", "codes", "residual", "start"] ["self", "samples"] (defScope s_Coder_frame_of) := ⟨rfl, rfl, rfl, by decide +kernel, rfl, by decide +kernel, by decide +kernel⟩
theorem m_frame_of (T : Txt K mg C) : Dm P w K mg base C.cCoder "frame_of" ["self", "samples"] 7 (spFr C) := by
  refine .mk' T.k_Coder T.m_Coder_frame_of sc_Coder_frame_of (fun _ _ _ _ _ _ us hl => match us, hl with | [_, _], _ => rfl) (fun vs H Q E h => by obtain ⟨_, _, _, _, _, _, _, rfl, _⟩ := h; rfl) fun f cdv A outer s H vs Q E hr h => ?_
  obtain ⟨p, pfr, pfl, a, st, X, l, rfl, hC, wf, hl, l160, wl, al, k⟩ := h
  refine ⟨_, (pss_cons (ps_set (i := 2) sc_Coder_frame_of.nd rfl (Or.inl rfl) (pe_mt (m_raised T) (hr.mono (by decide)) (pe_fldK K rfl (pv 0) rfl) (pa_cons (pv 1) pa_nil)))
      (pss_cons (ps_set (i := 3) sc_Coder_frame_of.nd rfl (Or.inl rfl) (pe_fn (d_scale_shift T) (hr.mono (by decide)) (pa_cons (pv 2) pa_nil)))
      (pss_cons (ps_set (i := 4) sc_Coder_frame_of.nd rfl (Or.inl rfl) (pe_fn (d_lowered T) (hr.mono (by decide)) (pa_cons (pv 2) (pa_cons (pv 3) pa_nil))))
      (pss_cons (ps_set (i := 5) sc_Coder_frame_of.nd rfl (Or.inl rfl) (pe_fn (d_codes_of T) (hr.mono (by decide)) (pa_cons (pe_fn (d_reflections T) (hr.mono (by decide)) (pa_cons (pe_fn (d_likenesses T) (hr.mono (by decide)) (pa_cons (pv 4) pa_nil)) pa_nil)) pa_nil)))
      (pss_cons (ps_set (i := 6) sc_Coder_frame_of.nd rfl (Or.inl rfl) (pe_mt (m_Coder_residual_of T) (hr.mono (by decide)) (pv 0) (pa_cons (pe_fn (d_lifted T) (hr.mono (by decide)) (pa_cons (pv 4) (pa_cons (pv 3) pa_nil))) (pa_cons (pv 5) pa_nil))))
      (pss_cons (ps_for PassesOwn.never rfl (pi_range3 rfl T.b_range (pa_cons pe_int (pa_cons (pe_callB (len_seqK K rfl) (by rfl) T.b_len PySem.boot_len (pa_cons (pv 6) pa_nil)) (pa_cons (pe_cst T.c_QUARTER) pa_nil)))) (pg_name (i := 7) sc_Coder_frame_of.nd rfl (Or.inl rfl)) (pss_one (ps_expr (pe_bm PySem.F.plainAttrs_list PySem.F.slot_list_extend PySem.F.type_list_extend mt_extend (pv 5) (pa_cons (pe_mt (m_quarter_codes T) (hr.mono (by decide)) (pv 0) (pa_cons (pe_slice (sl_listK K rfl) (pv 6) (po_some (pv 7)) (po_some (pe_op op_add (pv 7) (pe_cst T.c_QUARTER)))) pa_nil)) pa_nil)))))
      (pss_one (ps_ret (pe_fn (d_packed T) (hr.mono (by decide)) (pa_cons (pv 5) pa_nil)))))))))), ?_⟩
  obtain ⟨dx, as, ap, e, hF, hG, hla, hd, nas, nap⟩ := hC
  obtain ⟨dfl, au, g1, g2, g3⟩ := hG
  obtain ⟨dfr, f1⟩ := id hF
  have npf : pfl ≠ p := ins_ne g1 e (by show 1 ≠ 4; decide)
  have npr : pfr ≠ p := ins_ne f1 e (by show 3 ≠ 4; decide)
  have nrl : pfr ≠ pfl := ins_ne f1 g1 (by show 3 ≠ 1; decide)
  obtain ⟨lX, wX⟩ := Pv.eX_ok wf l160 wl
  obtain ⟨lT, wT, aT, bT⟩ := Pv.eT_ok wf l160 wl
  have cC := Pv.eC_ok st l
  obtain ⟨lA1, lA2⟩ : (Pv.eA st l).1.length = 160 ∧ True := ⟨(Pv.eA_ok wf l160 wl).2.2.2, trivial⟩
  have wA := (Pv.eA_ok wf l160 wl).1
  obtain ⟨wfE, fok⟩ := Pv.encode_ok wf l160 wl
  have kle := Pv.kOf_le 4 (Ra26.peak (Pv.eX st l))
  refine ⟨_, rfl, p, _, dx, _, _, rfl, e, T.k_Coder, T.a_Coder_front, fc1 _ _ _ _, pfr, dfr, _, rfl, f1, (by kernel_rfl), _, rfl, pfr, a, st.z1, st.z2, st.mp, l, rfl, hF, wf.z, wf.mp, hl, by omega, wl, fun px H1 hF1 k1 hpx ex => ?_⟩
  have ex : LI H1 px (Pv.eX st l) := ex
  have hp1 := k1 _ _ e (by simp [npr.symm])
  have nX1 : ∀ {q}, H1 q = none → H q = none := fun {q} h => by
    cases hh : H q with
    | none => rfl
    | some o =>
      by_cases z : q = pfr
      · obtain ⟨d', h'⟩ := hF1; rw [z, h'] at h; cases h
      · rw [k1 q o hh (by simp [z])] at h; cases h
  have C1 : CoderAt C H1 p pfr pfl { st with z1 := (Ra26.pre l st.z1 st.z2 st.mp).2.1, z2 := (Ra26.pre l st.z1 st.z2 st.mp).2.2.1, mp := (Ra26.pre l st.z1 st.z2 st.mp).2.2.2 } X :=
    ⟨dx, as, ap, hp1, hF1, ⟨dfl, au, k1 _ _ g1 (by simp [nrl.symm]), k1.li g2 (by simp; exact li_ins g2 f1), g3⟩, k1.li hla (by simp; exact li_ins hla f1), k1.li hd (by simp; exact li_ins hd f1), nas, nap⟩
  have al1 : Al H1 X := al.keep k1 (by obtain ⟨d', h'⟩ := hF1; rw [h']; simp)
  refine ⟨_, rfl, px, _, rfl, ex, ⟨by omega, by omega, wX⟩, fun H2 s2 => ?_⟩
  refine ⟨_, rfl, _, rfl, px, _, _, rfl, ex.same s2, ⟨by omega, wX, by show (0 : Int) ≤ (Pv.kOf 4 (Ra26.peak (Pv.eX st l)) : Nat); omega, by show ((Pv.kOf 4 (Ra26.peak (Pv.eX st l)) : Nat) : Int) ≤ 4; omega⟩, fun pt H3 s3 hpt et => ?_⟩
  have et : LI H3 pt (Pv.lowered (Pv.eX st l) ((Pv.kOf 4 (Ra26.peak (Pv.eX st l)) : Nat) : Int).toNat) := et
  rw [Int.toNat_natCast] at et
  have et : LI H3 pt (Pv.eT st l) := et
  refine ⟨_, rfl, pt, _, rfl, et, ⟨by omega, wT⟩, fun pl H4 s4 hpl el => ?_⟩
  refine ⟨pl, _, rfl, el, aT, fun pr H5 s5 hpr er => ?_⟩
  refine ⟨pr, _, rfl, er, ⟨Pv.reflections_len _, Pv.reflections_W aT⟩, fun pc H6 s6 hpc ec => ?_⟩
  have ec : LI H6 pc (Pv.eC st l) := ec
  have s15 := ((s2.trans s3).trans s4).trans s5
  have s16 := s15.trans s6
  have hpc1 : H pc = none := nX1 (s15.free hpc)
  have C6 := ((C1.same s15).more hpc).same s6
  have al6 : Al H6 (pc :: X) := .cons (by rw [show H6 pc = _ from ec]; simp) (al1.same s16)
  obtain ⟨dx6, as6, ap6, e6, hF6, hG6, hla6, hd6, nas6, nap6⟩ := id C6
  refine ⟨_, rfl, p, dx6, _, rfl, e6, (by kernel_rfl), _, rfl, _, rfl, pt, _, _, rfl, et.same ((s4.trans s5).trans s6), ⟨by omega, wT, by show (0 : Int) ≤ (Pv.kOf 4 (Ra26.peak (Pv.eX st l)) : Nat); omega, by show ((Pv.kOf 4 (Ra26.peak (Pv.eX st l)) : Nat) : Int) ≤ 4; omega⟩, fun pli H7 s7 hpli eli => ?_⟩
  have eli : LI H7 pli (Pv.lifted (Pv.eT st l) ((Pv.kOf 4 (Ra26.peak (Pv.eX st l)) : Nat) : Int).toNat) := eli
  rw [Int.toNat_natCast] at eli
  obtain ⟨wli, lli⟩ := Pv.lifted_ok (Pv.eT st l) (Pv.kOf 4 (Ra26.peak (Pv.eX st l)))
  refine ⟨_, rfl, p, pfr, pfl, pli, pc, _, pc :: X, _, _, rfl, C6.same s7, eli, ec.same s7, cC, by omega, wli, wf.larL, wf.u, wf.uL, al6.same s7, fun pd H8 C8 k8 hpd ed => ?_⟩
  have ed : LI H8 pd (Pv.eA st l).1 := ed
  have C8 : CoderAt C H8 p pfr pfl { st with z1 := (Ra26.pre l st.z1 st.z2 st.mp).2.1, z2 := (Ra26.pre l st.z1 st.z2 st.mp).2.2.1, mp := (Ra26.pre l st.z1 st.z2 st.mp).2.2.2, lar := Pv.eN st l, u := (Pv.eA st l).2 } (pc :: X) := C8
  have ec8 : LI H8 pc (Pv.eC st l) := by
    have h7 := ec.same s7
    obtain ⟨d7, a7, b7, e7, f7, ⟨d7', au7, g7, _⟩, _⟩ := C6.same s7
    exact k8.li h7 (by simp; exact ⟨li_ins h7 e7, li_ins h7 g7⟩)
  have k08 : KeepX H H8 [p, pfr, pfl] := ((k1.sub (by simp)).trans (KeepX.of (s16.trans s7))).trans (k8.sub (by simp))
  have al8 : Al H8 (pc :: X) := by
    intro x hx
    cases hh : H7 x with
    | none => exact absurd hh (al6.same s7 x hx)
    | some o =>
      by_cases z1 : x = p
      · obtain ⟨d', _, _, h', _⟩ := C8; rw [z1, h']; simp
      · by_cases z2 : x = pfl
        · obtain ⟨_, _, _, _, _, ⟨d', _, h', _⟩, _⟩ := C8; rw [z2, h']; simp
        · rw [k8 x o hh (by simp [z1, z2])]; simp
  have npdc : pd ≠ pc := fun z => by rw [z, show H7 pc = _ from ec.same s7] at hpd; cases hpd
  refine ⟨_, rfl, pd, _, rfl, .inl ed.sq, 0, 160, 40, 4, ?_, ⟨by decide, by decide, by decide, by decide⟩, ?_⟩
  · rw [List.length_map, lA1]; rfl
  refine for_rangeC (n := 4) (fun i σ H9 => ∃ v7, σ = [some (.ref p), some (.ref a), some (.ref px), some (.int (Pv.kOf 4 (Ra26.peak (Pv.eX st l)) : Nat)), some (.ref pt), some (.ref pc), some (.ref pd), v7] ∧ KeepX H8 H9 [p, pc] ∧
    CoderAt C H9 p pfr pfl { st with z1 := (Ra26.pre l st.z1 st.z2 st.mp).2.1, z2 := (Ra26.pre l st.z1 st.z2 st.mp).2.2.1, mp := (Ra26.pre l st.z1 st.z2 st.mp).2.2.2, lar := Pv.eN st l, u := (Pv.eA st l).2, d := (Pv.qTo (Pv.eA st l).1 st.d i).2 } (pc :: X) ∧
    LI H9 pc (Pv.eC st l ++ (Pv.qTo (Pv.eA st l).1 st.d i).1.flatMap Pv.subCodes) ∧ (Pv.eC st l ++ (Pv.qTo (Pv.eA st l).1 st.d i).1.flatMap Pv.subCodes).length ≤ 8 + 17 * i)
    ⟨none, rfl, KeepX.refl _ _, C8, by rw [show (Pv.qTo (Pv.eA st l).1 st.d 0).1.flatMap Pv.subCodes = [] from rfl, List.append_nil]; exact ec8, by
      rw [show (Pv.qTo (Pv.eA st l).1 st.d 0).1.flatMap Pv.subCodes = [] from rfl, List.append_nil, cC.1]; decide⟩ ?_ ?_
  · rintro i σ H9 hi ⟨v7, rfl, k9, C9, ec9, ln9⟩
    obtain ⟨dx9, as9, ap9, e9, hF9, hG9, hla9, hd9, nas9, nap9⟩ := id C9
    have npcp : pc ≠ p := li_ins ec9 e9
    have npdp : pd ≠ p := by
      obtain ⟨d', _, _, h', _⟩ := C8
      exact li_ins ed h'
    have ed9 : LI H9 pd (Pv.eA st l).1 := k9.li ed (by simp [npdp, npdc])
    have al9 : Al H9 (pc :: X) := by
      intro x hx
      cases hh : H8 x with
      | none => exact absurd hh (al8 x hx)
      | some o =>
        by_cases z1 : x = p
        · rw [z1, e9]; simp
        · by_cases z2 : x = pc
          · rw [z2, show H9 pc = _ from ec9]; simp
          · rw [k9 x o hh (by simp [z1, z2])]; simp
    refine ⟨_, rfl, .inl ⟨rfl, _, ec9.sq⟩, ?_⟩
    refine ⟨_, rfl, p, dx9, _, rfl, e9, (by kernel_rfl), ?_⟩
    refine ⟨_, rfl, _, rfl, _, rfl, _, rfl, _, _, rfl, rfl, _, rfl, pd, _, rfl, ed9.sq, fun ps hps => ?_⟩
    have ecut : cutV ((Pv.eA st l).1.map V.int) (some ((0 : Int) + (i : Nat) * 40)) (some ((0 : Int) + (i : Nat) * 40 + 40)) = (((Pv.eA st l).1.drop (40 * i)).take 40).map V.int := by
      have e1 : (0 : Int) + (i : Nat) * 40 = ((40 * i : Nat) : Int) := by omega
      have e2 : ((40 * i : Nat) : Int) + 40 = ((40 * i + 40 : Nat) : Int) := by omega
      rw [e1, e2, cutI]
      congr 2; omega
    have s10 := same_new (o := .lst (cutV ((Pv.eA st l).1.map V.int) (some ((0 : Int) + (i : Nat) * 40)) (some ((0 : Int) + (i : Nat) * 40 + 40)))) hps
    have e10 : LI (upd H9 ps (.lst (cutV ((Pv.eA st l).1.map V.int) (some ((0 : Int) + (i : Nat) * 40)) (some ((0 : Int) + (i : Nat) * 40 + 40))))) ps (((Pv.eA st l).1.drop (40 * i)).take 40) := li_new' ecut
    generalize upd H9 ps (.lst (cutV ((Pv.eA st l).1.map V.int) (some ((0 : Int) + (i : Nat) * 40)) (some ((0 : Int) + (i : Nat) * 40 + 40)))) = H10 at *
    obtain ⟨q1, q2, q3, q4⟩ := Pv.qTo_ok lA1 wf.d wf.dL i (by omega)
    refine ⟨p, pfr, pfl, ps, _, pc :: X, _, rfl, C9.same s10, e10, Pv.part_len lA1 hi, Pv.Ws_take _ (Pv.Ws_drop _ wA), q3, q4, al9.same s10, fun pq H11 C11 k11 hpq eq11 => ?_⟩
    have ec11 : LI H11 pc (Pv.eC st l ++ (Pv.qTo (Pv.eA st l).1 st.d i).1.flatMap Pv.subCodes) := k11.li (ec9.same s10) (by simp [npcp])
    have sok := (Pv.quarter_ok (Pv.part_len lA1 hi) q3 q4).1
    have lsc := Pv.subCodes_len sok.pl
    refine ⟨pc, pq, _, _, rfl, rfl, ec11, eq11, ?_, _, rfl, ?_, ?_, ?_, ?_⟩
    · rw [List.length_map, List.length_map, lsc]
      exact Nat.le_of_lt (small_line (by omega))
    · exact ((k9.trans (KeepX.of s10)).trans (k11.sub (by simp))).trans (KeepX.upd (by simp))
    · exact C11.write (List.mem_cons_self ..) ec11
    · refine li_new' ?_
      rw [show (Pv.qTo (Pv.eA st l).1 st.d (i + 1)).1 = (Pv.qTo (Pv.eA st l).1 st.d i).1 ++ [(Ra26.quarter (((Pv.eA st l).1.drop (40 * i)).take 40) (Pv.qTo (Pv.eA st l).1 st.d i).2).1] from rfl, flat_snoc, ← List.append_assoc]
      exact List.map_append.symm
    · rw [show (Pv.qTo (Pv.eA st l).1 st.d (i + 1)).1 = (Pv.qTo (Pv.eA st l).1 st.d i).1 ++ [(Ra26.quarter (((Pv.eA st l).1.drop (40 * i)).take 40) (Pv.qTo (Pv.eA st l).1 st.d i).2).1] from rfl, flat_snoc, ← List.append_assoc, List.length_append, lsc]
      omega
  · rintro σ H9 ⟨v7, rfl, k9, C9, ec9, ln9⟩
    have ec9 : LI H9 pc (Pv.codesOf ⟨Pv.eC st l, (Pv.qTo (Pv.eA st l).1 st.d 4).1⟩) := ec9
    refine ⟨_, rfl, pc, _, rfl, ec9, ⟨Pv.codes_len fok, Pv.fits_all fok⟩, fun q H10 s10 hq eq => ?_⟩
    have eb : bytesI st l = (List.range 33).map fun i => Pv.wholeOf Pv.WD (Pv.codesOf ⟨Pv.eC st l, (Pv.qTo (Pv.eA st l).1 st.d 4).1⟩) 13 / 2 ^ (256 - 8 * i) % 256 := by
      unfold bytesI
      rw [Pv.encode_eq wf l160 wl]
      exact Pv.bytes_eq fok
    have k09 : KeepX H H9 [p, pfr, pfl] := fun b o hb nb => by
      have h8 := k08 b o hb nb
      refine k9 b o h8 ?_
      simp only [List.mem_cons, List.not_mem_nil, or_false, not_or] at nb ⊢
      exact ⟨nb.1, fun z => by rw [z, hpc1] at hb; cases hb⟩
    refine k q H10 (C9.less.same s10) (k09.trans (KeepX.of s10)) ?_ (by rw [eb]; exact eq)
    cases hh : H q with
    | none => rfl
    | some o =>
      obtain ⟨d9, _, _, e9, ⟨d9', f9⟩, ⟨d9'', _, g9, _⟩, _⟩ := C9
      by_cases z1 : q = p
      · rw [z1, e9] at hq; cases hq
      · by_cases z2 : q = pfr
        · rw [z2, f9] at hq; cases hq
        · by_cases z3 : q = pfl
          · rw [z3, g9] at hq; cases hq
          · rw [k09 q o hh (by simp [z1, z2, z3])] at hq; cases hq
end Px
namespace Px
open PySem PySem.Spec PyProof.Rows L2
local macro_rules | `(tactic| walk_at "rd") => `(tactic| repeat (first | refine ⟨_, rfl, ?_⟩ | refine ⟨_, _, rfl, rfl, ?_⟩ | refine ⟨_, _, rfl, ?_⟩ | refine ⟨rfl, ?_⟩ | refine ⟨trivial, ?_⟩ | refine ⟨(show (0 : Int) ≤ _ by decide), ?_⟩ | refine ⟨Or.inl ⟨by decide, by decide⟩, ?_⟩ | refine ⟨Or.inr ⟨by decide, by decide⟩, ?_⟩))
variable {P : Program} {w : World} {K : PySem.W.Frag} {mg : Str → Option Value} {base : Heap} {C : Ad}
/-! ### Decoder -/
def fDec (psh as ap : Addr) (lag deep : Int) : List (Str × V) := [("shaper", .ref psh), ("spectrum", .ref as), ("past", .ref ap), ("lag", .int lag), ("last_deep", .int deep)]
theorem gd1 (a b c : Addr) (x y : Int) : (fDec a b c x y).lookup ("shaper" : Str) = some (.ref a) := by kernel_rfl
theorem gd2 (a b c : Addr) (x y : Int) : (fDec a b c x y).lookup ("spectrum" : Str) = some (.ref b) := by kernel_rfl
theorem gd3 (a b c : Addr) (x y : Int) : (fDec a b c x y).lookup ("past" : Str) = some (.ref c) := by kernel_rfl
theorem gd4 (a b c : Addr) (x y : Int) : (fDec a b c x y).lookup ("lag" : Str) = some (.int x) := by kernel_rfl
theorem gd5 (a b c : Addr) (x y : Int) : (fDec a b c x y).lookup ("last_deep" : Str) = some (.int y) := by kernel_rfl
theorem gp2 (a b c z : Addr) (x y : Int) : putF "spectrum" (.ref z) (fDec a b c x y) = fDec a z c x y := by kernel_rfl
theorem gp3 (a b c z : Addr) (x y : Int) : putF "past" (.ref z) (fDec a b c x y) = fDec a b z x y := by kernel_rfl
theorem gp4 (a b c : Addr) (x y z : Int) : putF "lag" (.int z) (fDec a b c x y) = fDec a b c z y := by kernel_rfl
theorem gp5 (a b c : Addr) (x y z : Int) : putF "last_deep" (.int z) (fDec a b c x y) = fDec a b c x z := by kernel_rfl
theorem gn_one (a : Addr) : putF "shaper" (.ref a) [] = [(("shaper" : Str), V.ref a)] := by kernel_rfl
theorem gn_two (a b : Addr) : putF "spectrum" (.ref b) [(("shaper" : Str), V.ref a)] = [(("shaper" : Str), V.ref a), ("spectrum", .ref b)] := by kernel_rfl
theorem gn_three (a b c : Addr) : putF "past" (.ref c) [(("shaper" : Str), V.ref a), ("spectrum", .ref b)] = [(("shaper" : Str), V.ref a), ("spectrum", .ref b), ("past", .ref c)] := by kernel_rfl
theorem gn_four (a b c : Addr) (x : Int) : putF "lag" (.int x) [(("shaper" : Str), V.ref a), ("spectrum", .ref b), ("past", .ref c)] = [(("shaper" : Str), V.ref a), ("spectrum", .ref b), ("past", .ref c), ("lag", .int x)] := by kernel_rfl
theorem gn_five (a b c : Addr) (x y : Int) : putF "last_deep" (.int y) [(("shaper" : Str), V.ref a), ("spectrum", .ref b), ("past", .ref c), ("lag", .int x)] = fDec a b c x y := by kernel_rfl
def DecAt (C : Ad) (H : Hp) (p psh al : Addr) (s : Ra26.S) (X : List Addr) : Prop := ∃ dx as ap, H p = some (.ins C.cDecoder dx (fDec psh as ap (s.lag : Nat) s.msr)) ∧ ShapAt C H psh al s.v ∧ LI H as s.lar' ∧ LI H ap s.r ∧ as ∉ X ∧ ap ∉ X ∧ al ∉ X
theorem ShapAt.same {H H' : Hp} {p al : Addr} {v : List Int} (h : ShapAt C H p al v) (s : Same H H') : ShapAt C H' p al v := let ⟨dx, e, l⟩ := h; ⟨dx, s _ _ e, l.same s⟩
theorem DecAt.same {H H' : Hp} {p psh al : Addr} {t : Ra26.S} {X : List Addr} (h : DecAt C H p psh al t X) (s : Same H H') : DecAt C H' p psh al t X :=
  let ⟨dx, as, ap, e, f, l1, l2, n1, n2, n3⟩ := h; ⟨dx, as, ap, s _ _ e, f.same s, l1.same s, l2.same s, n1, n2, n3⟩
theorem DecAt.more {H : Hp} {p psh al pc : Addr} {t : Ra26.S} {X : List Addr} (h : DecAt C H p psh al t X) (hc : H pc = none) : DecAt C H p psh al t (pc :: X) := by
  obtain ⟨dx, as, ap, e, ⟨d2, g1, g2⟩, l1, l2, n1, n2, n3⟩ := h
  refine ⟨dx, as, ap, e, ⟨d2, g1, g2⟩, l1, l2, ?_, ?_, ?_⟩ <;> simp only [List.mem_cons, not_or]
  · exact ⟨ne_of_none l1 hc, n1⟩
  · exact ⟨ne_of_none l2 hc, n2⟩
  · exact ⟨ne_of_none g2 hc, n3⟩
theorem DecAt.less {H : Hp} {p psh al pc : Addr} {t : Ra26.S} {X : List Addr} (h : DecAt C H p psh al t (pc :: X)) : DecAt C H p psh al t X := by
  obtain ⟨dx, as, ap, e, f, l1, l2, n1, n2, n3⟩ := h
  exact ⟨dx, as, ap, e, f, l1, l2, fun m => n1 (List.mem_cons_of_mem _ m), fun m => n2 (List.mem_cons_of_mem _ m), fun m => n3 (List.mem_cons_of_mem _ m)⟩
theorem DecAt.write {H : Hp} {p psh al pc : Addr} {t : Ra26.S} {X : List Addr} {l xs : List V} (h : DecAt C H p psh al t X) (hc : pc ∈ X) (hl : H pc = some (.lst l)) : DecAt C (upd H pc (.lst xs)) p psh al t X := by
  obtain ⟨dx, as, ap, e, ⟨d2, g1, g2⟩, l1, l2, n1, n2, n3⟩ := h
  have ni : ∀ {q C0 d fs}, H q = some (.ins C0 d fs) → q ≠ pc := fun e => (ne_of hl e (by intro z; cases z)).symm
  have nl : ∀ {q}, q ∉ X → q ≠ pc := fun n z => n (z ▸ hc)
  exact ⟨dx, as, ap, by rw [upd_ne (ni e)]; exact e, ⟨d2, by rw [upd_ne (ni g1)]; exact g1, by show upd _ _ _ _ = _; rw [upd_ne (nl n3)]; exact g2⟩, by show upd _ _ _ _ = _; rw [upd_ne (nl n1)]; exact l1, by show upd _ _ _ _ = _; rw [upd_ne (nl n2)]; exact l2, n1, n2, n3⟩
def spInD (C : Ad) : Sp := fun vs H Q _ => ∃ p dx X, vs = [.ref p] ∧ H p = some (.ins C.cDecoder dx []) ∧ Al H X ∧ ∀ psh al H', H psh = none → H al = none → DecAt C H' p psh al Ra26.fresh X → KeepX H H' [p] → Q .non H'
abbrev s_Decoder___init__ : Stmt := (inClass (top 99) 0)
theorem sc_Decoder___init__ : FnScope ["self"] ["self"] (defScope s_Decoder___init__) := ⟨rfl, rfl, rfl, by decide +kernel, rfl, by decide +kernel, by decide +kernel⟩
theorem i_Decoder (T : Txt K mg C) : Di P w K mg base "Decoder" C.cDecoder 3 (spInD C) := by
  refine .mk' T.n_Decoder T.m_Decoder_init sc_Decoder___init__ (fun _ _ _ _ _ _ us hl => match us, hl with | [_], _ => rfl) (fun vs H Q E h => by obtain ⟨_, _, _, rfl, _⟩ := h; rfl) fun f cdv A outer s H vs Q E hr h => ?_
  obtain ⟨p, dx, X, rfl, hp, al, k⟩ := h
  refine ⟨_, (pss_cons (ps_fld (pv 0) (pe_mk0 (i_Shaper T) (hr.mono (by decide))) rfl)
      (pss_cons (ps_fld (pv 0) (pe_op op_rep (pe_lst (pa_cons pe_int pa_nil)) (pe_cst T.c_ORDER)) rfl)
      (pss_cons (ps_fld (pv 0) (pe_op op_rep (pe_lst (pa_cons pe_int pa_nil)) (pe_cst T.c_LONGEST_LAG)) rfl)
      (pss_cons (ps_fld (pv 0) (pe_cst T.c_SHORTEST_LAG) rfl)
      (pss_one (ps_fld (pv 0) pe_int rfl)))))), ?_⟩
  intro x1 d1 nx1 nd1 ne1
  refine ⟨x1, d1, rfl, upd_same, fun al1 H1 hal1 hS1 k1 => ⟨rfl, ?_⟩⟩
  have s1 : Same H H1 := made_same nx1 nd1 k1
  have npx1 : p ≠ x1 := ne_of_none hp nx1
  have hal0 : H al1 = none := by
    by_cases z : al1 = x1
    · rw [z]; exact nx1
    · by_cases z2 : al1 = d1
      · rw [z2]; exact nd1
      · rw [upd_ne z, upd_ne z2] at hal1; exact hal1
  obtain ⟨dS, hS1a, hS1b⟩ := hS1
  have nalp : al1 ≠ p := li_ins hS1b (s1 _ _ hp)
  have nalX : al1 ∉ X := al.nin hal0
  refine ⟨_, rfl, p, _, dx, _, rfl, s1 _ _ hp, T.k_Decoder, T.a_Decoder_shaper, (by show 0 < 1000; decide), ?_⟩
  rw [gn_one]
  have hS2a : (upd H1 p (.ins C.cDecoder dx [(("shaper" : Str), V.ref x1)])) x1 = some (.ins C.cShaper dS (fOne al1)) := by rw [upd_ne npx1.symm]; exact hS1a
  have hS2b : LI (upd H1 p (.ins C.cDecoder dx [(("shaper" : Str), V.ref x1)])) al1 (List.replicate 9 0) := by show upd _ _ _ _ = _; rw [upd_ne nalp]; exact hS1b
  have hp2 : (upd H1 p (.ins C.cDecoder dx [(("shaper" : Str), V.ref x1)])) p = some (.ins C.cDecoder dx [(("shaper" : Str), V.ref x1)]) := upd_same
  have k2 : KeepX H (upd H1 p (.ins C.cDecoder dx [(("shaper" : Str), V.ref x1)])) [p] := (KeepX.of s1).trans (KeepX.upd (by simp))
  generalize upd H1 p (.ins C.cDecoder dx [(("shaper" : Str), V.ref x1)]) = H2 at *
  have al2 : Al H2 X := al.keep k2 (by rw [hp2]; simp)
  refine ⟨by show 1 ≤ sizeLine; decide, fun l5 hl5 => ?_⟩
  dsimp only [tC]
  refine rep_at hl5 (by decide) (by decide) fun q5 H5 s5 hq5 e5 => ?_
  refine ⟨_, rfl, p, _, dx, _, rfl, s5 _ _ hp2, T.k_Decoder, T.a_Decoder_spectrum, (by show 1 < 1000; decide), ?_⟩
  rw [gn_two]
  have n5 : q5 ≠ p := li_ins e5 (s5 _ _ hp2)
  have e6 : LI (upd H5 p (.ins C.cDecoder dx [(("shaper" : Str), V.ref x1), ("spectrum", .ref q5)])) q5 (List.replicate 8 0) := by show upd _ _ _ _ = _; rw [upd_ne n5]; exact e5
  have hS6a : (upd H5 p (.ins C.cDecoder dx [(("shaper" : Str), V.ref x1), ("spectrum", .ref q5)])) x1 = some (.ins C.cShaper dS (fOne al1)) := by rw [upd_ne npx1.symm]; exact s5 _ _ hS2a
  have hS6b : LI (upd H5 p (.ins C.cDecoder dx [(("shaper" : Str), V.ref x1), ("spectrum", .ref q5)])) al1 (List.replicate 9 0) := by show upd _ _ _ _ = _; rw [upd_ne nalp]; exact s5 _ _ hS2b
  have hp6 : (upd H5 p (.ins C.cDecoder dx [(("shaper" : Str), V.ref x1), ("spectrum", .ref q5)])) p = some (.ins C.cDecoder dx [(("shaper" : Str), V.ref x1), ("spectrum", .ref q5)]) := upd_same
  have k6 : KeepX H (upd H5 p (.ins C.cDecoder dx [(("shaper" : Str), V.ref x1), ("spectrum", .ref q5)])) [p] := (k2.trans (KeepX.of s5)).trans (KeepX.upd (by simp))
  generalize upd H5 p (.ins C.cDecoder dx [(("shaper" : Str), V.ref x1), ("spectrum", .ref q5)]) = H6 at *
  have al6 : Al H6 X := al.keep k6 (by rw [hp6]; simp)
  refine ⟨by show 1 ≤ sizeLine; decide, fun l7 hl7 => ?_⟩
  dsimp only [tC]
  refine rep_at hl7 (by decide) (by decide) fun q7 H7 s7 hq7 e7 => ?_
  refine ⟨_, rfl, p, _, dx, _, rfl, s7 _ _ hp6, T.k_Decoder, T.a_Decoder_past, (by show 2 < 1000; decide), ?_⟩
  rw [gn_three]
  refine ⟨_, rfl, p, _, dx, _, rfl, upd_same, T.k_Decoder, T.a_Decoder_lag, (by show 3 < 1000; decide), ?_⟩
  rw [gn_four]
  refine ⟨_, rfl, p, _, dx, _, rfl, upd_same, T.k_Decoder, T.a_Decoder_last_deep, (by show 4 < 1000; decide), ?_⟩
  rw [gn_five, upd_upd, upd_upd]
  have n7 : q7 ≠ p := li_ins e7 (s7 _ _ hp6)
  refine k x1 al1 _ nx1 hal0 ⟨dx, q5, q7, upd_same, ⟨dS, by rw [upd_ne npx1.symm]; exact s7 _ _ hS6a, by show upd _ _ _ _ = _; rw [upd_ne nalp]; exact s7 _ _ hS6b⟩, ?_, ?_, al2.nin hq5, al6.nin hq7, nalX⟩ ((k6.trans (KeepX.of s7)).trans (KeepX.upd (by simp)))
  · show upd _ _ _ _ = _; rw [upd_ne n5]; exact s7 _ _ e6
  · show upd _ _ _ _ = _; rw [upd_ne n7]; exact e7
def spDe (C : Ad) : Sp := fun vs H Q _ => ∃ p psh al s X x, vs = [.ref p, .int x] ∧ DecAt C H p psh al s X ∧ Pv.W s.msr ∧
  ∀ H', DecAt C H' p psh al { s with msr := Ra26.add x (Ra26.mulR s.msr 28180) } X → KeepX H H' [p] → Q (.int (Ra26.add (Ra26.add x (Ra26.mulR s.msr 28180)) (Ra26.add x (Ra26.mulR s.msr 28180)) / 8 * 8)) H'
abbrev s_Decoder_deepened : Stmt := (inClass (top 99) 3)
theorem sc_Decoder_deepened : FnScope ["self", "sample"] ["self", "sample"] (defScope s_Decoder_deepened) := ⟨rfl, rfl, rfl, by decide +kernel, rfl, by decide +kernel, by decide +kernel⟩
theorem m_deepened (T : Txt K mg C) : Dm P w K mg base C.cDecoder "deepened" ["self", "sample"] 3 (spDe C) := by
  refine .mk' T.k_Decoder T.m_Decoder_deepened sc_Decoder_deepened (fun _ _ _ _ _ _ us hl => match us, hl with | [_, _], _ => rfl) (fun vs H Q E h => by obtain ⟨_, _, _, _, _, _, rfl, _⟩ := h; rfl) fun f cdv A outer s H vs Q E hr h => ?_
  obtain ⟨p, psh, al, st, X, x, rfl, hD, wm, k⟩ := h
  refine ⟨_, (pss_cons (ps_fld (pv 0) (pe_fn (d_plus T) (hr.mono (by decide)) (pa_cons (pv 1) (pa_cons (pe_fn (d_rounded_product T) (hr.mono (by decide)) (pa_cons (pe_fldK K rfl (pv 0) rfl) (pa_cons pe_int pa_nil))) pa_nil))) rfl)
      (pss_one (ps_ret (pe_op op_and (pe_fn (d_plus T) (hr.mono (by decide)) (pa_cons (pe_fldK K rfl (pv 0) rfl) (pa_cons (pe_fldK K rfl (pv 0) rfl) pa_nil))) (pe_un un_neg pe_int))))), ?_⟩
  obtain ⟨dx, as, ap, e, ⟨dS, g1, g2⟩, l1, l2, n1, n2, n3⟩ := hD
  refine ⟨_, rfl, _, rfl, p, _, dx, _, _, rfl, e, T.k_Decoder, T.a_Decoder_last_deep, gd5 _ _ _ _ _, _, _, rfl, cmulW wm, _, _, rfl, trivial, _, rfl, p, _, dx, _, rfl, e, T.k_Decoder, T.a_Decoder_last_deep, (by show 5 < 1000; decide), ?_⟩
  rw [gp5]
  refine ⟨_, rfl, p, _, dx, _, _, rfl, upd_same, T.k_Decoder, T.a_Decoder_last_deep, gd5 _ _ _ _ _, _, rfl, p, _, dx, _, _, rfl, upd_same, T.k_Decoder, T.a_Decoder_last_deep, gd5 _ _ _ _ _, _, _, rfl, trivial, ?_⟩
  refine ⟨_, rfl, _, _, rfl, rfl, ?_⟩
  have nps : psh ≠ p := ins_ne g1 e (by show 1 ≠ 5; decide)
  refine qint (k _ ⟨dx, as, ap, upd_same, ⟨dS, by rw [upd_ne nps]; exact g1, by show upd _ _ _ _ = _; rw [upd_ne (li_ins g2 e)]; exact g2⟩, by show upd _ _ _ _ = _; rw [upd_ne (li_ins l1 e)]; exact l1, by show upd _ _ _ _ = _; rw [upd_ne (li_ins l2 e)]; exact l2, n1, n2, n3⟩ (KeepX.upd (by simp))) ?_
  generalize Ra26.add (Ra26.add x (Ra26.mulR st.msr 28180)) (Ra26.add x (Ra26.mulR st.msr 28180)) = y
  have e8 : (-(8 : Int)) = Builtin.bitNot 7 := by decide
  show y / 8 * 8 = Builtin.bitAnd y (-(8))
  rw [e8, bitAnd_not, bitAnd_m3]
  simp only [Ra26.N] at *
  omega
def newR (s : Ra26.S) (q : Ra26.Sub) : List Int := Pv.built (Pv.fore s.r (Pv.lagIn q s.lag) q.gain) q.grid q.size q.pulses
def spRd (C : Ad) : Sp := fun vs H Q _ => ∃ p psh al a s X q, vs = [.ref p, .ref a] ∧ DecAt C H p psh al s X ∧ LI H a (Pv.subCodes q) ∧ Pv.SubOk q ∧ Pv.Ws s.r ∧ s.r.length = 120 ∧ 40 ≤ s.lag ∧ s.lag ≤ 120 ∧ Al H X ∧
  ∀ r H', DecAt C H' p psh al { s with r := s.r.drop 40 ++ newR s q, lag := Pv.lagIn q s.lag } X → KeepX H H' [p] → H r = none → r ∉ X → LI H' r (newR s q) → Q (.ref r) H'
theorem sc_get (q : Ra26.Sub) (h : q.pulses.length = 13) : atI ((Pv.subCodes q).map V.int) 0 = some (.int (q.lag : Nat)) ∧ atI ((Pv.subCodes q).map V.int) 1 = some (.int (q.gain : Nat)) ∧ atI ((Pv.subCodes q).map V.int) 2 = some (.int (q.grid : Nat)) ∧ atI ((Pv.subCodes q).map V.int) 3 = some (.int q.size) :=
  ⟨atI_nat (j := 0) rfl, atI_nat (j := 1) rfl, atI_nat (j := 2) rfl, atI_nat (j := 3) rfl⟩
abbrev s_Decoder_residual_of : Stmt := (inClass (top 99) 2)
theorem sc_Decoder_residual_of : FnScope ["self", "quarter", "awaited", "samples"] ["self", "quarter"] (defScope s_Decoder_residual_of) := ⟨rfl, rfl, rfl, by decide +kernel, rfl, by decide +kernel, by decide +kernel⟩
theorem m_Decoder_residual_of (T : Txt K mg C) : Dm P w K mg base C.cDecoder "residual_of" ["self", "quarter"] 5 (spRd C) := by
  refine .mk' T.k_Decoder T.m_Decoder_residual_of sc_Decoder_residual_of (fun _ _ _ _ _ _ us hl => match us, hl with | [_, _], _ => rfl) (fun vs H Q E h => by obtain ⟨_, _, _, _, _, _, _, rfl, _⟩ := h; rfl) fun f cdv A outer s H vs Q E hr h => ?_
  obtain ⟨p, psh, al, a, st, X, q, rfl, hD, hq, sok, wr, lr, lg0, lg1, aX, k⟩ := h
  refine ⟨_, (pss_cons (ps_if (pt_chain op_le op_le (pe_cst T.c_SHORTEST_LAG) (pe_ix (ix_listK K rfl) (pv 1) pe_int (fun _ _ => rfl)) (pe_cst T.c_LONGEST_LAG)) (pss_one (ps_fld (pv 0) (pe_ix (ix_listK K rfl) (pv 1) pe_int (fun _ _ => rfl)) rfl)) pss_nil)
      (pss_cons (ps_set (i := 2) sc_Decoder_residual_of.nd rfl (Or.inl rfl) (pe_fn (d_forecast T) (hr.mono (by decide)) (pa_cons (pe_fldK K rfl (pv 0) rfl) (pa_cons (pe_fldK K rfl (pv 0) rfl) (pa_cons (pe_ix (ix_listK K rfl) (pv 1) pe_int (fun _ _ => rfl)) pa_nil)))))
      (pss_cons (ps_set (i := 3) sc_Decoder_residual_of.nd rfl (Or.inl rfl) (pe_fn (d_rebuilt T) (hr.mono (by decide)) (pa_cons (pv 2) (pa_cons (pe_ix (ix_listK K rfl) (pv 1) pe_int (fun _ _ => rfl)) (pa_cons (pe_ix (ix_listK K rfl) (pv 1) pe_int (fun _ _ => rfl)) (pa_cons (pe_slice (sl_listK K rfl) (pv 1) (po_some pe_int) po_none) pa_nil))))))
      (pss_cons (ps_fld (pv 0) (pe_op op_cat (pe_slice (sl_listK K rfl) (pe_fldK K rfl (pv 0) rfl) (po_some (pe_cst T.c_QUARTER)) po_none) (pv 3)) rfl)
      (pss_one (ps_ret (pv 3))))))), ?_⟩
  obtain ⟨a0, a1, a2, a3⟩ := sc_get q sok.pl
  obtain ⟨dx, as, ap, e, ⟨dS, g1, g2⟩, l1, l2, n1, n2, n3⟩ := hD
  have nap := li_ins hq e
  have nps : psh ≠ p := ins_ne g1 e (by show 1 ≠ 5; decide)
  obtain ⟨lb0, lb1⟩ := Pv.lagIn_bd q lg0 lg1
  have go : ∀ (H1 : Hp), KeepX H H1 [p] → H1 p = some (.ins C.cDecoder dx (fDec psh as ap ((Pv.lagIn q st.lag : Nat) : Int) st.msr)) →
      (tSeq (tAsg (tCall (spF (fun ns i j => ns.length = 120 ∧ Pv.Ws ns ∧ 40 ≤ i ∧ i ≤ 120 ∧ 0 ≤ j ∧ j ≤ 3) fun ns i j => Pv.fore ns i.toNat j.toNat) [] E0 (tCons (tFld K (tVar 0) "past") (tCons (tFld K (tVar 0) "lag") (tCons (tOp (rIxL K) (tVar 1) (tC (V.int 1))) tNil)))) (gName 2))
        (tSeq (tAsg (tCall (spRb (fun ns i j ms => ns.length = 40 ∧ (0 ≤ i ∧ i ≤ 3) ∧ (0 ≤ j ∧ j ≤ 63) ∧ ms.length = 13 ∧ ∀ k ∈ ms, 0 ≤ k ∧ k ≤ 7) fun ns i j ms => Pv.built ns i.toNat j ms) [] E0 (tCons (tVar 2) (tCons (tOp (rIxL K) (tVar 1) (tC (V.int 2))) (tCons (tOp (rIxL K) (tVar 1) (tC (V.int 3))) (tCons (tSl (rSlL K) (tVar 1) (tPart (tC (V.int 4))) tNoPart) tNil))))) (gName 3))
        (tSeq (sFld K (tVar 0) (tOp rCat (tSl (rSlL K) (tFld K (tVar 0) "past") (tPart (tC (V.int 40))) tNoPart) (tVar 3)) "past") (tRet (tVar 3))))) { nx := fun x H' => Q V.non H', rt := Q } [some (.ref p), some (.ref a), none, none] H1 := by
    intro H1 k1 hp1
    have hq1 := k1.li hq (by simp [nap])
    have l21 := k1.li l2 (by simp; exact li_ins l2 e)
    refine ⟨_, rfl, p, _, dx, _, _, rfl, hp1, T.k_Decoder, T.a_Decoder_past, gd3 _ _ _ _ _, _, rfl, p, _, dx, _, _, rfl, hp1, T.k_Decoder, T.a_Decoder_lag, gd4 _ _ _ _ _, _, rfl, a, _, _, _, rfl, rfl, hq1.sq, a1, ap, st.r, _, _, rfl, l21, ⟨lr, wr, by omega, by omega, by omega, by have := sok.gain; omega⟩, fun pw H2 s2 hpw ew => ?_⟩
    have ew : LI H2 pw (Pv.fore st.r ((Pv.lagIn q st.lag : Nat) : Int).toNat ((q.gain : Nat) : Int).toNat) := ew
    rw [Int.toNat_natCast, Int.toNat_natCast] at ew
    have hq2 := hq1.same s2
    refine ⟨_, rfl, _, rfl, a, _, _, _, rfl, rfl, hq2.sq, a2, _, rfl, a, _, _, _, rfl, rfl, hq2.sq, a3, _, rfl, _, rfl, a, _, rfl, hq2.sq, fun p4 hp4 => ?_⟩
    have s3 : Same H2 (upd H2 p4 (.lst (cutV ((Pv.subCodes q).map V.int) (some 4) none))) := same_new hp4
    have e3 : LI (upd H2 p4 (.lst (cutV ((Pv.subCodes q).map V.int) (some 4) none))) p4 q.pulses := li_new' (cutF (Pv.subCodes q) 4)
    generalize upd H2 p4 (.lst (cutV ((Pv.subCodes q).map V.int) (some 4) none)) = H3 at *
    refine ⟨pw, p4, _, _, _, _, rfl, ew.same s3, e3, ⟨Pv.fore_len _ _ _, ⟨by omega, by have := sok.grid; omega⟩, ⟨sok.s0, sok.s1⟩, sok.pl, sok.pb⟩, fun pn H4 s4 hpn en => ?_⟩
    have en : LI H4 pn (Pv.built (Pv.fore st.r (Pv.lagIn q st.lag) q.gain) ((q.grid : Nat) : Int).toNat q.size q.pulses) := en
    rw [Int.toNat_natCast] at en
    have en : LI H4 pn (newR st q) := en
    have s14 := (s2.trans s3).trans s4
    refine ⟨_, rfl, p, _, dx, _, _, rfl, s14 _ _ hp1, T.k_Decoder, T.a_Decoder_past, gd3 _ _ _ _ _, _, rfl, ap, _, rfl, (l21.same s14).sq, fun p5 hp5 => ⟨_, rfl, ?_⟩⟩
    have s5 : Same H4 (upd H4 p5 (.lst (cutV (st.r.map V.int) (some 40) none))) := same_new hp5
    have e5 : LI (upd H4 p5 (.lst (cutV (st.r.map V.int) (some 40) none))) p5 (st.r.drop 40) := li_new' (cutF st.r 40)
    generalize upd H4 p5 (.lst (cutV (st.r.map V.int) (some 40) none)) = H5 at *
    have ln : (newR st q).length = 40 := Pv.built_len _ _ _ (Pv.fore_len _ _ _)
    refine cat_at e5 (en.same s5) (by rw [List.length_drop, ln]; omega) fun p6 H6 s6 hp6 e6 => ?_
    have s16 := (s14.trans s5).trans s6
    refine ⟨_, rfl, p, _, dx, _, rfl, s16 _ _ hp1, T.k_Decoder, T.a_Decoder_past, (by show 5 < 1000; decide), _, rfl, ?_⟩
    rw [gp3]
    have aX1 : Al H1 X := aX.keep k1 (by rw [hp1]; simp)
    have nn : ∀ {b}, H1 b = none → H b = none := fun {b} h => by
      cases hh : H b with
      | none => rfl
      | some o =>
        by_cases z : b = p
        · rw [z, hp1] at h; cases h
        · rw [k1 b o hh (by simp [z])] at h; cases h
    have np6 : p6 ≠ p := li_ins e6 (s16 _ _ hp1)
    have npn : pn ≠ p := li_ins (en.same (s5.trans s6)) (s16 _ _ hp1)
    refine k pn _ ⟨dx, as, p6, upd_same, ⟨dS, ?_, ?_⟩, ?_, ?_, n1, (aX1.same (s14.trans s5)).nin hp6, n3⟩ ((k1.trans (KeepX.of s16)).trans (KeepX.upd (by simp))) (nn ((s2.trans s3).free hpn)) ((aX1.same (s2.trans s3)).nin hpn) ?_
    · rw [upd_ne nps]; exact s16 _ _ (k1 _ _ g1 (by simp [nps]))
    · show upd _ _ _ _ = _; rw [upd_ne (li_ins g2 e)]; exact s16 _ _ (k1.li g2 (by simp; exact li_ins g2 e))
    · show upd _ _ _ _ = _; rw [upd_ne (li_ins l1 e)]; exact s16 _ _ (k1.li l1 (by simp; exact li_ins l1 e))
    · show upd _ _ _ _ = _; rw [upd_ne np6]; exact e6
    · show upd _ _ _ _ = _; rw [upd_ne npn]; exact (en.same (s5.trans s6))
  refine ⟨_, rfl, a, _, _, _, rfl, rfl, hq.sq, a0, _, _, rfl, rfl, _, rfl, ?_⟩
  have no : ¬ (40 ≤ q.lag ∧ q.lag ≤ 120) → Pv.lagIn q st.lag = st.lag := fun h => by unfold Pv.lagIn; rw [if_pos (by omega)]
  refine ite2 (fun h => ?_) (fun h => ?_)
  · have h : (40 : Int) ≤ (q.lag : Nat) := of_decide_eq_true h
    refine ⟨_, _, rfl, rfl, _, rfl, ?_⟩
    refine ite2 (fun h2 => ?_) (fun h2 => ?_)
    · have h2 : ((q.lag : Nat) : Int) ≤ 120 := of_decide_eq_true h2
      refine ⟨_, rfl, a, _, _, _, rfl, rfl, hq.sq, a0, _, rfl, p, _, dx, _, rfl, e, T.k_Decoder, T.a_Decoder_lag, (by show 5 < 1000; decide), ?_⟩
      rw [gp4]
      have el : Pv.lagIn q st.lag = q.lag := by unfold Pv.lagIn; rw [if_neg (by omega)]
      refine go _ (KeepX.upd (by simp)) ?_
      rw [upd_same, el]
    · have h2 : ¬ ((q.lag : Nat) : Int) ≤ 120 := fun z => h2 (decide_eq_true z)
      exact go H (KeepX.refl _ _) (by rw [no (by omega)]; exact e)
  · have h : ¬ (40 : Int) ≤ (q.lag : Nat) := fun z => h (decide_eq_true z)
    refine ⟨_, rfl, ?_⟩
    dsimp only
    rw [if_neg (by decide)]
    exact go H (KeepX.refl _ _) (by rw [no (by omega)]; exact e)
end Px
namespace Px
open PySem PySem.Spec PyProof.Rows L2
local macro_rules | `(tactic| walk_at "rd") => `(tactic| repeat (first | refine ⟨_, rfl, ?_⟩ | refine ⟨_, _, rfl, rfl, ?_⟩ | refine ⟨_, _, rfl, ?_⟩ | refine ⟨rfl, ?_⟩ | refine ⟨trivial, ?_⟩ | refine ⟨(show (0 : Int) ≤ _ by decide), ?_⟩ | refine ⟨Or.inl ⟨by decide, by decide⟩, ?_⟩ | refine ⟨Or.inr ⟨by decide, by decide⟩, ?_⟩))
variable {P : Program} {w : World} {K : PySem.W.Frag} {mg : Str → Option Value} {base : Heap} {C : Ad}
theorem wholeB_from : ∀ (bs : List Nat) (a : Nat), (Pv.intsOf bs).foldl (fun a x => a * 256 + x) ((a : Nat) : Int) = ((bs.foldl (fun a x => a * 256 + x) a : Nat) : Int)
  | [], _ => rfl
  | b :: bs, a => by
    show (Pv.intsOf bs).foldl (fun a x => a * 256 + x) ((a : Int) * 256 + (b : Int)) = _
    rw [show ((a : Int) * 256 + (b : Int)) = ((a * 256 + b : Nat) : Int) by omega]
    exact wholeB_from bs (a * 256 + b)
theorem wholeB_eq {bs : List Nat} (h : ∀ x ∈ bs, x < 256) : wholeB (Pv.intsOf bs) = ((Pv.vl (Ra26.bits bs) : Nat) : Int) := by
  rw [Pv.vl_byte h]; exact wholeB_from bs 0
theorem unp_eq {bs : List Nat} (h33 : bs.length = 33) (h : ∀ x ∈ bs, x < 256) : Pv.unp (wholeB (Pv.intsOf bs)) Pv.WD 260 = Pv.codesOf (Pv.frameAt (Ra26.bits bs)) := by
  rw [wholeB_eq h, Pv.codes_numb]
  exact Pv.unp_numb (by rw [Pv.bits_length, h33]) Pv.WD 260 (by decide) (by decide)
theorem fl_at : ∀ (l : List Ra26.Sub) (j : Nat) (q : Ra26.Sub), (∀ q ∈ l, (Pv.subCodes q).length = 17) → l[j]? = some q → ((l.flatMap Pv.subCodes).drop (17 * j)).take 17 = Pv.subCodes q
  | [], j, q, _, h => by simp at h
  | x :: l, 0, q, hl, h => by
    have e : x = q := by simpa using h
    have lx := hl x (List.mem_cons_self ..)
    subst e
    rw [List.flatMap_cons, Nat.mul_zero, List.drop_zero]
    exact List.take_left' lx
  | x :: l, j + 1, q, hl, h => by
    have lx := hl x (List.mem_cons_self ..)
    rw [List.flatMap_cons, show 17 * (j + 1) = (Pv.subCodes x).length + 17 * j by omega, ← List.drop_drop, List.drop_left]
    exact fl_at l j q (fun q m => hl q (List.mem_cons_of_mem _ m)) (by simpa using h)
theorem post_run : ∀ (l : List Int) (m : Int), run (fun m x => (Ra26.add (Ra26.add x (Ra26.mulR m 28180)) (Ra26.add x (Ra26.mulR m 28180)) / 8 * 8, Ra26.add x (Ra26.mulR m 28180))) l m = Ra26.post l m
  | [], _ => rfl
  | x :: l, m => by
    unfold run
    rw [post_run l]
    rfl
def spSa (C : Ad) : Sp := fun vs H Q _ => ∃ p psh al a s X bs, vs = [.ref p, .ref a] ∧ DecAt C H p psh al s X ∧ Pv.Wf s ∧ LI H a (Pv.intsOf bs) ∧ bs.length = 33 ∧ (∀ x ∈ bs, x < 256) ∧ Al H X ∧
  ∀ q H', DecAt C H' p psh al (Pv.dS s (Pv.frameAt (Ra26.bits bs))) X → KeepX H H' [p, al] → H q = none → LI H' q (Ra26.post (Pv.dY s (Pv.frameAt (Ra26.bits bs))).1 s.msr).1 → Q (.ref q) H'
abbrev s_Decoder_samples_of : Stmt := (inClass (top 99) 1)
theorem sc_Decoder_samples_of : FnScope ["self", "data", "codes", "now", "factors", "residual", "quarter", "sample"] ["self", "data"] (defScope s_Decoder_samples_of) := ⟨rfl, rfl, rfl, by decide +kernel, rfl, by decide +kernel, by decide +kernel⟩
theorem m_samples_of (T : Txt K mg C) : Dm P w K mg base C.cDecoder "samples_of" ["self", "data"] 6 (spSa C) := by
  refine .mk' T.k_Decoder T.m_Decoder_samples_of sc_Decoder_samples_of (fun _ _ _ _ _ _ us hl => match us, hl with | [_, _], _ => rfl) (fun vs H Q E h => by obtain ⟨_, _, _, _, _, _, _, rfl, _⟩ := h; rfl) fun f cdv A outer s H vs Q E hr h => ?_
  obtain ⟨p, psh, al, a, st, X, bs, rfl, hD, wf, ha, h33, hb, aX, k⟩ := h
  refine ⟨_, (pss_cons (ps_set (i := 2) sc_Decoder_samples_of.nd rfl (Or.inl rfl) (pe_fn (d_unpacked T) (hr.mono (by decide)) (pa_cons (pv 1) pa_nil)))
      (pss_cons (ps_set (i := 3) sc_Decoder_samples_of.nd rfl (Or.inl rfl) (pe_fn (d_numbers_of T) (hr.mono (by decide)) (pa_cons (pe_fn (d_spectrum_part T) (hr.mono (by decide)) (pa_cons (pv 2) pa_nil)) pa_nil)))
      (pss_cons (ps_set (i := 4) sc_Decoder_samples_of.nd rfl (Or.inl rfl) (pe_fn (d_filters T) (hr.mono (by decide)) (pa_cons (pe_fldK K rfl (pv 0) rfl) (pa_cons (pv 3) pa_nil))))
      (pss_cons (ps_fld (pv 0) (pv 3) rfl)
      (pss_cons (ps_set (i := 5) sc_Decoder_samples_of.nd rfl (Or.inl rfl) (pe_lst pa_nil))
      (pss_cons (ps_for PassesOwn.never rfl (pi_list (pe_fn (d_quarter_parts T) (hr.mono (by decide)) (pa_cons (pv 2) pa_nil))) (pg_name (i := 6) sc_Decoder_samples_of.nd rfl (Or.inl rfl)) (pss_one (ps_expr (pe_bm PySem.F.plainAttrs_list PySem.F.slot_list_extend PySem.F.type_list_extend mt_extend (pv 5) (pa_cons (pe_mt (m_Decoder_residual_of T) (hr.mono (by decide)) (pv 0) (pa_cons (pv 6) pa_nil)) pa_nil)))))
      (pss_one (ps_ret (pe_lc (own := [("sample", 7)]) rfl sc_Decoder_samples_of.nd (pi_list (pe_mt (m_shaped T) (hr.mono (by decide)) (pe_fldK K rfl (pv 0) rfl) (pa_cons (pv 5) (pa_cons (pv 4) pa_nil)))) (blkOk_by (by kernel_rfl)) (fun _ _ _ _ _ => (pg_name (i := 7) sc_Decoder_samples_of.nd rfl (Or.inl rfl))) (fun _ _ _ _ _ => pts_nil) (fun _ _ _ _ _ => (pe_mt (m_deepened T) (hr.mono (by decide)) (pv 0) (pa_cons (pv 7) pa_nil)))))))))))), ?_⟩
  have ue := unp_eq h33 hb
  have fok : Pv.FrameOk (Pv.frameAt (Ra26.bits bs)) := Pv.frameAt_ok (by rw [Pv.bits_length, h33])
  generalize Pv.frameAt (Ra26.bits bs) = fr at *
  obtain ⟨dx, as, ap, e, ⟨dS, g1, g2⟩, l1, l2, n1, n2, n3⟩ := hD
  have nps : psh ≠ p := ins_ne g1 e (by show 1 ≠ 5; decide)
  have lcod := Pv.codes_len fok
  refine ⟨_, rfl, a, _, rfl, ha, ⟨by unfold Pv.intsOf; rw [List.length_map, h33], fun x hx => by
    obtain ⟨y, hy, rfl⟩ := List.mem_map.mp hx
    have := hb y hy
    omega⟩, fun pc H1 s1 hpc ec => ?_⟩
  have ec : LI H1 pc (Pv.codesOf fr) := ue ▸ ec
  refine ⟨_, rfl, pc, _, rfl, ec, trivial, fun p2 H2 s2 hp2 e2 => ?_⟩
  have e8 : (Pv.codesOf fr).take 8 = fr.spectrum := by unfold Pv.codesOf; exact List.take_left' fok.sp.1
  have e2 : LI H2 p2 fr.spectrum := e8 ▸ e2
  refine ⟨p2, _, rfl, e2, fok.sp, fun pn H3 s3 hpn en => ?_⟩
  have en : LI H3 pn (Pv.dN fr) := en
  have lN : (Pv.dN fr).length = 8 := by unfold Pv.dN; rw [List.length_mapIdx]; exact fok.sp.1
  have wN : Pv.Ws (Pv.dN fr) := Pv.mapIdx_W _ Pv.decoded_W _
  have s13 := (s1.trans s2).trans s3
  refine ⟨_, rfl, p, _, dx, _, _, rfl, s13 _ _ e, T.k_Decoder, T.a_Decoder_spectrum, gd2 _ _ _ _ _, _, rfl, as, pn, _, _, rfl, l1.same s13, en, ⟨⟨wf.larL', lN⟩, wN⟩, fun pf H4 s4 hpf F4 => ?_⟩
  have s14 := s13.trans s4
  refine ⟨_, rfl, _, rfl, p, _, dx, _, rfl, s14 _ _ e, T.k_Decoder, T.a_Decoder_spectrum, (by show 5 < 1000; decide), ?_⟩
  rw [gp2]
  have up : ∀ b o, b ≠ p → H4 b = some o → (upd H4 p (.ins C.cDecoder dx (fDec psh pn ap (st.lag : Nat) st.msr))) b = some o := fun b o n q => by rw [upd_ne n]; exact q
  have ne : ∀ {q xs}, H4 q = some (HO.lst xs) → q ≠ p := fun z => ne_of z (s14 _ _ e) (by intro y; cases y)
  have hp5 : (upd H4 p (.ins C.cDecoder dx (fDec psh pn ap (st.lag : Nat) st.msr))) p = some (.ins C.cDecoder dx (fDec psh pn ap (st.lag : Nat) st.msr)) := upd_same
  have k5 : KeepX H (upd H4 p (.ins C.cDecoder dx (fDec psh pn ap (st.lag : Nat) st.msr))) [p] := (KeepX.of s14).trans (KeepX.upd (by simp))
  have F5 : Four (upd H4 p (.ins C.cDecoder dx (fDec psh pn ap (st.lag : Nat) st.msr))) pf (Pv.facs st.lar' (Pv.dN fr)) := by
    obtain ⟨c0, c1, c2, c3, ee, h0, h1, h2, h3⟩ := F4
    exact ⟨c0, c1, c2, c3, up _ _ (ne ee) ee, up _ _ (ne h0) h0, up _ _ (ne h1) h1, up _ _ (ne h2) h2, up _ _ (ne h3) h3⟩
  have c5 : LI (upd H4 p (.ins C.cDecoder dx (fDec psh pn ap (st.lag : Nat) st.msr))) pc (Pv.codesOf fr) := up _ _ (ne ((s2.trans s3).trans s4 _ _ ec)) ((s2.trans s3).trans s4 _ _ ec)
  have D5 : DecAt C (upd H4 p (.ins C.cDecoder dx (fDec psh pn ap (st.lag : Nat) st.msr))) p psh al { st with lar' := Pv.dN fr } X :=
    ⟨dx, pn, ap, upd_same, ⟨dS, up _ _ nps (s14 _ _ g1), up _ _ (li_ins g2 e) (s14 _ _ g2)⟩, up _ _ (ne (s4 _ _ en)) (s4 _ _ en), up _ _ (li_ins l2 e) (s14 _ _ l2), (aX.same (s1.trans s2)).nin hpn, n2, n3⟩
  generalize upd H4 p (.ins C.cDecoder dx (fDec psh pn ap (st.lag : Nat) st.msr)) = H5 at *
  have aX5 : Al H5 X := aX.keep k5 (by rw [hp5]; simp)
  have nn5 : ∀ {b}, H5 b = none → H b = none := fun {b} h => by
    cases hh : H b with
    | none => rfl
    | some o =>
      by_cases z : b = p
      · rw [z, hp5] at h; cases h
      · rw [k5 b o hh (by simp [z])] at h; cases h
  refine ⟨by show 0 ≤ sizeLine; decide, fun pr hpr => ?_⟩
  have s6 : Same H5 (upd H5 pr (.lst [])) := same_new hpr
  have r6 : LI (upd H5 pr (.lst [])) pr [] := upd_same
  have D6 : DecAt C (upd H5 pr (.lst [])) p psh al { st with lar' := Pv.dN fr } (pr :: X) := (D5.more hpr).same s6
  have aX6 : Al (upd H5 pr (.lst [])) (pr :: X) := .cons (by rw [upd_same]; simp) (aX5.same s6)
  generalize upd H5 pr (.lst []) = H6 at *
  refine ⟨_, rfl, pc, _, rfl, c5.same s6, lcod, fun pq H7 s7 hpq F7 => ?_⟩
  obtain ⟨q0, q1, q2, q3, eq, f0, f1, f2, f3⟩ := F7
  have s57 := s6.trans s7
  have r7 := r6.same s7
  have D7 := D6.same s7
  have aX7 := aX6.same s7
  have nprq : pr ≠ pq := ne_of_none r6 hpq
  have l17 : ∀ q ∈ fr.subs, (Pv.subCodes q).length = 17 := fun q hq => Pv.subCodes_len (fok.sub q hq).pl
  have qa : ∀ i q, fr.subs[i]? = some q → ((Pv.codesOf fr).drop (8 + 17 * i)).take 17 = Pv.subCodes q := fun i q hi => by
    unfold Pv.codesOf
    rw [← fok.sp.1, ← List.drop_drop, List.drop_left]
    exact fl_at fr.subs i q l17 hi
  refine ⟨pq, rfl, ⟨_, SqL.of eq⟩, for_list (xs := [.ref q0, .ref q1, .ref q2, .ref q3]) (fun i σ H8 => ∃ v6, σ = [some (.ref p), some (.ref a), some (.ref pc), some (.ref pn), some (.ref pf), some (.ref pr), v6, none] ∧ KeepX H7 H8 [p, pr] ∧
    DecAt C H8 p psh al { st with lar' := Pv.dN fr, r := ((fr.subs.take i).foldl Pv.uStep ([], st.r, st.lag)).2.1, lag := ((fr.subs.take i).foldl Pv.uStep ([], st.r, st.lag)).2.2 } (pr :: X) ∧ LI H8 pr ((fr.subs.take i).foldl Pv.uStep ([], st.r, st.lag)).1)
    ⟨none, rfl, KeepX.refl _ _, D7, r7⟩ ?_ ?_ ?_⟩
  · rintro i σ H8 hi ⟨v6, rfl, k8, D8, r8⟩
    obtain ⟨d8, _, _, e8', _⟩ := D7
    exact SqL.of (k8 _ _ eq (by simp [nprq.symm]; exact ne_of eq e8' (by intro z; cases z)))
  · rintro i x σ H8 hx ⟨v6, rfl, k8, D8, r8⟩
    obtain ⟨r, rfl, hrow⟩ := four_at (f := fun j => ((Pv.codesOf fr).drop (8 + 17 * j)).take 17) f0 f1 f2 f3 i x hx
    have hi : i < 4 := (List.getElem?_eq_some_iff.mp hx).1
    have hi' : i < fr.subs.length := by rw [fok.n4]; exact hi
    have hq : fr.subs[i]? = some fr.subs[i] := List.getElem?_eq_getElem hi'
    have tk : fr.subs.take (i + 1) = fr.subs.take i ++ [fr.subs[i]] := by rw [List.take_add_one, hq]; rfl
    have sok := fok.sub _ (List.getElem_mem hi')
    generalize fr.subs[i] = q at *
    have hrow : LI H7 r (Pv.subCodes q) := qa i q hq ▸ hrow
    obtain ⟨u1, u2, u3, u4, u5, u6⟩ := Pv.uFold_ok wf.r wf.rL wf.lag0 wf.lag1 (fr.subs.take i) [] Pv.Ws_nil _ rfl
    rw [tk, List.foldl_append]
    generalize (fr.subs.take i).foldl Pv.uStep ([], st.r, st.lag) = U at *
    obtain ⟨d7, _, _, e7, _⟩ := id D7
    obtain ⟨d8, as8, ap8, e8, ⟨_, g8, _⟩, _⟩ := id D8
    have nrp : r ≠ p := li_ins hrow e7
    have nrr : r ≠ pr := by
      intro z
      rw [z] at hrow
      have h1 : H7 pr = _ := hrow
      rw [show H7 pr = _ from r7] at h1
      injection h1 with h1; injection h1 with h1
      have := congrArg List.length h1
      rw [List.length_map, List.length_map, Pv.subCodes_len sok.pl] at this
      simp at this
    have hrow8 : LI H8 r (Pv.subCodes q) := k8.li hrow (by simp [nrp, nrr])
    have aX8 : Al H8 (pr :: X) := by
      intro x hx
      cases hh : H7 x with
      | none => exact absurd hh (aX7 x hx)
      | some o =>
        by_cases z1 : x = p
        · rw [z1, e8]; simp
        · by_cases z2 : x = pr
          · rw [z2, show H8 pr = _ from r8]; simp
          · rw [k8 x o hh (by simp [z1, z2])]; simp
    refine ⟨_, rfl, .inl ⟨rfl, _, r8.sq⟩, ?_⟩
    refine ⟨_, rfl, p, d8, _, rfl, e8, (by kernel_rfl), ?_⟩
    refine ⟨_, rfl, p, psh, al, r, _, pr :: X, q, rfl, D8, hrow8, sok, u3, u4, u5, u6, aX8, fun pw H9 D9 k9 hpw npw e9 => ?_⟩
    have r9 : LI H9 pr U.1 := k9.li r8 (by simp; exact li_ins r8 e8)
    have ue : Pv.uStep U q = (U.1 ++ newR { st with lar' := Pv.dN fr, r := U.2.1, lag := U.2.2 } q, U.2.1.drop 40 ++ newR { st with lar' := Pv.dN fr, r := U.2.1, lag := U.2.2 } q, Pv.lagIn q U.2.2) := by
      unfold Pv.uStep
      rw [Pv.unquarter_eq]
      rfl
    have u2' : U.1.length ≤ 160 := by rw [u2, List.length_take, List.length_nil]; omega
    have ln : (newR { st with lar' := Pv.dN fr, r := U.2.1, lag := U.2.2 } q).length = 40 := Pv.built_len _ _ _ (Pv.fore_len _ _ _)
    show ∃ _, _
    refine ⟨pr, pw, _, _, rfl, rfl, r9, e9, ?_, some (.ref r), rfl, ?_, ?_, ?_⟩
    · rw [List.length_map, List.length_map, ln]
      exact Nat.le_of_lt (small_line (by omega))
    · exact (k8.trans (k9.sub (by simp))).trans (KeepX.upd (by simp))
    · show DecAt C _ p psh al { st with lar' := Pv.dN fr, r := (Pv.uStep U q).2.1, lag := (Pv.uStep U q).2.2 } (pr :: X)
      rw [ue]
      exact D9.write (List.mem_cons_self ..) r9
    · show LI _ pr (Pv.uStep U q).1
      rw [ue]
      exact li_new' List.map_append.symm
  · rintro σ H8 ⟨v6, rfl, k8, D8, r8⟩
    have t4 : fr.subs.take ([.ref q0, .ref q1, .ref q2, .ref q3] : List V).length = fr.subs := List.take_of_length_le (by rw [fok.n4]; exact Nat.le_refl 4)
    rw [t4] at D8 r8
    have r8 : LI H8 pr (Pv.dU st fr).1 := r8
    have D8 : DecAt C H8 p psh al { st with lar' := Pv.dN fr, r := (Pv.dU st fr).2.1, lag := (Pv.dU st fr).2.2 } (pr :: X) := D8
    obtain ⟨wfE, lP, lU, wU⟩ := Pv.decode_ok wf fok
    have k08 : KeepX H H8 [p] := fun b o hb nb => by
      refine k8 b o (s57 _ _ (k5 b o hb nb)) ?_
      simp only [List.mem_cons, List.not_mem_nil, or_false, not_or] at nb ⊢
      exact ⟨nb, fun z => by rw [z, nn5 hpr] at hb; cases hb⟩
    have F8 : Four H8 pf (Pv.facs st.lar' (Pv.dN fr)) := by
      obtain ⟨d7, _, _, e7, _⟩ := D7
      obtain ⟨c0, c1, c2, c3, ee, h0, h1, h2, h3⟩ := F5
      have nl : ∀ {q xs}, H5 q = some (HO.lst xs) → q ∉ [p, pr] := fun {q xs} z => by
        simp only [List.mem_cons, List.not_mem_nil, or_false, not_or]
        exact ⟨ne_of (s57 _ _ z) e7 (by intro y; cases y), ne_of_none z hpr⟩
      exact ⟨c0, c1, c2, c3, k8 _ _ (s57 _ _ ee) (nl ee), k8 _ _ (s57 _ _ h0) (nl h0), k8 _ _ (s57 _ _ h1) (nl h1), k8 _ _ (s57 _ _ h2) (nl h2), k8 _ _ (s57 _ _ h3) (nl h3)⟩
    have aX8 : Al H8 X := by
      obtain ⟨d8, _, _, e8, _⟩ := D8
      exact aX.keep k08 (by rw [e8]; simp)
    obtain ⟨d8, as8, ap8, e8, ⟨dS8, g18, g28⟩, l18, l28, n18, n28, n38⟩ := D8
    refine ⟨_, rfl, p, _, d8, _, _, rfl, e8, T.k_Decoder, T.a_Decoder_shaper, gd1 _ _ _ _ _, psh, dS8, _, rfl, g18, (by kernel_rfl), _, rfl, _, rfl, ?_⟩
    refine ⟨psh, al, pr, pf, _, _, _, rfl, ⟨dS8, g18, g28⟩, r8, F8, lU, wU, wf.v, wf.vL, Pv.facs_len _ _, fun pz H9 ⟨dS9, g19, g29⟩ k9 hpz ez => ?_⟩
    have g29 : LI H9 al (Pv.dY st fr).2 := g29
    have ez : LI H9 pz (Pv.dY st fr).1 := ez
    have lY : (Pv.dY st fr).1.length = 160 := by unfold Pv.dY; rw [Pv.synth_len, lU]
    have e9 := k9 _ _ e8 (by simp; exact (li_ins g28 e8).symm)
    have n8 : ∀ {q ns}, LI H8 q ns → ns.length ≠ 9 → q ∉ [al] := fun h hn => by
      simp; exact li_ne h g28 (by rw [wf.vL]; exact hn)
    have l19 := k9.li l18 (n8 l18 (by rw [lN]; decide))
    have l29 := k9.li l28 (n8 l28 (by rw [show (Pv.dU st fr).2.1.length = 120 from wfE.rL]; decide))
    have nsh : pz ≠ p := li_ins ez e9
    have aX9 : Al H9 X := aX8.keep k9 (by rw [show H9 al = _ from g29]; simp)
    have D9 : DecAt C H9 p psh al { st with lar' := Pv.dN fr, r := (Pv.dU st fr).2.1, lag := (Pv.dU st fr).2.2, v := (Pv.dY st fr).2 } X :=
      ⟨d8, as8, ap8, e9, ⟨dS9, g19, g29⟩, l19, l29, fun m => n18 (List.mem_cons_of_mem _ m), fun m => n28 (List.mem_cons_of_mem _ m), fun m => n38 (List.mem_cons_of_mem _ m)⟩
    refine ⟨pz, rfl, ⟨_, ez.sq⟩, lcS (fun m x => (Ra26.add (Ra26.add x (Ra26.mulR m 28180)) (Ra26.add x (Ra26.mulR m 28180)) / 8 * 8, Ra26.add x (Ra26.mulR m 28180)))
      (fun D m H => DecAt C H p psh al { st with lar' := Pv.dN fr, r := (Pv.dU st fr).2.1, lag := (Pv.dU st fr).2.2, v := (Pv.dY st fr).2, msr := m } (D :: X) ∧ Pv.W m ∧ ∃ l, H D = some (.lst l)) [p] st.msr ez (by simp [nsh]) (by omega) (one_some e9) ?_ ?_ ?_ ?_⟩
    · intro D hD
      exact ⟨(D9.more hD).same (same_new hD), wf.msr, [], upd_same⟩
    · intro D m H10 xs hD ⟨a1, a2, l, a3⟩
      exact ⟨a1.write (List.mem_cons_self ..) a3, a2, xs, upd_same⟩
    · intro D i m z H10 R hD hD10 k10 hz ⟨a1, a2, l, a3⟩ hR
      obtain ⟨d10, as10, ap10, e10, _⟩ := id a1
      refine ⟨_, rfl, p, d10, _, rfl, e10, (by kernel_rfl), _, rfl, p, psh, al, _, D :: X, z, rfl, a1, a2, fun H11 b1 k11 => hR H11 ⟨b1, Pv.add_W _ _, l, k11 _ _ a3 (by simp; exact ne_of a3 e10 (by intro z; cases z))⟩ k11⟩
    · intro D H10 hD k10 ⟨a1, _⟩ e10
      rw [post_run] at a1 e10
      refine k D H10 a1.less ?_ ?_ e10
      · exact ((k08.sub (by simp)).trans (k9.sub (by simp))).trans (k10.sub (by simp))
      · cases hh : H D with
        | none => rfl
        | some o =>
          by_cases z1 : D = p
          · rw [z1, e9] at hD; cases hD
          · by_cases z2 : D = al
            · rw [z2, show H9 al = _ from g29] at hD; cases hD
            · rw [k9 D o (k08 D o hh (by simp [z1])) (by simp [z2])] at hD; cases hD
end Px
namespace Px
open PySem PySem.Spec PyProof.Rows L2
local macro_rules | `(tactic| walk_at "rd") => `(tactic| repeat (first | refine ⟨_, rfl, ?_⟩ | refine ⟨_, _, rfl, rfl, ?_⟩ | refine ⟨_, _, rfl, ?_⟩ | refine ⟨rfl, ?_⟩ | refine ⟨trivial, ?_⟩ | refine ⟨(show (0 : Int) ≤ _ by decide), ?_⟩ | refine ⟨Or.inl ⟨by decide, by decide⟩, ?_⟩ | refine ⟨Or.inr ⟨by decide, by decide⟩, ?_⟩))
variable {P : Program} {w : World} {K : PySem.W.Frag} {mg : Str → Option Value} {base : Heap} {C : Ad}
/-! ### Telephone -/
def fTel (pc pd : Addr) : List (Str × V) := [("coder", .ref pc), ("decoder", .ref pd)]
theorem ft1 (a b : Addr) : (fTel a b).lookup ("coder" : Str) = some (.ref a) := by kernel_rfl
theorem ft2 (a b : Addr) : (fTel a b).lookup ("decoder" : Str) = some (.ref b) := by kernel_rfl
theorem tp1 (a b c : Addr) : putF "coder" (.ref c) (fTel a b) = fTel c b := by kernel_rfl
theorem tp2 (a b c : Addr) : putF "decoder" (.ref c) (fTel a b) = fTel a c := by kernel_rfl
theorem tn_one (a : Addr) : putF "coder" (.ref a) [] = [(("coder" : Str), V.ref a)] := by kernel_rfl
theorem tn_two (a b : Addr) : putF "decoder" (.ref b) [(("coder" : Str), V.ref a)] = fTel a b := by kernel_rfl
theorem CoderAt.keepT {H H' : Hp} {p pfr pfl pt : Addr} {t : Ra26.S} {X : List Addr} {C0 d0 : Addr} {fs : List (Str × V)} (h : CoderAt C H p pfr pfl t X) (k : KeepX H H' [pt]) (hp : H pt = some (.ins C0 d0 fs)) (n1 : pt ≠ p) (n2 : pt ≠ pfr) (n3 : pt ≠ pfl) : CoderAt C H' p pfr pfl t X := by
  obtain ⟨dx, as, ap, e, ⟨d1, f1⟩, ⟨d2, au, g1, g2, g3⟩, l1, l2, m1, m2⟩ := h
  have nl : ∀ {q ns}, LI H q ns → q ∉ [pt] := fun h => by simp; exact li_ins h hp
  exact ⟨dx, as, ap, k _ _ e (by simp [n1.symm]), ⟨d1, k _ _ f1 (by simp [n2.symm])⟩, ⟨d2, au, k _ _ g1 (by simp [n3.symm]), k.li g2 (nl g2), g3⟩, k.li l1 (nl l1), k.li l2 (nl l2), m1, m2⟩
theorem DecAt.keepT {H H' : Hp} {p psh al pt : Addr} {t : Ra26.S} {X : List Addr} {C0 d0 : Addr} {fs : List (Str × V)} (h : DecAt C H p psh al t X) (k : KeepX H H' [pt]) (hp : H pt = some (.ins C0 d0 fs)) (n1 : pt ≠ p) (n2 : pt ≠ psh) : DecAt C H' p psh al t X := by
  obtain ⟨dx, as, ap, e, ⟨d2, g1, g2⟩, l1, l2, m1, m2, m3⟩ := h
  have nl : ∀ {q ns}, LI H q ns → q ∉ [pt] := fun h => by simp; exact li_ins h hp
  exact ⟨dx, as, ap, k _ _ e (by simp [n1.symm]), ⟨d2, k _ _ g1 (by simp [n2.symm]), k.li g2 (nl g2)⟩, k.li l1 (nl l1), k.li l2 (nl l2), m1, m2, m3⟩
def TelAt (C : Ad) (H : Hp) (pt : Addr) (s : Ra26.S) (X : List Addr) : Prop := ∃ dx pc pd pfr pfl psh al, H pt = some (.ins C.cTelephone dx (fTel pc pd)) ∧ CoderAt C H pc pfr pfl s X ∧ DecAt C H pd psh al s X ∧ pfl ≠ psh
theorem TelAt.same {H H' : Hp} {pt : Addr} {t : Ra26.S} {X : List Addr} (h : TelAt C H pt t X) (s : Same H H') : TelAt C H' pt t X :=
  let ⟨dx, pc, pd, pfr, pfl, psh, al, e, a, b, n⟩ := h; ⟨dx, pc, pd, pfr, pfl, psh, al, s _ _ e, a.same s, b.same s, n⟩
theorem TelAt.more {H : Hp} {pt p : Addr} {t : Ra26.S} {X : List Addr} (h : TelAt C H pt t X) (hc : H p = none) : TelAt C H pt t (p :: X) :=
  let ⟨dx, pc, pd, pfr, pfl, psh, al, e, a, b, n⟩ := h; ⟨dx, pc, pd, pfr, pfl, psh, al, e, a.more hc, b.more hc, n⟩
theorem TelAt.write {H : Hp} {pt p : Addr} {t : Ra26.S} {X : List Addr} {l xs : List V} (h : TelAt C H pt t X) (hc : p ∈ X) (hl : H p = some (.lst l)) : TelAt C (upd H p (.lst xs)) pt t X :=
  let ⟨dx, pc, pd, pfr, pfl, psh, al, e, a, b, n⟩ := h; ⟨dx, pc, pd, pfr, pfl, psh, al, by rw [upd_ne (ne_of hl e (by intro z; cases z)).symm]; exact e, a.write hc hl, b.write hc hl, n⟩
def spInT (C : Ad) : Sp := fun vs H Q _ => ∃ p dx X, vs = [.ref p] ∧ H p = some (.ins C.cTelephone dx []) ∧ Al H X ∧ ∀ H', TelAt C H' p Ra26.fresh X → KeepX H H' [p] → Q .non H'
def spBe (C : Ad) : Sp := fun vs H Q _ => ∃ p dx pc pd X, vs = [.ref p] ∧ H p = some (.ins C.cTelephone dx (fTel pc pd)) ∧ Al H X ∧ ∀ q H', TelAt C H' p Ra26.fresh X → KeepX H H' [p] → H q = none → LI H' q [0] → Q (.ref q) H'
abbrev s_Telephone___init__ : Stmt := (inClass (top 106) 0)
theorem sc_Telephone___init__ : FnScope ["self"] ["self"] (defScope s_Telephone___init__) := ⟨rfl, rfl, rfl, by decide +kernel, rfl, by decide +kernel, by decide +kernel⟩
theorem i_Telephone (T : Txt K mg C) : Di P w K mg base "Telephone" C.cTelephone 5 (spInT C) := by
  refine .mk' T.n_Telephone T.m_Telephone_init sc_Telephone___init__ (fun _ _ _ _ _ _ us hl => match us, hl with | [_], _ => rfl) (fun vs H Q E h => by obtain ⟨_, _, _, rfl, _⟩ := h; rfl) fun f cdv A outer s H vs Q E hr h => ?_
  obtain ⟨p, dx, X, rfl, hp, al, k⟩ := h
  refine ⟨_, (pss_cons (ps_fld (pv 0) (pe_mk0 (i_Coder T) (hr.mono (by decide))) rfl)
      (pss_one (ps_fld (pv 0) (pe_mk0 (i_Decoder T) (hr.mono (by decide))) rfl))), ?_⟩
  intro x1 d1 nx1 nd1 ne1
  refine ⟨x1, d1, X, rfl, upd_same, made_al nx1 nd1 al, fun pfr pfl H1 nfr nfl hC1 k1 => ⟨rfl, ?_⟩⟩
  have s1 : Same H H1 := made_same nx1 nd1 k1
  have m1 : ∀ {b o}, H b = some o → (upd (upd H d1 (.own x1)) x1 (.ins C.cCoder d1 [])) b = some o := fun {b o} e => by rw [upd_ne (ne_of_none e nx1), upd_ne (ne_of_none e nd1)]; exact e
  have npx1 : p ≠ x1 := ne_of_none hp nx1
  have npr : p ≠ pfr := ne_of_none (m1 hp) nfr
  have npl : p ≠ pfl := ne_of_none (m1 hp) nfl
  refine ⟨_, rfl, p, _, dx, _, rfl, s1 _ _ hp, T.k_Telephone, T.a_Telephone_coder, (by show 0 < 1000; decide), ?_⟩
  rw [tn_one]
  have hC2 : CoderAt C (upd H1 p (.ins C.cTelephone dx ([(("coder" : Str), V.ref x1)]))) x1 pfr pfl Ra26.fresh X := hC1.keepT (pt := p) (KeepX.upd (by simp)) (s1 _ _ hp) npx1 npr npl
  have hp2 : (upd H1 p (.ins C.cTelephone dx ([(("coder" : Str), V.ref x1)]))) p = some (.ins C.cTelephone dx ([(("coder" : Str), V.ref x1)])) := upd_same
  have k2 : KeepX H (upd H1 p (.ins C.cTelephone dx ([(("coder" : Str), V.ref x1)]))) [p] := (KeepX.of s1).trans (KeepX.upd (by simp))
  generalize upd H1 p (.ins C.cTelephone dx ([(("coder" : Str), V.ref x1)])) = H2 at *
  have al2 : Al H2 X := al.keep k2 (by rw [hp2]; simp)
  intro x3 d3 nx3 nd3 ne3
  refine ⟨x3, d3, X, rfl, upd_same, made_al nx3 nd3 al2, fun psh aal H3 nsh nal hD3 k3 => ⟨rfl, ?_⟩⟩
  have s3 : Same H2 H3 := made_same nx3 nd3 k3
  have m3 : ∀ {b o}, H2 b = some o → (upd (upd H2 d3 (.own x3)) x3 (.ins C.cDecoder d3 [])) b = some o := fun {b o} e => by rw [upd_ne (ne_of_none e nx3), upd_ne (ne_of_none e nd3)]; exact e
  have npx3 : p ≠ x3 := ne_of_none hp2 nx3
  have nps : p ≠ psh := ne_of_none (m3 hp2) nsh
  have nls : pfl ≠ psh := by
    obtain ⟨_, _, _, _, _, ⟨_, _, g1, _⟩, _⟩ := hC2
    exact ne_of_none (m3 g1) nsh
  refine ⟨_, rfl, p, _, dx, _, rfl, s3 _ _ hp2, T.k_Telephone, T.a_Telephone_decoder, (by show 1 < 1000; decide), ?_⟩
  rw [tn_two]
  have hC4 : CoderAt C (upd H3 p (.ins C.cTelephone dx (fTel x1 x3))) x1 pfr pfl Ra26.fresh X := (hC2.same s3).keepT (pt := p) (KeepX.upd (by simp)) (s3 _ _ hp2) npx1 npr npl
  have hD4 : DecAt C (upd H3 p (.ins C.cTelephone dx (fTel x1 x3))) x3 psh aal Ra26.fresh X := hD3.keepT (pt := p) (KeepX.upd (by simp)) (s3 _ _ hp2) npx3 nps
  have hT4 : TelAt C (upd H3 p (.ins C.cTelephone dx (fTel x1 x3))) p Ra26.fresh X := ⟨dx, x1, x3, pfr, pfl, psh, aal, upd_same, hC4, hD4, nls⟩
  have k4 : KeepX H (upd H3 p (.ins C.cTelephone dx (fTel x1 x3))) [p] := (k2.trans (KeepX.of s3)).trans (KeepX.upd (by simp))
  exact k _ hT4 k4
abbrev s_Telephone_begin : Stmt := (inClass (top 106) 2)
theorem sc_Telephone_begin : FnScope ["self"] ["self"] (defScope s_Telephone_begin) := ⟨rfl, rfl, rfl, by decide +kernel, rfl, by decide +kernel, by decide +kernel⟩
theorem m_begin (T : Txt K mg C) : Dm P w K mg base C.cTelephone "begin" ["self"] 5 (spBe C) := by
  refine .mk' T.k_Telephone T.m_Telephone_begin sc_Telephone_begin (fun _ _ _ _ _ _ us hl => match us, hl with | [_], _ => rfl) (fun vs H Q E h => by obtain ⟨_, _, _, _, _, rfl, _⟩ := h; rfl) fun f cdv A outer s H vs Q E hr h => ?_
  obtain ⟨p, dx, pc0, pd0, X, rfl, hp, al, k⟩ := h
  refine ⟨_, (pss_cons (ps_fld (pv 0) (pe_mk0 (i_Coder T) (hr.mono (by decide))) rfl)
      (pss_cons (ps_fld (pv 0) (pe_mk0 (i_Decoder T) (hr.mono (by decide))) rfl)
      (pss_one (ps_ret (pe_lst (pa_cons (pe_cst T.c_DONE) pa_nil)))))), ?_⟩
  intro x1 d1 nx1 nd1 ne1
  refine ⟨x1, d1, X, rfl, upd_same, made_al nx1 nd1 al, fun pfr pfl H1 nfr nfl hC1 k1 => ⟨rfl, ?_⟩⟩
  have s1 : Same H H1 := made_same nx1 nd1 k1
  have m1 : ∀ {b o}, H b = some o → (upd (upd H d1 (.own x1)) x1 (.ins C.cCoder d1 [])) b = some o := fun {b o} e => by rw [upd_ne (ne_of_none e nx1), upd_ne (ne_of_none e nd1)]; exact e
  have npx1 : p ≠ x1 := ne_of_none hp nx1
  have npr : p ≠ pfr := ne_of_none (m1 hp) nfr
  have npl : p ≠ pfl := ne_of_none (m1 hp) nfl
  refine ⟨_, rfl, p, _, dx, _, rfl, s1 _ _ hp, T.k_Telephone, T.a_Telephone_coder, (by show 2 < 1000; decide), ?_⟩
  rw [tp1]
  have hC2 : CoderAt C (upd H1 p (.ins C.cTelephone dx (fTel x1 pd0))) x1 pfr pfl Ra26.fresh X := hC1.keepT (pt := p) (KeepX.upd (by simp)) (s1 _ _ hp) npx1 npr npl
  have hp2 : (upd H1 p (.ins C.cTelephone dx (fTel x1 pd0))) p = some (.ins C.cTelephone dx (fTel x1 pd0)) := upd_same
  have k2 : KeepX H (upd H1 p (.ins C.cTelephone dx (fTel x1 pd0))) [p] := (KeepX.of s1).trans (KeepX.upd (by simp))
  generalize upd H1 p (.ins C.cTelephone dx (fTel x1 pd0)) = H2 at *
  have al2 : Al H2 X := al.keep k2 (by rw [hp2]; simp)
  intro x3 d3 nx3 nd3 ne3
  refine ⟨x3, d3, X, rfl, upd_same, made_al nx3 nd3 al2, fun psh aal H3 nsh nal hD3 k3 => ⟨rfl, ?_⟩⟩
  have s3 : Same H2 H3 := made_same nx3 nd3 k3
  have m3 : ∀ {b o}, H2 b = some o → (upd (upd H2 d3 (.own x3)) x3 (.ins C.cDecoder d3 [])) b = some o := fun {b o} e => by rw [upd_ne (ne_of_none e nx3), upd_ne (ne_of_none e nd3)]; exact e
  have npx3 : p ≠ x3 := ne_of_none hp2 nx3
  have nps : p ≠ psh := ne_of_none (m3 hp2) nsh
  have nls : pfl ≠ psh := by
    obtain ⟨_, _, _, _, _, ⟨_, _, g1, _⟩, _⟩ := hC2
    exact ne_of_none (m3 g1) nsh
  refine ⟨_, rfl, p, _, dx, _, rfl, s3 _ _ hp2, T.k_Telephone, T.a_Telephone_decoder, (by show 2 < 1000; decide), ?_⟩
  rw [tp2]
  have hC4 : CoderAt C (upd H3 p (.ins C.cTelephone dx (fTel x1 x3))) x1 pfr pfl Ra26.fresh X := (hC2.same s3).keepT (pt := p) (KeepX.upd (by simp)) (s3 _ _ hp2) npx1 npr npl
  have hD4 : DecAt C (upd H3 p (.ins C.cTelephone dx (fTel x1 x3))) x3 psh aal Ra26.fresh X := hD3.keepT (pt := p) (KeepX.upd (by simp)) (s3 _ _ hp2) npx3 nps
  have hT4 : TelAt C (upd H3 p (.ins C.cTelephone dx (fTel x1 x3))) p Ra26.fresh X := ⟨dx, x1, x3, pfr, pfl, psh, aal, upd_same, hC4, hD4, nls⟩
  have k4 : KeepX H (upd H3 p (.ins C.cTelephone dx (fTel x1 x3))) [p] := (k2.trans (KeepX.of s3)).trans (KeepX.upd (by simp))
  generalize upd H3 p (.ins C.cTelephone dx (fTel x1 x3)) = H4 at *
  refine ⟨by show 1 ≤ sizeLine; decide, fun q hq => ?_⟩
  refine k q _ (hT4.same (same_new hq)) (k4.trans (KeepX.of (same_new hq))) ?_ upd_same
  cases hh : H q with
  | none => rfl
  | some o =>
    by_cases z : q = p
    · obtain ⟨_, _, _, _, _, _, _, e, _⟩ := hT4
      rw [z, e] at hq; cases hq
    · rw [k4 q o hh (by simp [z])] at hq; cases hq
end Px
namespace Px
open PySem PySem.Spec PyProof.Rows L2
local macro_rules | `(tactic| walk_at "rd") => `(tactic| repeat (first | refine ⟨_, rfl, ?_⟩ | refine ⟨_, _, rfl, rfl, ?_⟩ | refine ⟨_, _, rfl, ?_⟩ | refine ⟨rfl, ?_⟩ | refine ⟨trivial, ?_⟩ | refine ⟨(show (0 : Int) ≤ _ by decide), ?_⟩ | refine ⟨Or.inl ⟨by decide, by decide⟩, ?_⟩ | refine ⟨Or.inr ⟨by decide, by decide⟩, ?_⟩))
variable {P : Program} {w : World} {K : PySem.W.Frag} {mg : Str → Option Value} {base : Heap} {C : Ad}
/-! what the telephone leaves as it is -/
def Sc (K : PySem.W.Frag) (H : Hp) (a : Addr) (xs : List V) : Prop := (∃ o, H a = some (.frz o (.lst xs))) ∨ ∀ H', SqL K H' a xs
theorem Sc.sq {H : Hp} {a : Addr} {xs : List V} (h : Sc K H a xs) : SqL K H a xs := by
  rcases h with ⟨o, h⟩ | h
  · exact .inl (.inr ⟨o, h⟩)
  · exact h H
def Wd (K : PySem.W.Frag) (H : Hp) (pa : Addr) (acc : List Int) (ca : Addr) (xs : List V) : Prop := LI H pa acc ∧ Sc K H ca xs
theorem Sc.same {H H' : Hp} {a : Addr} {xs : List V} (h : Sc K H a xs) (s : Same H H') : Sc K H' a xs := by
  rcases h with ⟨o, h⟩ | h
  · exact .inl ⟨o, s _ _ h⟩
  · exact .inr h
theorem Wd.same {H H' : Hp} {pa ca : Addr} {acc : List Int} {xs : List V} (h : Wd K H pa acc ca xs) (s : Same H H') : Wd K H' pa acc ca xs := ⟨h.1.same s, h.2.same s⟩
theorem Wd.keep {H H' : Hp} {pa ca : Addr} {acc : List Int} {xs : List V} {S : List Addr} (h : Wd K H pa acc ca xs) (k : KeepX H H' S)
    (hS : ∀ b ∈ S, (∃ C0 d fs, H b = some (.ins C0 d fs)) ∨ (b ≠ pa ∧ ∃ l, H b = some (.lst l))) : Wd K H' pa acc ca xs := by
  obtain ⟨h1, h2⟩ := h
  refine ⟨k.li h1 fun m => ?_, ?_⟩
  · rcases hS pa m with ⟨_, _, _, e⟩ | ⟨n, _⟩
    · exact li_ins h1 e rfl
    · exact n rfl
  · rcases h2 with ⟨o, h2⟩ | h2
    · refine .inl ⟨o, k _ _ h2 fun m => ?_⟩
      rcases hS ca m with ⟨_, _, _, e⟩ | ⟨_, _, e⟩
      · rw [h2] at e; cases e
      · rw [h2] at e; cases e
    · exact .inr h2
theorem CoderAt.keepD {H H' : Hp} {p pfr pfl pd al : Addr} {t : Ra26.S} {X : List Addr} {C0 d0 : Addr} {fs : List (Str × V)} {v : List Int} (h : CoderAt C H p pfr pfl t X) (k : KeepX H H' [pd, al]) (hd : H pd = some (.ins C0 d0 fs)) (h5 : fs.length = 5)
    (hv : LI H al v) (lv : v.length = 9) (wf : Pv.Wf t) : CoderAt C H' p pfr pfl t X := by
  obtain ⟨dx, as, ap, e, ⟨d1, f1⟩, ⟨d2, au, g1, g2, g3⟩, l1, l2, m1, m2⟩ := h
  have ni : ∀ {q C1 d fs'}, H q = some (.ins C1 d fs') → fs'.length ≠ 5 → q ∉ [pd, al] := fun {q C1 d fs'} h n => by
    simp only [List.mem_cons, List.not_mem_nil, or_false, not_or]
    exact ⟨ins_ne h hd (by rw [h5]; exact n), (li_ins hv h).symm⟩
  have nl : ∀ {q ns}, LI H q ns → ns.length ≠ 9 → q ∉ [pd, al] := fun h n => by
    simp only [List.mem_cons, List.not_mem_nil, or_false, not_or]
    exact ⟨li_ins h hd, li_ne h hv (by rw [lv]; exact n)⟩
  exact ⟨dx, as, ap, k _ _ e (ni e (by show 4 ≠ 5; decide)), ⟨d1, k _ _ f1 (ni f1 (by show 3 ≠ 5; decide))⟩, ⟨d2, au, k _ _ g1 (ni g1 (by show 1 ≠ 5; decide)), k.li g2 (nl g2 (by rw [wf.uL]; decide)), g3⟩,
    k.li l1 (nl l1 (by rw [wf.larL]; decide)), k.li l2 (nl l2 (by rw [wf.dL]; decide)), m1, m2⟩
theorem DecAt.keepC {H H' : Hp} {p pfr pfl pd psh al : Addr} {t : Ra26.S} {X : List Addr} (h : DecAt C H pd psh al t X) (k : KeepX H H' [p, pfr, pfl]) (hc : CoderAt C H p pfr pfl t X) (n : pfl ≠ psh) : DecAt C H' pd psh al t X := by
  obtain ⟨dx, as, ap, e, ⟨d1, f1⟩, ⟨d2, au, g1, g2, g3⟩, l1, l2, m1, m2⟩ := hc
  obtain ⟨dx', as', ap', e', ⟨d2', g1', g2'⟩, l1', l2', m1', m2', m3'⟩ := h
  have nl : ∀ {q ns}, LI H q ns → q ∉ [p, pfr, pfl] := fun h => by
    simp only [List.mem_cons, List.not_mem_nil, or_false, not_or]
    exact ⟨li_ins h e, li_ins h f1, li_ins h g1⟩
  refine ⟨dx', as', ap', k _ _ e' ?_, ⟨d2', k _ _ g1' ?_, k.li g2' (nl g2')⟩, k.li l1' (nl l1'), k.li l2' (nl l2'), m1', m2', m3'⟩
  · simp only [List.mem_cons, List.not_mem_nil, or_false, not_or]
    exact ⟨ins_ne e' e (by show 5 ≠ 4; decide), ins_ne e' f1 (by show 5 ≠ 3; decide), ins_ne e' g1 (by show 5 ≠ 1; decide)⟩
  · simp only [List.mem_cons, List.not_mem_nil, or_false, not_or]
    exact ⟨ins_ne g1' e (by show 1 ≠ 4; decide), ins_ne g1' f1 (by show 1 ≠ 3; decide), n.symm⟩
theorem fresh_back {H H' : Hp} {q : Addr} {S : List Addr} (k : KeepX H H' S) (hS : ∀ b ∈ S, H' b ≠ none) (hq : H' q = none) : H q = none := by
  cases hh : H q with
  | none => rfl
  | some o =>
    by_cases z : q ∈ S
    · exact absurd hq (hS q z)
    · rw [k q o hh z] at hq; cases hq
theorem al1 {H : Hp} {a : Addr} {ns : List Int} (h : LI H a ns) : Al H [a] := .cons (by rw [show H a = _ from h]; simp) (fun _ m => nomatch m)
def spAF (K : PySem.W.Frag) (C : Ad) : Sp := fun vs H Q _ => ∃ pt s pa acc ca xs a bs, vs = [.ref pt, .ref a] ∧ TelAt C H pt s [pa] ∧ Pv.Wf s ∧ LI H a (Pv.intsOf bs) ∧ bs.length = 33 ∧ (∀ x ∈ bs, x < 256) ∧ Wd K H pa acc ca xs ∧
  ∀ q H', TelAt C H' pt (Ra26.spec s (.decode bs)).2 [pa] → Wd K H' pa acc ca xs → H q = none → LI H' q (Pv.outC s (.decode bs)) → Q (.ref q) H'
theorem spec_none {s : Ra26.S} {bs : List Nat} (h : Ra26.frameOf bs = none) : (Ra26.spec s (.decode bs)).2 = s ∧ Pv.outC s (.decode bs) = [-1] := by
  unfold Pv.outC Ra26.spec
  dsimp only
  rw [h]
  exact ⟨rfl, rfl⟩
theorem spec_some {s : Ra26.S} {bs : List Nat} {f : Ra26.Frame} (h : Ra26.frameOf bs = some f) : (Ra26.spec s (.decode bs)).2 = Pv.dS s f ∧ Pv.outC s (.decode bs) = [0] ++ (Ra26.post (Pv.dY s f).1 s.msr).1 := by
  unfold Pv.outC Ra26.spec
  dsimp only
  rw [h]
  dsimp only
  rw [Pv.decode_eq]
  exact ⟨rfl, rfl⟩
theorem marked {bs : List Nat} (h33 : bs.length = 33) (hb : ∀ x ∈ bs, x < 256) : (Ra26.at_ (Pv.intsOf bs) 0 / 16 = 13 → Ra26.frameOf bs = some (Pv.frameAt (Ra26.bits bs))) ∧ (¬ Ra26.at_ (Pv.intsOf bs) 0 / 16 = 13 → Ra26.frameOf bs = none) := by
  match bs, h33 with
  | x :: l, h =>
    have hl : l.length = 32 := by simpa using h
    have hx := hb x (List.mem_cons_self ..)
    have e := Pv.mark_eq hl hx
    have ea : Ra26.at_ (Pv.intsOf (x :: l)) 0 = (x : Int) := rfl
    rw [ea]
    exact ⟨fun q => Pv.frameOf_some (by rw [e]; have q : (x : Int) / 16 = 13 := q; omega), fun q => Pv.frameOf_none (by rw [e]; have q : ¬ (x : Int) / 16 = 13 := q; omega)⟩
abbrev s_Telephone_answer_to_frame : Stmt := (inClass (top 106) 3)
theorem sc_Telephone_answer_to_frame : FnScope ["self", "data"] ["self", "data"] (defScope s_Telephone_answer_to_frame) := ⟨rfl, rfl, rfl, by decide +kernel, rfl, by decide +kernel, by decide +kernel⟩
theorem m_answer_to_frame (T : Txt K mg C) : Dm P w K mg base C.cTelephone "answer_to_frame" ["self", "data"] 7 (spAF K C) := by
  refine .mk' T.k_Telephone T.m_Telephone_answer_to_frame sc_Telephone_answer_to_frame (fun _ _ _ _ _ _ us hl => match us, hl with | [_, _], _ => rfl) (fun vs H Q E h => by obtain ⟨_, _, _, _, _, _, _, _, rfl, _⟩ := h; rfl) fun f cdv A outer s H vs Q E hr h => ?_
  obtain ⟨pt, st, pa, acc, ca, xs, a, bs, rfl, hT, wf, ha, h33, hb, hW, k⟩ := h
  refine ⟨_, (pss_cons (ps_if (pt_not (pt_val (pe_fn (d_is_marked T) (hr.mono (by decide)) (pa_cons (pv 1) pa_nil)))) (pss_one (ps_ret (pe_lst (pa_cons (pe_cst T.c_NOT_A_FRAME) pa_nil)))) pss_nil)
      (pss_one (ps_ret (pe_op op_cat (pe_lst (pa_cons (pe_cst T.c_DONE) pa_nil)) (pe_mt (m_samples_of T) (hr.mono (by decide)) (pe_fldK K rfl (pv 0) rfl) (pa_cons (pv 1) pa_nil)))))), ?_⟩
  obtain ⟨mk1, mk2⟩ := marked h33 hb
  refine ⟨_, rfl, a, _, rfl, ha, by show 0 < (Pv.intsOf bs).length; unfold Pv.intsOf; rw [List.length_map, h33]; decide, _, rfl, ?_⟩
  refine ite2 (fun h => ?_) (fun h => ?_)
  · have h : ¬ Ra26.at_ (Pv.intsOf bs) 0 / 16 = 13 := fun z => by
      have h : (!decide (Ra26.at_ (Pv.intsOf bs) 0 / 16 = 13)) = true := h
      rw [decide_eq_true z] at h; cases h
    obtain ⟨e1, e2⟩ := spec_none (s := st) (mk2 h)
    rw [e1, e2] at k
    exact ⟨by show 1 ≤ sizeLine; decide, fun q hq => k q _ (hT.same (same_new hq)) (hW.same (same_new hq)) hq upd_same⟩
  · have h : Ra26.at_ (Pv.intsOf bs) 0 / 16 = 13 := by
      by_cases z : Ra26.at_ (Pv.intsOf bs) 0 / 16 = 13
      · exact z
      · exact absurd (show (!decide (Ra26.at_ (Pv.intsOf bs) 0 / 16 = 13)) = true by rw [decide_eq_false z]; rfl) h
    obtain ⟨e1, e2⟩ := spec_some (s := st) (mk1 h)
    rw [e1, e2] at k
    have fok : Pv.FrameOk (Pv.frameAt (Ra26.bits bs)) := Pv.frameAt_ok (by rw [Pv.bits_length, h33])
    obtain ⟨wfD, lP, _, _⟩ := Pv.decode_ok wf fok
    refine ⟨by show 1 ≤ sizeLine; decide, fun q1 hq1 => ?_⟩
    have s1 : Same H (upd H q1 (.lst [.int 0])) := same_new hq1
    have e1 : LI (upd H q1 (.lst [.int 0])) q1 [0] := upd_same
    have hT1 : TelAt C (upd H q1 (.lst [.int 0])) pt st [pa] := hT.same s1
    have hW1 : Wd K (upd H q1 (.lst [.int 0])) pa acc ca xs := hW.same s1
    have ha1 : LI (upd H q1 (.lst [.int 0])) a (Pv.intsOf bs) := ha.same s1
    have nal : ∀ {b : Addr} {o}, H b = some o → b ≠ q1 := fun e => ne_of_none e hq1
    have hal : ∀ al v, LI (upd H q1 (.lst [.int 0])) al v → v.length = 9 → al ≠ q1 := fun al v h n => li_ne h e1 (by rw [n]; decide)
    generalize upd H q1 (.lst [.int 0]) = H1 at *
    obtain ⟨dx, pc, pd, pfr, pfl, psh, al, e, hC, hD, nls⟩ := hT1
    obtain ⟨dd, as, ap, ed, ⟨dS, g1, g2⟩, _, _, _, _, n3⟩ := id hD
    refine ⟨_, rfl, pt, _, dx, _, _, rfl, e, T.k_Telephone, T.a_Telephone_decoder, ft2 _ _, pd, dd, _, rfl, ed, (by kernel_rfl), _, rfl, ?_⟩
    refine ⟨pd, psh, al, a, st, [pa], bs, rfl, hD, wf, ha1, h33, hb, al1 hW1.1, fun q H2 hD2 k2 hq eq => ?_⟩
    have nqp : q1 ≠ pd := li_ins e1 ed
    have nqa : q1 ≠ al := (hal al _ g2 wf.vL).symm
    have e1' : LI H2 q1 [0] := k2.li e1 (by simp [nqp, nqa])
    have ntd : pt ≠ pd := ins_ne e ed (by show 2 ≠ 5; decide)
    have nta : pt ≠ al := (li_ins g2 e).symm
    have hT2 : TelAt C H2 pt (Pv.dS st (Pv.frameAt (Ra26.bits bs))) [pa] := ⟨dx, pc, pd, pfr, pfl, psh, al, k2 _ _ e (by simp [ntd, nta]), hC.keepD k2 ed rfl g2 wf.vL wf, hD2, nls⟩
    have hW2 : Wd K H2 pa acc ca xs := hW1.keep k2 fun b hb => by
      simp only [List.mem_cons, List.not_mem_nil, or_false] at hb n3
      rcases hb with rfl | rfl
      · exact .inl ⟨_, _, _, ed⟩
      · exact .inr ⟨n3, _, g2⟩
    refine cat_at e1' eq (by rw [lP]; decide) fun q2 H3 s3 hq2 e3 => ?_
    refine k q2 H3 (hT2.same s3) (hW2.same s3) (s1.free (fresh_back k2 (fun b hb => ?_) hq2)) e3
    obtain ⟨_, _, _, ed2, ⟨_, _, g22⟩, _⟩ := hD2
    simp only [List.mem_cons, List.not_mem_nil, or_false] at hb
    rcases hb with rfl | rfl
    · rw [ed2]; simp
    · rw [show H2 _ = _ from g22]; simp
def CallIs (H : Hp) (c : Int) (r : Addr) : Ra26.Call → Prop
  | .open_ => c = 0
  | .encode l => c = 1 ∧ LI H r l ∧ l.length = 160 ∧ Pv.Ws l
  | .decode b => c = 2 ∧ LI H r (Pv.intsOf b) ∧ b.length = 33 ∧ ∀ x ∈ b, x < 256
def spAn (K : PySem.W.Frag) (C : Ad) : Sp := fun vs H Q _ => ∃ pt s pa acc ca xs c r cl, vs = [.ref pt, .int c, .ref r] ∧ TelAt C H pt s [pa] ∧ Pv.Wf s ∧ Wd K H pa acc ca xs ∧ CallIs H c r cl ∧
  ∀ q H', TelAt C H' pt (Ra26.spec s cl).2 [pa] → Wd K H' pa acc ca xs → H q = none → LI H' q (Pv.outC s cl) → Q (.ref q) H'
theorem spec_enc {s : Ra26.S} {l : List Int} (wf : Pv.Wf s) (hl : l.length = 160) (hw : Pv.Ws l) : (Ra26.spec s (.encode l)).2 = Pv.eS s l ∧ Pv.outC s (.encode l) = [0] ++ bytesI s l := by
  unfold Pv.outC Ra26.spec bytesI
  dsimp only
  rw [Pv.encode_eq wf hl hw]
  refine ⟨rfl, ?_⟩
  show _ :: (_ ++ []) = _
  rw [List.append_nil]
  rfl
abbrev s_Telephone_answer : Stmt := (inClass (top 106) 1)
theorem sc_Telephone_answer : FnScope ["self", "call", "row"] ["self", "call", "row"] (defScope s_Telephone_answer) := ⟨rfl, rfl, rfl, by decide +kernel, rfl, by decide +kernel, by decide +kernel⟩
theorem m_answer (T : Txt K mg C) : Dm P w K mg base C.cTelephone "answer" ["self", "call", "row"] 8 (spAn K C) := by
  refine .mk' T.k_Telephone T.m_Telephone_answer sc_Telephone_answer (fun _ _ _ _ _ _ us hl => match us, hl with | [_, _, _], _ => rfl) (fun vs H Q E h => by obtain ⟨_, _, _, _, _, _, _, _, _, rfl, _⟩ := h; rfl) fun f cdv A outer s H vs Q E hr h => ?_
  obtain ⟨pt, st, pa, acc, ca, xs, c, r, cl, rfl, hT, wf, hW, hc, k⟩ := h
  refine ⟨_, (pss_cons (ps_if (pt_cmpR op_eq (pv 1) (pe_cst T.c_TO_BYTES) (nomark _)) (pss_one (ps_ret (pe_op op_cat (pe_lst (pa_cons (pe_cst T.c_DONE) pa_nil)) (pe_mt (m_frame_of T) (hr.mono (by decide)) (pe_fldK K rfl (pv 0) rfl) (pa_cons (pv 2) pa_nil))))) pss_nil)
      (pss_cons (ps_if (pt_cmpR op_eq (pv 1) (pe_cst T.c_TO_SAMPLES) (nomark _)) (pss_one (ps_ret (pe_mt (m_answer_to_frame T) (hr.mono (by decide)) (pv 0) (pa_cons (pv 2) pa_nil)))) pss_nil)
      (pss_one (ps_ret (pe_mt0 (m_begin T) (hr.mono (by decide)) (pv 0)))))), ?_⟩
  refine ⟨_, rfl, rfl, _, rfl, ?_⟩
  have ie : ∀ {i j : Int}, decide (V.int i = V.int j) = true → i = j := fun h => by
    have h := of_decide_eq_true h
    injection h
  have ne' : ∀ {i j : Int}, i = j → decide (V.int i = V.int j) = true := fun h => decide_eq_true (by rw [h])
  refine ite2 (fun h => ?_) (fun h => ?_)
  · have h : c = 1 := ie h
    subst h
    cases cl with
    | open_ => exact absurd (show (1 : Int) = 0 from hc) (by decide)
    | decode b => exact absurd (show (1 : Int) = 2 from hc.1) (by decide)
    | encode l =>
      obtain ⟨_, hl, l160, wl⟩ := hc
      obtain ⟨e1, e2⟩ := spec_enc wf l160 wl
      rw [e1, e2] at k
      refine ⟨by show 1 ≤ sizeLine; decide, fun q1 hq1 => ?_⟩
      have s1 : Same H (upd H q1 (.lst [.int 0])) := same_new hq1
      have e1 : LI (upd H q1 (.lst [.int 0])) q1 [0] := upd_same
      have hT1 : TelAt C (upd H q1 (.lst [.int 0])) pt st [pa] := hT.same s1
      have hW1 : Wd K (upd H q1 (.lst [.int 0])) pa acc ca xs := hW.same s1
      have hl1 : LI (upd H q1 (.lst [.int 0])) r l := hl.same s1
      generalize upd H q1 (.lst [.int 0]) = H1 at *
      obtain ⟨dx, pc, pd, pfr, pfl, psh, al, e, hC, hD, nls⟩ := hT1
      obtain ⟨dc, as, ap, ec, ⟨dF, f1⟩, ⟨dG, au, g1, g2, g3⟩, _⟩ := id hC
      refine ⟨_, rfl, pt, _, dx, _, _, rfl, e, T.k_Telephone, T.a_Telephone_coder, ft1 _ _, pc, dc, _, rfl, ec, (by kernel_rfl), _, rfl, ?_⟩
      refine ⟨pc, pfr, pfl, r, st, [pa], l, rfl, hC, wf, hl1, l160, wl, al1 hW1.1, fun q H2 hC2 k2 hq eq => ?_⟩
      have e1' : LI H2 q1 [0] := k2.li e1 (by simp; exact ⟨li_ins e1 ec, li_ins e1 f1, li_ins e1 g1⟩)
      have hT2 : TelAt C H2 pt (Pv.eS st l) [pa] := ⟨dx, pc, pd, pfr, pfl, psh, al, k2 _ _ e (by simp; exact ⟨ins_ne e ec (by show 2 ≠ 4; decide), ins_ne e f1 (by show 2 ≠ 3; decide), ins_ne e g1 (by show 2 ≠ 1; decide)⟩), hC2, hD.keepC k2 hC nls, nls⟩
      have hW2 : Wd K H2 pa acc ca xs := hW1.keep k2 fun b hb => by
        simp only [List.mem_cons, List.not_mem_nil, or_false] at hb
        rcases hb with rfl | rfl | rfl
        · exact .inl ⟨_, _, _, ec⟩
        · exact .inl ⟨_, _, _, f1⟩
        · exact .inl ⟨_, _, _, g1⟩
      have lb : (bytesI st l).length = 33 := by
        unfold bytesI
        rw [Pv.encode_eq wf l160 wl, Pv.bytes_eq (Pv.encode_ok wf l160 wl).2, List.length_map, List.length_range]
      refine cat_at e1' eq (by rw [lb]; decide) fun q2 H3 s3 hq2 e3 => ?_
      refine k q2 H3 (hT2.same s3) (hW2.same s3) (s1.free (fresh_back k2 (fun b hb => ?_) hq2)) e3
      obtain ⟨_, _, _, ec2, ⟨_, f2⟩, ⟨_, _, g12, _⟩, _⟩ := hC2
      simp only [List.mem_cons, List.not_mem_nil, or_false] at hb
      rcases hb with rfl | rfl | rfl
      · rw [ec2]; simp
      · rw [f2]; simp
      · rw [g12]; simp
  · have h1 : c ≠ 1 := fun z => h (ne' z)
    refine ⟨_, rfl, rfl, _, rfl, ?_⟩
    refine ite2 (fun h => ?_) (fun h => ?_)
    · have h : c = 2 := ie h
      subst h
      cases cl with
      | open_ => exact absurd (show (2 : Int) = 0 from hc) (by decide)
      | encode l => exact absurd (show (2 : Int) = 1 from hc.1) (by decide)
      | decode b =>
        obtain ⟨_, hl, l33, lb⟩ := hc
        obtain ⟨dx, pc, pd, pfr, pfl, psh, al, e, _⟩ := id hT
        exact ⟨_, rfl, pt, dx, _, rfl, e, (by kernel_rfl), _, rfl, pt, st, pa, acc, ca, xs, r, b, rfl, hT, wf, hl, l33, lb, hW, k⟩
    · have h2 : c ≠ 2 := fun z => h (ne' z)
      cases cl with
      | encode l => exact absurd hc.1 h1
      | decode b => exact absurd hc.1 h2
      | open_ =>
        obtain ⟨dx, pc, pd, pfr, pfl, psh, al, e, _⟩ := id hT
        refine ⟨_, rfl, pt, dx, _, rfl, e, (by kernel_rfl), pt, dx, pc, pd, [pa], rfl, e, al1 hW.1, fun q H' hT' k' hq eq => ?_⟩
        refine k q H' hT' (hW.keep k' fun b hb => ?_) hq eq
        simp only [List.mem_cons, List.not_mem_nil, or_false] at hb
        rw [hb]; exact .inl ⟨_, _, _, e⟩
end Px
namespace Px
open PySem PySem.Spec PyProof.Rows L2
local macro_rules | `(tactic| walk_at "rd") => `(tactic| repeat (first | refine ⟨_, rfl, ?_⟩ | refine ⟨_, _, rfl, rfl, ?_⟩ | refine ⟨_, _, rfl, ?_⟩ | refine ⟨rfl, ?_⟩ | refine ⟨trivial, ?_⟩ | refine ⟨(show (0 : Int) ≤ _ by decide), ?_⟩ | refine ⟨Or.inl ⟨by decide, by decide⟩, ?_⟩ | refine ⟨Or.inr ⟨by decide, by decide⟩, ?_⟩))
variable {P : Program} {w : World} {K : PySem.W.Frag} {mg : Str → Option Value} {base : Heap} {C : Ad}
def spRow (K : PySem.W.Frag) : Sp := fun vs H Q _ => ∃ a, ∃ ns : List Int, ∃ j n, vs = [.ref a, .int ((j : Nat) : Int)] ∧ SqL K H a (ns.map V.int) ∧ ns[j]? = some ((n : Nat) : Int) ∧ ∀ q H', Same H H' → H q = none → LI H' q ((ns.drop (j + 1)).take n) → Q (.ref q) H'
abbrev s_row_at : Stmt := (top 107)
theorem sc_row_at : FnScope ["calls", "place"] ["calls", "place"] (defScope s_row_at) := ⟨rfl, rfl, rfl, by decide +kernel, rfl, by decide +kernel, by decide +kernel⟩
theorem d_row_at (T : Txt K mg C) : Df P w K mg base "row_at" ["calls", "place"] 1 (spRow K) := by
  refine .mk' T.f_row_at sc_row_at (fun _ _ _ _ _ _ us hl => match us, hl with | [_, _], _ => rfl) (fun vs H Q E h => by obtain ⟨_, _, _, _, rfl, _⟩ := h; rfl) fun f cdv A outer s H vs Q E hr h => ?_
  obtain ⟨a, ns, j, n, rfl, hl, hn, k⟩ := h
  refine ⟨_, (pss_one (ps_ret (pe_slice (sl_listK K rfl) (pv 0) (po_some (pe_op op_add (pv 1) pe_int)) (po_some (pe_op op_add (pe_op op_add (pv 1) pe_int) (pe_ix (ix_listK K rfl) (pv 0) (pv 1) (fun _ _ => rfl))))))), ?_⟩
  have hn' : atI (ns.map V.int) ((j : Nat) : Int) = some (.int ((n : Nat) : Int)) := atI_nat (by rw [List.getElem?_map, hn]; rfl)
  refine ⟨_, rfl, _, rfl, _, _, rfl, rfl, _, rfl, _, rfl, _, _, rfl, rfl, _, rfl, _, rfl, a, _, _, _, rfl, rfl, hl, hn', _, _, rfl, rfl, _, rfl, a, _, rfl, hl, fun q hq => ?_⟩
  refine k q _ (same_new hq) hq (li_new' ?_)
  rw [show ((j : Nat) : Int) + 1 = ((j + 1 : Nat) : Int) by omega, show ((j + 1 : Nat) : Int) + ((n : Nat) : Int) = ((j + 1 + n : Nat) : Int) by omega, cutI, Nat.add_sub_cancel_left]
def COk : Ra26.Call → Prop
  | .open_ => True
  | .encode l => l.length = 160 ∧ Pv.Ws l
  | .decode b => b.length = 33 ∧ ∀ x ∈ b, x < 256
theorem spec_ok {s : Ra26.S} (wf : Pv.Wf s) : ∀ {c : Ra26.Call}, COk c → Pv.Wf (Ra26.spec s c).2 ∧ (Pv.outC s c).length ≤ 161
  | .open_, _ => ⟨Pv.wf_fresh, by show 1 ≤ 161; decide⟩
  | .encode l, ⟨hl, hw⟩ => by
    obtain ⟨e1, e2⟩ := spec_enc wf hl hw
    obtain ⟨a, b⟩ := Pv.encode_ok wf hl hw
    rw [e1, e2]
    refine ⟨a, ?_⟩
    unfold bytesI
    rw [Pv.encode_eq wf hl hw, Pv.bytes_eq b, List.length_append, List.length_map, List.length_range]
    decide
  | .decode b, ⟨h33, hb⟩ => by
    obtain ⟨m1, m2⟩ := marked h33 hb
    by_cases z : Ra26.at_ (Pv.intsOf b) 0 / 16 = 13
    · obtain ⟨e1, e2⟩ := spec_some (s := s) (m1 z)
      obtain ⟨a, c, _⟩ := Pv.decode_ok wf (Pv.frameAt_ok (b := Ra26.bits b) (by rw [Pv.bits_length, h33]))
      rw [e1, e2]
      refine ⟨a, ?_⟩
      rw [List.length_append, c]
      decide
    · obtain ⟨e1, e2⟩ := spec_none (s := s) (m2 z)
      rw [e1, e2]
      exact ⟨wf, by show 1 ≤ 161; decide⟩
theorem line_step {l : List Int} {cs : List Ra26.Call} (h : Pv.Line l cs) (hl : 0 < l.length) : ∃ cl cs2 r2, cs = cl :: cs2 ∧ Pv.Line r2 cs2 ∧ COk cl ∧
    ((l = 0 :: r2 ∧ cl = .open_) ∨ ∃ (c : Int) (row : List Int), l = c :: ((row.length : Nat) : Int) :: (row ++ r2) ∧ c ≠ 0 ∧ row.length ≤ 160 ∧ ∀ H r, LI H r row → CallIs H c r cl) := by
  cases h with
  | nil => exact absurd hl (by decide)
  | op h => exact ⟨_, _, _, rfl, h, trivial, .inl ⟨rfl, rfl⟩⟩
  | en h1 h2 h =>
    rename_i a r cs
    exact ⟨_, _, _, rfl, h, ⟨h1, h2⟩, .inr ⟨1, a, by rw [h1]; rfl, by decide, by omega, fun H r hr => ⟨rfl, hr, h1, h2⟩⟩⟩
  | de h1 h2 h =>
    rename_i b r cs
    have e : (Pv.intsOf b).length = 33 := by unfold Pv.intsOf; rw [List.length_map, h1]
    exact ⟨_, _, _, rfl, h, ⟨h1, h2⟩, .inr ⟨2, Pv.intsOf b, by rw [e]; rfl, by decide, by omega, fun H r hr => ⟨rfl, hr, h1, h2⟩⟩⟩
theorem wd_write {H : Hp} {pa ca : Addr} {acc acc' : List Int} {xs ys : List V} (h : Wd K H pa acc ca xs) (e : ys = acc'.map V.int) : Wd K (upd H pa (.lst ys)) pa acc' ca xs := by
  obtain ⟨h1, h2⟩ := h
  refine ⟨li_new' e, ?_⟩
  rcases h2 with ⟨o, h2⟩ | h2
  · refine .inl ⟨o, ?_⟩
    rw [upd_ne (fun z => by rw [z, show H pa = _ from h1] at h2; cases h2)]; exact h2
  · exact .inr h2
def spAll (K : PySem.W.Frag) : Sp := fun vs H Q _ => ∃ a ns cs, vs = [.ref a] ∧ Sc K H a (ns.map V.int) ∧ Pv.Line ns cs ∧ cs.length ≤ 300 ∧ ∀ q H', H q = none → LI H' q (Pv.told Ra26.fresh cs) → Q (.ref q) H'
abbrev s_answers : Stmt := (top 108)
theorem sc_answers : FnScope ["calls", "telephone", "answered", "place", "call", "row", "answer"] ["calls"] (defScope s_answers) := ⟨rfl, rfl, rfl, by decide +kernel, rfl, by decide +kernel, by decide +kernel⟩
theorem d_answers (T : Txt K mg C) : Df P w K mg base "answers" ["calls"] 9 (spAll K) := by
  refine .mk' T.f_answers sc_answers (fun _ _ _ _ _ _ us hl => match us, hl with | [_], _ => rfl) (fun vs H Q E h => by obtain ⟨_, _, _, rfl, _⟩ := h; rfl) fun f cdv A outer s H vs Q E hr h => ?_
  obtain ⟨a, ns, cs, rfl, hS, hL, h300, k⟩ := h
  refine ⟨_, (pss_cons (ps_set (i := 1) sc_answers.nd rfl (Or.inl rfl) (pe_mk0 (i_Telephone T) (hr.mono (by decide))))
      (pss_cons (ps_set (i := 2) sc_answers.nd rfl (Or.inl rfl) (pe_lst pa_nil))
      (pss_cons (ps_set (i := 3) sc_answers.nd rfl (Or.inl rfl) pe_int)
      (pss_cons (ps_while PassesOwn.never (pt_cmpR op_lt (pv 3) (pe_callB (len_seqK K rfl) (by rfl) T.b_len PySem.boot_len (pa_cons (pv 0) pa_nil)) (nomark _)) (pss_cons (ps_set (i := 4) sc_answers.nd rfl (Or.inl rfl) (pe_ix (ix_listK K rfl) (pv 0) (pv 3) (fun _ _ => rfl)))
      (pss_cons (ps_aug (i := 3) sc_answers.nd rfl (Or.inl rfl) pe_int ip_add)
      (pss_cons (ps_set (i := 5) sc_answers.nd rfl (Or.inl rfl) (pe_lst pa_nil))
      (pss_cons (ps_if (pt_cmpR op_ne (pv 4) (pe_cst T.c_BEGIN) (nomark _)) (pss_cons (ps_set (i := 5) sc_answers.nd rfl (Or.inl rfl) (pe_fn (d_row_at T) (hr.mono (by decide)) (pa_cons (pv 0) (pa_cons (pv 3) pa_nil))))
      (pss_one (ps_aug (i := 3) sc_answers.nd rfl (Or.inl rfl) (pe_op op_add pe_int (pe_callB (len_seqK K rfl) (by rfl) T.b_len PySem.boot_len (pa_cons (pv 5) pa_nil))) ip_add))) pss_nil)
      (pss_cons (ps_set (i := 6) sc_answers.nd rfl (Or.inl rfl) (pe_mt (m_answer T) (hr.mono (by decide)) (pv 1) (pa_cons (pv 4) (pa_cons (pv 5) pa_nil))))
      (pss_cons (ps_expr (pe_bm PySem.F.plainAttrs_list PySem.F.slot_list_append PySem.F.type_list_append mt_append (pv 2) (pa_cons (pe_callB (len_seqK K rfl) (by rfl) T.b_len PySem.boot_len (pa_cons (pv 6) pa_nil)) pa_nil)))
      (pss_one (ps_expr (pe_bm PySem.F.plainAttrs_list PySem.F.slot_list_extend PySem.F.type_list_extend mt_extend (pv 2) (pa_cons (pv 6) pa_nil)))))))))))
      (pss_one (ps_ret (pv 2))))))), ?_⟩
  intro x1 d1 nx1 nd1 ne1
  refine ⟨x1, d1, [], rfl, upd_same, (fun _ m => nomatch m), fun H1 hT1 k1 => ⟨rfl, ?_⟩⟩
  have s1 : Same H H1 := made_same nx1 nd1 k1
  refine ⟨by show 0 ≤ sizeLine; decide, fun pa hpa => ?_⟩
  have s2 : Same H1 (upd H1 pa (.lst [])) := same_new hpa
  have hT2 : TelAt C (upd H1 pa (.lst [])) x1 Ra26.fresh [pa] := (hT1.more hpa).same s2
  have hW2 : Wd K (upd H1 pa (.lst [])) pa [] a (ns.map V.int) := ⟨upd_same, hS.same (s1.trans s2)⟩
  generalize upd H1 pa (.lst []) = H2 at *
  refine ⟨fun m σ H3 => ∃ done rest cs' st acc v4 v5 v6, ns = done ++ rest ∧ Pv.Line rest cs' ∧ m = cs'.length ∧ Pv.Wf st ∧ σ = [some (.ref a), some (.ref x1), some (.ref pa), some (.int ((done.length : Nat) : Int)), v4, v5, v6] ∧
      TelAt C H3 x1 st [pa] ∧ Wd K H3 pa acc a (ns.map V.int) ∧ acc ++ Pv.told st cs' = Pv.told Ra26.fresh cs ∧ acc.length + 162 * cs'.length ≤ 50000,
    ⟨cs.length, [], ns, cs, Ra26.fresh, [], none, none, none, rfl, hL, rfl, Pv.wf_fresh, rfl, hT2, hW2, rfl, by rw [List.length_nil]; omega⟩, ?_⟩
  rintro m σ H3 ⟨done, rest, cs', st, acc, v4, v5, v6, en, hL3, rfl, wf, rfl, hT3, hW3, et, lb⟩
  have ln : (ns.map V.int).length = done.length + rest.length := by rw [List.length_map, en, List.length_append]
  refine ⟨_, rfl, _, rfl, a, _, rfl, .inl hW3.2.sq, _, _, rfl, rfl, _, rfl, ?_⟩
  refine ite2 (fun h => ?_) (fun h => ?_)
  · have h : ((done.length : Nat) : Int) < (((ns.map V.int).length : Nat) : Int) := of_decide_eq_true h
    obtain ⟨cl, cs2, r2, rfl, hL4, cok, hcase⟩ := line_step hL3 (by omega)
    refine ⟨fun σ' H' => ∃ m', m' < (cl :: cs2).length ∧ _, fun _ _ h => h, ?_⟩
    obtain ⟨wf', lo⟩ := spec_ok wf cok
    have et' : acc ++ [((Pv.outC st cl).length : Int)] ++ Pv.outC st cl ++ Pv.told (Ra26.spec st cl).2 cs2 = Pv.told Ra26.fresh cs := by
      rw [← et]
      show _ = acc ++ (((Pv.outC st cl).length : Int) :: (Pv.outC st cl ++ Pv.told (Ra26.spec st cl).2 cs2))
      simp only [List.append_assoc, List.cons_append, List.nil_append]
    rw [List.length_cons] at lb
    have a0 : ∀ c r, rest = c :: r → atI (ns.map V.int) ((done.length : Nat) : Int) = some (.int c) := fun c r e => atI_nat (by
      rw [List.getElem?_map, en, e, List.getElem?_append_right (Nat.le_refl _), Nat.sub_self]; rfl)
    rcases hcase with ⟨er, ec⟩ | ⟨c, row, er, nc, lrow, hcl⟩
    · refine ⟨_, rfl, _, rfl, a, _, _, _, rfl, rfl, hW3.2.sq, a0 0 _ er, _, rfl, _, _, rfl, rfl, by show 0 ≤ sizeLine; decide, fun pr hpr => ?_⟩
      have s4 : Same H3 (upd H3 pr (.lst [])) := same_new hpr
      have hT4 := hT3.same s4
      have hW4 := hW3.same s4
      have hc4 : CallIs (upd H3 pr (.lst [])) 0 pr cl := by rw [ec]; rfl
      have nn : ∀ {b}, (upd H3 pr (.lst [])) b = none → b ≠ pr := fun h z => by rw [z, upd_same] at h; cases h
      generalize upd H3 pr (.lst []) = H4 at *
      refine ⟨_, rfl, rfl, _, rfl, ?_⟩
      refine ite2 (fun h => absurd (show (!decide (V.int 0 = V.int 0)) = true from h) (by rw [decide_eq_true rfl]; decide)) (fun _ => ?_)
      obtain ⟨dx, pc, pd, pfr, pfl, psh, al, e, _⟩ := id hT4
      refine ⟨_, rfl, x1, dx, _, rfl, e, (by kernel_rfl), _, rfl, _, rfl, ?_⟩
      refine ⟨x1, st, pa, acc, a, _, _, pr, cl, rfl, hT4, wf, hW4, hc4, fun q H5 hT5 hW5 hq eq => ?_⟩
      have nqa : q ≠ pa := fun z => by rw [z, show H4 pa = _ from hW4.1] at hq; cases hq
      refine ⟨_, rfl, .inl ⟨rfl, _, hW5.1.sq⟩, ?_⟩
      refine ⟨_, rfl, q, _, rfl, .inl eq.sq, pa, _, _, rfl, rfl, hW5.1, ?_, ?_⟩
      · rw [List.length_map]; exact small_line (by omega)
      have hT6 : TelAt C (upd H5 pa (.lst (acc.map V.int ++ [.int (((Pv.outC st cl).map V.int).length : Nat)]))) x1 (Ra26.spec st cl).2 [pa] := hT5.write (List.mem_singleton.mpr rfl) hW5.1
      have hW6 : Wd K (upd H5 pa (.lst (acc.map V.int ++ [.int (((Pv.outC st cl).map V.int).length : Nat)]))) pa (acc ++ [((Pv.outC st cl).length : Int)]) a (ns.map V.int) := wd_write hW5 (by rw [List.map_append, List.length_map]; rfl)
      have eq6 : LI (upd H5 pa (.lst (acc.map V.int ++ [.int (((Pv.outC st cl).map V.int).length : Nat)]))) q (Pv.outC st cl) := by show upd _ _ _ _ = _; rw [upd_ne nqa]; exact eq
      generalize upd H5 pa (.lst (acc.map V.int ++ [.int (((Pv.outC st cl).map V.int).length : Nat)])) = H6 at *
      refine ⟨_, rfl, .inl ⟨rfl, _, hW6.1.sq⟩, _, rfl, pa, q, _, _, rfl, rfl, hW6.1, eq6, ?_, ?_⟩
      · rw [List.length_map, List.length_map, List.length_append]
        exact Nat.le_of_lt (small_line (by show acc.length + 1 + _ ≤ _; omega))
      refine ⟨cs2.length, by rw [List.length_cons]; omega, done ++ [0], r2, cs2, _, acc ++ [((Pv.outC st cl).length : Int)] ++ Pv.outC st cl, some (.int 0), some (.ref pr), some (.ref q), by rw [en, er, List.append_assoc]; rfl, hL4, rfl, wf', ?_, hT6.write (List.mem_singleton.mpr rfl) hW6.1, wd_write hW6 (by rw [← List.map_append]), et', ?_⟩
      · have ep : ((done.length : Nat) : Int) + 1 = (((done ++ [0] : List Int).length : Nat) : Int) := by rw [List.length_append]; rfl
        rw [← ep]
        rfl
      · rw [List.length_append, List.length_append]
        show acc.length + 1 + _ + _ ≤ _
        omega
    · have a1 : ns[done.length + 1]? = some ((row.length : Nat) : Int) := by
        rw [en, er, List.getElem?_append_right (by omega), show done.length + 1 - done.length = 1 by omega]; rfl
      refine ⟨_, rfl, _, rfl, a, _, _, _, rfl, rfl, hW3.2.sq, a0 c _ er, _, rfl, _, _, rfl, rfl, by show 0 ≤ sizeLine; decide, fun pr0 hpr0 => ?_⟩
      have s4 : Same H3 (upd H3 pr0 (.lst [])) := same_new hpr0
      have hT4 := hT3.same s4
      have hW4 := hW3.same s4
      generalize upd H3 pr0 (.lst []) = H3' at *
      refine ⟨_, rfl, rfl, _, rfl, ?_⟩
      refine ite2 (fun _ => ?_) (fun h => absurd (show (!decide (V.int c = V.int 0)) = true by rw [decide_eq_false (fun z => nc (by injection z))]; rfl) h)
      refine ⟨_, rfl, _, rfl, a, ns, done.length + 1, row.length, rfl, hW4.2.sq, a1, fun pr H4 s5 hpr er4 => ?_⟩
      have hT4 := hT4.same s5
      have hW4 := hW4.same s5
      have e4 : (ns.drop (done.length + 1 + 1)).take row.length = row := by
        rw [en, er, ← List.drop_drop, ← List.drop_drop, List.drop_left]
        exact List.take_left
      rw [e4] at er4
      refine ⟨_, rfl, _, rfl, pr, _, rfl, .inl er4.sq, _, _, rfl, rfl, _, _, rfl, rfl, ?_⟩
      have hc4 : CallIs H4 c pr cl := hcl H4 pr er4
      obtain ⟨dx, pc, pd, pfr, pfl, psh, al, e, _⟩ := id hT4
      refine ⟨_, rfl, x1, dx, _, rfl, e, (by kernel_rfl), _, rfl, _, rfl, ?_⟩
      refine ⟨x1, st, pa, acc, a, _, _, pr, cl, rfl, hT4, wf, hW4, hc4, fun q H5 hT5 hW5 hq eq => ?_⟩
      have nqa : q ≠ pa := fun z => by rw [z, show H4 pa = _ from hW4.1] at hq; cases hq
      refine ⟨_, rfl, .inl ⟨rfl, _, hW5.1.sq⟩, ?_⟩
      refine ⟨_, rfl, q, _, rfl, .inl eq.sq, pa, _, _, rfl, rfl, hW5.1, ?_, ?_⟩
      · rw [List.length_map]; exact small_line (by omega)
      have hT6 : TelAt C (upd H5 pa (.lst (acc.map V.int ++ [.int (((Pv.outC st cl).map V.int).length : Nat)]))) x1 (Ra26.spec st cl).2 [pa] := hT5.write (List.mem_singleton.mpr rfl) hW5.1
      have hW6 : Wd K (upd H5 pa (.lst (acc.map V.int ++ [.int (((Pv.outC st cl).map V.int).length : Nat)]))) pa (acc ++ [((Pv.outC st cl).length : Int)]) a (ns.map V.int) := wd_write hW5 (by rw [List.map_append, List.length_map]; rfl)
      have eq6 : LI (upd H5 pa (.lst (acc.map V.int ++ [.int (((Pv.outC st cl).map V.int).length : Nat)]))) q (Pv.outC st cl) := by show upd _ _ _ _ = _; rw [upd_ne nqa]; exact eq
      generalize upd H5 pa (.lst (acc.map V.int ++ [.int (((Pv.outC st cl).map V.int).length : Nat)])) = H6 at *
      refine ⟨_, rfl, .inl ⟨rfl, _, hW6.1.sq⟩, _, rfl, pa, q, _, _, rfl, rfl, hW6.1, eq6, ?_, ?_⟩
      · rw [List.length_map, List.length_map, List.length_append]
        exact Nat.le_of_lt (small_line (by show acc.length + 1 + _ ≤ _; omega))
      refine ⟨cs2.length, by rw [List.length_cons]; omega, done ++ (c :: ((row.length : Nat) : Int) :: row), r2, cs2, _, acc ++ [((Pv.outC st cl).length : Int)] ++ Pv.outC st cl, some (.int c), some (.ref pr), some (.ref q), by rw [en, er, List.append_assoc]; rfl, hL4, rfl, wf', ?_, hT6.write (List.mem_singleton.mpr rfl) hW6.1, wd_write hW6 (by rw [← List.map_append]), et', ?_⟩
      · have ep : ((done.length : Nat) : Int) + 1 + (1 + ((row.map V.int).length : Nat)) = (((done ++ (c :: ((row.length : Nat) : Int) :: row) : List Int).length : Nat) : Int) := by rw [List.length_append, List.length_map, List.length_cons, List.length_cons]; omega
        rw [← ep]
        rfl
      · rw [List.length_append, List.length_append]
        show acc.length + 1 + _ + _ ≤ _
        omega
  · have h : ¬ ((done.length : Nat) : Int) < (((ns.map V.int).length : Nat) : Int) := fun z => h (decide_eq_true z)
    have hr0 : rest = [] := List.eq_nil_of_length_eq_zero (by omega)
    subst hr0
    have hc0 : cs' = [] := by cases hL3; rfl
    subst hc0
    have et : acc ++ [] = Pv.told Ra26.fresh cs := et
    rw [List.append_nil] at et
    subst et
    exact ⟨_, rfl, k pa H3 (s1.free hpa) hW3.1⟩
end Px
namespace Px
open PySem PySem.W PySem.Calls PySem.Spec PyProof.Rows L2
abbrev R0 : OpenSpec := PySem.Challenge.rw_pulsevoice_s01_answers
theorem reads_ints {cl : Str → Option Addr} {h : Heap} : ∀ (ns : List Int) (its : List Value), Vals (ns.map V.int) its → ReadsAllW [] cl h its (ns.map WData.int) []
  | [], its, v => by cases v; exact .nil
  | n :: ns, its, v => by
    cases v with
    | cons a b =>
      obtain ⟨t, rfl⟩ := a
      exact .cons (as := []) (.int _ _) (reads_ints ns _ b)
theorem asked_of {P : Params} {h : Heap} {args : List WData} {vals : List Value} (hpre : R0.pre args = true) (hwl : WellAll P h vals args) :
    ∃ a vs ns, vals = [Value.ref a] ∧ args = [WData.list (ns.map WData.int)] ∧ h.get? a = some { cls := .type "list", data := .seq vs.toArray } ∧ IntsAre vs ns ∧ ns.length ≤ 60000 ∧ PyRa26.answers_asked ns = true ∧
      R0.post args (.list ((PyRa26.answers ns).map WData.int)) = true := by
  have hsh : WShape.hasAll [] args [.list .int] = true := os_shapes args hpre
  obtain ⟨d, r, rfl, h1, h2⟩ := hasAllW_cons hsh
  obtain rfl := hasAllW_nil h2
  obtain ⟨xs, rfl, h3⟩ := hasW_list h1
  obtain ⟨ns, rfl⟩ := items_int h3
  have e : ofPy (PyData.list (ns.map PyData.int)) = .list (ns.map WData.int) := os_listI rfl
  rw [← e] at hpre
  obtain ⟨dec, _, most, _⟩ := os_dec_ints (os_pre_isSome hpre)
  have asked := os_pre_asked hpre dec
  have post : R0.post [ofPy (PyData.list (ns.map PyData.int))] (.list ((PyRa26.answers ns).map WData.int)) = true := os_post dec (same_self _)
  rw [e] at post
  cases hwl with
  | cons w1 w2 =>
    cases w2
    cases w1 with
    | list ho hall => exact ⟨_, _, ns, rfl, rfl, ho, Att.ints_of_wellAll ns _ hall, most, asked, post⟩
theorem spec_call {P : Program} {w : World} {K : PySem.W.Frag} {mg mb : Str → Option Value} {fa a : Addr} {s₁ : Shared} {vs : List Value} {ns : List Int} {cs : List Ra26.Call} {cl : Str → Option Addr}
    (KX : K.In s₁.heap) (hns : s₁.heap.Ns mainGlobals mg) (hb : s₁.heap.Ns builtinsNs mb) (hbb : ∀ x : Str, x ≠ "__name__" → mb x = bootBuiltins x) (hlim : s₁.heap.NoLimit) (hg : s₁.gens = #[])
    (ha : s₁.heap.get? a = some { cls := .type "list", data := .seq vs.toArray }) (hi : IntsAre vs ns) (hl : ns.length ≤ 60000) (hL : Pv.Line ns cs) (h300 : cs.length ≤ 300) (hfa : mg "answers" = some (.ref fa))
    (F : ∀ base : Heap, Df P w K mg base "answers" ["calls"] 9 (spAll K)) :
    codeAny (model P w) callerA (.call (.ref fa) ⟨[.ref a], []⟩) (fun r s' => (∃ p as, r = .ok (.ret (.ref p)) ∧ ReadsW [] cl s'.heap (.ref p) (.list ((Pv.told Ra26.fresh cs).map WData.int)) as) ∧ OldK s₁.heap s'.heap ∧ s'.os = s₁.os ∧ AllBare s'.gens) s₁ := by
  have rv := vals_ints hi
  have lenV := hi.length
  have hl' : ns.length ≤ sizeLine := Nat.le_trans hl (by decide)
  have core : ∀ H : Hp, Only H → Sc K H a (ns.map V.int) → HOk P w H s₁.heap → (∀ b, H b ≠ none → b = a) → (H a ≠ none → K.lookup a = none) →
      codeAny (model P w) callerA (.call (.ref fa) ⟨[.ref a], []⟩) (fun r s' => (∃ p as, r = .ok (.ret (.ref p)) ∧ ReadsW [] cl s'.heap (.ref p) (.list ((Pv.told Ra26.fresh cs).map WData.int)) as) ∧ OldK s₁.heap s'.heap ∧ s'.os = s₁.os ∧ AllBare s'.gens) s₁ := by
    intro H hO hS hok hA hK
    have base_of : ∀ {b : Addr} {o : Obj}, s₁.heap.get? b = some o → H b = none → (hidT s₁.heap H).get? b = some o := fun e n => hidT_get e n
    have noA : ∀ {b : Addr} {o : Obj} {es : Array DictEntry} {ep : Nat}, s₁.heap.get? b = some o → o.data = .dict es ep → H b = none := fun {b o es ep} e d => by
      cases q : H b with
      | none => rfl
      | some u =>
        have e' : b = a := hA b (by rw [q]; simp)
        subst e'
        rw [ha] at e; cases e
        have d' : Data.seq vs.toArray _ = Data.dict es ep := d
        cases d'
    have nsK : ∀ {b : Addr} {m : Str → Option Value}, s₁.heap.Ns b m → (hidT s₁.heap H).Ns b m := fun {b m} ⟨o, es, ep, e, d, r⟩ => ⟨o, es, ep, base_of e (noA e d), d, r⟩
    have hKb : K.In (hidT s₁.heap H) := fun b o e => base_of (KX b o e) (by
      cases q : H b with
      | none => rfl
      | some u =>
        have e' : b = a := hA b (by rw [q]; simp)
        subst e'
        rw [hK (by rw [q]; simp)] at e; cases e)
    have hM : Mod K mg (hidT s₁.heap H) := ⟨hKb, nsK hns, ⟨mb, nsK hb, hbb⟩, let ⟨mc, h1, h2⟩ := hlim; ⟨mc, nsK h1, h2⟩⟩
    have e0 : Env0 P w K mg (hidT s₁.heap H) callerA [] s₁ H := ⟨rfl, hM, fun b o e => of_hidT e, Nat.le_of_eq (hidT_size _ _), trivial, fun b hb => absurd (show b ∈ ([] : List Addr) from hb) (by simp), hok, .of_eq hg⟩
    obtain ⟨f, fd, G, mf, _, bn⟩ := (F (hidT s₁.heap H)).ex
    have ef : f = fa := by rw [hfa] at mf; injection mf with mf; injection mf with mf; exact mf.symm
    subst ef
    refine codeAny_mono (G.run callerA [] s₁ H ⟨[.ref a], []⟩ [.ref a] [.ref a] (fun v H' => ∃ p, v = .ref p ∧ LI H' p (Pv.told Ra26.fresh cs)) (fun _ _ _ => False) ⟨rfl, by decide, by decide⟩ e0 (bn s₁ [.ref a] KX rfl) (.cons rfl .nil) ⟨a, ns, cs, rfl, hS, hL, h300, fun q H' _ e => ⟨q, rfl, e⟩⟩) fun r s' h => ?_
    cases r with
    | error e => exact False.elim h
    | ok fl =>
      cases fl with
      | next => exact False.elim h
      | brk => exact False.elim h
      | cont => exact False.elim h
      | ret u =>
        obtain ⟨v, H', os, bare, un, hok', r', q⟩ := h
        obtain ⟨p, rfl, hp⟩ := q
        obtain rfl : u = Value.ref p := r'
        obtain ⟨_, its, n, hv, hget⟩ := hok' p _ hp
        refine ⟨⟨p, _, rfl, .list hget rfl rfl (by simpa using reads_ints _ _ hv)⟩, OldK.of_keep fun b o e => ?_, os, bare⟩
        cases q : H b with
        | none => exact un.keep b o e q (by intro z; exact absurd (show b ∈ ([] : List Addr) from z) (by simp)) (by simp)
        | some u =>
          rcases hO b with z | ⟨ob, xs, z⟩
          · rw [q] at z; cases z
          · have z2 := un.frzs b ob _ z
            obtain ⟨e1, _⟩ := hok b _ z
            obtain ⟨e2, _⟩ := hok' b _ z2
            rw [e] at e1; cases e1
            exact e2
  cases hk : K.lookup a with
  | some o =>
    have e := KX a o hk
    rw [ha] at e
    cases e
    refine core (fun _ => none) (fun _ => .inl rfl) (.inr fun H' => .inr ⟨_, vs.toArray, _, hk, rfl, rfl, rfl, by rw [List.size_toArray, lenV]; exact hl', by simpa using rv⟩) (fun b u z => by have z' : (none : Option HO) = some u := z; cases z') (fun b z => absurd rfl z) fun z => absurd rfl z
  | none =>
    refine core (fun b => if b = a then some (.frz { cls := .type "list", data := .seq vs.toArray } (.lst (ns.map V.int))) else none) (fun b => ?_) (.inl ⟨{ cls := .type "list", data := .seq vs.toArray }, if_pos rfl⟩) (fun b u z => ?_) (fun b z => ?_) fun _ => hk
    · by_cases hb : b = a
      · exact .inr ⟨_, _, if_pos hb⟩
      · exact .inl (if_neg hb)
    · by_cases hb : b = a
      · have z' := (if_pos hb).symm.trans z
        cases z'
        subst hb
        exact ⟨ha, by rw [List.length_map]; exact hl', vs, _, rv, ha⟩
      · have z' := (if_neg hb).symm.trans z
        cases z'
    · by_cases hb : b = a
      · exact hb
      · exact absurd (if_neg hb) z
/-- the goal that is left behind the head, from the text as it stands -/
theorem walk {q : Program} {loose : List Str} {XP : (Str → Option Value) → Heap → Prop} {YP : World → Heap → Prop} {d : DefRec} {K : Params → PySem.W.Frag} (hdn : d.name = "answers") (hdf : d.params.defaults = [])
    (hY : ∀ (w : World) (h : Heap), YP w h → (K w.params).In h)
    (F : ∀ (w : World) (mg : Str → Option Value) (h : Heap), (K w.params).In h → h.Ns mainGlobals mg → ∃ C, Txt (K w.params) mg C) :
    WalkOS q loose XP YP R0 d [] (fun f vs => PySem.call f vs) := by
  intro w s₀ s₁ mg mb G Y fa o pm cd doc dV kV ho hd hcd hD hmg hg args vals as hpre hlay hrd hwl hlo
  obtain ⟨a, vs, ns, rfl, rfl, hobj, hints, hlen, hask, hpost⟩ := asked_of hpre hwl
  have KX := hY w _ Y
  obtain ⟨C, T⟩ := F w mg _ KX G.T.g
  obtain ⟨cs, hL, h300, et⟩ := Pv.line_of hask
  rw [et] at hpost
  refine enter_call (codeAny_mono (spec_call (cl := classAt s₀.heap) KX G.T.g G.T.b G.T.builtins G.T.nolimit hg hobj hints hlen hL h300 (hdn ▸ hmg) fun base => d_answers T) fun r s' hq => ?_)
  obtain ⟨⟨p, bs, rfl, hr⟩, h2, h3, h4⟩ := hq
  exact ⟨.inl ⟨.ref p, _, bs, rfl, fun _ => rfl, hr, hpost, fun h => absurd (show false = true from h) (by decide)⟩, h2, h3, h4⟩
end Px
/-! what the top has written -/
namespace Px
open PySem PySem.W PySem.Calls PySem.Spec PyProof.Rows L2
theorem abs_rel {x : V} {u : Value} (h : absV u = some x) : RelV x u := by
  cases u <;> simp only [absV] at h <;> first | (cases h; first | rfl | exact ⟨_, rfl⟩) | cases h
theorem vals_abs : ∀ {its : List Value} {xs : List V}, its.map absV = xs.map some → Vals xs its
  | [], [], _ => .nil
  | [], _ :: _, h => by cases h
  | _ :: _, [], h => by cases h
  | u :: us, x :: xs, h => by
    have h' := List.cons.inj (show absV u :: us.map absV = some x :: xs.map some from h)
    exact .cons (abs_rel h'.1) (vals_abs h'.2)
section
variable {K : PySem.W.Frag} {h : Heap} {mg : Str → Option Value}
theorem sqt_mk {a : Addr} {od : Option Addr} {its : Array Value} {n : Nat} {sl : Array (Option Value)} {xs : List V} (l : K.lookup a = some ⟨.type "tuple", od, .seq its n, sl⟩) (v : its.toList.map absV = xs.map some) (z : its.size ≤ sizeLine) : ∀ H, SqT K H a xs :=
  fun _ => .inr ⟨_, its, n, l, rfl, rfl, z, vals_abs v⟩
theorem mt_mk {x : Str} {a : Addr} {od : Option Addr} {its : Array Value} {n : Nat} {sl : Array (Option Value)} {xs : List V} (X : K.In h) (G : h.Ns mainGlobals mg) (e : nsIn K mainGlobals x = some (some (.ref a)))
    (l : K.lookup a = some ⟨.type "tuple", od, .seq its n, sl⟩) (v : its.toList.map absV = xs.map some) (z : its.size ≤ sizeLine) : MT K mg x xs := ⟨a, mg_of X G e, sqt_mk l v z⟩
theorem str_mk {x : Str} {a a0 a1 a2 a3 : Addr} {od od0 od1 od2 od3 : Option Addr} {its its0 its1 its2 its3 : Array Value} {n n0 n1 n2 n3 : Nat} {sl sl0 sl1 sl2 sl3 : Array (Option Value)} {xs0 xs1 xs2 xs3 : List V} (X : K.In h) (G : h.Ns mainGlobals mg)
    (e : nsIn K mainGlobals x = some (some (.ref a))) (l : K.lookup a = some ⟨.type "tuple", od, .seq its n, sl⟩) (v : its.toList.map absV = [some (.ref a0), some (.ref a1), some (.ref a2), some (.ref a3)]) (z : its.size ≤ sizeLine)
    (l0 : K.lookup a0 = some ⟨.type "tuple", od0, .seq its0 n0, sl0⟩) (v0 : its0.toList.map absV = xs0.map some) (z0 : its0.size ≤ sizeLine)
    (l1 : K.lookup a1 = some ⟨.type "tuple", od1, .seq its1 n1, sl1⟩) (v1 : its1.toList.map absV = xs1.map some) (z1 : its1.size ≤ sizeLine)
    (l2 : K.lookup a2 = some ⟨.type "tuple", od2, .seq its2 n2, sl2⟩) (v2 : its2.toList.map absV = xs2.map some) (z2 : its2.size ≤ sizeLine)
    (l3 : K.lookup a3 = some ⟨.type "tuple", od3, .seq its3 n3, sl3⟩) (v3 : its3.toList.map absV = xs3.map some) (z3 : its3.size ≤ sizeLine) :
    ∃ a0 a1 a2 a3, MT K mg x [.ref a0, .ref a1, .ref a2, .ref a3] ∧ (∀ H, SqT K H a0 xs0) ∧ (∀ H, SqT K H a1 xs1) ∧ (∀ H, SqT K H a2 xs2) ∧ ∀ H, SqT K H a3 xs3 :=
  ⟨a0, a1, a2, a3, mt_mk X G e l v z, sqt_mk l0 v0 z0, sqt_mk l1 v1 z1, sqt_mk l2 v2 z2, sqt_mk l3 v3 z3⟩
theorem ft_mk {x : Str} {st : Stmt} {f : Addr} {oc : Value} {od an : Option Addr} {osl : Array (Option Value)} {kV doc pm cdv ct : Value} (X : K.In h) (G : h.Ns mainGlobals mg) (e : nsIn K mainGlobals x = some (some (.ref f)))
    (l : K.lookup f = some ⟨oc, od, .func (fnOf x x (defArgs st) (defBody st) (defScope st) .none kV doc pm an cdv ct), osl⟩) (c : codeIn K cdv x = true) (k : keepIn K (.ref f) = true) : FT K mg x st := ⟨f, _, fun_mk l c k, mg_of X G e⟩
theorem mm_mk {C : Addr} {x qual : Str} {st : Stmt} {f : Addr} {oc : Value} {od an : Option Addr} {osl : Array (Option Value)} {kV doc pm cdv ct : Value} (e : findIn K (.ref C) x = some (some (.ref f))) (i : isFn K (.ref f) = true)
    (l : K.lookup f = some ⟨oc, od, .func (fnOf x qual (defArgs st) (defBody st) (defScope st) .none kV doc pm an cdv ct), osl⟩) (c : codeIn K cdv qual = true) (k : keepIn K (.ref f) = true) : MM K C x qual st := ⟨f, _, fun_mk l c k, e, i, k⟩
theorem mi_mk {C : Addr} {qual : Str} {st : Stmt} {f : Addr} {oc : Value} {od an : Option Addr} {osl : Array (Option Value)} {kV doc pm cdv ct : Value} (mk : makesIn K C = true) (kc : keepIn K (.ref C) = true) (e : findIn K (.ref C) "__init__" = some (some (.ref f))) (i : isFn K (.ref f) = true)
    (l : K.lookup f = some ⟨oc, od, .func (fnOf "__init__" qual (defArgs st) (defBody st) (defScope st) .none kV doc pm an cdv ct), osl⟩) (c : codeIn K cdv qual = true) (k : keepIn K (.ref f) = true) : MI K C qual st := ⟨f, _, fun_mk l c k, mk, e, i, kc⟩
theorem cn_mk {C : Addr} {x : Str} (X : K.In h) (G : h.Ns mainGlobals mg) (e : nsIn K mainGlobals x = some (some (.ref C))) : mg x = some (.ref C) := mg_of X G e
theorem cs_mk {x : Str} {i : Int} {t : Nat} (X : K.In h) (G : h.Ns mainGlobals mg) (e : nsIn K mainGlobals x = some (some (.int i t))) : ∃ t, mg x = some (.int i t) := ⟨t, mg_of X G e⟩
theorem txt_of {a b c d e f : Addr} (T : Txt K mg ⟨a, b, c, d, e, f⟩) : ∃ C, Txt K mg C := ⟨_, T⟩
end
end Px
namespace PySem.W.Fast
theorem tw13297496528585514048 : True := trivial
theorem tw723572285181518944 : True := trivial
theorem tw5007673685638597792 : True := trivial
theorem tw15037577838154532128 : True := trivial
theorem tw563155700702385440 : True := trivial
theorem tw8866539708775519552 : True := trivial
theorem tw15661914742095270208 : True := trivial
theorem tw3412572471415265696 : True := trivial
theorem tw65612267475719616 : True := trivial
theorem tw17516055252774880736 : True := trivial
theorem tw9740634766952404448 : True := trivial
theorem tw1238874066728891872 : True := trivial
theorem tw9614784692077446656 : True := trivial
theorem tw3738570157503497792 : True := trivial
theorem tw8350587257322026592 : True := trivial
theorem tw5142694890075174528 : True := trivial
theorem tw17078549786073214624 : True := trivial
theorem tw16918176819743397632 : True := trivial
theorem tw674284353009581856 : True := trivial
theorem tw16734612166739237664 : True := trivial
theorem tw3847295187340367680 : True := trivial
theorem tw17241079588134245184 : True := trivial
theorem tw7282858639523181376 : True := trivial
theorem tw15502403757190867808 : True := trivial
theorem tw13231408529531736960 : True := trivial
theorem tw10927495892629270432 : True := trivial
theorem tw15245872456449994688 : True := trivial
theorem tw2889776185292080064 : True := trivial
theorem tw2699649256658505825 : True := trivial
theorem tw3707934464894703713 : True := trivial
theorem tw698192400214796481 : True := trivial
theorem tw4595450278857055489 : True := trivial
theorem tw3509052675182807297 : True := trivial
theorem tw1483963532434842913 : True := trivial
theorem tw16126057382421988641 : True := trivial
theorem tw14788156841689198945 : True := trivial
theorem tw5092317595673846177 : True := trivial
theorem tw6221832391222651489 : True := trivial
theorem tw5710584202929636033 : True := trivial
theorem tw2173311078639333057 : True := trivial
theorem tw11150089264961323841 : True := trivial
theorem tw3513090888353865633 : True := trivial
theorem tw17407512052240486305 : True := trivial
theorem tw5349352897459359713 : True := trivial
theorem tw6032760189257234401 : True := trivial
theorem tw17233664680045015042 : True := trivial
theorem tw16123034401643344930 : True := trivial
theorem tw13627101096733109346 : True := trivial
theorem tw399299234889775234 : True := trivial
theorem tw14162594727806153858 : True := trivial
theorem tw17411837876779276578 : True := trivial
theorem tw7415207421837892034 : True := trivial
theorem tw13359142298938369474 : True := trivial
theorem tw9404794254359890434 : True := trivial
theorem tw9047359589318683202 : True := trivial
theorem tw13210221837821714050 : True := trivial
theorem tw10999414315486710402 : True := trivial
theorem tw11024908361499016866 : True := trivial
theorem tw8914401196879719074 : True := trivial
theorem tw14171413355092644546 : True := trivial
theorem tw6577222223602527938 : True := trivial
theorem tw15993672213870843650 : True := trivial
theorem tw9294603208458442562 : True := trivial
theorem tw13739464163535873890 : True := trivial
theorem tw5019804061419510658 : True := trivial
theorem tw3205890460583840642 : True := trivial
theorem tw2743518763366550434 : True := trivial
theorem tw17883025180696550338 : True := trivial
theorem tw830464546417016770 : True := trivial
theorem tw11734209973508233219 : True := trivial
theorem tw12089535613200622691 : True := trivial
theorem tw17246496545683022051 : True := trivial
theorem tw5299788699087150371 : True := trivial
theorem tw14891400508781710627 : True := trivial
theorem tw15889329298435922275 : True := trivial
theorem tw14662437993511699811 : True := trivial
theorem tw18163002903346472323 : True := trivial
theorem tw16335748909532847523 : True := trivial
theorem tw5851417264807714275 : True := trivial
theorem tw11038121991899841059 : True := trivial
theorem tw1703034259011337763 : True := trivial
theorem tw9390766992925527651 : True := trivial
theorem tw2649050768844500611 : True := trivial
theorem tw16207274225779091107 : True := trivial
theorem tw10390064151115397859 : True := trivial
theorem tw11356854058829507299 : True := trivial
theorem tw16218684910864649987 : True := trivial
theorem tw7536868848977677059 : True := trivial
theorem tw9978089624594358051 : True := trivial
theorem tw14712788248800914211 : True := trivial
theorem tw3342057703181369187 : True := trivial
theorem tw18033094029107274659 : True := trivial
theorem tw9674029373200357315 : True := trivial
theorem tw4013279463360308195 : True := trivial
theorem tw931660475818177572 : True := trivial
theorem tw1371309508455710788 : True := trivial
theorem tw16117058581581159524 : True := trivial
theorem tw16202809675072147684 : True := trivial
theorem tw14813409532971850980 : True := trivial
theorem tw6323587196936026404 : True := trivial
theorem tw16919501515470212484 : True := trivial
theorem tw8625150890451242404 : True := trivial
theorem tw16243929693630145956 : True := trivial
theorem tw3005565664097731012 : True := trivial
theorem tw14080288483310669284 : True := trivial
theorem tw13805590150135435780 : True := trivial
theorem tw10617234182070124036 : True := trivial
theorem tw12048420987919427140 : True := trivial
theorem tw5726174784815394372 : True := trivial
theorem tw17208628556291269220 : True := trivial
theorem tw6625289197598902980 : True := trivial
theorem tw730400959473150724 : True := trivial
theorem tw15816193105443739428 : True := trivial
theorem tw14822367374961402724 : True := trivial
theorem tw16678879421539572580 : True := trivial
theorem tw10764951309439210372 : True := trivial
theorem tw8356356619094473700 : True := trivial
theorem tw9664930430628090949 : True := trivial
theorem tw10430930411268424837 : True := trivial
theorem tw16968620448088049829 : True := trivial
theorem tw2684056622085243045 : True := trivial
theorem tw2280310583540262117 : True := trivial
theorem tw279668168120710373 : True := trivial
theorem tw13191128951674778949 : True := trivial
theorem tw12192956922151994693 : True := trivial
theorem tw12831024275343255909 : True := trivial
theorem tw2611001002954175973 : True := trivial
theorem tw14614579151518092837 : True := trivial
theorem tw3976725330071373381 : True := trivial
theorem tw16179085901599884869 : True := trivial
theorem tw13598718443190445701 : True := trivial
theorem tw5059728734523232965 : True := trivial
theorem tw5293321963081559781 : True := trivial
theorem tw11511494065960649605 : True := trivial
theorem tw17476782465807228837 : True := trivial
theorem tw10503899073396287461 : True := trivial
theorem tw13374868775687525349 : True := trivial
theorem tw6478884906327492614 : True := trivial
theorem tw13132930985661101062 : True := trivial
theorem tw2176894308766744646 : True := trivial
theorem tw16726923255542758566 : True := trivial
theorem tw16486050816218166502 : True := trivial
theorem tw15310524616038797606 : True := trivial
theorem tw13478097869086396710 : True := trivial
theorem tw1119469462645884262 : True := trivial
theorem tw12916025100890140038 : True := trivial
theorem tw6956739159735260838 : True := trivial
theorem tw8524519946156063462 : True := trivial
theorem tw16145061025701659430 : True := trivial
theorem tw8494999691138864038 : True := trivial
theorem tw25766360433378214 : True := trivial
theorem tw14390538084180454342 : True := trivial
theorem tw1102198569273221094 : True := trivial
theorem tw12068151968406516743 : True := trivial
theorem tw6941955963496095751 : True := trivial
theorem tw12682677176611620903 : True := trivial
theorem tw16724311190481959 : True := trivial
theorem tw3146720152556091431 : True := trivial
theorem tw10735994765859114151 : True := trivial
theorem tw14830456167423635655 : True := trivial
theorem tw12346794292155239815 : True := trivial
theorem tw17765897859724716455 : True := trivial
theorem tw567451690131817031 : True := trivial
theorem tw8715717250150041255 : True := trivial
theorem tw6002868589908667143 : True := trivial
theorem tw1210319486792222503 : True := trivial
theorem tw15257449542591102855 : True := trivial
theorem tw1949429097458260935 : True := trivial
theorem tw7147071077489256423 : True := trivial
theorem tw3866009044564450312 : True := trivial
theorem tw31684905031137320 : True := trivial
theorem tw13994809352507292744 : True := trivial
theorem tw7340802518573008968 : True := trivial
theorem tw2243367554624047208 : True := trivial
theorem tw3466809434560838792 : True := trivial
theorem tw17832385158515329192 : True := trivial
theorem tw4126408896305762504 : True := trivial
theorem tw9866185236677679368 : True := trivial
theorem tw9995984694442078472 : True := trivial
theorem tw10281371988679142760 : True := trivial
theorem tw4339971408816159112 : True := trivial
theorem tw6063226231012108840 : True := trivial
theorem tw6815160804014977608 : True := trivial
theorem tw12940949359812660872 : True := trivial
theorem tw7140371206623403720 : True := trivial
theorem tw5510302559688858376 : True := trivial
theorem tw4743257372348675848 : True := trivial
theorem tw14803362912938539784 : True := trivial
theorem tw8019068988623487880 : True := trivial
theorem tw15401677332954390440 : True := trivial
theorem tw18235284738147840936 : True := trivial
theorem tw1263352707357737065 : True := trivial
theorem tw2727182791008563305 : True := trivial
theorem tw18127173651323290857 : True := trivial
theorem tw13430238058029527273 : True := trivial
theorem tw13513955786172498153 : True := trivial
theorem tw1176877201067783433 : True := trivial
theorem tw9420271541545258281 : True := trivial
theorem tw10877870771093928233 : True := trivial
theorem tw1830998229940289865 : True := trivial
theorem tw12789701372083021161 : True := trivial
theorem tw17598753205867922793 : True := trivial
theorem tw14260776381688489353 : True := trivial
theorem tw18407578578114196905 : True := trivial
theorem tw5228867962152434313 : True := trivial
theorem tw8991103215277041321 : True := trivial
theorem tw6733872037992967945 : True := trivial
theorem tw4195521088892293929 : True := trivial
theorem tw6295229576158820137 : True := trivial
theorem tw9168123906888946505 : True := trivial
theorem tw2428692399514908489 : True := trivial
theorem tw4822147837620921193 : True := trivial
theorem tw18228488999395028841 : True := trivial
theorem tw2365744070525814633 : True := trivial
theorem tw4558490380332019593 : True := trivial
theorem tw13022450793628041129 : True := trivial
theorem tw3677205665312833706 : True := trivial
theorem tw15469487893117078762 : True := trivial
theorem tw6940199930630288650 : True := trivial
theorem tw3110485039407452426 : True := trivial
theorem tw6737761269403626922 : True := trivial
theorem tw1737275963493424650 : True := trivial
theorem tw14209172125332737578 : True := trivial
theorem tw10893331243333198538 : True := trivial
theorem tw14260797872285697802 : True := trivial
theorem tw3347549569476901642 : True := trivial
theorem tw7338913385999708970 : True := trivial
theorem tw7139993091595155402 : True := trivial
theorem tw13663451668612731882 : True := trivial
theorem tw11907367159152549931 : True := trivial
theorem tw15540723685189919819 : True := trivial
theorem tw9995118763170800843 : True := trivial
theorem tw17472560371292578027 : True := trivial
theorem tw12382644046948966795 : True := trivial
theorem tw16602767495598638475 : True := trivial
theorem tw6482580927042560523 : True := trivial
theorem tw17110815909134415403 : True := trivial
theorem tw9635198065992876619 : True := trivial
theorem tw18057217729895537227 : True := trivial
theorem tw17028721586757666411 : True := trivial
theorem tw4618874179838853835 : True := trivial
theorem tw7848463262943408843 : True := trivial
theorem tw6409023947960570603 : True := trivial
theorem tw8429848959562030859 : True := trivial
theorem tw8063125405401087883 : True := trivial
theorem tw16278087581974338475 : True := trivial
theorem tw13461064184710306795 : True := trivial
theorem tw2217766583698913292 : True := trivial
theorem tw17887236461241126956 : True := trivial
theorem tw17329187642094012460 : True := trivial
theorem tw15320073472298079308 : True := trivial
theorem tw810982326618939500 : True := trivial
theorem tw13808987453979323532 : True := trivial
theorem tw12757058139233361036 : True := trivial
theorem tw11629540545574922540 : True := trivial
theorem tw16860976649678222700 : True := trivial
theorem tw17457837683126827404 : True := trivial
theorem tw17022475730218704300 : True := trivial
theorem tw11000775656881037868 : True := trivial
theorem tw17856402031280799276 : True := trivial
theorem tw12697009049687833132 : True := trivial
theorem tw8054599211706122924 : True := trivial
theorem tw4813543797520328524 : True := trivial
theorem tw10235406728455949228 : True := trivial
theorem tw10903207442116608940 : True := trivial
theorem tw5352472697719661516 : True := trivial
theorem tw10626301486015442892 : True := trivial
theorem tw6594119434030594028 : True := trivial
theorem tw1489053930800022605 : True := trivial
theorem tw2452097478037638221 : True := trivial
theorem tw15576971807440277613 : True := trivial
theorem tw1182109017637471437 : True := trivial
theorem tw8240408036827655405 : True := trivial
theorem tw11960041272456059149 : True := trivial
theorem tw14172469048364896557 : True := trivial
theorem tw1172564258759594285 : True := trivial
theorem tw12587172548729878829 : True := trivial
theorem tw16804488755648338253 : True := trivial
theorem tw14711777046222437773 : True := trivial
theorem tw6089984795090779565 : True := trivial
theorem tw5032404393015676365 : True := trivial
theorem tw2863840025365121517 : True := trivial
theorem tw10318170113013491213 : True := trivial
theorem tw4559433592477941261 : True := trivial
theorem tw8364639579445854829 : True := trivial
theorem tw10343102163910273741 : True := trivial
theorem tw17791756961238182605 : True := trivial
theorem tw11213059113957822253 : True := trivial
theorem tw1656688457298413357 : True := trivial
theorem tw869566648676029261 : True := trivial
theorem tw10634780740326383533 : True := trivial
theorem tw1691345770718916589 : True := trivial
theorem tw3052925196454390798 : True := trivial
theorem tw6580236516225192014 : True := trivial
theorem tw13621431307283393646 : True := trivial
theorem tw1440079198516308238 : True := trivial
theorem tw8099868047825351982 : True := trivial
theorem tw2141982653909716302 : True := trivial
theorem tw9354236112767201646 : True := trivial
theorem tw15148215541034885550 : True := trivial
theorem tw360806189197428174 : True := trivial
theorem tw2488572994370692686 : True := trivial
theorem tw17654919782012483150 : True := trivial
theorem tw18401439910520161902 : True := trivial
theorem tw9617364891409545838 : True := trivial
theorem tw5050481203991582318 : True := trivial
theorem tw13496219688176476878 : True := trivial
theorem tw6523209919136009998 : True := trivial
theorem tw12701903154451184462 : True := trivial
theorem tw1591607009336557486 : True := trivial
theorem tw2613953072585015214 : True := trivial
theorem tw15160878551017364430 : True := trivial
theorem tw6487487448487681135 : True := trivial
theorem tw13285766889658198255 : True := trivial
theorem tw2567837507014472975 : True := trivial
theorem tw9657741639140590863 : True := trivial
theorem tw11469687293422026031 : True := trivial
theorem tw2072459130599581071 : True := trivial
theorem tw11044228648015157679 : True := trivial
theorem tw5316306328398064239 : True := trivial
theorem tw2279090562891712175 : True := trivial
theorem tw17338289201828524751 : True := trivial
theorem tw10602569230890028815 : True := trivial
theorem tw5391452116624059375 : True := trivial
theorem tw5624116443558626352 : True := trivial
theorem tw2470610175218995344 : True := trivial
theorem tw1367766767814116560 : True := trivial
theorem tw3614071848397261072 : True := trivial
theorem tw1876619465180484912 : True := trivial
theorem tw17840715432143234352 : True := trivial
theorem tw13104073017925372208 : True := trivial
theorem tw4209272492287322480 : True := trivial
theorem tw17828644948025829744 : True := trivial
theorem tw1625595661100001680 : True := trivial
theorem tw1157578027382814096 : True := trivial
theorem tw12494222700125250960 : True := trivial
theorem tw14137305230924050832 : True := trivial
theorem tw1000604207334498832 : True := trivial
theorem tw16762934340905633456 : True := trivial
theorem tw14748434597757990608 : True := trivial
theorem tw13121093815981465296 : True := trivial
theorem tw4767727357186532080 : True := trivial
theorem tw15196596439567385392 : True := trivial
theorem tw7553745943007826736 : True := trivial
theorem tw6795288940536381232 : True := trivial
theorem tw6596267355198963632 : True := trivial
theorem tw2164547203315049424 : True := trivial
theorem tw785953141839947728 : True := trivial
theorem tw8958988568983941104 : True := trivial
theorem tw3030626890474510353 : True := trivial
theorem tw1088934914439518257 : True := trivial
theorem tw7891870885597212753 : True := trivial
theorem tw995227563023970385 : True := trivial
theorem tw390976375150048369 : True := trivial
theorem tw3403810965330604145 : True := trivial
theorem tw14640031987803446417 : True := trivial
theorem tw17245379127599784145 : True := trivial
theorem tw6752581872597758161 : True := trivial
theorem tw17072346085415077201 : True := trivial
theorem tw9683732151059711345 : True := trivial
theorem tw18413559870901009905 : True := trivial
theorem tw15994476502921653777 : True := trivial
theorem tw6028180505300666993 : True := trivial
theorem tw8327079965127796401 : True := trivial
theorem tw16896288541172463345 : True := trivial
theorem tw4778712564441964337 : True := trivial
theorem tw9087393715201527633 : True := trivial
theorem tw2078598054867765105 : True := trivial
theorem tw14707282602680724433 : True := trivial
theorem tw18240632204051141874 : True := trivial
theorem tw13726751111728202066 : True := trivial
theorem tw1846086099681852754 : True := trivial
theorem tw2383676028823600466 : True := trivial
theorem tw12030991321646008690 : True := trivial
theorem tw11983233526669491570 : True := trivial
theorem tw17965881507727107442 : True := trivial
theorem tw9739588751170995602 : True := trivial
theorem tw8115372972227061330 : True := trivial
theorem tw3040237069264083666 : True := trivial
theorem tw7203219887152797426 : True := trivial
theorem tw16773434052959937266 : True := trivial
theorem tw6367899894097327858 : True := trivial
theorem tw6504308457100632818 : True := trivial
theorem tw4356952799856182066 : True := trivial
theorem tw6088734980908758866 : True := trivial
theorem tw17074876824077831026 : True := trivial
theorem tw7449373548496105394 : True := trivial
theorem tw14143713677607683058 : True := trivial
theorem tw9818007199780268018 : True := trivial
theorem tw6280318155683723315 : True := trivial
theorem tw10720305703057357971 : True := trivial
theorem tw14705250087738463443 : True := trivial
theorem tw13906535116304004339 : True := trivial
theorem tw17663695030856738099 : True := trivial
theorem tw52760719067935059 : True := trivial
theorem tw12712129184267660627 : True := trivial
theorem tw8374421686117127539 : True := trivial
theorem tw13278370033089245619 : True := trivial
theorem tw15625861119436559827 : True := trivial
theorem tw874734601575089651 : True := trivial
theorem tw10461454765740282451 : True := trivial
theorem tw18203339123158012499 : True := trivial
theorem tw6536406946677538419 : True := trivial
theorem tw8932759662210906739 : True := trivial
theorem tw1862969665730185875 : True := trivial
theorem tw10862724949296214803 : True := trivial
theorem tw16738445072916393747 : True := trivial
theorem tw10395302749579478835 : True := trivial
theorem tw13398194777439582035 : True := trivial
theorem tw3546157905704575923 : True := trivial
theorem tw8262958009629790163 : True := trivial
theorem tw4414236821763414036 : True := trivial
theorem tw1273896924349611060 : True := trivial
theorem tw18271804622456375348 : True := trivial
theorem tw12324627706951949396 : True := trivial
theorem tw9547143523185004660 : True := trivial
theorem tw9176905942796742804 : True := trivial
theorem tw12883308720751395060 : True := trivial
theorem tw4162178957892050164 : True := trivial
theorem tw1512094120613164276 : True := trivial
theorem tw15463738473692903828 : True := trivial
theorem tw6078321608578035092 : True := trivial
theorem tw16156846288349098452 : True := trivial
theorem tw17060216087351408116 : True := trivial
theorem tw11570566319129490964 : True := trivial
theorem tw8222082894015697460 : True := trivial
theorem tw6045452590892615252 : True := trivial
theorem tw16241393687868805780 : True := trivial
theorem tw9061534617037137588 : True := trivial
theorem tw16310850572907077364 : True := trivial
theorem tw12718984425638657780 : True := trivial
theorem tw16181712041141631796 : True := trivial
theorem tw2439776378369070964 : True := trivial
theorem tw203864380636308468 : True := trivial
theorem tw1126461641186259956 : True := trivial
theorem tw40509155804303381 : True := trivial
theorem tw15892427632755138645 : True := trivial
theorem tw11847033173562927189 : True := trivial
theorem tw3224919525169651861 : True := trivial
theorem tw14983968786332554389 : True := trivial
theorem tw18142731243870057621 : True := trivial
theorem tw10953249648120460469 : True := trivial
theorem tw10256044410557319381 : True := trivial
theorem tw16120976206703025365 : True := trivial
theorem tw13548204725589466325 : True := trivial
theorem tw784330839124595957 : True := trivial
theorem tw13107485819520576757 : True := trivial
theorem tw2715860966541292821 : True := trivial
theorem tw7076460400651881813 : True := trivial
theorem tw13392340626439117141 : True := trivial
theorem tw11653414217321193813 : True := trivial
theorem tw14782167375829056885 : True := trivial
theorem tw12851996389314654581 : True := trivial
theorem tw18389468686885160501 : True := trivial
theorem tw5902437649775605333 : True := trivial
theorem tw5864485828369538741 : True := trivial
theorem tw4614620357349885621 : True := trivial
theorem tw11195288676327971509 : True := trivial
theorem tw11067010982296490709 : True := trivial
theorem tw7514478951808843637 : True := trivial
theorem tw12787992747851530165 : True := trivial
theorem tw1267113142853941205 : True := trivial
theorem tw16381878858878167029 : True := trivial
theorem tw15892117230476183541 : True := trivial
theorem tw9403758998569295926 : True := trivial
theorem tw3408450075419432150 : True := trivial
theorem tw26674482770108662 : True := trivial
theorem tw2379025306354698486 : True := trivial
theorem tw12561857764223045878 : True := trivial
theorem tw10054019687476583734 : True := trivial
theorem tw16865855820858491190 : True := trivial
theorem tw10575443907814531478 : True := trivial
theorem tw12530752252775178678 : True := trivial
theorem tw14054861811829195222 : True := trivial
theorem tw15284011350077218262 : True := trivial
theorem tw344703569864276470 : True := trivial
theorem tw5251904657589290518 : True := trivial
theorem tw11453957422583115350 : True := trivial
theorem tw13413721368943323894 : True := trivial
theorem tw5172876120708181782 : True := trivial
theorem tw16098686721371579158 : True := trivial
theorem tw2296739102141859670 : True := trivial
theorem tw12182777457557792630 : True := trivial
theorem tw14804626266775574454 : True := trivial
theorem tw6906690490006467639 : True := trivial
theorem tw14665661719612597303 : True := trivial
theorem tw8292955719833623639 : True := trivial
theorem tw1439655074051512407 : True := trivial
theorem tw1458716721534789751 : True := trivial
theorem tw17062619864520606871 : True := trivial
theorem tw7894835583152144535 : True := trivial
theorem tw1138979612676154551 : True := trivial
theorem tw14850021786635886807 : True := trivial
theorem tw10436612048587882807 : True := trivial
theorem tw18104907835490207191 : True := trivial
theorem tw3191299949453902327 : True := trivial
theorem tw7765487534957593111 : True := trivial
theorem tw1240506658067409495 : True := trivial
theorem tw17169000355200983735 : True := trivial
theorem tw10830925855805898519 : True := trivial
theorem tw12803887503481072471 : True := trivial
theorem tw16055293011602263927 : True := trivial
theorem tw10147712082138504087 : True := trivial
theorem tw4269296797782919095 : True := trivial
theorem tw3650919185853998039 : True := trivial
theorem tw725783761686622199 : True := trivial
theorem tw17355152490322896952 : True := trivial
theorem tw14076038190865438936 : True := trivial
theorem tw14834307148585996504 : True := trivial
theorem tw10963200942766543096 : True := trivial
theorem tw4900357267751263512 : True := trivial
theorem tw11267717524257898808 : True := trivial
theorem tw4867430177651919320 : True := trivial
theorem tw15975556034477480440 : True := trivial
theorem tw11581946630677115416 : True := trivial
theorem tw9966271486745171512 : True := trivial
theorem tw1055399421622846200 : True := trivial
theorem tw7717170588685731608 : True := trivial
theorem tw3748529266611274552 : True := trivial
theorem tw1994105939726958424 : True := trivial
theorem tw4199387777264686936 : True := trivial
theorem tw11669725004186523640 : True := trivial
theorem tw14113976453143840889 : True := trivial
theorem tw6677964106936032441 : True := trivial
theorem tw14676155095356569849 : True := trivial
theorem tw15787093639853134073 : True := trivial
theorem tw16771042171372105049 : True := trivial
theorem tw8576350725499535737 : True := trivial
theorem tw3298355436916812249 : True := trivial
theorem tw18403128990208318937 : True := trivial
theorem tw13784832729640658425 : True := trivial
theorem tw2670445566500152857 : True := trivial
theorem tw10675693717720428185 : True := trivial
theorem tw14067658308897591961 : True := trivial
theorem tw7939591929698840313 : True := trivial
theorem tw4424393360930415353 : True := trivial
theorem tw8495381507292104505 : True := trivial
theorem tw3099098461280750489 : True := trivial
theorem tw12553188390631101498 : True := trivial
theorem tw13757896505815173178 : True := trivial
theorem tw16780731762692720730 : True := trivial
theorem tw4919032761791956090 : True := trivial
theorem tw18353913522151792826 : True := trivial
theorem tw16079283460522032314 : True := trivial
theorem tw8464768173290591418 : True := trivial
theorem tw16132423170967500058 : True := trivial
theorem tw17054651184105508122 : True := trivial
theorem tw17253258663807181146 : True := trivial
theorem tw15638830894624592218 : True := trivial
theorem tw6761639390552747354 : True := trivial
theorem tw1141873331419999674 : True := trivial
theorem tw16274792767964063258 : True := trivial
theorem tw982946820801082938 : True := trivial
theorem tw10317063343626404506 : True := trivial
theorem tw3505570601176301274 : True := trivial
theorem tw10172041583744966394 : True := trivial
theorem tw5971180443563854586 : True := trivial
theorem tw18382723224088387450 : True := trivial
theorem tw8236679270906654714 : True := trivial
theorem tw2189213760073265243 : True := trivial
theorem tw1805802649391474843 : True := trivial
theorem tw6458634455672854715 : True := trivial
theorem tw15358187055583446395 : True := trivial
theorem tw14270051791513797051 : True := trivial
theorem tw5099506816989871547 : True := trivial
theorem tw10216145567738503739 : True := trivial
theorem tw6601854043333899835 : True := trivial
theorem tw16861444819231275611 : True := trivial
theorem tw8824792448472076955 : True := trivial
theorem tw12829099360043051771 : True := trivial
theorem tw4453918336519105339 : True := trivial
theorem tw6516659910367892315 : True := trivial
theorem tw10701967480161147 : True := trivial
theorem tw1456252343097613211 : True := trivial
theorem tw14341317531842767835 : True := trivial
theorem tw8407232654779908156 : True := trivial
theorem tw11905365683586845820 : True := trivial
theorem tw1424367686766548124 : True := trivial
theorem tw8587641273060655324 : True := trivial
theorem tw14081255804742602972 : True := trivial
theorem tw16279043404260492540 : True := trivial
theorem tw2166720364048168252 : True := trivial
theorem tw4632061940760417628 : True := trivial
theorem tw3986108395002343900 : True := trivial
theorem tw600569470783648252 : True := trivial
theorem tw7559131645274171996 : True := trivial
theorem tw1736217073948602044 : True := trivial
theorem tw3669034515007939260 : True := trivial
theorem tw12129128949334170332 : True := trivial
theorem tw2146170318917068540 : True := trivial
theorem tw2713516626757525276 : True := trivial
theorem tw8363435012293380988 : True := trivial
theorem tw10268789612305058716 : True := trivial
theorem tw584034678146724796 : True := trivial
theorem tw1835398717035668444 : True := trivial
theorem tw15702253141372396540 : True := trivial
theorem tw9021940062826778717 : True := trivial
theorem tw13517938834948553885 : True := trivial
theorem tw7324342867008019677 : True := trivial
theorem tw4400571041836564733 : True := trivial
theorem tw3405835877112690941 : True := trivial
theorem tw7828483458316000541 : True := trivial
theorem tw1165462488445470013 : True := trivial
theorem tw17568878861452320093 : True := trivial
theorem tw8697751552436152701 : True := trivial
theorem tw8631377556697119165 : True := trivial
theorem tw10396488250679400925 : True := trivial
theorem tw13971040379888996957 : True := trivial
theorem tw16724818047978716765 : True := trivial
theorem tw1707051222879992445 : True := trivial
theorem tw16531591145588754045 : True := trivial
theorem tw14311257044362736285 : True := trivial
theorem tw6105470330212558493 : True := trivial
theorem tw8935946402188524253 : True := trivial
theorem tw2630984997299145501 : True := trivial
theorem tw7726823112314669885 : True := trivial
theorem tw17474836441297615677 : True := trivial
theorem tw6431924091821414301 : True := trivial
theorem tw1274941951031709629 : True := trivial
theorem tw6669630070551239645 : True := trivial
theorem tw13789749514778618974 : True := trivial
theorem tw380421426732075198 : True := trivial
theorem tw1260773566715116766 : True := trivial
theorem tw14377960845261012254 : True := trivial
theorem tw7479960979045891390 : True := trivial
theorem tw13789510525620598110 : True := trivial
theorem tw10877620166677080446 : True := trivial
theorem tw15297765883374416254 : True := trivial
theorem tw7267634769607700894 : True := trivial
theorem tw3706778363306754494 : True := trivial
theorem tw9025974295316422078 : True := trivial
theorem tw15841212313519914494 : True := trivial
theorem tw8276012093512703518 : True := trivial
theorem tw3751353006114592286 : True := trivial
theorem tw7525336314255155870 : True := trivial
theorem tw4183824782871335678 : True := trivial
theorem tw14386103233420148510 : True := trivial
theorem tw3349486234667703102 : True := trivial
theorem tw11441274976583526270 : True := trivial
theorem tw2156615166729978782 : True := trivial
theorem tw12456952784507473918 : True := trivial
theorem tw14126257080521704479 : True := trivial
theorem tw12421235942789050431 : True := trivial
theorem tw7121353288009130143 : True := trivial
theorem tw10939558875373347007 : True := trivial
theorem tw14590249189068875999 : True := trivial
theorem tw12568806779039970527 : True := trivial
theorem tw17864073756786541823 : True := trivial
theorem tw13328611729972859199 : True := trivial
theorem tw15797343561314462111 : True := trivial
theorem tw5005063363034112607 : True := trivial
theorem tw17108721715404454527 : True := trivial
theorem tw14212861295159267103 : True := trivial
theorem tw5718641554153719583 : True := trivial
theorem tw12674342516773505919 : True := trivial
theorem tw9138752491086409695 : True := trivial
theorem tw4376527346187028968 : True := trivial
end PySem.W.Fast
open PySem PySem.W PyProof.Rows
set_option maxRecDepth 100000 in
set_option maxHeartbeats 0 in
theorem PySem.Challenge.cw_pulsevoice_s01_answers_holds : PySem.Challenge.rw_pulsevoice_s01_answers.Holds := by
  w_on
  k_headS
  (case hw => exact ⟨[.list [.int 0]], by decide +kernel, by decide +kernel⟩)
  k_fillS
  refine Px.walk rfl rfl (fun w h Y => PySem.W.kIn_of Y) ?F
  case F =>
    intro w mg h KX G
    refine' Px.txt_of (Px.Txt.mk ?c_ORDER ?c_QUARTER ?c_SHORTEST_LAG ?c_LONGEST_LAG ?c_LOWEST ?c_HIGHEST ?c_LOWEST_LONG ?c_HIGHEST_LONG ?c_HEADROOM_forecast ?c_MARK ?c_QUARTERS ?c_BITS_BEHIND_MARK ?c_PULSES ?c_GRIDS ?c_SPACING ?c_HEADROOM_reflections ?c_BEGIN ?c_TO_BYTES ?c_TO_SAMPLES ?c_DONE ?c_NOT_A_FRAME ?t_GAINS ?t_GAIN_BOUNDS ?t_SCALES ?t_OFFSETS ?t_LOWEST_CODES ?t_INVERSES ?t_SPECTRUM_WIDTHS ?t_QUARTER_WIDTHS ?t_WEIGHTS ?t_SHRINKS ?t_GROWTHS ?u_STRETCHES ?b_max ?b_min ?b_sum ?b_len ?b_abs ?b_list ?b_range ?b_zip ?b_enumerate ?f_stopped ?f_stopped_long ?f_low_bits ?f_plus ?f_minus ?f_rounded_product ?f_product ?f_size ?f_greatest_size ?f_with_sign_of ?f_doublings ?f_headroom_shift ?f_at_lag ?f_resemblance ?f_best_lag ?f_gain_code ?f_lag_and_gain ?f_forecast ?f_faded ?f_bent ?f_unbent ?f_code_of ?f_codes_of ?f_number_of ?f_numbers_of ?f_mostly ?f_between ?f_factors_of ?f_filters ?f_widths ?f_packed ?f_is_marked ?f_unpacked ?f_spectrum_part ?f_quarter_parts ?f_weighed ?f_weighed_one ?f_on_grid ?f_energy ?f_best_grid ?f_size_code ?f_exponent_and_mantissa ?f_pulse_codes ?f_pulse_values ?f_spread ?f_rebuilt ?f_lowered ?f_lifted ?f_likeness ?f_likenesses ?f_normed ?f_quotient ?f_reflection ?f_next_ahead ?f_next_behind ?f_reflections ?f_scale_shift ?f_row_at ?f_answers ?k_Front ?n_Front ?a_Front_last_halved ?a_Front_steady_free ?a_Front_last_rounded ?m_Front_init ?m_Front_raised ?m_Front_raised_one ?k_Flattener ?n_Flattener ?a_Flattener_delayed ?m_Flattener_init ?m_Flattener_flat ?m_Flattener_flat_one ?k_Shaper ?n_Shaper ?a_Shaper_delayed ?m_Shaper_init ?m_Shaper_shaped ?m_Shaper_shaped_one ?k_Coder ?n_Coder ?a_Coder_front ?a_Coder_flattener ?a_Coder_spectrum ?a_Coder_past ?m_Coder_init ?m_Coder_frame_of ?m_Coder_residual_of ?m_Coder_quarter_codes ?k_Decoder ?n_Decoder ?a_Decoder_shaper ?a_Decoder_spectrum ?a_Decoder_past ?a_Decoder_lag ?a_Decoder_last_deep ?m_Decoder_init ?m_Decoder_samples_of ?m_Decoder_residual_of ?m_Decoder_deepened ?k_Telephone ?n_Telephone ?a_Telephone_coder ?a_Telephone_decoder ?m_Telephone_init ?m_Telephone_answer ?m_Telephone_begin ?m_Telephone_answer_to_frame)
    case n_Front => refine' Px.cn_mk KX G ?a; (case a => k_is)
    case n_Flattener => refine' Px.cn_mk KX G ?a; (case a => k_is)
    case n_Shaper => refine' Px.cn_mk KX G ?a; (case a => k_is)
    case n_Coder => refine' Px.cn_mk KX G ?a; (case a => k_is)
    case n_Decoder => refine' Px.cn_mk KX G ?a; (case a => k_is)
    case n_Telephone => refine' Px.cn_mk KX G ?a; (case a => k_is)
    case c_ORDER => refine' Px.cs_mk KX G ?a; (case a => k_is)
    case c_QUARTER => refine' Px.cs_mk KX G ?a; (case a => k_is)
    case c_SHORTEST_LAG => refine' Px.cs_mk KX G ?a; (case a => k_is)
    case c_LONGEST_LAG => refine' Px.cs_mk KX G ?a; (case a => k_is)
    case c_LOWEST => refine' Px.cs_mk KX G ?a; (case a => k_is)
    case c_HIGHEST => refine' Px.cs_mk KX G ?a; (case a => k_is)
    case c_LOWEST_LONG => refine' Px.cs_mk KX G ?a; (case a => k_is)
    case c_HIGHEST_LONG => refine' Px.cs_mk KX G ?a; (case a => k_is)
    case c_HEADROOM_forecast => refine' Px.cs_mk KX G ?a; (case a => k_is)
    case c_MARK => refine' Px.cs_mk KX G ?a; (case a => k_is)
    case c_QUARTERS => refine' Px.cs_mk KX G ?a; (case a => k_is)
    case c_BITS_BEHIND_MARK => refine' Px.cs_mk KX G ?a; (case a => k_is)
    case c_PULSES => refine' Px.cs_mk KX G ?a; (case a => k_is)
    case c_GRIDS => refine' Px.cs_mk KX G ?a; (case a => k_is)
    case c_SPACING => refine' Px.cs_mk KX G ?a; (case a => k_is)
    case c_HEADROOM_reflections => refine' Px.cs_mk KX G ?a; (case a => k_is)
    case c_BEGIN => refine' Px.cs_mk KX G ?a; (case a => k_is)
    case c_TO_BYTES => refine' Px.cs_mk KX G ?a; (case a => k_is)
    case c_TO_SAMPLES => refine' Px.cs_mk KX G ?a; (case a => k_is)
    case c_DONE => refine' Px.cs_mk KX G ?a; (case a => k_is)
    case c_NOT_A_FRAME => refine' Px.cs_mk KX G ?a; (case a => k_is)
    case t_GAINS => refine' Px.mt_mk KX G ?a ?l ?v ?z; (case a => k_is); (case l => k_is); (case v => rfl); (case z => decide)
    case t_GAIN_BOUNDS => refine' Px.mt_mk KX G ?a ?l ?v ?z; (case a => k_is); (case l => k_is); (case v => rfl); (case z => decide)
    case t_SCALES => refine' Px.mt_mk KX G ?a ?l ?v ?z; (case a => k_is); (case l => k_is); (case v => rfl); (case z => decide)
    case t_OFFSETS => refine' Px.mt_mk KX G ?a ?l ?v ?z; (case a => k_is); (case l => k_is); (case v => rfl); (case z => decide)
    case t_LOWEST_CODES => refine' Px.mt_mk KX G ?a ?l ?v ?z; (case a => k_is); (case l => k_is); (case v => rfl); (case z => decide)
    case t_INVERSES => refine' Px.mt_mk KX G ?a ?l ?v ?z; (case a => k_is); (case l => k_is); (case v => rfl); (case z => decide)
    case t_SPECTRUM_WIDTHS => refine' Px.mt_mk KX G ?a ?l ?v ?z; (case a => k_is); (case l => k_is); (case v => rfl); (case z => decide)
    case t_QUARTER_WIDTHS => refine' Px.mt_mk KX G ?a ?l ?v ?z; (case a => k_is); (case l => k_is); (case v => rfl); (case z => decide)
    case t_WEIGHTS => refine' Px.mt_mk KX G ?a ?l ?v ?z; (case a => k_is); (case l => k_is); (case v => rfl); (case z => decide)
    case t_SHRINKS => refine' Px.mt_mk KX G ?a ?l ?v ?z; (case a => k_is); (case l => k_is); (case v => rfl); (case z => decide)
    case t_GROWTHS => refine' Px.mt_mk KX G ?a ?l ?v ?z; (case a => k_is); (case l => k_is); (case v => rfl); (case z => decide)
    case u_STRETCHES => refine' Px.str_mk KX G ?a ?l ?v ?z ?l0 ?v0 ?z0 ?l1 ?v1 ?z1 ?l2 ?v2 ?z2 ?l3 ?v3 ?z3; (case a => k_is); (case l => k_is); (case v => rfl); (case z => decide); (case l0 => k_is); (case v0 => rfl); (case z0 => decide); (case l1 => k_is); (case v1 => rfl); (case z1 => decide); (case l2 => k_is); (case v2 => rfl); (case z2 => decide); (case l3 => k_is); (case v3 => rfl); (case z3 => decide)
    case b_max => refine' PySem.W.mg_none_of KX G ?a; (case a => k_is)
    case b_min => refine' PySem.W.mg_none_of KX G ?a; (case a => k_is)
    case b_sum => refine' PySem.W.mg_none_of KX G ?a; (case a => k_is)
    case b_len => refine' PySem.W.mg_none_of KX G ?a; (case a => k_is)
    case b_abs => refine' PySem.W.mg_none_of KX G ?a; (case a => k_is)
    case b_list => refine' PySem.W.mg_none_of KX G ?a; (case a => k_is)
    case b_range => refine' PySem.W.mg_none_of KX G ?a; (case a => k_is)
    case b_zip => refine' PySem.W.mg_none_of KX G ?a; (case a => k_is)
    case b_enumerate => refine' PySem.W.mg_none_of KX G ?a; (case a => k_is)
    case f_stopped => refine' Px.ft_mk KX G ?a ?l ?c ?k; (case a => k_is); (case l => k_is); (case c => k_is); (case k => k_is)
    case f_stopped_long => refine' Px.ft_mk KX G ?a ?l ?c ?k; (case a => k_is); (case l => k_is); (case c => k_is); (case k => k_is)
    case f_low_bits => refine' Px.ft_mk KX G ?a ?l ?c ?k; (case a => k_is); (case l => k_is); (case c => k_is); (case k => k_is)
    case f_plus => refine' Px.ft_mk KX G ?a ?l ?c ?k; (case a => k_is); (case l => k_is); (case c => k_is); (case k => k_is)
    case f_minus => refine' Px.ft_mk KX G ?a ?l ?c ?k; (case a => k_is); (case l => k_is); (case c => k_is); (case k => k_is)
    case f_rounded_product => refine' Px.ft_mk KX G ?a ?l ?c ?k; (case a => k_is); (case l => k_is); (case c => k_is); (case k => k_is)
    case f_product => refine' Px.ft_mk KX G ?a ?l ?c ?k; (case a => k_is); (case l => k_is); (case c => k_is); (case k => k_is)
    case f_size => refine' Px.ft_mk KX G ?a ?l ?c ?k; (case a => k_is); (case l => k_is); (case c => k_is); (case k => k_is)
    case f_greatest_size => refine' Px.ft_mk KX G ?a ?l ?c ?k; (case a => k_is); (case l => k_is); (case c => k_is); (case k => k_is)
    case f_with_sign_of => refine' Px.ft_mk KX G ?a ?l ?c ?k; (case a => k_is); (case l => k_is); (case c => k_is); (case k => k_is)
    case f_doublings => refine' Px.ft_mk KX G ?a ?l ?c ?k; (case a => k_is); (case l => k_is); (case c => k_is); (case k => k_is)
    case f_headroom_shift => refine' Px.ft_mk KX G ?a ?l ?c ?k; (case a => k_is); (case l => k_is); (case c => k_is); (case k => k_is)
    case f_at_lag => refine' Px.ft_mk KX G ?a ?l ?c ?k; (case a => k_is); (case l => k_is); (case c => k_is); (case k => k_is)
    case f_resemblance => refine' Px.ft_mk KX G ?a ?l ?c ?k; (case a => k_is); (case l => k_is); (case c => k_is); (case k => k_is)
    case f_best_lag => refine' Px.ft_mk KX G ?a ?l ?c ?k; (case a => k_is); (case l => k_is); (case c => k_is); (case k => k_is)
    case f_gain_code => refine' Px.ft_mk KX G ?a ?l ?c ?k; (case a => k_is); (case l => k_is); (case c => k_is); (case k => k_is)
    case f_lag_and_gain => refine' Px.ft_mk KX G ?a ?l ?c ?k; (case a => k_is); (case l => k_is); (case c => k_is); (case k => k_is)
    case f_forecast => refine' Px.ft_mk KX G ?a ?l ?c ?k; (case a => k_is); (case l => k_is); (case c => k_is); (case k => k_is)
    case f_faded => refine' Px.ft_mk KX G ?a ?l ?c ?k; (case a => k_is); (case l => k_is); (case c => k_is); (case k => k_is)
    case f_bent => refine' Px.ft_mk KX G ?a ?l ?c ?k; (case a => k_is); (case l => k_is); (case c => k_is); (case k => k_is)
    case f_unbent => refine' Px.ft_mk KX G ?a ?l ?c ?k; (case a => k_is); (case l => k_is); (case c => k_is); (case k => k_is)
    case f_code_of => refine' Px.ft_mk KX G ?a ?l ?c ?k; (case a => k_is); (case l => k_is); (case c => k_is); (case k => k_is)
    case f_codes_of => refine' Px.ft_mk KX G ?a ?l ?c ?k; (case a => k_is); (case l => k_is); (case c => k_is); (case k => k_is)
    case f_number_of => refine' Px.ft_mk KX G ?a ?l ?c ?k; (case a => k_is); (case l => k_is); (case c => k_is); (case k => k_is)
    case f_numbers_of => refine' Px.ft_mk KX G ?a ?l ?c ?k; (case a => k_is); (case l => k_is); (case c => k_is); (case k => k_is)
    case f_mostly => refine' Px.ft_mk KX G ?a ?l ?c ?k; (case a => k_is); (case l => k_is); (case c => k_is); (case k => k_is)
    case f_between => refine' Px.ft_mk KX G ?a ?l ?c ?k; (case a => k_is); (case l => k_is); (case c => k_is); (case k => k_is)
    case f_factors_of => refine' Px.ft_mk KX G ?a ?l ?c ?k; (case a => k_is); (case l => k_is); (case c => k_is); (case k => k_is)
    case f_filters => refine' Px.ft_mk KX G ?a ?l ?c ?k; (case a => k_is); (case l => k_is); (case c => k_is); (case k => k_is)
    case f_widths => refine' Px.ft_mk KX G ?a ?l ?c ?k; (case a => k_is); (case l => k_is); (case c => k_is); (case k => k_is)
    case f_packed => refine' Px.ft_mk KX G ?a ?l ?c ?k; (case a => k_is); (case l => k_is); (case c => k_is); (case k => k_is)
    case f_is_marked => refine' Px.ft_mk KX G ?a ?l ?c ?k; (case a => k_is); (case l => k_is); (case c => k_is); (case k => k_is)
    case f_unpacked => refine' Px.ft_mk KX G ?a ?l ?c ?k; (case a => k_is); (case l => k_is); (case c => k_is); (case k => k_is)
    case f_spectrum_part => refine' Px.ft_mk KX G ?a ?l ?c ?k; (case a => k_is); (case l => k_is); (case c => k_is); (case k => k_is)
    case f_quarter_parts => refine' Px.ft_mk KX G ?a ?l ?c ?k; (case a => k_is); (case l => k_is); (case c => k_is); (case k => k_is)
    case f_weighed => refine' Px.ft_mk KX G ?a ?l ?c ?k; (case a => k_is); (case l => k_is); (case c => k_is); (case k => k_is)
    case f_weighed_one => refine' Px.ft_mk KX G ?a ?l ?c ?k; (case a => k_is); (case l => k_is); (case c => k_is); (case k => k_is)
    case f_on_grid => refine' Px.ft_mk KX G ?a ?l ?c ?k; (case a => k_is); (case l => k_is); (case c => k_is); (case k => k_is)
    case f_energy => refine' Px.ft_mk KX G ?a ?l ?c ?k; (case a => k_is); (case l => k_is); (case c => k_is); (case k => k_is)
    case f_best_grid => refine' Px.ft_mk KX G ?a ?l ?c ?k; (case a => k_is); (case l => k_is); (case c => k_is); (case k => k_is)
    case f_size_code => refine' Px.ft_mk KX G ?a ?l ?c ?k; (case a => k_is); (case l => k_is); (case c => k_is); (case k => k_is)
    case f_exponent_and_mantissa => refine' Px.ft_mk KX G ?a ?l ?c ?k; (case a => k_is); (case l => k_is); (case c => k_is); (case k => k_is)
    case f_pulse_codes => refine' Px.ft_mk KX G ?a ?l ?c ?k; (case a => k_is); (case l => k_is); (case c => k_is); (case k => k_is)
    case f_pulse_values => refine' Px.ft_mk KX G ?a ?l ?c ?k; (case a => k_is); (case l => k_is); (case c => k_is); (case k => k_is)
    case f_spread => refine' Px.ft_mk KX G ?a ?l ?c ?k; (case a => k_is); (case l => k_is); (case c => k_is); (case k => k_is)
    case f_rebuilt => refine' Px.ft_mk KX G ?a ?l ?c ?k; (case a => k_is); (case l => k_is); (case c => k_is); (case k => k_is)
    case f_lowered => refine' Px.ft_mk KX G ?a ?l ?c ?k; (case a => k_is); (case l => k_is); (case c => k_is); (case k => k_is)
    case f_lifted => refine' Px.ft_mk KX G ?a ?l ?c ?k; (case a => k_is); (case l => k_is); (case c => k_is); (case k => k_is)
    case f_likeness => refine' Px.ft_mk KX G ?a ?l ?c ?k; (case a => k_is); (case l => k_is); (case c => k_is); (case k => k_is)
    case f_likenesses => refine' Px.ft_mk KX G ?a ?l ?c ?k; (case a => k_is); (case l => k_is); (case c => k_is); (case k => k_is)
    case f_normed => refine' Px.ft_mk KX G ?a ?l ?c ?k; (case a => k_is); (case l => k_is); (case c => k_is); (case k => k_is)
    case f_quotient => refine' Px.ft_mk KX G ?a ?l ?c ?k; (case a => k_is); (case l => k_is); (case c => k_is); (case k => k_is)
    case f_reflection => refine' Px.ft_mk KX G ?a ?l ?c ?k; (case a => k_is); (case l => k_is); (case c => k_is); (case k => k_is)
    case f_next_ahead => refine' Px.ft_mk KX G ?a ?l ?c ?k; (case a => k_is); (case l => k_is); (case c => k_is); (case k => k_is)
    case f_next_behind => refine' Px.ft_mk KX G ?a ?l ?c ?k; (case a => k_is); (case l => k_is); (case c => k_is); (case k => k_is)
    case f_reflections => refine' Px.ft_mk KX G ?a ?l ?c ?k; (case a => k_is); (case l => k_is); (case c => k_is); (case k => k_is)
    case f_scale_shift => refine' Px.ft_mk KX G ?a ?l ?c ?k; (case a => k_is); (case l => k_is); (case c => k_is); (case k => k_is)
    case f_row_at => refine' Px.ft_mk KX G ?a ?l ?c ?k; (case a => k_is); (case l => k_is); (case c => k_is); (case k => k_is)
    case f_answers => refine' Px.ft_mk KX G ?a ?l ?c ?k; (case a => k_is); (case l => k_is); (case c => k_is); (case k => k_is)
    case k_Front => dsimp only; refine' ⟨?a, ?b, ?c, ?d⟩; (case a => k_is); (case b => k_is); (case c => k_is); (case d => k_is)
    case a_Front_last_halved => show PySem.W.findIn _ _ _ = _; dsimp only; k_is
    case a_Front_steady_free => show PySem.W.findIn _ _ _ = _; dsimp only; k_is
    case a_Front_last_rounded => show PySem.W.findIn _ _ _ = _; dsimp only; k_is
    case m_Front_init => dsimp only; refine' Px.mi_mk ?b ?d ?a ?i ?l ?c ?k; (case b => k_is); (case d => k_is); (case a => k_is); (case i => k_is); (case l => k_is); (case c => k_is); (case k => k_is)
    case m_Front_raised => dsimp only; refine' Px.mm_mk ?a ?i ?l ?c ?k; (case a => k_is); (case i => k_is); (case l => k_is); (case c => k_is); (case k => k_is)
    case m_Front_raised_one => dsimp only; refine' Px.mm_mk ?a ?i ?l ?c ?k; (case a => k_is); (case i => k_is); (case l => k_is); (case c => k_is); (case k => k_is)
    case k_Flattener => dsimp only; refine' ⟨?a, ?b, ?c, ?d⟩; (case a => k_is); (case b => k_is); (case c => k_is); (case d => k_is)
    case a_Flattener_delayed => show PySem.W.findIn _ _ _ = _; dsimp only; k_is
    case m_Flattener_init => dsimp only; refine' Px.mi_mk ?b ?d ?a ?i ?l ?c ?k; (case b => k_is); (case d => k_is); (case a => k_is); (case i => k_is); (case l => k_is); (case c => k_is); (case k => k_is)
    case m_Flattener_flat => dsimp only; refine' Px.mm_mk ?a ?i ?l ?c ?k; (case a => k_is); (case i => k_is); (case l => k_is); (case c => k_is); (case k => k_is)
    case m_Flattener_flat_one => dsimp only; refine' Px.mm_mk ?a ?i ?l ?c ?k; (case a => k_is); (case i => k_is); (case l => k_is); (case c => k_is); (case k => k_is)
    case k_Shaper => dsimp only; refine' ⟨?a, ?b, ?c, ?d⟩; (case a => k_is); (case b => k_is); (case c => k_is); (case d => k_is)
    case a_Shaper_delayed => show PySem.W.findIn _ _ _ = _; dsimp only; k_is
    case m_Shaper_init => dsimp only; refine' Px.mi_mk ?b ?d ?a ?i ?l ?c ?k; (case b => k_is); (case d => k_is); (case a => k_is); (case i => k_is); (case l => k_is); (case c => k_is); (case k => k_is)
    case m_Shaper_shaped => dsimp only; refine' Px.mm_mk ?a ?i ?l ?c ?k; (case a => k_is); (case i => k_is); (case l => k_is); (case c => k_is); (case k => k_is)
    case m_Shaper_shaped_one => dsimp only; refine' Px.mm_mk ?a ?i ?l ?c ?k; (case a => k_is); (case i => k_is); (case l => k_is); (case c => k_is); (case k => k_is)
    case k_Coder => dsimp only; refine' ⟨?a, ?b, ?c, ?d⟩; (case a => k_is); (case b => k_is); (case c => k_is); (case d => k_is)
    case a_Coder_front => show PySem.W.findIn _ _ _ = _; dsimp only; k_is
    case a_Coder_flattener => show PySem.W.findIn _ _ _ = _; dsimp only; k_is
    case a_Coder_spectrum => show PySem.W.findIn _ _ _ = _; dsimp only; k_is
    case a_Coder_past => show PySem.W.findIn _ _ _ = _; dsimp only; k_is
    case m_Coder_init => dsimp only; refine' Px.mi_mk ?b ?d ?a ?i ?l ?c ?k; (case b => k_is); (case d => k_is); (case a => k_is); (case i => k_is); (case l => k_is); (case c => k_is); (case k => k_is)
    case m_Coder_frame_of => dsimp only; refine' Px.mm_mk ?a ?i ?l ?c ?k; (case a => k_is); (case i => k_is); (case l => k_is); (case c => k_is); (case k => k_is)
    case m_Coder_residual_of => dsimp only; refine' Px.mm_mk ?a ?i ?l ?c ?k; (case a => k_is); (case i => k_is); (case l => k_is); (case c => k_is); (case k => k_is)
    case m_Coder_quarter_codes => dsimp only; refine' Px.mm_mk ?a ?i ?l ?c ?k; (case a => k_is); (case i => k_is); (case l => k_is); (case c => k_is); (case k => k_is)
    case k_Decoder => dsimp only; refine' ⟨?a, ?b, ?c, ?d⟩; (case a => k_is); (case b => k_is); (case c => k_is); (case d => k_is)
    case a_Decoder_shaper => show PySem.W.findIn _ _ _ = _; dsimp only; k_is
    case a_Decoder_spectrum => show PySem.W.findIn _ _ _ = _; dsimp only; k_is
    case a_Decoder_past => show PySem.W.findIn _ _ _ = _; dsimp only; k_is
    case a_Decoder_lag => show PySem.W.findIn _ _ _ = _; dsimp only; k_is
    case a_Decoder_last_deep => show PySem.W.findIn _ _ _ = _; dsimp only; k_is
    case m_Decoder_init => dsimp only; refine' Px.mi_mk ?b ?d ?a ?i ?l ?c ?k; (case b => k_is); (case d => k_is); (case a => k_is); (case i => k_is); (case l => k_is); (case c => k_is); (case k => k_is)
    case m_Decoder_samples_of => dsimp only; refine' Px.mm_mk ?a ?i ?l ?c ?k; (case a => k_is); (case i => k_is); (case l => k_is); (case c => k_is); (case k => k_is)
    case m_Decoder_residual_of => dsimp only; refine' Px.mm_mk ?a ?i ?l ?c ?k; (case a => k_is); (case i => k_is); (case l => k_is); (case c => k_is); (case k => k_is)
    case m_Decoder_deepened => dsimp only; refine' Px.mm_mk ?a ?i ?l ?c ?k; (case a => k_is); (case i => k_is); (case l => k_is); (case c => k_is); (case k => k_is)
    case k_Telephone => dsimp only; refine' ⟨?a, ?b, ?c, ?d⟩; (case a => k_is); (case b => k_is); (case c => k_is); (case d => k_is)
    case a_Telephone_coder => show PySem.W.findIn _ _ _ = _; dsimp only; k_is
    case a_Telephone_decoder => show PySem.W.findIn _ _ _ = _; dsimp only; k_is
    case m_Telephone_init => dsimp only; refine' Px.mi_mk ?b ?d ?a ?i ?l ?c ?k; (case b => k_is); (case d => k_is); (case a => k_is); (case i => k_is); (case l => k_is); (case c => k_is); (case k => k_is)
    case m_Telephone_answer => dsimp only; refine' Px.mm_mk ?a ?i ?l ?c ?k; (case a => k_is); (case i => k_is); (case l => k_is); (case c => k_is); (case k => k_is)
    case m_Telephone_begin => dsimp only; refine' Px.mm_mk ?a ?i ?l ?c ?k; (case a => k_is); (case i => k_is); (case l => k_is); (case c => k_is); (case k => k_is)
    case m_Telephone_answer_to_frame => dsimp only; refine' Px.mm_mk ?a ?i ?l ?c ?k; (case a => k_is); (case i => k_is); (case l => k_is); (case c => k_is); (case k => k_is)
