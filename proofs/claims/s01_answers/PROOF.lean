import PyProof.Rows.All
import Wide.All
import OpenK.AllK
import Wide.FinOn
import PyProof.EqAt
import PyProof.EqKinds
import PyProof.TupleCall
import KE.BitLaws
import Open.SpecLaws
import KE.OsHead
import KE.OsGo
import PyFlatLaws
import PySem.Challenge.RW_helifuel_s01_answers
section
set_option Elab.async false
set_option linter.all false
set_option maxRecDepth 100000
namespace L2
open PySem PySem.Spec PyProof.Rows
abbrev Key := Sum Int Str
def keyIs : Key → Value → Bool
  | .inl k, v => Value.isInt k v
  | .inr x, v => Value.isStrOf x v
def keyH (w : World) : Key → Int
  | .inl k => hashInt k
  | .inr x => hashStr w x
theorem keyIs_shape : ∀ {k : Key} {v : Value}, keyIs k v = true → (∃ i t, k = Sum.inl i ∧ v = Value.int i t) ∨ (∃ x t, k = Sum.inr x ∧ v = Value.str x t)
  | .inl i, v, h => by
    obtain ⟨t, e⟩ := Value.isInt_shape (k := i) (v := v) h
    exact .inl ⟨i, t, rfl, e⟩
  | .inr x, v, h => by
    obtain ⟨t, e⟩ := Value.isStrOf_shape (x := x) (v := v) h
    exact .inr ⟨x, t, rfl, e⟩
theorem keyIs_int (i : Int) (t : Tok) : keyIs (.inl i) (.int i t) = true := by simp [keyIs, Value.isInt]
theorem keyIs_str (x : Str) (t : Tok) : keyIs (.inr x) (.str x t) = true := by simp [keyIs, Value.isStrOf]
theorem key_ll (a b : Int) : decide ((Sum.inl a : Key) = Sum.inl b) = (a == b) := by
  by_cases e : a = b
  · subst e; simp
  · have h : ¬ (Sum.inl a : Key) = Sum.inl b := fun q => e (Sum.inl.inj q)
    rw [decide_eq_false h]
    exact (beq_eq_false_iff_ne.mpr e).symm
theorem key_rr (a b : Str) : decide ((Sum.inr a : Key) = Sum.inr b) = decide (a = b) := by
  by_cases e : a = b
  · subst e; simp
  · have h : ¬ (Sum.inr a : Key) = Sum.inr b := fun q => e (Sum.inr.inj q)
    rw [decide_eq_false h, decide_eq_false e]
theorem key_lr (a : Int) (b : Str) : decide ((Sum.inl a : Key) = Sum.inr b) = false := decide_eq_false (fun q => nomatch q)
theorem key_rl (a : Str) (b : Int) : decide ((Sum.inr a : Key) = Sum.inl b) = false := decide_eq_false (fun q => nomatch q)
def mixKind (prog : Program) (w : World) : PySem.KeyKind prog w Key where
  is := keyIs
  hash := keyH w
  inj := fun v a b ha hb => by
    rcases keyIs_shape ha with ⟨i, t, rfl, rfl⟩ | ⟨x, t, rfl, rfl⟩
    · rcases keyIs_shape hb with ⟨j, u, rfl, e⟩ | ⟨y, u, rfl, e⟩
      · injection e with e1 _; rw [e1]
      · exact nomatch e
    · rcases keyIs_shape hb with ⟨j, u, rfl, e⟩ | ⟨y, u, rfl, e⟩
      · exact nomatch e
      · injection e with e1 _; rw [e1]
  byValue := fun k v h => by
    rcases keyIs_shape h with ⟨i, t, rfl, rfl⟩ | ⟨x, t, rfl, rfl⟩ <;> rfl
  pyHash := fun hv h => by
    rcases keyIs_shape hv with ⟨i, t, rfl, rfl⟩ | ⟨x, t, rfl, rfl⟩
    · exact wpAny_pyHash_int h
    · exact wpAny_pyHash_str h
  eqBool := fun hu hv h => by
    rcases keyIs_shape hu with ⟨i, t, rfl, rfl⟩ | ⟨x, t, rfl, rfl⟩
    · rcases keyIs_shape hv with ⟨j, u, rfl, rfl⟩ | ⟨y, u, rfl, rfl⟩
      · rw [key_ll] at h; exact wpAny_eqBool_int h
      · rw [key_lr] at h; exact SeqAt.EqAt.int_str i t y u _ _ _ _ h
    · rcases keyIs_shape hv with ⟨j, u, rfl, rfl⟩ | ⟨y, u, rfl, rfl⟩
      · rw [key_rl] at h; exact SeqAt.EqAt.str_int x t j u _ _ _ _ h
      · rw [key_rr] at h; exact wpAny_eqBool_str h
  «strs» := fun k x t v h => by
    rcases keyIs_shape h with ⟨i, u, rfl, e⟩ | ⟨y, u, rfl, e⟩
    · exact nomatch e
    · injection e with e1 _
      subst e1
      cases v <;> rfl
theorem mixKind_int (prog : Program) (w : World) (i : Int) (t : Tok) : (mixKind prog w).is (.inl i) (.int i t) = true := keyIs_int i t
theorem mixKind_str (prog : Program) (w : World) (x : Str) (t : Tok) : (mixKind prog w).is (.inr x) (.str x t) = true := keyIs_str x t
end L2
namespace L2
open PySem PySem.Spec PyProof.Rows
inductive V where
  | non | bl (b : Bool) | int (i : Int) | str (x : Str) | byt (b : Array UInt8) | flt (b : UInt64) | ref (a : Addr) | ty (n : String)
  deriving DecidableEq
def RelV : V → Value → Prop
  | .non, u => u = Value.none
  | .bl b, u => u = Value.bool b
  | .int i, u => ∃ t, u = Value.int i t
  | .str x, u => ∃ t, u = Value.str x t
  | .byt b, u => ∃ t, u = Value.bytes b t
  | .flt b, u => ∃ t, u = Value.float b t
  | .ref a, u => u = Value.ref a
  | .ty n, u => u = Value.type n
abbrev Vals : List V → List Value → Prop := Paired RelV
theorem Vals.length {xs : List V} {us : List Value} (r : Vals xs us) : xs.length = us.length := Paired.length r
theorem Vals.get : ∀ {xs : List V} {us : List Value} {i : Nat} {x : V}, Vals xs us → xs[i]? = some x → ∃ u, us[i]? = some u ∧ RelV x u
  | _, _, _, _, .nil, e => by simp at e
  | _, _, 0, _, .cons r _, e => by simp at e; subst e; exact ⟨_, rfl, r⟩
  | _, _, i + 1, x, .cons _ t, e => by
    obtain ⟨u, h1, h2⟩ := Vals.get (i := i) (x := x) t (by simpa using e)
    exact ⟨u, by simpa using h1, h2⟩
theorem Vals.append : ∀ {xs ys : List V} {us ws : List Value}, Vals xs us → Vals ys ws → Vals (xs ++ ys) (us ++ ws)
  | _, _, _, _, .nil, s => s
  | _, _, _, _, .cons r t, s => .cons r (Vals.append t s)
theorem Vals.take : ∀ {xs : List V} {us : List Value} (n : Nat), Vals xs us → Vals (xs.take n) (us.take n)
  | _, _, 0, _ => .nil
  | _, _, _ + 1, .nil => .nil
  | _, _, n + 1, .cons r t => .cons r (Vals.take n t)
theorem Vals.drop : ∀ {xs : List V} {us : List Value} (n : Nat), Vals xs us → Vals (xs.drop n) (us.drop n)
  | _, _, 0, r => r
  | _, _, _ + 1, .nil => .nil
  | _, _, n + 1, .cons _ t => Vals.drop n t
def RelO : Option V → Option Value → Prop
  | some v, some u => RelV v u
  | none, none => True
  | _, _ => False
def KV {κ : Type} : List (κ × V) → List (κ × Value) → Prop := Paired fun (p : κ × V) (q : κ × Value) => p.1 = q.1 ∧ RelV p.2 q.2
def kV : Key → V
  | .inl i => .int i
  | .inr x => .str x
inductive HO where
  /-- a list -/
  | lst (xs : List V)
  /-- a tuple (never changes) -/
  | tup (xs : List V)
  /-- a dict whose keys are ints and texts; one whose keys are tuples of ints and texts (the empty one is both) -/
  | dK (kvs : List (Key × V)) | dT (kvs : List (List Key × V))
  /-- a set of ints: its members, its size -/
  | set (S : Int → Bool) (n : Nat)
  /-- an instance of the class at C, its dict at dx, its attributes -/
  | ins (C dx : Addr) (fs : List (Str × V))
  /-- the dict of the instance at x -/
  | own (x : Addr)
  /-- the dict of an exception -/
  | xd (fs : List (Str × V))
  /-- a bound method, f of x -/
  | met (f x : Addr)
  /-- a range object lo, lo + 1, .. below hi -/
  | rng (lo hi : Int)
  /-- a thing that is known to the object (the script; a dict while a loop walks it): read, never written while it is so -/
  | frz (o : Obj) (u : HO)
  /-- a code object's table -/
  | tbl (ps : Array Value)
  /-- any other thing, by what is true of its one object (a def of one's own: SetO a S n := HO.ext fun h => ..) -/
  | ext (φ : Heap → Prop)
abbrev Hp := Addr → Option HO
def upd (H : Hp) (a : Addr) (o : HO) : Hp := fun b => if b = a then some o else H b
theorem upd_same {H : Hp} {a : Addr} {o : HO} : upd H a o a = some o := by unfold upd; rw [if_pos rfl]
theorem upd_ne {H : Hp} {a b : Addr} {o : HO} (h : b ≠ a) : upd H a o b = H b := by unfold upd; rw [if_neg h]
theorem ne_of {H : Hp} {a b : Addr} {o u : HO} (h : H a = some o) (h' : H b = some u) (d : o ≠ u) : a ≠ b := by
  intro e; subst e; rw [h] at h'; exact d (Option.some.inj h')
theorem ne_of_none {H : Hp} {a b : Addr} {o : HO} (h : H a = some o) (h' : H b = none) : a ≠ b := by
  intro e; subst e; rw [h] at h'; cases h'
section
variable (P : Program) (w : World)
def ObjOk (H : Hp) (h : Heap) (a : Addr) : HO → Prop
  | .lst xs => xs.length ≤ sizeLine ∧ ∃ (its : List Value) (n : Nat), Vals xs its ∧ h.get? a = some { cls := .type "list", data := .seq its.toArray n }
  | .tup xs => xs.length ≤ sizeLine ∧ ∃ its : List Value, Vals xs its ∧ IsTup h a its.toArray
  | .dK kvs => kvs.length ≤ sizeLine ∧ (a == sysModules) = false ∧ ∃ vs, KV kvs vs ∧ h.DictOf (mixKind P w) a vs
  | .dT kvs => kvs.length ≤ sizeLine ∧ (a == sysModules) = false ∧ ∃ xs : List (List Key × Addr × Value),
      Paired (fun (p : List Key × V) (q : List Key × Addr × Value) => p.1 = q.1 ∧ H q.2.1 = some (.tup (p.1.map kV)) ∧ RelV p.2 q.2.2) kvs xs ∧
      ∃ o es ep, h.get? a = some o ∧ o.ExactDict ∧ o.data = .dict es ep ∧ es.toList = xs.map (entryOfKey (tupleKind (mixKind P w))) ∧ (xs.map (·.1)).Nodup
  | .set S n => h.SetOf (intKind P w) a S n
  | .ins C dx fs => H dx = some (.own a) ∧ fs.length ≤ 1000 ∧ dx ≠ a ∧ h.get? a = some (PySem.W.instObj C dx) ∧
      ∃ mA, h.Ns1 dx mA ∧ (∀ f, RelO (fs.lookup f) (mA f)) ∧ PySem.Within mA (fs.map (·.1))
  | .own _ => ∃ o, h.get? a = some o
  | .xd fs => ∃ mA, h.Ns1 a mA ∧ ∀ f, RelO (fs.lookup f) (mA f)
  | .rng lo hi => ∃ t u v, h.get? a = some { cls := .type "range", data := .fields #[.int lo t, .int hi u, .int 1 v] }
  | .frz o u => h.get? a = some o ∧ ObjOk H h a u
  | .tbl ps => h.get? a = some { cls := .none, data := .fields ps }
  | .met f x => h.get? a = some (PySem.W.methodObj (.ref f) (.ref x))
  | .ext φ => φ h ∧ (∃ o, h.get? a = some o) ∧ ∀ h1 h2 : Heap, φ h1 → (∀ o, h1.get? a = some o → h2.get? a = some o) → φ h2
def HOk (H : Hp) (h : Heap) : Prop := ∀ a o, H a = some o → ObjOk P w H h a o
end
section
variable {P : Program} {w : World} {H H' : Hp} {h h' : Heap} {a : Addr} {o : HO}
theorem ObjOk.lt (x : ObjOk P w H h a o) : a < h.objs.size := by
  cases o with
  | lst xs => obtain ⟨_, _, _, _, e⟩ := x; exact Heap.lt_size e
  | tup xs => obtain ⟨_, _, _, p⟩ := x; exact p.lt
  | dK kvs => obtain ⟨_, _, _, _, o, _, _, e, _⟩ := x; exact Heap.lt_size e
  | dT kvs => obtain ⟨_, _, _, _, o, _, _, e, _⟩ := x; exact Heap.lt_size e
  | set S n => obtain ⟨o, _, _, _, e, _⟩ := x; exact Heap.lt_size e
  | ins C dx fs => obtain ⟨_, _, _, e, _⟩ := x; exact Heap.lt_size e
  | own y => obtain ⟨_, e⟩ := x; exact Heap.lt_size e
  | xd fs => obtain ⟨_, ⟨_, _, _, e, _⟩, _⟩ := x; exact Heap.lt_size e
  | rng lo hi => obtain ⟨_, _, _, e⟩ := x; exact Heap.lt_size e
  | frz ob u => obtain ⟨e, _⟩ := x; exact Heap.lt_size e
  | tbl ps => exact Heap.lt_size (show h.get? a = some _ from x)
  | met f y => exact Heap.lt_size (show h.get? a = some _ from x)
  | ext φ => obtain ⟨_, ⟨_, e⟩, _⟩ := x; exact Heap.lt_size e
theorem Paired.mapP {α β : Type} {F G : α → β → Prop} : ∀ {l₁ : List α} {l₂ : List β}, Paired F l₁ l₂ → (∀ a b, F a b → G a b) → Paired G l₁ l₂
  | _, _, .nil, _ => .nil
  | _, _, .cons r t, f => .cons (f _ _ r) (Paired.mapP t f)
theorem ObjOk.stay (x : ObjOk P w H h a o) (k : ∀ b u, (b = a ∨ H b = some (.own a)) → h.get? b = some u → h'.get? b = some u)
    (ho : ∀ b, H b = some (.own a) → H' b = some (.own a)) (ht : ∀ b xs, H b = some (.tup xs) → H' b = some (.tup xs)) : ObjOk P w H' h' a o := by
  induction o with
  | lst xs => obtain ⟨z, its, n, r, e⟩ := x; exact ⟨z, its, n, r, k _ _ (.inl rfl) e⟩
  | tup xs => obtain ⟨z, its, r, ob, e, c⟩ := x; exact ⟨z, its, r, ob, k _ _ (.inl rfl) e, c⟩
  | dK kvs => obtain ⟨z, y, vs, r, ob, es, ep, e, c⟩ := x; exact ⟨z, y, vs, r, ob, es, ep, k _ _ (.inl rfl) e, c⟩
  | dT kvs =>
    obtain ⟨z, y, xs, r, ob, es, ep, e, c⟩ := x
    exact ⟨z, y, xs, Paired.mapP r fun p q z => ⟨z.1, ht _ _ z.2.1, z.2.2⟩, ob, es, ep, k _ _ (.inl rfl) e, c⟩
  | set S n => obtain ⟨ob, es, ep, t, e, c⟩ := x; exact ⟨ob, es, ep, t, k _ _ (.inl rfl) e, c⟩
  | ins C dx fs =>
    obtain ⟨d, z, ne, e, mA, ⟨od, es, ep, e2, c⟩, r⟩ := x
    exact ⟨ho _ d, z, ne, k _ _ (.inl rfl) e, mA, ⟨od, es, ep, k _ _ (.inr d) e2, c⟩, r⟩
  | own y => obtain ⟨ob, e⟩ := x; exact ⟨ob, k _ _ (.inl rfl) e⟩
  | xd fs => obtain ⟨mA, ⟨od, es, ep, e, c⟩, r⟩ := x; exact ⟨mA, ⟨od, es, ep, k _ _ (.inl rfl) e, c⟩, r⟩
  | rng lo hi => obtain ⟨t, u, v, e⟩ := x; exact ⟨t, u, v, k _ _ (.inl rfl) e⟩
  | frz ob u ih => obtain ⟨e, q⟩ := x; exact ⟨k _ _ (.inl rfl) e, ih q⟩
  | tbl ps =>
    have e : h.get? a = some { cls := .none, data := .fields ps } := x
    show h'.get? a = some { cls := .none, data := .fields ps }
    exact k a _ (.inl rfl) e
  | met f y =>
    have e : h.get? a = some (PySem.W.methodObj (.ref f) (.ref y)) := x
    show h'.get? a = some (PySem.W.methodObj (.ref f) (.ref y))
    exact k a _ (.inl rfl) e
  | ext φ => obtain ⟨p, ⟨o, e⟩, st⟩ := x; exact ⟨st _ _ p fun o q => k _ _ (.inl rfl) q, ⟨o, k _ _ (.inl rfl) e⟩, st⟩
theorem HOk.lt (x : HOk P w H h) (e : H a = some o) : a < h.objs.size := (x a o e).lt
theorem HOk.fresh (x : HOk P w H h) (e : h.objs.size ≤ a) : H a = none := by
  cases q : H a with
  | none => rfl
  | some u => exact absurd (Nat.lt_of_lt_of_le (x.lt q) e) (Nat.lt_irrefl _)
theorem HOk.kept (x : HOk P w H h) (k : ∀ b u, h.get? b = some u → h'.get? b = some u) : HOk P w H h' := fun a o e =>
  (x a o e).stay (fun b u _ q => k b u q) (fun _ q => q) fun _ _ q => q
theorem HOk.laid (x : HOk P w H h) (k : ∀ b u, h.get? b = some u → h'.get? b = some u) (hp : h.objs.size ≤ a) (new : ObjOk P w (upd H a o) h' a o) : HOk P w (upd H a o) h' := fun b u e => by
  have hn := x.fresh hp
  by_cases hb : b = a
  · subst hb; rw [upd_same] at e; cases e; exact new
  · rw [upd_ne hb] at e
    exact (x b u e).stay (fun c v _ q => k c v q) (fun c q => by rw [upd_ne (ne_of_none q hn)]; exact q) fun c xs q => by rw [upd_ne (ne_of_none q hn)]; exact q
end
def Rd (H : Hp) (a : Addr) (u : HO) : Prop := H a = some u ∨ ∃ o, H a = some (.frz o u)
theorem Rd.ok {P : Program} {w : World} {H : Hp} {h : Heap} {a : Addr} {u : HO} (r : Rd H a u) (x : HOk P w H h) : ObjOk P w H h a u := by
  rcases r with r | ⟨o, r⟩
  · exact x a u r
  · obtain ⟨_, q⟩ := x a _ r
    exact q
def Mut : Option HO → Prop
  | some (.lst _) => True
  | some (.dK _) => True
  | some (.dT _) => True
  | some (.set _ _) => True
  | some (.ins _ _ _) => True
  | some (.ext _) => True
  | _ => False
section
variable {P : Program} {w : World} {H : Hp} {h h' : Heap} {x e : Addr} {o' : HO}
theorem HOk.write (ok : HOk P w H h) (mu : Mut (H x)) (he : e = x ∨ H e = some (.own x)) (k : ∀ b u, b ≠ e → h.get? b = some u → h'.get? b = some u) (heo : ∃ u, h'.get? e = some u)
    (new : ObjOk P w (upd H x o') h' x o') : HOk P w (upd H x o') h' := fun b u q => by
  have nown : ∀ c y, H c = some (.own y) → c ≠ x := fun c y r z => by subst z; rw [r] at mu; exact mu
  have ntup : ∀ c xs, H c = some (.tup xs) → c ≠ x := fun c xs r z => by subst z; rw [r] at mu; exact mu
  by_cases hb : b = x
  · subst hb; rw [upd_same] at q; cases q; exact new
  · rw [upd_ne hb] at q
    by_cases hbe : b = e
    · have q' : H b = some (.own x) := by
        rcases he with z | z
        · exact absurd (hbe.trans z) hb
        · rw [hbe]; exact z
      rw [q] at q'; cases q'
      obtain ⟨v, hv⟩ := heo
      exact ⟨v, by rw [hbe]; exact hv⟩
    · refine (ok b u q).stay (fun c v hc r => k c v ?_ r) (fun c r => by rw [upd_ne (nown c b r)]; exact r) fun c xs r => by rw [upd_ne (ntup c xs r)]; exact r
      rcases hc with rfl | hc
      · exact hbe
      · rintro rfl
        rcases he with z | z
        · exact nown c b hc z
        · rw [hc] at z; cases z; exact hb rfl
end
structure Un (fs ex : List Addr) (H H' : Hp) (h h' : Heap) : Prop where
  keep : ∀ b o, h.get? b = some o → H b = none → b ∉ fs → b ∉ ex → h'.get? b = some o
  slot : ∀ b o, h.get? b = some o → H b = none → b ∈ fs → b ∉ ex → ∃ sl, h'.get? b = some { o with slots := sl }
  free : ∀ b o, h.get? b = some o → H b = none → b ∉ ex → H' b = none
  there : ∀ b o, h.get? b = some o → b ∉ ex → ∃ o', h'.get? b = some o'
  tups : ∀ b xs, H b = some (.tup xs) → H' b = some (.tup xs)
  frzs : ∀ b o u, H b = some (.frz o u) → H' b = some (.frz o u)
  tbls : ∀ b ps, H b = some (.tbl ps) → ∃ more, H' b = some (.tbl (ps ++ more))
section
variable {fs fs' ex ex' : List Addr} {H H1 H2 : Hp} {h h1 h2 h' : Heap} {a x e : Addr} {o : HO}
theorem Un.any (u : Un fs ex H H1 h h1) {b : Addr} {ob : Obj} (q : h.get? b = some ob) (n : H b = none) (hx : b ∉ ex) : ∃ sl, h1.get? b = some { ob with slots := sl } := by
  by_cases hb : b ∈ fs
  · exact u.slot b ob q n hb hx
  · exact ⟨ob.slots, u.keep b ob q n hb hx⟩
theorem Un.kept (k : ∀ b u, h.get? b = some u → h'.get? b = some u) : Un fs ex H H h h' :=
  ⟨fun b ob q _ _ _ => k b ob q, fun b ob q _ _ _ => ⟨ob.slots, k b ob q⟩, fun _ _ _ n _ => n, fun b ob q _ => ⟨ob, k b ob q⟩, fun _ _ q => q, fun _ _ _ q => q, fun _ ps q => ⟨#[], by rw [q]; simp⟩⟩
theorem Un.refl : Un fs ex H H h h := Un.kept fun _ _ q => q
theorem Un.laid (k : ∀ b u, h.get? b = some u → h'.get? b = some u) (hp : h.objs.size ≤ a) (hn : H a = none) : Un fs ex H (upd H a o) h h' where
  keep := fun b u q _ _ _ => k b u q
  slot := fun b u q _ _ _ => ⟨u.slots, k b u q⟩
  free := fun b u q n _ => by rw [upd_ne (Nat.ne_of_lt (Nat.lt_of_lt_of_le (Heap.lt_size q) hp))]; exact n
  there := fun b u q _ => ⟨u, k b u q⟩
  tups := fun b xs q => by rw [upd_ne (ne_of_none q hn)]; exact q
  frzs := fun b u xs q => by rw [upd_ne (ne_of_none q hn)]; exact q
  tbls := fun b ps q => ⟨#[], by rw [upd_ne (ne_of_none q hn), q]; simp⟩
theorem Un.write (mu : Mut (H x)) (he : e = x ∨ H e = some (.own x)) (k : ∀ b u, b ≠ e → h.get? b = some u → h'.get? b = some u) (heo : ∃ u, h'.get? e = some u) : Un fs ex H (upd H x o) h h' := by
  have hx : ∀ b, H b = none → b ≠ x := fun b n z => by subst z; rw [n] at mu; exact mu
  have hb : ∀ b, H b = none → b ≠ e := fun b n z => by
    subst z
    rcases he with r | r
    · exact hx b n r
    · rw [n] at r; cases r
  have hm : ∀ b u, H b = some u → ¬ Mut (some u) → b ≠ x := fun b u q nm z => by subst z; rw [q] at mu; exact nm mu
  refine ⟨fun b u q n _ _ => k b u (hb b n) q, fun b u q n _ _ => ⟨u.slots, k b u (hb b n) q⟩, fun b u q n _ => by rw [upd_ne (hx b n)]; exact n, fun b u q _ => ?_,
    fun b xs q => by rw [upd_ne (hm b _ q fun z => z)]; exact q, fun b u xs q => by rw [upd_ne (hm b _ q fun z => z)]; exact q, fun b ps q => ⟨#[], by rw [upd_ne (hm b _ q fun z => z), q]; simp⟩⟩
  by_cases hbe : b = e
  · subst hbe; exact heo
  · exact ⟨u, k b u hbe q⟩
end
def trk (h : Heap) (H : Hp) : List Addr := (List.range h.objs.size).filter fun a => (H a).isSome
def hidT (h : Heap) (H : Hp) : Heap := PySem.W.hideAll h (trk h H)
theorem hidT_size (h : Heap) (H : Hp) : (hidT h H).objs.size = h.objs.size := PySem.W.hideAll_size _ _
theorem hidT_get {h : Heap} {H : Hp} {b : Addr} {o : Obj} (e : h.get? b = some o) (n : H b = none) : (hidT h H).get? b = some o :=
  PySem.W.hideAll_get _ e fun hm => by
    have q : (H b).isSome = true := (List.mem_filter.mp hm).2
    rw [n] at q; simp at q
theorem of_hidT {h : Heap} {H : Hp} {b : Addr} {o : Obj} (e : (hidT h H).get? b = some o) : h.get? b = some o ∧ H b = none := by
  have e' : h.get? b = some o := PySem.W.of_hideAll (trk h H) e
  refine ⟨e', ?_⟩
  cases q : H b with
  | none => rfl
  | some x =>
    have hm : b ∈ trk h H := List.mem_filter.mpr ⟨List.mem_range.mpr (Heap.lt_size e'), by simp [q]⟩
    have z : (hidT h H).get? b = none := PySem.W.hideAll_none (trk h H) hm
    rw [z] at e; cases e
end L2
namespace L2
open PySem PySem.Spec PyProof.Rows
structure Mod (K : PySem.W.Frag) (mg : Str → Option Value) (base : Heap) : Prop where
  kin : K.In base
  glob : base.Ns mainGlobals mg
  blt : ∃ mb, base.Ns builtinsNs mb ∧ ∀ x : Str, x ≠ "__name__" → mb x = bootBuiltins x
  nolimit : base.NoLimit
structure Cx where
  prog : Program
  w : World
  K : PySem.W.Frag
  mg : Str → Option Value
  base : Heap
  A : Around
  N : List Str
  s_0 : Shared
  H_0 : Hp
  env : Env
  outer : List Env
  stack : List Env
  ex : List Addr
  fn : Str → Bool
  calm : Bool
  pn : List (Addr × Obj)
  xe : Value → Shared → Prop
def frs (l : List Env) : List Addr := l.filterMap (·.frame)
abbrev Cx.fs (X : Cx) : List Addr := frs X.outer
def Vis (sc : Scope) (x : Str) : Prop := sc.names.lookup x = some .local ∨ sc.names.lookup x = some .cell ∨ sc.names.lookup x = some .free
def Loc (sc : Scope) (x : Str) : Prop := sc.names.lookup x = some .local ∨ sc.names.lookup x = some .cell
def Look (env : Env) (h : Heap) (m : Str → Option Value) (x : Str) (u : Value) : Prop :=
  (env.kindOf x = some .local ∧ m x = some u) ∨ ((env.kindOf x = some .cell ∨ env.kindOf x = some .free) ∧ ∃ c, env.cells.lookup x = some c ∧ h.IsCell c (some u))
structure Cx.Ok (X : Cx) : Prop where
  mod : Mod X.K X.mg X.base
  kind : X.env.scope.kind = .function
  glob : X.env.globals = mainGlobals
  blt : X.env.builtins = builtinsNs
  above : X.s_0.heap.objs.size ≤ X.env.locals
  inj : ∀ x y c, X.env.cells.lookup x = some c → X.env.cells.lookup y = some c → x = y
  has : ∀ x, (X.env.kindOf x = some .cell ∨ X.env.kindOf x = some .free) → ∃ c, X.env.cells.lookup x = some c
  cab : ∀ x c, X.fn x = true → X.env.cells.lookup x = some c → X.s_0.heap.objs.size ≤ c
  hd : X.calm = true → X.A.handled = none
  frames : X.A.frames = some X.stack
  stk : X.stack = X.outer ∨ (X.stack = X.env :: X.outer ∧ X.env.frame = some X.env.locals)
  exf : ∀ b ∈ X.ex, b ≠ X.env.locals ∧ ∀ x c, X.env.cells.lookup x = some c → c ≠ b
  bs : ∀ b o, X.base.get? b = some o → X.s_0.heap.get? b = some o ∧ X.H_0 b = none
  bsz : X.base.objs.size ≤ X.s_0.heap.objs.size
  noex : ∀ b o, X.base.get? b = some o → b ∉ X.ex
  exfs : ∀ b ∈ X.ex, b ∉ X.fs
  funs : X.s_0.heap.FunFrames X.base X.outer
  frf : ∀ b ∈ X.fs, X.H_0 b = none
structure Inv (X : Cx) (pins : List (Addr × Obj)) (σ : List (Option V)) (H : Hp) (s : Shared) : Prop where
  ok : X.Ok
  os : s.os = X.s_0.os
  bare : AllBare s.gens
  base : Un X.fs X.ex X.H_0 H X.s_0.heap s.heap
  loc : ∃ m, s.heap.Ns X.env.locals m ∧ ∀ (i : Nat) (x : Str) (v : V), X.N[i]? = some x → σ[i]? = some (some v) → Vis X.env.scope x → ∃ u, RelV v u ∧ Look X.env s.heap m x u
  cell : ∀ x c, X.env.cells.lookup x = some c → ∃ v, s.heap.IsCell c v
  free : H X.env.locals = none
  freeC : ∀ x c, X.env.cells.lookup x = some c → H c = none
  pin : ∀ p ∈ X.pn ++ pins, s.heap.get? p.1 = some p.2 ∧ H p.1 = none ∧ p.1 ≠ X.env.locals ∧ p.1 ∉ X.fs ∧ ∀ v, p.2.data ≠ .cell v
  hok : HOk X.prog X.w H s.heap
  len : σ.length = X.N.length
section
variable {X : Cx} {pins : List (Addr × Obj)} {σ : List (Option V)} {H H' : Hp} {s : Shared} {h' : Heap}
theorem Cx.Ok.nofr (ok : X.Ok) {b : Addr} {o : Obj} (e : X.base.get? b = some o) : b ∉ X.fs := fun hb => by
  have := (ok.funs.mem hb).1
  rw [e] at this; cases this
theorem Inv.bs (I : Inv X pins σ H s) : ∀ b o, X.base.get? b = some o → s.heap.get? b = some o ∧ H b = none := fun b o e =>
  ⟨I.base.keep b o (I.ok.bs b o e).1 (I.ok.bs b o e).2 (I.ok.nofr e) (I.ok.noex b o e), I.base.free b o (I.ok.bs b o e).1 (I.ok.bs b o e).2 (I.ok.noex b o e)⟩
theorem Inv.bk (I : Inv X pins σ H s) : ∀ b o, X.base.get? b = some o → s.heap.get? b = some o := fun b o e => (I.bs b o e).1
theorem Inv.mod (I : Inv X pins σ H s) : Mod X.K X.mg X.base := I.ok.mod
theorem Inv.kIn (I : Inv X pins σ H s) : X.K.In s.heap := I.ok.mod.kin.keeps I.bk
theorem Inv.lt (I : Inv X pins σ H s) : X.env.locals < s.heap.objs.size := let ⟨_, hn, _⟩ := I.loc; hn.lt
theorem Inv.sz (I : Inv X pins σ H s) : X.s_0.heap.objs.size ≤ s.heap.objs.size := Nat.le_trans I.ok.above (Nat.le_of_lt I.lt)
theorem Inv.nofs (I : Inv X pins σ H s) {a : Addr} (h : s.heap.objs.size ≤ a) : a ∉ X.fs := fun hb => by
  obtain ⟨_, o, ho, _⟩ := I.ok.funs.mem hb
  exact absurd (Nat.lt_of_lt_of_le (Heap.lt_size ho) (Nat.le_trans I.sz h)) (Nat.lt_irrefl _)
theorem Inv.cne (I : Inv X pins σ H s) : ∀ x c, X.env.cells.lookup x = some c → c ≠ X.env.locals := fun x c e z => by
  obtain ⟨v, o, ho, hd⟩ := I.cell x c e
  obtain ⟨m, ⟨o', es, ep, ho', hd', _⟩, _⟩ := I.loc
  rw [z, ho'] at ho; cases ho; rw [hd'] at hd; cases hd
theorem Inv.funs (I : Inv X pins σ H s) : s.heap.FunFrames X.base X.outer := by
  have all : ∀ (l : List Env), (∀ b ∈ frs l, b ∈ X.fs) → X.s_0.heap.FunFrames X.base l → s.heap.FunFrames X.base l := by
    intro l
    induction l with
    | nil => intro _ _; trivial
    | cons env r ih =>
      intro hs hl
      obtain ⟨hk, ⟨L, o, hf, hn, ho, hd⟩, hr⟩ := hl
      have hL : L ∈ X.fs := hs L (by unfold frs; rw [List.filterMap_cons, hf]; exact List.mem_cons_self)
      obtain ⟨sl, e⟩ := I.base.slot L o ho (I.ok.frf L hL) hL fun z => I.ok.exfs L z hL
      exact ⟨hk, ⟨L, _, hf, hn, e, hd⟩, ih (fun b hb => hs b (by unfold frs; rw [List.filterMap_cons, hf]; exact List.mem_cons_of_mem _ hb)) hr⟩
  exact all X.outer (fun _ hb => hb) I.ok.funs
theorem Inv.stack (I : Inv X pins σ H s) : s.heap.FunFrames X.base X.stack := by
  rcases I.ok.stk with e | ⟨e, hf⟩
  · rw [e]; exact I.funs
  · rw [e]
    obtain ⟨m, hn, _⟩ := I.loc
    refine .cons (by rw [I.ok.kind]; decide) hf hn ?_ I.funs
    exact Heap.get?_none_of_le (Nat.le_trans I.ok.bsz I.ok.above)
theorem Inv.stkSub (I : Inv X pins σ H s) : ∀ b ∈ frs X.stack, b ∈ X.env.locals :: X.fs := fun b hb => by
  rcases I.ok.stk with e | ⟨e, hf⟩
  · rw [e] at hb; exact List.mem_cons_of_mem _ hb
  · rw [e] at hb
    unfold frs at hb
    rw [List.filterMap_cons, hf] at hb
    exact hb
theorem Inv.stkFree (I : Inv X pins σ H s) : ∀ b ∈ frs X.stack, H b = none := fun b hb => by
  rcases List.mem_cons.mp (I.stkSub b hb) with e | hb
  · rw [e]; exact I.free
  · obtain ⟨_, o, ho, _⟩ := I.ok.funs.mem hb
    exact I.base.free b o ho (I.ok.frf b hb) fun z => I.ok.exfs b z hb
theorem Inv.step {g' : Array GenState} {t' : Nat} {d' : Drawn} {ch : List Addr} (I : Inv X pins σ H s)
    (hch : ∀ b ∈ ch, (b ∈ X.ex ∨ X.s_0.heap.objs.size ≤ b) ∧ b ≠ X.env.locals ∧ (∀ x c, X.env.cells.lookup x = some c → c ≠ b) ∧ ∀ p ∈ X.pn ++ pins, p.1 ≠ b)
    (keep : ∀ b o, b ≠ X.env.locals → b ∉ X.fs → b ∉ ch → s.heap.get? b = some o → H b = none → h'.get? b = some o)
    (slot : ∀ b o, b ≠ X.env.locals → b ∈ X.fs → b ∉ ch → s.heap.get? b = some o → H b = none → ∃ sl, h'.get? b = some { o with slots := sl }) (free : ∀ b o, b ∉ ch → s.heap.get? b = some o → H b = none → H' b = none)
    (there : ∀ b o, b ∉ ch → s.heap.get? b = some o → ∃ o', h'.get? b = some o')
    (tups : ∀ b xs, H b = some (.tup xs) → H' b = some (.tup xs)) (frzs : ∀ b o u, H b = some (.frz o u) → H' b = some (.frz o u)) (tbls : ∀ b ps, H b = some (.tbl ps) → ∃ more, H' b = some (.tbl (ps ++ more)))
    (ns : ∀ m, s.heap.Ns X.env.locals m → h'.Ns X.env.locals m) (hok : HOk X.prog X.w H' h') (hg : AllBare g') :
    Inv X pins σ H' { s with heap := h', gens := g', drawn := d', toks := t' } := by
  have neL : ∀ b o, X.s_0.heap.get? b = some o → b ≠ X.env.locals := fun b o e => Nat.ne_of_lt (Nat.lt_of_lt_of_le (Heap.lt_size e) I.ok.above)
  have neC : ∀ b o, X.s_0.heap.get? b = some o → b ∉ X.ex → b ∉ ch := fun b o e hx hb => by
    rcases (hch b hb).1 with z | z
    · exact hx z
    · exact absurd (Nat.lt_of_lt_of_le (Heap.lt_size e) z) (Nat.lt_irrefl _)
  have cellK : ∀ x c, X.env.cells.lookup x = some c → ∀ v, s.heap.IsCell c v → h'.IsCell c v := fun x c e v ⟨o, ho, hd⟩ => by
    have nch : c ∉ ch := fun z => (hch c z).2.2.1 x c e rfl
    by_cases hc : c ∈ X.fs
    · obtain ⟨sl, q⟩ := slot c o (I.cne x c e) hc nch ho (I.freeC x c e)
      exact ⟨_, q, hd⟩
    · exact ⟨o, keep c o (I.cne x c e) hc nch ho (I.freeC x c e), hd⟩
  refine ⟨I.ok, I.os, hg, ⟨fun b o e n hb hx => ?_, fun b o e n hb hx => ?_, fun b o e n hx => ?_, fun b o e hx => ?_, fun b xs e => tups b xs (I.base.tups b xs e), fun b o xs e => frzs b o xs (I.base.frzs b o xs e), fun b ps e => ?_⟩, ?_, fun x c e => ?_, ?_, fun x c e => ?_, fun p hp => ?_, hok, I.len⟩
  · exact keep b o (neL b o e) hb (neC b o e hx) (I.base.keep b o e n hb hx) (I.base.free b o e n hx)
  · obtain ⟨sl, e1⟩ := I.base.slot b o e n hb hx
    obtain ⟨sl', e2⟩ := slot b _ (neL b o e) hb (neC b o e hx) e1 (I.base.free b o e n hx)
    exact ⟨sl', e2⟩
  · obtain ⟨o', e1⟩ := I.base.there b o e hx
    exact free b o' (neC b o e hx) e1 (I.base.free b o e n hx)
  · obtain ⟨o', e1⟩ := I.base.there b o e hx
    exact there b o' (neC b o e hx) e1
  · obtain ⟨m1, e1⟩ := I.base.tbls b ps e
    obtain ⟨m2, e2⟩ := tbls b _ e1
    exact ⟨m1 ++ m2, by rw [e2, Array.append_assoc]⟩
  · obtain ⟨m, hn, hl⟩ := I.loc
    refine ⟨m, ns m hn, fun i x v e1 e2 e3 => ?_⟩
    obtain ⟨u, r, l⟩ := hl i x v e1 e2 e3
    refine ⟨u, r, ?_⟩
    rcases l with l | ⟨k, c, e, z⟩
    · exact .inl l
    · exact .inr ⟨k, c, e, cellK x c e _ z⟩
  · obtain ⟨v, z⟩ := I.cell x c e
    exact ⟨v, cellK x c e v z⟩
  · obtain ⟨m, ⟨o, _, _, ho, _⟩, _⟩ := I.loc
    exact free _ o (fun z => (hch _ z).2.1 rfl) ho I.free
  · obtain ⟨v, o, ho, hd⟩ := I.cell x c e
    exact free c o (fun z => (hch c z).2.2.1 x c e rfl) ho (I.freeC x c e)
  · obtain ⟨e, n, ne, nf, d⟩ := I.pin p hp
    have nch : p.1 ∉ ch := fun z => (hch p.1 z).2.2.2 p hp rfl
    exact ⟨keep p.1 p.2 ne nf nch e n, free p.1 p.2 nch e n, ne, nf, d⟩
theorem Inv.un {t' : Nat} (I : Inv X pins σ H s) (u : Un X.fs [] H H' s.heap h') (hok : HOk X.prog X.w H' h') : Inv X pins σ H' { s with heap := h', toks := t' } := by
  obtain ⟨m, ⟨o, es, ep, ho, r⟩, _⟩ := id I.loc
  obtain ⟨sl, hL⟩ := u.any ho I.free (by simp)
  exact I.step (g' := s.gens) (d' := s.drawn) (ch := []) (fun _ z => nomatch z) (fun b o _ hb _ e n => u.keep b o e n hb (by simp)) (fun b o _ hb _ e n => u.slot b o e n hb (by simp)) (fun b o _ e n => u.free b o e n (by simp)) (fun b o _ e => u.there b o e (by simp)) u.tups u.frzs u.tbls (fun m' hm => by
    obtain ⟨o', es', ep', ho', r'⟩ := hm
    rw [ho] at ho'; cases ho'
    exact ⟨_, es', ep', hL, r'⟩) hok I.bare
theorem Inv.call {g' : Array GenState} {t' : Nat} {d' : Drawn} {ch : List Addr} (I : Inv X pins σ H s) (u : Un (frs X.stack) ch H H' s.heap h') (hok : HOk X.prog X.w H' h') (hg : AllBare g')
    (hch : ∀ b ∈ ch, (b ∈ X.ex ∨ X.s_0.heap.objs.size ≤ b) ∧ b ≠ X.env.locals ∧ (∀ x c, X.env.cells.lookup x = some c → c ≠ b) ∧ ∀ p ∈ X.pn ++ pins, p.1 ≠ b) :
    Inv X pins σ H' { s with heap := h', gens := g', drawn := d', toks := t' } := by
  obtain ⟨m, ⟨o, es, ep, ho, r⟩, _⟩ := id I.loc
  obtain ⟨sl, hL⟩ := u.any ho I.free fun z => (hch _ z).2.1 rfl
  exact I.step (ch := ch) hch (fun b o hL hb hc e n => u.keep b o e n (fun z => (List.mem_cons.mp (I.stkSub b z)).elim hL hb) hc) (fun b o _ _ hc e n => u.any e n hc) (fun b o hc e n => u.free b o e n hc) (fun b o hc e => u.there b o e hc) u.tups u.frzs u.tbls (fun m' hm => by
    obtain ⟨o', es', ep', ho', r'⟩ := hm
    rw [ho] at ho'; cases ho'
    exact ⟨_, es', ep', hL, r'⟩) hok hg
theorem Inv.turned {t' : Nat} {it : Addr} (I : Inv X pins σ H s) (k : ∀ b o, b ≠ it → s.heap.get? b = some o → h'.get? b = some o) (hn : H it = none) (hL : it ≠ X.env.locals)
    (h1 : it ∈ X.ex ∨ X.s_0.heap.objs.size ≤ it) (h2 : ∀ x c, X.env.cells.lookup x = some c → c ≠ it) (h3 : ∀ p ∈ X.pn ++ pins, p.1 ≠ it) : Inv X pins σ H { s with heap := h', toks := t' } := by
  have nit : ∀ b u, H b = some u → b ≠ it := fun b u e z => by rw [z, hn] at e; cases e
  refine I.step (g' := s.gens) (d' := s.drawn) (ch := [it]) (fun b hb => ?_) (fun b o _ _ hc e _ => k b o (fun z => hc (by simp [z])) e) (fun b o _ _ hc e _ => ⟨o.slots, k b o (fun z => hc (by simp [z])) e⟩) (fun _ _ _ _ n => n)
    (fun b o hc e => ⟨o, k b o (fun z => hc (by simp [z])) e⟩) (fun _ _ e => e) (fun _ _ _ e => e) (fun b ps e => ⟨#[], by rw [e]; simp⟩) (fun m hm => ?_) (fun b u e => ?_) I.bare
  · have e : b = it := by simpa using hb
    subst e
    exact ⟨h1, hL, h2, h3⟩
  · obtain ⟨o, es, ep, ho, r⟩ := hm
    exact ⟨o, es, ep, k _ o (Ne.symm hL) ho, r⟩
  · refine (I.hok b u e).stay (fun c v hc q => k c v ?_ q) (fun _ q => q) fun _ _ q => q
    rcases hc with z | z
    · rw [z]; exact nit b u e
    · exact nit c _ z
theorem Inv.tok (I : Inv X pins σ H s) (t : Nat) : Inv X pins σ H { s with toks := t } := I.un (h' := s.heap) (t' := t) Un.refl I.hok
theorem Inv.kept {t' : Nat} (I : Inv X pins σ H s) (k : ∀ b u, s.heap.get? b = some u → h'.get? b = some u) : Inv X pins σ H { s with heap := h', toks := t' } := I.un (Un.kept k) (I.hok.kept k)
theorem Inv.laid {a : Addr} {o : HO} {t' : Nat} (I : Inv X pins σ H s) (k : ∀ b u, s.heap.get? b = some u → h'.get? b = some u) (hp : s.heap.objs.size ≤ a) (new : ObjOk X.prog X.w (upd H a o) h' a o) :
    Inv X pins σ (upd H a o) { s with heap := h', toks := t' } := I.un (Un.laid k hp (I.hok.fresh hp)) (I.hok.laid k hp new)
theorem Inv.write {x e : Addr} {o : HO} {t' : Nat} (I : Inv X pins σ H s) (mu : Mut (H x)) (he : e = x ∨ H e = some (.own x)) (k : ∀ b u, b ≠ e → s.heap.get? b = some u → h'.get? b = some u) (heo : ∃ u, h'.get? e = some u)
    (new : ObjOk X.prog X.w (upd H x o) h' x o) : Inv X pins σ (upd H x o) { s with heap := h', toks := t' } := I.un (Un.write mu he k heo) (I.hok.write mu he k heo new)
theorem Inv.weak {σ' : List (Option V)} (I : Inv X pins σ H s) (hl : σ'.length = σ.length) (w : ∀ (i : Nat) v, σ'[i]? = some (some v) → σ[i]? = some (some v)) : Inv X pins σ' H s :=
  ⟨I.ok, I.os, I.bare, I.base, let ⟨m, hn, hl'⟩ := I.loc; ⟨m, hn, fun i x v e1 e2 e3 => hl' i x v e1 (w i v e2) e3⟩, I.cell, I.free, I.freeC, I.pin, I.hok, hl.trans I.len⟩
theorem Inv.pins_of {pins' : List (Addr × Obj)} (I : Inv X pins σ H s) (h : ∀ p ∈ pins', s.heap.get? p.1 = some p.2 ∧ H p.1 = none ∧ p.1 ≠ X.env.locals ∧ p.1 ∉ X.fs ∧ ∀ v, p.2.data ≠ .cell v) : Inv X pins' σ H s :=
  ⟨I.ok, I.os, I.bare, I.base, I.loc, I.cell, I.free, I.freeC, fun p hp => (List.mem_append.mp hp).elim (fun z => I.pin p (List.mem_append_left _ z)) (h p), I.hok, I.len⟩
theorem nodup_ix {N : List Str} (hN : N.Nodup) {i j : Nat} {x : Str} (a : N[i]? = some x) (b : N[j]? = some x) : i = j := by
  obtain ⟨h1, e1⟩ := List.getElem?_eq_some_iff.mp a
  obtain ⟨h2, e2⟩ := List.getElem?_eq_some_iff.mp b
  exact (List.getElem_inj hN).mp (e1.trans e2.symm)
theorem store_ok2 {M : Model} {A : Around} {E : Value → Shared → Prop} {i : Nat} {x : Str} {v : V} {u : Value} {Q : Unit → Shared → Prop} (I : Inv X pins σ H s) (hN : X.N.Nodup) (hi : X.N[i]? = some x) (hx : Loc X.env.scope x) (r : RelV v u)
    (h : ∀ s', Inv X pins (σ.set i (some v)) H s' → (∃ a, Heap.SameBut a s.heap s'.heap ∧ (a = X.env.locals ∨ X.env.cells.lookup x = some a)) → Q () s') (hf : X.fn x = true ∨ X.env.scope.names.lookup x = some .local := by first | exact .inl rfl | exact .inr rfl | assumption) : wpAny M A (storeName X.env x u) Q E s := by
  obtain ⟨m, hn, hl⟩ := id I.loc
  have hcls : (X.env.scope.kind == .class || (X.env.scope.kind == .module && X.env.locals != X.env.globals)) = false := by rw [I.ok.kind]; rfl
  have hiσ : i < σ.length := by rw [I.len]; exact (List.getElem?_eq_some_iff.mp hi).1
  have cne := I.cne
  have tracked : ∀ {a : Addr} {h' : Heap}, (∃ o, s.heap.get? a = some o ∧ H a = none) → Heap.SameBut a s.heap h' → HOk X.prog X.w H h' := fun {a h'} ha hs b ob e => by
    obtain ⟨_, _, hfree⟩ := ha
    refine (I.hok b ob e).stay (fun c w' hc q => (hs.2 c ?_).trans q) (fun _ q => q) fun _ _ q => q
    rintro rfl
    rcases hc with rfl | hc
    · rw [hfree] at e; cases e
    · rw [hfree] at hc; cases hc
  rcases hx with hk | hk
  · refine wpAny_storeName_local hk hn (fun h' hn' hs => ?_) hcls
    obtain ⟨oL, _, _, hoL, _⟩ := id hn
    refine h _ ⟨I.ok, I.os, I.bare, ⟨fun b o e n hb hx => ?_, fun b o e n hb hx => ?_, I.base.free, fun b o e hx => ?_, I.base.tups, I.base.frzs, I.base.tbls⟩, ⟨_, hn', fun j y v' e1 e2 e3 => ?_⟩, fun y c e => ?_, I.free, I.freeC, fun p hp => ?_, tracked ⟨oL, hoL, I.free⟩ hs, by simpa using I.len⟩ ⟨_, hs, .inl rfl⟩
    · exact (hs.2 b (Nat.ne_of_lt (Nat.lt_of_lt_of_le (Heap.lt_size e) I.ok.above))).trans (I.base.keep b o e n hb hx)
    · obtain ⟨sl, e1⟩ := I.base.slot b o e n hb hx
      exact ⟨sl, (hs.2 b (Nat.ne_of_lt (Nat.lt_of_lt_of_le (Heap.lt_size e) I.ok.above))).trans e1⟩
    · obtain ⟨o', e1⟩ := I.base.there b o e hx
      exact ⟨o', (hs.2 b (Nat.ne_of_lt (Nat.lt_of_lt_of_le (Heap.lt_size e) I.ok.above))).trans e1⟩
    · by_cases hj : j = i
      · subst hj
        rw [hi] at e1; cases e1
        rw [List.getElem?_set_self hiσ] at e2
        cases e2
        exact ⟨u, r, .inl ⟨hk, by simp⟩⟩
      · rw [List.getElem?_set_ne (Ne.symm hj)] at e2
        obtain ⟨u', r', q⟩ := hl j y v' e1 e2 e3
        refine ⟨u', r', ?_⟩
        rcases q with ⟨k, e⟩ | ⟨k, c, e, z⟩
        · refine .inl ⟨k, ?_⟩
          have : y ≠ x := fun e => hj (nodup_ix hN e1 (e ▸ hi))
          simp [this, e]
        · exact .inr ⟨k, c, e, z.sameBut hs (cne y c e)⟩
    · obtain ⟨w', z⟩ := I.cell y c e
      exact ⟨w', z.sameBut hs (cne y c e)⟩
    · obtain ⟨e, n, ne, nf, d⟩ := I.pin p hp
      exact ⟨(hs.2 p.1 ne).trans e, n, ne, nf, d⟩
  · have hfn : X.fn x = true := by
      rcases hf with z | z
      · exact z
      · rw [z] at hk; cases hk
    obtain ⟨c, hc⟩ := I.ok.has x (.inl hk)
    obtain ⟨w', z⟩ := I.cell x c hc
    refine wpAny_storeName_cell I.ok.kind hk hc z (fun h' hc' hs => ?_)
    obtain ⟨oc, hoc, hocd⟩ := id z
    refine h { s with heap := h' } ⟨I.ok, I.os, I.bare, ⟨fun b o e n hb hx => ?_, fun b o e n hb hx => ?_, I.base.free, fun b o e hx => ?_, I.base.tups, I.base.frzs, I.base.tbls⟩, ⟨m, hn.sameBut hs (Ne.symm (cne x c hc)), fun j y v' e1 e2 e3 => ?_⟩, fun y c' e => ?_, I.free, I.freeC, fun p hp => ?_, tracked ⟨oc, hoc, I.freeC x c hc⟩ hs, by simpa using I.len⟩ ⟨c, hs, .inr hc⟩
    · exact (hs.2 b (Nat.ne_of_lt (Nat.lt_of_lt_of_le (Heap.lt_size e) (I.ok.cab x c hfn hc)))).trans (I.base.keep b o e n hb hx)
    · obtain ⟨sl, e1⟩ := I.base.slot b o e n hb hx
      exact ⟨sl, (hs.2 b (Nat.ne_of_lt (Nat.lt_of_lt_of_le (Heap.lt_size e) (I.ok.cab x c hfn hc)))).trans e1⟩
    · obtain ⟨o', e1⟩ := I.base.there b o e hx
      exact ⟨o', (hs.2 b (Nat.ne_of_lt (Nat.lt_of_lt_of_le (Heap.lt_size e) (I.ok.cab x c hfn hc)))).trans e1⟩
    · by_cases hj : j = i
      · subst hj
        rw [hi] at e1; cases e1
        rw [List.getElem?_set_self hiσ] at e2
        cases e2
        exact ⟨u, r, .inr ⟨.inl hk, c, hc, hc'⟩⟩
      · rw [List.getElem?_set_ne (Ne.symm hj)] at e2
        obtain ⟨u', r', q⟩ := hl j y v' e1 e2 e3
        refine ⟨u', r', ?_⟩
        rcases q with q | ⟨k, c', e, z'⟩
        · exact .inl q
        · refine .inr ⟨k, c', e, z'.sameBut hs ?_⟩
          rintro rfl
          exact hj (nodup_ix hN e1 (I.ok.inj _ _ _ e hc ▸ hi))
    · by_cases hcc : c' = c
      · subst hcc; exact ⟨_, hc'⟩
      · obtain ⟨w2, z2⟩ := I.cell y c' e
        exact ⟨w2, z2.sameBut hs hcc⟩
    · obtain ⟨e, n, ne, nf, d⟩ := I.pin p hp
      refine ⟨(hs.2 p.1 ?_).trans e, n, ne, nf, d⟩
      intro q
      rw [q, hoc] at e
      have q' : oc = p.2 := Option.some.inj e
      exact d w' (by rw [← q']; exact hocd)
theorem store_ok {M : Model} {A : Around} {E : Value → Shared → Prop} {i : Nat} {x : Str} {v : V} {u : Value} {Q : Unit → Shared → Prop} (I : Inv X pins σ H s) (hN : X.N.Nodup) (hi : X.N[i]? = some x) (hx : Loc X.env.scope x) (r : RelV v u)
    (h : ∀ s', Inv X pins (σ.set i (some v)) H s' → Q () s') (hf : X.fn x = true ∨ X.env.scope.names.lookup x = some .local := by first | exact .inl rfl | exact .inr rfl | assumption) : wpAny M A (storeName X.env x u) Q E s :=
  store_ok2 I hN hi hx r (fun s' I' _ => h s' I') hf
theorem Inv.call' {s' : Shared} {ch : List Addr} (I : Inv X pins σ H s) (ho : s'.os = s.os) (u : Un (frs X.stack) ch H H' s.heap s'.heap) (hok : HOk X.prog X.w H' s'.heap) (hg : AllBare s'.gens)
    (hch : ∀ b ∈ ch, (b ∈ X.ex ∨ X.s_0.heap.objs.size ≤ b) ∧ b ≠ X.env.locals ∧ (∀ x c, X.env.cells.lookup x = some c → c ≠ b) ∧ ∀ p ∈ X.pn ++ pins, p.1 ≠ b) : Inv X pins σ H' s' := by
  obtain ⟨h', g', d', t', o'⟩ := s'
  have e : o' = s.os := ho
  subst e
  exact I.call (g' := g') (t' := t') (d' := d') u hok hg hch
end
abbrev XK := Value → Option Addr → Hp → Prop
abbrev St := List (Option V)
abbrev VK := V → Hp → Prop
abbrev TE := St → Hp → VK → Prop
abbrev TT := St → Hp → (Bool → Hp → Prop) → Prop
abbrev TA := St → Hp → (List V → Hp → Prop) → Prop
structure Ends where
  nx : St → Hp → Prop
  rt : VK
  bk : St → Hp → Prop := fun _ _ => False
  ct : St → Hp → Prop := fun _ _ => False
abbrev TS := Ends → St → Hp → Prop
def EP (X : Cx) (pins : List (Addr × Obj)) (σ : St) (Q : VK) (u : Value) (s' : Shared) : Prop := ∃ v H', Inv X pins σ H' s' ∧ RelV v u ∧ Q v H'
def TP (X : Cx) (pins : List (Addr × Obj)) (σ : St) (Q : Bool → Hp → Prop) (b : Bool) (s' : Shared) : Prop := ∃ H', Inv X pins σ H' s' ∧ Q b H'
def AP (X : Cx) (pins : List (Addr × Obj)) (σ : St) (Q : List V → Hp → Prop) (us : List Value) (s' : Shared) : Prop := ∃ vs H', Inv X pins σ H' s' ∧ Vals vs us ∧ Q vs H'
def SP (X : Cx) (pins : List (Addr × Obj)) (D : Ends) (f : Flow) (s' : Shared) : Prop :=
  match f with
  | .next => ∃ σ' H', Inv X pins σ' H' s' ∧ D.nx σ' H'
  | .brk => ∃ σ' H', Inv X pins σ' H' s' ∧ D.bk σ' H'
  | .cont => ∃ σ' H', Inv X pins σ' H' s' ∧ D.ct σ' H'
  | .ret u => ∃ v σ' H', Inv X pins σ' H' s' ∧ RelV v u ∧ D.rt v H'
def PE (X : Cx) (e : Expr) (t : TE) : Prop :=
  ∀ (pins : List (Addr × Obj)) (s : Shared) (σ : St) (H : Hp) (Q : VK), Inv X pins σ H s → t σ H Q → wpAny (model X.prog X.w) X.A (eval e X.env) (EP X pins σ Q) X.xe s
def PT (X : Cx) (e : Expr) (t : TT) : Prop :=
  ∀ (pins : List (Addr × Obj)) (s : Shared) (σ : St) (H : Hp) (Q : Bool → Hp → Prop), Inv X pins σ H s → t σ H Q → wpAny (model X.prog X.w) X.A (isTrue e X.env (eval e X.env)) (TP X pins σ Q) X.xe s
def PW (X : Cx) (e : Expr) (t : TT) : Prop :=
  ∀ (whole : Sem Value) (pins : List (Addr × Obj)) (s : Shared) (σ : St) (H : Hp) (Q : Bool → Hp → Prop), Inv X pins σ H s → t σ H Q → wpAny (model X.prog X.w) X.A (isTrue e X.env whole) (TP X pins σ Q) X.xe s
theorem PW.pt {X : Cx} {e : Expr} {t : TT} (h : PW X e t) : PT X e t := h _
def PA (X : Cx) (es : List Expr) (t : TA) : Prop :=
  ∀ (pos : Pos) (pins : List (Addr × Obj)) (s : Shared) (σ : St) (H : Hp) (Q : List V → Hp → Prop), Inv X pins σ H s → t σ H Q → wpAny (model X.prog X.w) X.A (spliced (backTo pos (starEach es X.env))) (AP X pins σ Q) X.xe s
def PS (X : Cx) (st : Stmt) (t : TS) : Prop :=
  ∀ (pins : List (Addr × Obj)) (s : Shared) (σ : St) (H : Hp) (D : Ends), Inv X pins σ H s → t D σ H → wpAny (model X.prog X.w) X.A (exec st X.env) (SP X pins D) X.xe s
def PSs (X : Cx) (st : List Stmt) (t : TS) : Prop :=
  ∀ (pins : List (Addr × Obj)) (s : Shared) (σ : St) (H : Hp) (D : Ends), Inv X pins σ H s → t D σ H → wpAny (model X.prog X.w) X.A (execs st X.env) (SP X pins D) X.xe s
theorem thn {α : Type} {t : Sem α} {Q Q' : α → Shared → Prop} {M : Model} {A : Around} {E : Value → Shared → Prop} {s : Shared} (h : wpAny M A t Q E s) (hQ : ∀ a s, Q a s → Q' a s) : wpAny M A t Q' E s := wpAny_mono h hQ fun _ _ x => x
end L2
namespace L2
open PySem PySem.Spec PyProof.Rows
section
variable {X : Cx}
def tVar (i : Nat) : TE := fun σ H Q => ∃ v, σ[i]? = some (some v) ∧ Q v H
def tC (v : V) : TE := fun _ H Q => Q v H
theorem pe_var {i : Nat} {x : Str} {pos : Pos} (hN : X.N[i]? = some x) (hv : Vis X.env.scope x) (hd : (x == ("__debug__" : Str)) = false := by decide) (hcd : (x == ("__classdict__" : Str)) = false := by decide) : PE X (.Name x pos) (tVar i) := by
  intro pins s σ H Q I h
  obtain ⟨v, e, h⟩ := h
  obtain ⟨m, hn, hl⟩ := I.loc
  obtain ⟨u, r, l⟩ := hl i x v hN e hv
  have fin : EP X pins σ Q u s := ⟨v, H, I, r, h⟩
  rcases l with ⟨hk, hm⟩ | ⟨hk, c, hc, hcell⟩
  · exact wpAny_Name (wpAny_loadName_local I.ok.kind hk hn hm fin) hd
  · rcases hk with hk | hk
    · exact wpAny_Name (wpAny_loadName_cell I.ok.kind hk hc hcell fin) hd
    · exact wpAny_Name (wpAny_loadName_free I.ok.kind hk hc hcell fin hcd) hd
theorem pe_int {i j pos} : PE X (.Constant (.int i) j pos) (tC (.int i)) := fun _ _ _ H _ I h => wpAny_Constant_int ⟨.int i, H, I.tok _, ⟨_, rfl⟩, h⟩
theorem pe_bl {b j pos} : PE X (.Constant (.bool b) j pos) (tC (.bl b)) := fun _ _ _ H _ I h => Constant_bool ⟨.bl b, H, I, rfl, h⟩
theorem pe_non {j pos} : PE X (.Constant .none j pos) (tC .non) := fun _ _ _ H _ I h => Constant_none ⟨.non, H, I, rfl, h⟩
def Gl (X : Cx) (x : Str) : Prop := X.env.kindOf x = some .globalImplicit
theorem ld_glob {E : Value → Shared → Prop} {pins : List (Addr × Obj)} {s : Shared} {σ : St} {H : Hp} {x : Str} {u : Value} {pos : Pos} {Q : Value → Shared → Prop} (I : Inv X pins σ H s) (hg : Gl X x) (hm : X.mg x = some u) (h : Q u s)
    (hd : (x == ("__debug__" : Str)) = false := by decide) : wpAny (model X.prog X.w) X.A (eval (.Name x pos) X.env) Q E s :=
  Calls.Name_function_global I.ok.kind hg (Calls.loadGlobal_global (by rw [I.ok.glob]; exact I.mod.glob.keeps I.bk) hm h) hd
theorem ld_blt {E : Value → Shared → Prop} {pins : List (Addr × Obj)} {s : Shared} {σ : St} {H : Hp} {x : Str} {u : Value} {pos : Pos} {Q : Value → Shared → Prop} (I : Inv X pins σ H s) (hg : Gl X x) (hm : X.mg x = none) (hv : bootBuiltins x = some u) (h : Q u s)
    (hn : x ≠ "__name__" := by decide) (hd : (x == ("__debug__" : Str)) = false := by decide) : wpAny (model X.prog X.w) X.A (eval (.Name x pos) X.env) Q E s := by
  obtain ⟨mb, h1, h2⟩ := I.mod.blt
  exact Calls.Name_function_global I.ok.kind hg (Calls.loadGlobal_builtin (by rw [I.ok.glob]; exact I.mod.glob.keeps I.bk) hm (by rw [I.ok.blt]; exact h1.keeps I.bk) ((h2 x hn).trans hv) h) hd
theorem pe_glob {x : Str} {v : V} {u : Value} {pos : Pos} (hg : Gl X x) (hm : X.mg x = some u) (r : RelV v u) (hd : (x == ("__debug__" : Str)) = false := by decide) : PE X (.Name x pos) (tC v) :=
  fun _ _ _ H _ I h => ld_glob I hg hm ⟨v, H, I, r, h⟩ hd
variable {a b : Expr} {ta tb : TE} {pos : Pos}
def tB (t : TE) : TT := fun σ H Q => t σ H fun x H1 => ∃ c, x = .bl c ∧ Q c H1
theorem pt_val {e : Expr} {t : TE} (h : PE X e t) (he : ∀ whole, isTrue e X.env whole = (do let v ← whole; standAt e.pos; holding [v] (truthy v)) := by intro _; rfl) : PT X e (tB t) := by
  intro pins s σ H Q I hw
  refine isTrue_plain (thn (h pins s σ H _ I hw) fun v s1 ⟨x, H1, I1, r1, q1⟩ => ?_) (he _)
  obtain ⟨d, rfl, q⟩ := q1
  cases r1
  exact wpAny_truthy_bool ⟨H1, I1, q⟩
variable {tA tB' : TT} {rest : List Expr}
def tAnd (t u : TT) : TT := fun σ H Q => t σ H fun c H1 => if c = true then u σ H1 Q else Q false H1
def tOr (t u : TT) : TT := fun σ H Q => t σ H fun c H1 => if c = true then Q true H1 else u σ H1 Q
def tNot (t : TT) : TT := fun σ H Q => t σ H fun c H1 => Q (!c) H1
theorem pw_and1 (ha : PT X a tA) : PW X (.BoolOp .And [a] pos) tA := by
  intro wh pins s σ H Q I h
  refine isTrue_and (thn (ha pins s σ H Q I h) fun c s1 e => ?_)
  cases c with
  | true => exact isTrue_and_nil e
  | false => exact e
theorem pw_or1 (ha : PT X a tA) : PW X (.BoolOp .Or [a] pos) tA := by
  intro wh pins s σ H Q I h
  refine isTrue_or (thn (ha pins s σ H Q I h) fun c s1 e => ?_)
  cases c with
  | false => exact isTrue_or_nil e
  | true => exact e
theorem pw_and (ha : PT X a tA) (hb : PW X (.BoolOp .And (b :: rest) pos) tB') : PW X (.BoolOp .And (a :: b :: rest) pos) (tAnd tA tB') := by
  intro wh pins s σ H Q I h
  refine isTrue_and (thn (ha pins s σ H _ I h) fun c s1 ⟨H1, I1, q1⟩ => ?_)
  cases c with
  | true => exact hb wh pins s1 σ H1 Q I1 q1
  | false => exact ⟨H1, I1, q1⟩
theorem pw_or (ha : PT X a tA) (hb : PW X (.BoolOp .Or (b :: rest) pos) tB') : PW X (.BoolOp .Or (a :: b :: rest) pos) (tOr tA tB') := by
  intro wh pins s σ H Q I h
  refine isTrue_or (thn (ha pins s σ H _ I h) fun c s1 ⟨H1, I1, q1⟩ => ?_)
  cases c with
  | true => exact ⟨H1, I1, q1⟩
  | false => exact hb wh pins s1 σ H1 Q I1 q1
theorem pt_not (ha : PT X a tA) : PT X (.UnaryOp .Not a pos) (tNot tA) := by
  intro pins s σ H Q I h
  exact isTrue_not (ha pins s σ H (fun c H1 => Q (!c) H1) I h)
def tAndV (ta tb : TE) : TE := fun σ H Q => ta σ H fun x H1 => ∃ c, x = .bl c ∧ if c = true then tb σ H1 Q else Q (.bl false) H1
theorem pe_one {op} {t : TE} (h : PE X a t) : PE X (.BoolOp op [a] pos) t := fun pins s σ H Q I hw => BoolOp_one (h pins s σ H Q I hw)
theorem pe_and (ha : PE X a ta) (hb : PE X (.BoolOp .And (b :: rest) pos) tb) : PE X (.BoolOp .And (a :: b :: rest) pos) (tAndV ta tb) := by
  intro pins s σ H Q I h
  refine BoolOp_and (thn (ha pins s σ H _ I h) fun v s1 ⟨x, H1, I1, r1, q1⟩ => ?_)
  obtain ⟨c, rfl, q1⟩ := q1
  cases r1
  refine wpAny_truthy_bool ?_
  cases c with
  | true => exact hb pins s1 σ H1 Q I1 q1
  | false => exact ⟨.bl false, H1, I1, rfl, q1⟩
def tIf (t : TT) (ta tb : TE) : TE := fun σ H Q => t σ H fun c H1 => if c = true then ta σ H1 Q else tb σ H1 Q
theorem pe_ifExp {c : Expr} (hc : PT X c tA) (ha : PE X a ta) (hb : PE X b tb) : PE X (.IfExp c a b pos) (tIf tA ta tb) := by
  intro pins s σ H Q I h
  refine wpAny_IfExp (thn (hc pins s σ H _ I h) fun d s1 ⟨H1, I1, q1⟩ => ?_)
  cases d with
  | true => exact ha pins s1 σ H1 Q I1 q1
  | false => exact hb pins s1 σ H1 Q I1 q1
end
end L2
namespace L2
open PySem PySem.Spec PyProof.Rows
def SqL (K : PySem.W.Frag) (H : Hp) (a : Addr) (xs : List V) : Prop :=
  Rd H a (.lst xs) ∨
    ∃ (o : Obj) (its : Array Value) (n : Nat), K.lookup a = some o ∧ o.cls = .type "list" ∧ o.dict = none ∧ o.data = .seq its n ∧ its.size ≤ sizeLine ∧ Vals xs its.toList
def SqT (K : PySem.W.Frag) (H : Hp) (a : Addr) (xs : List V) : Prop :=
  Rd H a (.tup xs) ∨
    ∃ (o : Obj) (its : Array Value) (n : Nat), K.lookup a = some o ∧ o.cls = .type "tuple" ∧ o.data = .seq its n ∧ its.size ≤ sizeLine ∧ Vals xs its.toList
def absV : Value → Option V
  | .none => some .non
  | .bool b => some (.bl b)
  | .int i _ => some (.int i)
  | .str x _ => some (.str x)
  | .bytes b _ => some (.byt b)
  | .float b _ => some (.flt b)
  | .ref a => some (.ref a)
  | .type n => some (.ty n)
  | _ => none
theorem RelV.abs {x : V} {u : Value} (r : RelV x u) : absV u = some x := by
  cases x with
  | non => cases r; rfl
  | bl _ => cases r; rfl
  | int _ => obtain ⟨t, rfl⟩ := r; rfl
  | str _ => obtain ⟨t, rfl⟩ := r; rfl
  | byt _ => obtain ⟨t, rfl⟩ := r; rfl
  | flt _ => obtain ⟨t, rfl⟩ := r; rfl
  | ref _ => cases r; rfl
  | ty _ => cases r; rfl
theorem RelV.inj {x y : V} {u : Value} (r : RelV x u) (q : RelV y u) : x = y := Option.some.inj (r.abs.symm.trans q.abs)
theorem Vals.inj : ∀ {xs ys : List V} {us : List Value}, Vals xs us → Vals ys us → xs = ys
  | _, _, _, .nil, .nil => rfl
  | _, _, _, .cons r t, .cons r' t' => by rw [r.inj r', Vals.inj t t']
section
variable {X : Cx} {pins : List (Addr × Obj)} {σ : St} {H : Hp} {s : Shared} {a : Addr} {xs ys : List V}
theorem SqL.of {K : PySem.W.Frag} (h : H a = some (.lst xs)) : SqL K H a xs := .inl (.inl h)
theorem SqT.of {K : PySem.W.Frag} (h : H a = some (.tup xs)) : SqT K H a xs := .inl (.inl h)
theorem Inv.list (I : Inv X pins σ H s) (h : SqL X.K H a xs) : ∃ its : List Value, Vals xs its ∧ PlainL s.heap a its.toArray ∧ xs.length ≤ sizeLine := by
  rcases h with h | ⟨o, its, n, hk, hc, hd, hs, hz, r⟩
  · obtain ⟨z, its, n, r, e⟩ := h.ok I.hok
    exact ⟨its, r, ⟨_, n, e, rfl, rfl, rfl⟩, z⟩
  · refine ⟨its.toList, r, ⟨o, n, I.kIn a o hk, hc, hd, by simpa using hs⟩, ?_⟩
    have e := r.length
    simp only [Array.length_toList] at e
    omega
theorem Inv.tuple (I : Inv X pins σ H s) (h : SqT X.K H a xs) : ∃ its : List Value, Vals xs its ∧ IsTup s.heap a its.toArray ∧ xs.length ≤ sizeLine := by
  rcases h with h | ⟨o, its, n, hk, hc, hs, hz, r⟩
  · obtain ⟨z, its, r, p⟩ := h.ok I.hok
    exact ⟨its, r, p, z⟩
  · refine ⟨its.toList, r, ⟨o, I.kIn a o hk, hc, n, by simpa using hs⟩, ?_⟩
    have e := r.length
    simp only [Array.length_toList] at e
    omega
theorem Inv.list_inj (I : Inv X pins σ H s) (h : SqL X.K H a xs) (h' : SqL X.K H a ys) : xs = ys := by
  obtain ⟨its, r, ⟨o, n, e, _, _, d⟩, _⟩ := I.list h
  obtain ⟨its', r', ⟨o', n', e', _, _, d'⟩, _⟩ := I.list h'
  rw [e] at e'; cases e'
  rw [d] at d'
  injection d' with d1 _
  have : its = its' := by simpa using congrArg Array.toList d1
  subst this
  exact r.inj r'
end
abbrev Cx.wish (X : Cx) (E : Value → Shared → Prop) : Cx := { X with xe := E }
abbrev Cx.nox (X : Cx) : Cx := X.wish fun _ _ => False
theorem Cx.Ok.wish {X : Cx} (ok : X.Ok) (E : Value → Shared → Prop) : (X.wish E).Ok :=
  ⟨ok.mod, ok.kind, ok.glob, ok.blt, ok.above, ok.inj, ok.has, ok.cab, ok.hd, ok.frames, ok.stk, ok.exf, ok.bs, ok.bsz, ok.noex, ok.exfs, ok.funs, ok.frf⟩
theorem Cx.Ok.unwish {X : Cx} {E : Value → Shared → Prop} (ok : (X.wish E).Ok) : X.Ok :=
  ⟨ok.mod, ok.kind, ok.glob, ok.blt, ok.above, ok.inj, ok.has, ok.cab, ok.hd, ok.frames, ok.stk, ok.exf, ok.bs, ok.bsz, ok.noex, ok.exfs, ok.funs, ok.frf⟩
section
variable {X : Cx} {pins : List (Addr × Obj)} {σ : St} {H : Hp} {s : Shared} {E : Value → Shared → Prop}
theorem Inv.wish (I : Inv X pins σ H s) (E : Value → Shared → Prop) : Inv (X.wish E) pins σ H s := ⟨I.ok.wish E, I.os, I.bare, I.base, I.loc, I.cell, I.free, I.freeC, I.pin, I.hok, I.len⟩
theorem Inv.unwish (I : Inv (X.wish E) pins σ H s) : Inv X pins σ H s := ⟨I.ok.unwish, I.os, I.bare, I.base, I.loc, I.cell, I.free, I.freeC, I.pin, I.hok, I.len⟩
theorem SP.unwish {D : Ends} {f : Flow} {s' : Shared} (h : SP (X.wish E) pins D f s') : SP X pins D f s' := by
  cases f with
  | next => obtain ⟨σ', H', I, q⟩ := h; exact ⟨σ', H', I.unwish, q⟩
  | brk => obtain ⟨σ', H', I, q⟩ := h; exact ⟨σ', H', I.unwish, q⟩
  | cont => obtain ⟨σ', H', I, q⟩ := h; exact ⟨σ', H', I.unwish, q⟩
  | ret u => obtain ⟨v, σ', H', I, r, q⟩ := h; exact ⟨v, σ', H', I.unwish, r, q⟩
theorem PSs.nox {st : List Stmt} {t : TS} (h : PSs X.nox st t) : PSs X st t := fun pins s σ H D I hw =>
  wpAny_mono (h pins s σ H D (I.wish _) hw) (fun _ _ q => q.unwish) fun _ _ z => False.elim z
end
section
variable {X : Cx} {st : Stmt} {rest : List Stmt} {t u : TS} {e : Expr} {te : TE} {pos : Pos}
def tNext : TS := fun D σ H => D.nx σ H
def tSeq (t u : TS) : TS := fun D σ H => t { D with nx := u D } σ H
theorem pss_nil : PSs X [] tNext := fun _ _ σ H _ I h => wpAny_execs_nil ⟨σ, H, I, h⟩
theorem pss_cons (h1 : PS X st t) (h2 : PSs X rest u) : PSs X (st :: rest) (tSeq t u) := by
  intro pins s σ H D I h
  refine wpAny_execs_cons (thn (h1 pins s σ H { D with nx := u D } I h) fun f s1 q => ?_)
  cases f with
  | next =>
    obtain ⟨σ', H', I', q⟩ := q
    exact h2 pins s1 σ' H' D I' q
  | ret v => exact q
  | brk => exact q
  | cont => exact q
theorem pss_one (h1 : PS X st t) : PSs X [st] t := by
  intro pins s σ H D I h
  refine wpAny_execs_cons (thn (h1 pins s σ H D I h) fun f s1 q => ?_)
  cases f with
  | next => exact wpAny_execs_nil q
  | ret v => exact q
  | brk => exact q
  | cont => exact q
theorem Inv.quiet {pins : List (Addr × Obj)} {σ : St} {H : Hp} {s : Shared} (I : Inv X pins σ H s) : interactive X.env = false := by simp [interactive, I.ok.kind]
def tDrop (te : TE) : TS := fun D σ H => te σ H fun _ H1 => D.nx σ H1
theorem ps_expr (he : PE X e te) (hs : swapsWith e none pos.line X.env = pure false := by rfl) : PS X (.Expr e pos) (tDrop te) := by
  intro pins s σ H D I h
  exact wpAny_Expr_any (thn (he pins s σ H _ I h) fun v s1 ⟨x, H1, I1, r1, q1⟩ => ⟨σ, H1, I1, q1⟩) I.quiet hs
def tRet (te : TE) : TS := fun D σ H => te σ H D.rt
theorem ps_ret (he : PE X e te) : PS X (.Return (some e) pos) (tRet te) := by
  intro pins s σ H D I h
  exact wpAny_Return_some (thn (he pins s σ H _ I h) fun v s1 ⟨x, H1, I1, r1, q1⟩ => ⟨x, σ, H1, I1, r1, q1⟩)
def tIfS (c : TT) (t u : TS) : TS := fun D σ H => c σ H fun b H1 => if b = true then t D σ H1 else u D σ H1
theorem ps_if {c : Expr} {a b : List Stmt} {tc : TT} (hc : PT X c tc) (ha : PSs X a t) (hb : PSs X b u) : PS X (.If c a b pos) (tIfS tc t u) := by
  intro pins s σ H D I h
  refine wpAny_If (thn (hc pins s σ H _ I h) fun d s1 ⟨H1, I1, q1⟩ => ?_)
  cases d with
  | true => exact ha pins s1 σ H1 D I1 q1
  | false => exact hb pins s1 σ H1 D I1 q1
end
abbrev TG := V → St → Hp → (St → Hp → Prop) → Prop
abbrev TGs := List V → St → Hp → (St → Hp → Prop) → Prop
def PG (X : Cx) (target : Expr) (t : TG) : Prop :=
  ∀ (pins : List (Addr × Obj)) (s : Shared) (σ : St) (H : Hp) (v : V) (u : Value) (Q : St → Hp → Prop), Inv X pins σ H s → RelV v u → t v σ H Q →
    wpAny (model X.prog X.w) X.A (assign target X.env u) (fun _ s' => ∃ σ' H', Inv X pins σ' H' s' ∧ Q σ' H') X.xe s
def PGs (X : Cx) (ts : List Expr) (t : TGs) : Prop :=
  ∀ (pins : List (Addr × Obj)) (s : Shared) (σ : St) (H : Hp) (vs : List V) (us : List Value) (Q : St → Hp → Prop), Inv X pins σ H s → Vals vs us → t vs σ H Q →
    wpAny (model X.prog X.w) X.A (assignInOrder ((assignEach ts X.env).map (·.2)) us) (fun _ s' => ∃ σ' H', Inv X pins σ' H' s' ∧ Q σ' H') X.xe s
section
variable {X : Cx} {pos : Pos}
def gName (i : Nat) : TG := fun v σ H Q => Q (σ.set i (some v)) H
theorem pg_name {i : Nat} {x : Str} (hN : X.N.Nodup) (hi : X.N[i]? = some x) (hx : Loc X.env.scope x) (hf : X.fn x = true ∨ X.env.scope.names.lookup x = some .local := by first | exact .inl rfl | exact .inr rfl | assumption) : PG X (.Name x pos) (gName i) := by
  intro pins s σ H v u Q I r h
  exact wpAny_assign_Name (store_ok I hN hi hx r (fun s' I' => ⟨_, H, I', h⟩) hf)
def gNil : TGs := fun vs σ H Q => vs = [] ∧ Q σ H
def gCons (t : TG) (u : TGs) : TGs := fun vs σ H Q => ∃ v r, vs = v :: r ∧ t v σ H fun σ' H' => u r σ' H' Q
theorem pgs_nil : PGs X [] gNil := by
  intro pins s σ H vs us Q I r h
  obtain ⟨e, h⟩ := h
  subst e
  cases r
  exact assignInOrder_nil ⟨σ, H, I, h⟩
theorem pgs_cons {e : Expr} {es : List Expr} {t : TG} {u : TGs} (h1 : PG X e t) (h2 : PGs X es u)
    (hs : (assignEach (e :: es) X.env).map (·.2) = assign e X.env :: (assignEach es X.env).map (·.2) := by rfl) : PGs X (e :: es) (gCons t u) := by
  intro pins s σ H vs us Q I r h
  obtain ⟨v, vr, e1, h⟩ := h
  subst e1
  cases r with
  | cons r rr =>
    rw [hs]
    refine assignInOrder_cons (thn (h1 pins s σ H _ _ _ I r h) fun _ s1 ⟨σ1, H1, I1, q1⟩ => ?_)
    exact h2 pins s1 σ1 H1 _ _ Q I1 rr q1
def gTup (K : PySem.W.Frag) (n : Nat) (t : TGs) : TG := fun v σ H Q => ∃ a xs, v = .ref a ∧ SqT K H a xs ∧ xs.length = n ∧ t xs σ H Q
theorem pg_tup {es : List Expr} {k : Nat} {t : TGs} {n : Nat} (hc : X.calm = true) (h : PGs X es t)
    (hn : (assignEach es X.env).length = n := by rfl) (hst : (assignEach es X.env).findIdx? (·.1) = none := by rfl) : PG X (.Tuple es k pos) (gTup X.K n t) := by
  intro pins s σ H v u Q I r hw
  obtain ⟨a, xs, e1, hq, hl, hw⟩ := hw
  subst e1
  cases r
  obtain ⟨its, rv, ht, hz⟩ := I.tuple hq
  refine assign_Tuple_tuple (I.ok.hd hc) ht (by simp [hn, ← hl, rv.length]) hst fun h' hx => ?_
  have I1 : Inv X pins σ H { s with heap := h' } := I.kept (t' := s.toks) fun b o e => hx b o (Nat.ne_of_lt (Heap.lt_size e)) e
  exact h pins _ σ H xs _ Q I1 (by simpa using rv) hw
def tAsg (te : TE) (g : TG) : TS := fun D σ H => te σ H fun x H1 => g x σ H1 D.nx
theorem ps_set {i : Nat} {x : Str} {e : Expr} {te : TE} {pos' : Pos} (hN : X.N.Nodup) (hi : X.N[i]? = some x) (hx : Loc X.env.scope x) (he : PE X e te) (hs : swapsWith e (some (.Name x pos')) pos.line X.env = pure false := by rfl) (hf : X.fn x = true ∨ X.env.scope.names.lookup x = some .local := by first | exact .inl rfl | exact .inr rfl | assumption) :
    PS X (.Assign [.Name x pos'] e pos) (tAsg te (gName i)) := by
  intro pins s σ H D I h
  refine wpAny_Assign_Name (thn (he pins s σ H _ I h) fun v s1 ⟨y, H1, I1, r1, q1⟩ => ?_) hs
  exact store_ok I1 hN hi hx r1 (fun s2 I2 => ⟨_, H1, I2, q1⟩) hf
end
section
variable {X : Cx} {pos : Pos}
def tWhile (c : TT) (tb : TS) : TS := fun D σ H => ∃ W : Nat → St → Hp → Prop, (∃ m, W m σ H) ∧ ∀ m σ H, W m σ H →
  c σ H fun b H1 => if b = true then ∃ N : St → Hp → Prop, (∀ σ' H', N σ' H' → ∃ m', m' < m ∧ W m' σ' H') ∧ tb { D with nx := N, ct := N, bk := D.nx } σ H1 else D.nx σ H1
theorem ps_while {c : Expr} {body : List Stmt} {tc : TT} {tb : TS} (hp : PassesOwn (model X.prog X.w) X.A X.env X.xe) (hc : PT X c tc) (hb : PSs X body tb) : PS X (.While c body [] pos) (tWhile tc tb) := by
  intro pins s σ H D I h
  obtain ⟨W, ⟨m0, w0⟩, turn⟩ := h
  refine wpAny_While (codeAny_whileLoop (fun n s' => ∃ σ' H', Inv X pins σ' H' s' ∧ W n σ' H') ?_ m0 ⟨σ, H, I, w0⟩)
  rintro n s1 ⟨σ1, H1, I1, w1⟩
  refine wpAny_passesOwn hp (thn (hc pins s1 σ1 H1 _ I1 (turn n σ1 H1 w1)) fun b s2 ⟨H2, I2, q2⟩ => ?_)
  cases b with
  | true =>
    obtain ⟨N, hN, q2⟩ := q2
    rw [if_pos rfl]
    refine wpAny_passesOwn hp (thn (hb pins s2 σ1 H2 _ I2 q2) fun f s3 q3 => ?_)
    cases f with
    | next =>
      obtain ⟨σ3, H3, I3, n3⟩ := q3
      obtain ⟨m', hm, w3⟩ := hN σ3 H3 n3
      exact ⟨m', hm, σ3, H3, I3, w3⟩
    | cont =>
      obtain ⟨σ3, H3, I3, n3⟩ := q3
      obtain ⟨m', hm, w3⟩ := hN σ3 H3 n3
      exact ⟨m', hm, σ3, H3, I3, w3⟩
    | brk => exact q3
    | ret v => exact q3
  | false =>
    rw [if_neg Bool.false_ne_true]
    exact wpAny_execs_nil ⟨σ1, H2, I2, q2⟩
end
structure It where
  go : Nat → Hp → Prop
  yld : Nat → Hp → V → Hp → Prop
  stop : Nat → Hp → Prop
def FpOk (X : Cx) (pins : List (Addr × Obj)) (H : Hp) (b : Addr) : Prop :=
  H b = none ∧ b ≠ X.env.locals ∧ b ∉ X.fs ∧ (b ∈ X.ex ∨ X.s_0.heap.objs.size ≤ b) ∧ (∀ x c, X.env.cells.lookup x = some c → c ≠ b) ∧ ∀ p ∈ X.pn ++ pins, p.1 ≠ b
theorem Inv.fpOk {X : Cx} {pins : List (Addr × Obj)} {σ : St} {H H' : Hp} {s : Shared} {b : Addr} (I : Inv X pins σ H s) (hb : s.heap.objs.size ≤ b) (hn : H' b = none) : FpOk X pins H' b := by
  refine ⟨hn, Nat.ne_of_gt (Nat.lt_of_lt_of_le I.lt hb), I.nofs hb, .inr (Nat.le_trans I.sz hb), fun x c e z => ?_, fun p hp z => ?_⟩
  · obtain ⟨v, q⟩ := I.cell x c e
    exact absurd (Nat.lt_of_lt_of_le q.lt (by rw [z]; exact hb)) (Nat.lt_irrefl _)
  · exact absurd (Nat.lt_of_lt_of_le (Heap.lt_size (I.pin p hp).1) (by rw [z]; exact hb)) (Nat.lt_irrefl _)
structure Turn (P : Program) (w : World) (K : PySem.W.Frag) (tg : Expr) (J : It) (fp : List Addr) (it : Addr) (tn : Nat → Heap → Prop) : Prop where
  mem : it ∈ fp
  obj : ∀ i h, tn i h → ∀ b ∈ fp, ∃ o, h.get? b = some o ∧ ∀ v, o.data ≠ .cell v
  keep : ∀ i h h', tn i h → (∀ b ∈ fp, ∀ o, h.get? b = some o → h'.get? b = some o) → tn i h'
  item : ∀ (X : Cx), X.prog = P → X.w = w → X.K = K → X.calm = true → ∀ (i : Nat) (pins : List (Addr × Obj)) (s : Shared) (σ : St) (H : Hp) (E : Value → Shared → Prop), Inv X pins σ H s → (∀ b ∈ fp, FpOk X pins H b) → tn i s.heap → J.go i H →
    wpAny (model P w) X.A (pyNext (.ref it)) (fun r s1 => ∃ u, r = some u ∧
      wpAny (model P w) X.A (letOwnedTupleGo tg (.ref it) u) (fun _ s2 => ∃ x H', Inv X pins σ H' s2 ∧ RelV x u ∧ J.yld i H x H' ∧ tn (i + 1) s2.heap ∧ ∀ b ∈ fp, H' b = none) E s1) E s
  done : ∀ (X : Cx), X.prog = P → X.w = w → X.K = K → X.calm = true → ∀ (i : Nat) (pins : List (Addr × Obj)) (s : Shared) (σ : St) (H : Hp) (E : Value → Shared → Prop), Inv X pins σ H s → (∀ b ∈ fp, FpOk X pins H b) → tn i s.heap → J.stop i H →
    wpAny (model P w) X.A (pyNext (.ref it)) (fun r s1 => r = none ∧ Inv X pins σ H s1) E s
  self : ∀ (A : Around) (i : Nat) (s : Shared) (Q : Value → Shared → Prop) (E : Value → Shared → Prop), tn i s.heap → Q (.ref it) s → wpAny (model P w) A (pyIter (.ref it)) Q E s
abbrev TI := St → Hp → (It → Hp → Prop) → Prop
def PIE (X : Cx) (pins : List (Addr × Obj)) (σ : St) (tg : Expr) (R : It → Hp → Prop) (itv : Value) (s2 : Shared) : Prop :=
  ∃ (it : Addr) (fp : List Addr) (tn : Nat → Heap → Prop) (J : It) (H' : Hp), itv = .ref it ∧ Inv X pins σ H' s2 ∧ Turn X.prog X.w X.K tg J fp it tn ∧ tn 0 s2.heap ∧ (∀ b ∈ fp, FpOk X pins H' b) ∧ R J H'
def PI (X : Cx) (tg iter : Expr) (wi : TI) : Prop :=
  ∀ (pins : List (Addr × Obj)) (s : Shared) (σ : St) (H : Hp) (R : It → Hp → Prop), Inv X pins σ H s → wi σ H R →
    wpAny (model X.prog X.w) X.A (eval iter X.env) (fun v s1 => wpAny (model X.prog X.w) X.A (pyIter v) (PIE X pins σ tg R) X.xe s1) X.xe s
theorem go_of {M : Model} {A : Around} {E : Value → Shared → Prop} {s : Shared} {tg : Expr} {it : Addr} {u : Value} {o : Obj} {n : String} {vs : Array Value} {Q : Unit → Shared → Prop} (ho : s.heap.get? it = some o) (hc : o.cls = .type n) (hd : o.data = .fields vs)
    (hn : ["enumerate", "zip", "dict_itemiterator", "dict_reverseitemiterator", "odict_iterator", "itertools.zip_longest", "itertools.pairwise"].contains n = false) (hQ : Q () s) : wpAny M A (letOwnedTupleGo tg (.ref it) u) Q E s := by
  unfold letOwnedTupleGo
  cases tg <;> first
    | exact wpAny_pure hQ
    | (cases u <;> first
        | exact wpAny_pure hQ
        | (refine wpAny_bind (wpAny_load ho ?_)
           rw [hc, hd]
           show wpAny M A (if (["enumerate", "zip", "dict_itemiterator", "dict_reverseitemiterator", "odict_iterator", "itertools.zip_longest", "itertools.pairwise"].contains n && vs[0]? == some (rawInt _)) = true then _ else _) Q E s
           rw [if_neg (by intro h; rw [hn, Bool.false_and] at h; cases h)]
           exact wpAny_pure hQ))
def Itl (K : PySem.W.Frag) (a : Addr) : It :=
  ⟨fun i H => ∃ xs x, SqL K H a xs ∧ xs[i]? = some x, fun i H x H' => H' = H ∧ ∀ xs, SqL K H a xs → xs[i]? = some x, fun i H => ∃ xs, SqL K H a xs ∧ xs.length ≤ i⟩
theorem turn_list {P : Program} {w : World} {K : PySem.W.Frag} {tg : Expr} (a it : Addr) : Turn P w K tg (Itl K a) [it] it (fun i h => h.IsListIter it a i) where
  mem := by simp
  obj := fun i h st b hb => by
    have e : b = it := by simpa using hb
    subst e
    obtain ⟨o, e, c, d⟩ := st
    exact ⟨o, e, fun v z => by rw [d] at z; cases z⟩
  keep := fun i h h' st k => st.at fun o e => k it (by simp) o e
  item := by
    intro X hP hw hK hc i pins s σ H E I hf st hg
    subst hP hw hK
    obtain ⟨xs, x, hq, hx⟩ := hg
    obtain ⟨its, rv, p, hz⟩ := I.list hq
    obtain ⟨u, hu, ru⟩ := rv.get hx
    obtain ⟨f0, f1, f2, f3, f4, f5⟩ := hf it (by simp)
    refine wpAny_pyNext_list_item st p.isList (x := u) (by simpa using hu) fun h' st' sb => ?_
    have I1 : Inv X pins σ H { s with heap := h' } := I.turned (t' := s.toks) (fun b o hb e => (sb.2 b hb).trans e) f0 f1 f3 f4 f5
    obtain ⟨o, e, c, d⟩ := id st'
    exact ⟨u, rfl, go_of (s := { s with heap := h' }) e c d (by decide) ⟨x, H, I1, ru, ⟨rfl, fun ys hy => by rw [I.list_inj hy hq]; exact hx⟩, st', fun b hb => (hf b hb).1⟩⟩
  done := by
    intro X hP hw hK hc i pins s σ H E I hf st hg
    subst hP hw hK
    obtain ⟨xs, hq, hx⟩ := hg
    obtain ⟨its, rv, p, hz⟩ := I.list hq
    obtain ⟨f0, f1, f2, f3, f4, f5⟩ := hf it (by simp)
    have hl := rv.length
    exact wpAny_pyNext_list_end (I.ok.hd hc) st p.isList (by simp; omega) fun h' eb => ⟨rfl, I.turned (t' := s.toks) (fun b o hb e => eb b o hb e) f0 f1 f3 f4 f5⟩
  self := fun _ _ _ _ _ st h => wpAny_pyIter_listiter st h
end L2
namespace L2
open PySem PySem.Spec PyProof.Rows
section
variable {X : Cx} {tg : Expr}
def iList (K : PySem.W.Frag) (tl : TE) : TI := fun σ H R => tl σ H fun x H1 => ∃ a, x = .ref a ∧ (∃ xs, SqL K H1 a xs) ∧ R (Itl K a) H1
theorem pi_list {l : Expr} {tl : TE} (hl : PE X l tl) : PI X tg l (iList X.K tl) := by
  intro pins s σ H R I h
  refine thn (hl pins s σ H _ I h) fun v s1 ⟨x, H1, I1, r1, q1⟩ => ?_
  obtain ⟨a, e, ⟨xs, hq⟩, q⟩ := q1
  subst e
  cases r1
  obtain ⟨its, rv, p, hz⟩ := I1.list hq
  refine wpAny_pyIter_list p.isList ?_
  refine ⟨s1.heap.objs.size, [s1.heap.objs.size], _, _, H1, rfl, I1.kept (t' := s1.toks) fun b o e => Heap.get?_push_of_some _ e, turn_list a _, ⟨_, Heap.get?_push_size _ rfl, rfl, rfl⟩, fun b hb => ?_, q⟩
  have e : b = s1.heap.objs.size := by simpa using hb
  subst e
  exact I1.fpOk (Nat.le_refl _) (I1.hok.fresh (Nat.le_refl _))
def tFor (wi : TI) (g : TG) (tb : TS) : TS := fun D σ H => wi σ H fun J H1 => ∃ W : Nat → Nat → St → Hp → Prop, (∃ m, W 0 m σ H1) ∧ ∀ i m σ H, W i m σ H →
  (J.stop i H ∧ D.nx σ H) ∨ (J.go i H ∧ ∃ N : St → Hp → Prop, (∀ σ' H', N σ' H' → ∃ m', m' < m ∧ W (i + 1) m' σ' H') ∧ ∀ x H', J.yld i H x H' → g x σ H' fun σ2 H2 => tb { D with nx := N, ct := N, bk := D.nx } σ2 H2)
def pinsAt (fp : List Addr) (h : Heap) : List (Addr × Obj) := fp.filterMap fun b => (h.get? b).map fun o => (b, o)
theorem mem_pinsAt {fp : List Addr} {h : Heap} {b : Addr} {o : Obj} (hb : b ∈ fp) (e : h.get? b = some o) : (b, o) ∈ pinsAt fp h := List.mem_filterMap.mpr ⟨b, hb, by rw [e]; rfl⟩
theorem of_pinsAt {fp : List Addr} {h : Heap} {p : Addr × Obj} (hp : p ∈ pinsAt fp h) : p.1 ∈ fp ∧ h.get? p.1 = some p.2 := by
  obtain ⟨b, hb, e⟩ := List.mem_filterMap.mp hp
  cases q : h.get? b with
  | none => rw [q] at e; cases e
  | some o =>
    rw [q] at e
    have e' : (b, o) = p := Option.some.inj e
    subst e'
    exact ⟨hb, q⟩
theorem Inv.pinned {pins : List (Addr × Obj)} {σ : St} {H : Hp} {s : Shared} {fp : List Addr} (I : Inv X pins σ H s) (hf : ∀ b ∈ fp, FpOk X pins H b) (ho : ∀ b ∈ fp, ∃ o, s.heap.get? b = some o ∧ ∀ v, o.data ≠ .cell v) : Inv X (pins ++ pinsAt fp s.heap) σ H s :=
  I.pins_of fun p hp => (List.mem_append.mp hp).elim (fun z => I.pin p (List.mem_append_right _ z)) fun z => by
    obtain ⟨hb, e⟩ := of_pinsAt z
    obtain ⟨f0, f1, f2, _⟩ := hf p.1 hb
    obtain ⟨o, e', d⟩ := ho p.1 hb
    rw [e] at e'; cases e'
    exact ⟨e, f0, f1, f2, d⟩
theorem Inv.unpinned {pins pl : List (Addr × Obj)} {σ : St} {H : Hp} {s : Shared} (I : Inv X (pins ++ pl) σ H s) : Inv X pins σ H s := I.pins_of fun p hp => I.pin p (List.mem_append_right _ (List.mem_append_left _ hp))
theorem ps_for {iter : Expr} {body : List Stmt} {wi : TI} {g : TG} {tb : TS} {pos : Pos} (hp : PassesOwn (model X.prog X.w) X.A X.env X.xe) (hc : X.calm = true) (hi : PI X tg iter wi) (hg : PG X tg g) (hb : PSs X body tb)
    (hs : ∀ x, foldedSetIterable iter X.env x = pure x := by intro _; rfl) : PS X (.For tg iter body [] pos) (tFor wi g tb) := by
  intro pins s σ H D I h
  refine wpAny_For (thn (hi pins s σ H _ I h) fun v s1 h1 => thn h1 fun itv s2 h2 => ?_) hs
  obtain ⟨it, fp, tn, J, H2, e, I2, T, st2, f2, W, ⟨m0, w0⟩, turn⟩ := h2
  subst e
  -- what stays true of the iterator's objects through the loop
  have stat : ∀ {H' : Hp}, (∀ b ∈ fp, H' b = none) → ∀ b ∈ fp, FpOk X pins H' b := fun hn b hb => ⟨hn b hb, (f2 b hb).2⟩
  refine codeAny_forLoop_any (fun n s' => ∃ i σ' H', Inv X pins σ' H' s' ∧ tn i s'.heap ∧ (∀ b ∈ fp, H' b = none) ∧ W i n σ' H') ?_ m0 ⟨0, σ, H2, I2, st2, fun b hb => (f2 b hb).1, w0⟩
  rintro n s3 ⟨i, σ3, H3, I3, st3, fr3, w3⟩
  rcases turn i n σ3 H3 w3 with ⟨stop, qn⟩ | ⟨go, N, hN, step⟩
  · refine wpAny_passesOwn hp (thn (T.done X rfl rfl rfl hc i pins s3 σ3 H3 X.xe I3 (stat fr3) st3 stop) fun r s4 ⟨hr, I4⟩ => ?_)
    subst hr
    exact wpAny_execs_nil ⟨σ3, H3, I4, qn⟩
  · refine wpAny_passesOwn hp (thn (T.item X rfl rfl rfl hc i pins s3 σ3 H3 X.xe I3 (stat fr3) st3 go) fun r s4 ⟨u, hr, h4⟩ => ?_)
    subst hr
    refine wpAny_passesOwn hp (thn h4 fun _ s5 ⟨x, H5, I5, r5, y5, st5, fr5⟩ => ?_)
    have I5' := I5.pinned (stat fr5) (T.obj _ _ st5)
    refine wpAny_passesOwn hp (thn (hg _ s5 σ3 H5 x u _ I5' r5 (step x H5 y5)) fun _ s6 ⟨σ6, H6, I6, q6⟩ => ?_)
    refine wpAny_passesOwn hp (thn (hb _ s6 σ6 H6 _ I6 q6) fun f s7 q7 => ?_)
    have again : ∀ {σ7 : St} {H7 : Hp}, Inv X (pins ++ pinsAt fp s5.heap) σ7 H7 s7 → N σ7 H7 → ∃ m, m < n ∧ ∃ i σ' H', Inv X pins σ' H' s7 ∧ tn i s7.heap ∧ (∀ b ∈ fp, H' b = none) ∧ W i m σ' H' := fun {σ7 H7} I7 n7 => by
      obtain ⟨m', hm, w7⟩ := hN σ7 H7 n7
      refine ⟨m', hm, i + 1, σ7, H7, I7.unpinned, T.keep _ _ _ st5 fun b hb o e => (I7.pin (b, o) (List.mem_append_right _ (List.mem_append_right _ (mem_pinsAt hb e)))).1, fun b hb => ?_, w7⟩
      obtain ⟨o, e, d⟩ := T.obj _ _ st5 b hb
      exact (I7.pin (b, o) (List.mem_append_right _ (List.mem_append_right _ (mem_pinsAt hb e)))).2.1
    cases f with
    | next => obtain ⟨σ7, H7, I7, n7⟩ := q7; exact again I7 n7
    | cont => obtain ⟨σ7, H7, I7, n7⟩ := q7; exact again I7 n7
    | brk => obtain ⟨σ7, H7, I7, q7⟩ := q7; exact ⟨σ7, H7, I7.unpinned, q7⟩
    | ret v => obtain ⟨x7, σ7, H7, I7, r7, q7⟩ := q7; exact ⟨x7, σ7, H7, I7.unpinned, r7, q7⟩
end
theorem for_list {K : PySem.W.Frag} {a : Addr} {xs : List V} {g : TG} {tb : TS} {D : Ends} {σ : St} {H : Hp} (Pv : Nat → St → Hp → Prop) (h0 : Pv 0 σ H) (hl : ∀ i σ H, i ≤ xs.length → Pv i σ H → SqL K H a xs)
    (hs : ∀ i x σ H, xs[i]? = some x → Pv i σ H → g x σ H fun σ2 H2 => tb { D with nx := Pv (i + 1), ct := Pv (i + 1), bk := D.nx } σ2 H2) (hd : ∀ σ H, Pv xs.length σ H → D.nx σ H) :
    ∃ W : Nat → Nat → St → Hp → Prop, (∃ m, W 0 m σ H) ∧ ∀ i m σ H, W i m σ H →
      ((Itl K a).stop i H ∧ D.nx σ H) ∨ ((Itl K a).go i H ∧ ∃ N : St → Hp → Prop, (∀ σ' H', N σ' H' → ∃ m', m' < m ∧ W (i + 1) m' σ' H') ∧ ∀ x H', (Itl K a).yld i H x H' → g x σ H' fun σ2 H2 => tb { D with nx := N, ct := N, bk := D.nx } σ2 H2) := by
  refine ⟨fun i m σ H => m = xs.length - i ∧ i ≤ xs.length ∧ Pv i σ H, ⟨xs.length, by simp, Nat.zero_le _, h0⟩, ?_⟩
  rintro i m σ H ⟨rfl, hi, p⟩
  have q := hl i σ H hi p
  by_cases hlt : i < xs.length
  · refine .inr ⟨⟨xs, xs[i], q, by simp [hlt]⟩, Pv (i + 1), fun σ' H' p' => ⟨xs.length - (i + 1), by omega, rfl, hlt, p'⟩, fun x H' y => ?_⟩
    obtain ⟨e, y⟩ := y
    subst e
    exact hs i x σ _ (y xs q) p
  · have e : i = xs.length := by omega
    subst e
    exact .inl ⟨⟨xs, q, Nat.le_refl _⟩, hd σ H p⟩
end L2
namespace L2
open PySem PySem.Spec PyProof.Rows
abbrev R2 := V → V → Hp → VK → Prop
def OpR (X : Cx) (f : Value → Value → Sem Value) (r : R2) : Prop :=
  ∀ (pins : List (Addr × Obj)) (s : Shared) (σ : St) (H : Hp) (x y : V) (v u : Value) (Q : VK), Inv X pins σ H s → RelV x v → RelV y u → r x y H Q →
    wpAny (model X.prog X.w) X.A (f v u) (EP X pins σ Q) X.xe s
def CallR (X : Cx) (f : Value) (r : List V → Hp → VK → Prop) : Prop :=
  ∀ (pins : List (Addr × Obj)) (s : Shared) (σ : St) (H : Hp) (xs : List V) (us : List Value) (Q : VK), Inv X pins σ H s → Vals xs us → r xs H Q →
    wpAny (model X.prog X.w) X.A (call f us) (EP X pins σ Q) X.xe s
def tOp (r : R2) (ta tb : TE) : TE := fun σ H Q => ta σ H fun x H1 => tb σ H1 fun y H2 => r x y H2 Q
def rI (C : Int → Int → Prop) (g : Int → Int → V) : R2 := fun x y H Q => ∃ i j, x = .int i ∧ y = .int j ∧ C i j ∧ Q (g i j) H
def rI0 (g : Int → Int → V) : R2 := fun x y H Q => ∃ i j, x = .int i ∧ y = .int j ∧ Q (g i j) H
section
variable {X : Cx} {a b c : Expr} {ta tb tc : TE} {pos : Pos}
theorem binT (ha : PE X a ta) (hb : PE X b tb) {pins : List (Addr × Obj)} {s : Shared} {σ : St} {H : Hp} {R : V → V → Hp → Prop} (I : Inv X pins σ H s)
    (h : ta σ H fun x H1 => tb σ H1 fun y H2 => R x y H2) {Q : Value → Shared → Prop} {f : Value → Value → Sem Value}
    (hf : ∀ v u s2 x y H2, Inv X pins σ H2 s2 → RelV x v → RelV y u → R x y H2 → wpAny (model X.prog X.w) X.A (f v u) Q X.xe s2) :
    wpAny (model X.prog X.w) X.A (eval a X.env) (fun v s₁ => wpAny (model X.prog X.w) X.A (eval b X.env) (fun u s₂ => wpAny (model X.prog X.w) X.A (f v u) Q X.xe s₂) X.xe s₁) X.xe s := by
  refine thn (ha pins s σ H _ I h) fun v s1 ⟨x, H1, I1, r1, q1⟩ => ?_
  refine thn (hb pins s1 σ H1 _ I1 q1) fun u s2 ⟨y, H2, I2, r2, q2⟩ => ?_
  exact hf v u s2 x y H2 I2 r1 r2 q2
theorem pe_op {op : Operator} {r : R2} (ho : OpR X (binaryOp op) r) (ha : PE X a ta) (hb : PE X b tb) : PE X (.BinOp a op b pos) (tOp r ta tb) := by
  intro pins s σ H Q I h
  exact wpAny_BinOp (binT ha hb I h fun v u s2 x y H2 I2 rx ry q => ho pins s2 σ H2 x y v u Q I2 rx ry q)
theorem opI {f : Value → Value → Sem Value} {C : Int → Int → Prop} {g : Int → Int → Int}
    (rule : ∀ (i j : Int) (t u : Tok) (s : Shared) (Q : Value → Shared → Prop) (E : Value → Shared → Prop), C i j → Q (.int (g i j) s.toks) { s with toks := s.toks + 1 } → wpAny (model X.prog X.w) X.A (f (.int i t) (.int j u)) Q E s) :
    OpR X f (rI C fun i j => .int (g i j)) := by
  intro pins s σ H x y v u Q I rx ry h
  obtain ⟨i, j, rfl, rfl, hc, q⟩ := h
  obtain ⟨t, rfl⟩ := rx
  obtain ⟨t', rfl⟩ := ry
  exact rule i j t t' s _ _ hc ⟨.int (g i j), H, I.tok _, ⟨_, rfl⟩, q⟩
theorem opI0 {f : Value → Value → Sem Value} {g : Int → Int → Int}
    (rule : ∀ (i j : Int) (t u : Tok) (s : Shared) (Q : Value → Shared → Prop) (E : Value → Shared → Prop), Q (.int (g i j) s.toks) { s with toks := s.toks + 1 } → wpAny (model X.prog X.w) X.A (f (.int i t) (.int j u)) Q E s) :
    OpR X f (rI0 fun i j => .int (g i j)) := by
  intro pins s σ H x y v u Q I rx ry h
  obtain ⟨i, j, rfl, rfl, q⟩ := h
  obtain ⟨t, rfl⟩ := rx
  obtain ⟨t', rfl⟩ := ry
  exact rule i j t t' s _ _ ⟨.int (g i j), H, I.tok _, ⟨_, rfl⟩, q⟩
theorem opB0 {f : Value → Value → Sem Value} {g : Int → Int → Bool}
    (rule : ∀ (i j : Int) (t u : Tok) (s : Shared) (Q : Value → Shared → Prop) (E : Value → Shared → Prop), Q (.bool (g i j)) s → wpAny (model X.prog X.w) X.A (f (.int i t) (.int j u)) Q E s) :
    OpR X f (rI0 fun i j => .bl (g i j)) := by
  intro pins s σ H x y v u Q I rx ry h
  obtain ⟨i, j, rfl, rfl, q⟩ := h
  obtain ⟨t, rfl⟩ := rx
  obtain ⟨t', rfl⟩ := ry
  exact rule i j t t' s _ _ ⟨.bl (g i j), H, I, rfl, q⟩
def CDiv (i j : Int) : Prop := 0 < j ∧ j < 1073741824
def CMul (i j : Int) : Prop := (-(2 ^ 64) < i ∧ i < 2 ^ 64) ∨ (-(2 ^ 64) < j ∧ j < 2 ^ 64)
theorem CMul.ok {i j : Int} (h : CMul i j) : IntMulOk i j := by
  rcases h with ⟨h1, h2⟩ | ⟨h1, h2⟩
  · exact .of_left (intBits_le_64 h1 h2)
  · exact .of_right (intBits_le_64 h1 h2)
theorem op_add : OpR X (binaryOp .Add) (rI0 fun i j => .int (i + j)) := opI0 fun _ _ _ _ _ _ _ q => add_int q
theorem op_sub : OpR X (binaryOp .Sub) (rI0 fun i j => .int (i - j)) := opI0 fun _ _ _ _ _ _ _ q => sub_int q
theorem op_mul : OpR X (binaryOp .Mult) (rI CMul fun i j => .int (i * j)) := opI fun _ _ _ _ _ _ _ hc q => mul_int q hc.ok
theorem op_fdiv : OpR X (binaryOp .FloorDiv) (rI CDiv fun i j => .int (i / j)) := opI fun i j _ _ _ _ _ hc q => by
  have h1 : (0 : Int) < j := hc.1
  have h2 : j < 1073741824 := hc.2
  exact floordiv_int (by omega) (by rw [Int.fdiv_eq_ediv_of_nonneg i (by omega)]; exact q) (.inl (PyProof.noPylong_small (by omega)))
end
def scal : V → V → Bool
  | .non, .non => true | .non, .int _ => true | .int _, .non => true | .non, .bl _ => true | .bl _, .non => true | .non, .str _ => true | .str _, .non => true
  | .int _, .int _ => true | .bl _, .bl _ => true | .str _, .str _ => true | .byt _, .byt _ => true
  | .int _, .str _ => true | .str _, .int _ => true | .bl _, .str _ => true | .str _, .bl _ => true
  | _, _ => false
def rEq : R2 := fun x y H Q => scal x y = true ∧ Q (.bl (decide (x = y))) H
theorem dec_int {i j : Int} : decide (V.int i = V.int j) = (i == j) := by
  rw [Bool.eq_iff_iff]
  simp
theorem dec_bl {i j : Bool} : decide (V.bl i = V.bl j) = (i == j) := by
  rw [Bool.eq_iff_iff]
  simp
theorem dec_str {i j : Str} : decide (V.str i = V.str j) = (i == j) := by
  rw [Bool.eq_iff_iff]
  simp
theorem dec_byt {i j : Array UInt8} : decide (V.byt i = V.byt j) = (i.toList == j.toList) := by
  rw [Bool.eq_iff_iff]
  cases i
  cases j
  simp
section
variable {X : Cx} {a b c : Expr} {ta tb tc : TE} {pos : Pos}
theorem fin_bl {pins : List (Addr × Obj)} {σ : St} {H : Hp} {s : Shared} {Q : VK} {k k' : Bool} (I : Inv X pins σ H s) (q : Q (.bl k) H) (e : k = k') : EP X pins σ Q (.bool k') s := by
  subst e
  exact ⟨.bl k, H, I, rfl, q⟩
theorem op_eq : OpR X (compareOp .Eq) rEq := by
  intro pins s σ H x y v u Q I rx ry h
  obtain ⟨hs, q⟩ := h
  cases x with
  | non =>
    cases rx
    cases y with
    | non => cases ry; exact PySem.EqNone.eq_none_none (fin_bl I q (by simp))
    | bl j => cases ry; exact PySem.EqNone.eq_none_bool (fin_bl I q (by simp))
    | int j => obtain ⟨t', rfl⟩ := ry; exact PySem.EqNone.eq_none_int (fin_bl I q (by simp))
    | str j => obtain ⟨t', rfl⟩ := ry; exact PySem.EqNone.eq_none_str (fin_bl I q (by simp))
    | _ => exact absurd (show false = true from hs) Bool.false_ne_true
  | bl i =>
    cases rx
    cases y with
    | non => cases ry; exact PySem.EqNone.eq_bool_none (fin_bl I q (by simp))
    | bl j => cases ry; exact eq_bool (fin_bl I q dec_bl)
    | str j => obtain ⟨t', rfl⟩ := ry; exact PySem.EqMixed.eq_bool_str (fin_bl I q (by simp))
    | _ => exact absurd (show false = true from hs) Bool.false_ne_true
  | int i =>
    obtain ⟨t, rfl⟩ := rx
    cases y with
    | non => cases ry; exact PySem.EqNone.eq_int_none (fin_bl I q (by simp))
    | int j => obtain ⟨t', rfl⟩ := ry; exact eq_int (fin_bl I q dec_int)
    | str j => obtain ⟨t', rfl⟩ := ry; exact PySem.EqMixed.eq_int_str (fin_bl I q (by simp))
    | _ => exact absurd (show false = true from hs) Bool.false_ne_true
  | str i =>
    obtain ⟨t, rfl⟩ := rx
    cases y with
    | non => cases ry; exact PySem.EqNone.eq_str_none (fin_bl I q (by simp))
    | bl j => cases ry; exact PySem.EqMixed.eq_str_bool (fin_bl I q (by simp))
    | int j => obtain ⟨t', rfl⟩ := ry; exact PySem.EqMixed.eq_str_int (fin_bl I q (by simp))
    | str j => obtain ⟨t', rfl⟩ := ry; exact eq_str (fin_bl I q dec_str)
    | _ => exact absurd (show false = true from hs) Bool.false_ne_true
  | byt i =>
    obtain ⟨t, rfl⟩ := rx
    cases y with
    | byt j => obtain ⟨t', rfl⟩ := ry; exact PySem.W.eq_bytes (fin_bl I q dec_byt)
    | _ => exact absurd (show false = true from hs) Bool.false_ne_true
  | _ => cases y <;> exact absurd (show false = true from hs) Bool.false_ne_true
theorem op_lt : OpR X (compareOp .Lt) (rI0 fun i j => .bl (decide (i < j))) := opB0 fun _ _ _ _ _ _ _ q => lt_int q
theorem op_le : OpR X (compareOp .LtE) (rI0 fun i j => .bl (decide (i ≤ j))) := opB0 fun _ _ _ _ _ _ _ q => le_int q
theorem op_gt : OpR X (compareOp .Gt) (rI0 fun i j => .bl (decide (j < i))) := opB0 fun _ _ _ _ _ _ _ q => gt_int q
theorem op_ge : OpR X (compareOp .GtE) (rI0 fun i j => .bl (decide (j ≤ i))) := opB0 fun _ _ _ _ _ _ _ q => ge_int q
theorem op_isN : OpR X (compareOp .Is) (fun x y H Q => y = .non ∧ Q (.bl (decide (x = .non))) H) := by
  intro pins s σ H x y v u Q I rx ry h
  obtain ⟨rfl, q⟩ := h
  cases ry
  refine is_none_gen (fin_bl I q ?_)
  cases x <;> first
    | (cases rx; rfl)
    | (obtain ⟨t, rfl⟩ := rx; rfl)
theorem op_notN : OpR X (compareOp .IsNot) (fun x y H Q => y = .non ∧ Q (.bl (!decide (x = .non))) H) := by
  intro pins s σ H x y v u Q I rx ry h
  obtain ⟨rfl, q⟩ := h
  cases ry
  refine isnot_none_gen (fin_bl I q ?_)
  cases x <;> first
    | (cases rx; rfl)
    | (obtain ⟨t, rfl⟩ := rx; rfl)
theorem nomark (b : Expr) {op : CmpOp} (h : op ≠ .In := by decide) (h2 : op ≠ .NotIn := by decide) : behindInMarks op b = false := by
  have e1 : (op == CmpOp.In) = false := by cases op <;> first | rfl | exact absurd rfl h
  have e2 : (op == CmpOp.NotIn) = false := by cases op <;> first | rfl | exact absurd rfl h2
  cases b <;> simp [behindInMarks, e1, e2]
theorem pe_cmpR {op : CmpOp} {r : R2} (ho : OpR X (compareOp op) r) (ha : PE X a ta) (hb : PE X b tb) (hm : behindInMarks op b = false) : PE X (.Compare a [op] [b] pos) (tOp r ta tb) := by
  intro pins s σ H Q I h
  exact wpAny_Compare1 (binT ha hb I h fun v u s2 x y H2 I2 rx ry q => ho pins s2 σ H2 x y v u Q I2 rx ry q) hm
def tTest (t : TE) : TT := fun σ H Q => t σ H fun x H' => ∃ k, x = .bl k ∧ Q k H'
theorem pt_cmpR {op : CmpOp} {r : R2} (ho : OpR X (compareOp op) r) (ha : PE X a ta) (hb : PE X b tb) (hm : behindInMarks op b = false) : PT X (.Compare a [op] [b] pos) (tTest (tOp r ta tb)) := by
  intro pins s σ H Q I h
  refine wpAny_isTrue_Compare1 (thn (ha pins s σ H _ I h) fun v s1 ⟨x, H1, I1, r1, q1⟩ => thn (hb pins s1 σ H1 _ I1 q1) fun u s2 ⟨y, H2, I2, r2, q2⟩ =>
    thn (ho pins s2 σ H2 x y v u _ I2 r1 r2 q2) fun c s3 ⟨z, H3, I3, r3, k, e, q3⟩ => ?_) hm
  subst e
  cases r3
  exact wpAny_truthy_bool ⟨H3, I3, q3⟩
theorem line63 : (sizeLine : Nat) < 2 ^ 63 := by rw [sizeLine_eq]; decide
theorem vals1 {x : V} {us : List Value} (r : Vals [x] us) : ∃ u, us = [u] ∧ RelV x u := by
  cases r with
  | cons r1 r2 => cases r2; exact ⟨_, rfl, r1⟩
theorem vals2 {x y : V} {us : List Value} (r : Vals [x, y] us) : ∃ u w', us = [u, w'] ∧ RelV x u ∧ RelV y w' := by
  cases r with
  | cons r1 r2 =>
    cases r2 with
    | cons r3 r4 => cases r4; exact ⟨_, _, rfl, r1, r3⟩
theorem call_max2 (hc : X.calm = true) : CallR X (.builtin "max") (fun xs H Q => ∃ i j, xs = [.int i, .int j] ∧ Q (.int (if j > i then j else i)) H) := by
  intro pins s σ H xs us Q I r h
  obtain ⟨i, j, rfl, q⟩ := h
  obtain ⟨u, w', rfl, ⟨t, rfl⟩, ⟨t', rfl⟩⟩ := vals2 r
  refine max_two_ints (I.ok.hd hc) fun h' tk k => ⟨_, H, I.kept k, ?_, q⟩
  by_cases hj : j > i
  · rw [if_pos hj, if_pos hj]; exact ⟨_, rfl⟩
  · rw [if_neg hj, if_neg hj]; exact ⟨_, rfl⟩
theorem call_min2 (hc : X.calm = true) : CallR X (.builtin "min") (fun xs H Q => ∃ i j, xs = [.int i, .int j] ∧ Q (.int (if j < i then j else i)) H) := by
  intro pins s σ H xs us Q I r h
  obtain ⟨i, j, rfl, q⟩ := h
  obtain ⟨u, w', rfl, ⟨t, rfl⟩, ⟨t', rfl⟩⟩ := vals2 r
  refine min_two_ints (I.ok.hd hc) fun h' tk k => ⟨_, H, I.kept k, ?_, q⟩
  by_cases hj : j < i
  · rw [if_pos hj, if_pos hj]; exact ⟨_, rfl⟩
  · rw [if_neg hj, if_neg hj]; exact ⟨_, rfl⟩
end
end L2
namespace L2
open PySem PySem.Spec PyProof.Rows
structure ObjM (h : Heap) (x dx C : Addr) (mA : Str → Option Value) : Prop where
  obj : h.get? x = some (PySem.W.instObj C dx)
  ns : h.Ns1 dx mA
  ne : dx ≠ x
theorem lookIn_ns {h : Heap} {dx : Addr} {mA : Str → Option Value} (n : h.Ns1 dx mA) : ∃ od, h.get? dx = some od ∧ ∀ name, PySem.W.lookIn name od = some (mA name) := by
  obtain ⟨o, es, ep, ho, hd, hk, _, hm⟩ := n
  refine ⟨o, ho, fun name => ?_⟩
  have e := hm name
  unfold nsFind findBy at e
  rw [← Array.find?_toList] at e
  unfold PySem.W.lookIn
  rw [hd]
  dsimp only
  split
  · rename_i y q
    rw [q] at e
    exact congrArg some e
  · rename_i q
    rw [q] at e
    have a : es.toList.any (·.refKey) = false := by
      rw [List.any_eq_false]
      intro y hy
      obtain ⟨z, t, hkey⟩ := hk y (Array.mem_toList_iff.mp hy)
      simp [DictEntry.refKey, hkey]
    have a' : ¬ es.toList.any (·.refKey) = true := by rw [a]; exact Bool.false_ne_true
    rw [if_neg a']
    exact congrArg some e
theorem ObjM.look {h : Heap} {x dx C : Addr} {mA : Str → Option Value} (I : ObjM h x dx C mA) : ∃ od, PySem.W.InstAt h x (PySem.W.instObj C dx) C (some od) ∧ ∀ name, PySem.W.lookIn name od = some (mA name) :=
  let ⟨od, ho, hl⟩ := lookIn_ns I.ns
  ⟨od, ⟨I.obj, rfl, rfl, ho⟩, hl⟩
section
variable {prog : Program} {w : World} {A : Around} {E : Value → Shared → Prop} {s : Shared} {K : PySem.W.Frag} {x dx C f : Addr} {mA : Str → Option Value} {name : Str} {v : Value}
theorem get_map {expr : Bool} {Q : Value → Shared → Prop} (X : K.In s.heap) (I : ObjM s.heap x dx C mA) (hg : PySem.W.plainGet K C name = true) (hh : PySem.W.hasDictIn K C = true)
    (ha : PySem.W.findIn K (.ref C) name = some none) (hv : mA name = some v) (hv' : PySem.W.handedIn v = true) (h : Q v { s with toks := s.toks + 1 }) :
    wpAny (model prog w) A (getAttr (.ref x) name expr) Q E s := by
  obtain ⟨od, J, hl⟩ := I.look
  exact PySem.W.get_value X J (PySem.W.plainGet_of hg).1 (PySem.W.findObj_own hh ha rfl (by rw [hl, hv])) hv' h
theorem set_map {ns : List Str} {Q : Unit → Shared → Prop} (X : K.In s.heap) (I : ObjM s.heap x dx C mA)
    (hs : PySem.W.findIn K (.ref C) "__setattr__" = some (some (.builtin "object.__setattr__"))) (hp : PySem.W.plainOver K C = true) (ht : PySem.W.takerIn K C name = some none) (hh : PySem.W.hasDictIn K C = true)
    (hw : PySem.Within mA ns) (hsz : ns.length ≤ sizeLine)
    (h : ∀ h', ObjM h' x dx C (fun y => if y = name then some v else mA y) → Heap.SameBut dx s.heap h' → Q () { s with heap := h', toks := s.toks + 2 }) :
    wpAny (model prog w) A (setAttr (.ref x) name v) Q E s := by
  obtain ⟨od, J, hl⟩ := I.look
  refine PySem.W.set_plain X J hs (PySem.W.osa_open (s := { s with toks := s.toks + 1 }) (r := none) X J hp ht fun b => ?_)
  obtain ⟨cd, hc, hd'⟩ := PySem.W.any_some hh
  have hx : s.heap.get? x = some ⟨.ref C, some dx, .plain, #[]⟩ := I.obj
  refine wpAny_bind (wpAny_pure (wpAny_bind (wpAny_bind (wpAny_loadPart hx (wpAny_bind (PySem.W.Looks.here (s := { s with toks := s.toks + 1 }) (PySem.W.looks_clsIn X hc) ?_))))))
  rw [hd']
  refine wpAny_pure (a := some dx) (wpAny_bind (wpAny_pure (wpAny_bind ?_)))
  refine wpAny_nsSet1 (s := { s with toks := s.toks + 1 }) I.ns fun h' hn2 hs2 => ?_
  obtain ⟨oD, esD, epD, hoD, hdD, hcD⟩ := hn2.count (PySem.Within.cons name v hw)
  refine wpAny_bind (wpAny_lookBehind hoD (by rw [hdD]; exact pastItsLine_dict (Nat.le_trans hcD (by rw [List.length_cons]; omega))) ?_)
  exact wpAny_pure (h _ ⟨(hs2.2 _ (Ne.symm I.ne)).trans I.obj, hn2, I.ne⟩ hs2)
theorem make_map {R : Result → Shared → Prop} {vs : List Value} {kw : List (Str × Value)} (X : K.In s.heap) (hm : PySem.W.makesIn K C = true)
    (hi : PySem.W.findIn K (.ref C) "__init__" = some (some (.ref f))) (hf : PySem.W.typeIn K (.ref f) = some (.type "function"))
    (h : codeAny (model prog w) (A.under (.builtin "type.__call__" ⟨.ref C :: vs, kw⟩)) (.call (.ref f) ⟨.ref (s.heap.objs.size + 1) :: vs, kw⟩) (PySem.W.InitBack (s.heap.objs.size + 1) R)
      { s with heap := (s.heap.push PySem.W.emptyDict).push (PySem.W.instObj C s.heap.objs.size) }) :
    codeAny (model prog w) A (.call (.ref C) ⟨vs, kw⟩) R s := by
  obtain ⟨hh, g, d, t, os⟩ := s
  exact PySem.W.make_core (PySem.W.makes_of X hm) (PySem.W.looks_findIn X hi) (fun self => PySem.W.bind_fn X self hf) (.inl rfl) h
end
def putF (f : Str) (v : V) : List (Str × V) → List (Str × V)
  | [] => [(f, v)]
  | (g, x) :: r => if g = f then (g, v) :: r else (g, x) :: putF f v r
theorem lookup_putF (f g : Str) (v : V) : ∀ fs : List (Str × V), (putF f v fs).lookup g = if g = f then some v else fs.lookup g
  | [] => by
    show List.lookup g [(f, v)] = _
    by_cases h : g = f
    · have hb : (g == f) = true := beq_iff_eq.mpr h
      simp only [List.lookup, hb, if_pos h]
    · have hb : (g == f) = false := beq_eq_false_iff_ne.mpr h
      simp only [List.lookup, hb, if_neg h]
  | (k, x) :: r => by
    have ih := lookup_putF f g v r
    rw [show putF f v ((k, x) :: r) = (if k = f then (k, v) :: r else (k, x) :: putF f v r) from rfl]
    by_cases hk : k = f
    · rw [if_pos hk]
      by_cases h : g = k
      · have hb : (g == k) = true := beq_iff_eq.mpr h
        simp only [List.lookup, hb, if_pos (h.trans hk)]
      · have hb : (g == k) = false := beq_eq_false_iff_ne.mpr h
        simp only [List.lookup, hb, if_neg (fun e : g = f => h (e.trans hk.symm))]
    · rw [if_neg hk]
      by_cases h : g = k
      · have hb : (g == k) = true := beq_iff_eq.mpr h
        simp only [List.lookup, hb, if_neg (fun e : g = f => hk (h.symm.trans e))]
      · have hb : (g == k) = false := beq_eq_false_iff_ne.mpr h
        simp only [List.lookup, hb]
        exact ih
theorem keys_putF (f : Str) (v : V) : ∀ fs : List (Str × V), f ∈ (putF f v fs).map (·.1) ∧ ∀ g, g ∈ fs.map (·.1) → g ∈ (putF f v fs).map (·.1)
  | [] => ⟨by simp [putF], fun g h => by simp at h⟩
  | (k, x) :: r => by
    obtain ⟨i1, i2⟩ := keys_putF f v r
    rw [show putF f v ((k, x) :: r) = (if k = f then (k, v) :: r else (k, x) :: putF f v r) from rfl]
    by_cases hk : k = f
    · rw [if_pos hk]
      subst hk
      exact ⟨by simp, fun g h => by simpa using h⟩
    · rw [if_neg hk]
      refine ⟨?_, fun g h => ?_⟩
      · rw [List.map_cons]
        exact List.mem_cons_of_mem _ i1
      · rw [List.map_cons] at h ⊢
        rcases List.mem_cons.mp h with e | e
        · exact List.mem_cons.mpr (.inl e)
        · exact List.mem_cons_of_mem _ (i2 g e)
theorem length_putF (f : Str) (v : V) : ∀ fs : List (Str × V), (putF f v fs).length ≤ fs.length + 1
  | [] => by simp [putF]
  | (k, x) :: r => by
    have ih := length_putF f v r
    rw [show putF f v ((k, x) :: r) = (if k = f then (k, v) :: r else (k, x) :: putF f v r) from rfl]
    by_cases hk : k = f
    · rw [if_pos hk, List.length_cons, List.length_cons]; omega
    · rw [if_neg hk, List.length_cons, List.length_cons]; omega
theorem RelO.some_of {v : V} {o : Option Value} (r : RelO (some v) o) : ∃ u, o = some u ∧ RelV v u := by
  cases o with
  | none => exact (show False from r).elim
  | some u => exact ⟨u, rfl, r⟩
theorem handed_of {v : V} {u : Value} (r : RelV v u) : PySem.W.handedIn u = true := by
  cases v with
  | non => cases (show u = Value.none from r); rfl
  | bl b => cases (show u = Value.bool b from r); rfl
  | int i => obtain ⟨t, e⟩ := (show ∃ t, u = Value.int i t from r); cases e; rfl
  | str x => obtain ⟨t, e⟩ := (show ∃ t, u = Value.str x t from r); cases e; rfl
  | byt b => obtain ⟨t, e⟩ := (show ∃ t, u = Value.bytes b t from r); cases e; rfl
  | flt b => obtain ⟨t, e⟩ := (show ∃ t, u = Value.float b t from r); cases e; rfl
  | ref a => cases (show u = Value.ref a from r); rfl
  | ty n => cases (show u = Value.type n from r); rfl
section
variable {P : Program} {w : World} {H H' : Hp} {h h' : Heap} {a C dx : Addr} {fs fs' : List (Str × V)}
theorem ins_get (hok : HOk P w H h) (e : H a = some (.ins C dx fs)) : ∃ mA, ObjM h a dx C mA ∧ (∀ f, RelO (fs.lookup f) (mA f)) ∧ PySem.Within mA (fs.map (·.1)) ∧ fs.length ≤ 1000 ∧ H dx = some (.own a) := by
  obtain ⟨d, z, ne, ob, mA, n, r, q⟩ := (show ObjOk P w H h a (.ins C dx fs) from hok a _ e)
  exact ⟨mA, ⟨ob, n, ne⟩, r, q, z, d⟩
end
structure Cls (K : PySem.W.Frag) (C : Addr) : Prop where
  pg : PySem.W.plainGet K C Str.empty = true
  hd : PySem.W.hasDictIn K C = true
  po : PySem.W.plainOver K C = true
  sa : PySem.W.findIn K (.ref C) "__setattr__" = some (some (.builtin "object.__setattr__"))
theorem Cls.get {K : PySem.W.Frag} {C : Addr} (c : Cls K C) (f : Str) : PySem.W.plainGet K C f = true := c.pg
def NoAttr (K : PySem.W.Frag) (C : Addr) (f : Str) : Prop := PySem.W.findIn K (.ref C) f = some none
theorem NoAttr.taker {K : PySem.W.Frag} {C : Addr} {f : Str} (n : NoAttr K C f) : PySem.W.takerIn K C f = some none := by
  unfold PySem.W.takerIn
  rw [show PySem.W.findIn K (.ref C) f = some none from n]
  rfl
section
variable {X : Cx} {pins : List (Addr × Obj)} {σ : St} {H : Hp} {s : Shared} {a C dx : Addr} {fs : List (Str × V)} {f : Str} {v : V} {A : Around} {E : Value → Shared → Prop}
theorem getattr_ok {b : Bool} {Q : Value → Shared → Prop} (I : Inv X pins σ H s) (e : H a = some (.ins C dx fs)) (c : Cls X.K C) (n : NoAttr X.K C f) (l : fs.lookup f = some v)
    (h : ∀ u s', Inv X pins σ H s' → RelV v u → Q u s') : wpAny (model X.prog X.w) A (getAttr (.ref a) f b) Q E s := by
  obtain ⟨mA, O, r, _, _, _⟩ := ins_get I.hok e
  obtain ⟨u, hu, ru⟩ := RelO.some_of (v := v) (o := mA f) (by rw [← l]; exact r f)
  exact get_map I.kIn O (c.get f) c.hd n hu (handed_of ru) (h u _ (I.tok _) ru)
theorem setattr_ok {y : V} {u : Value} {Q : Unit → Shared → Prop} (I : Inv X pins σ H s) (e : H a = some (.ins C dx fs)) (c : Cls X.K C) (n : NoAttr X.K C f) (hl : fs.length < 1000) (ry : RelV y u)
    (h : ∀ s', Inv X pins σ (upd H a (.ins C dx (putF f y fs))) s' → Q () s') : wpAny (model X.prog X.w) A (setAttr (.ref a) f u) Q E s := by
  obtain ⟨mA, O, r, wi, _, ho⟩ := ins_get I.hok e
  have hz : (fs.map (·.1)).length ≤ sizeLine := by rw [List.length_map, sizeLine_eq]; omega
  refine set_map I.kIn O c.sa c.po n.taker c.hd wi hz fun h' O' sb => h _ ?_
  have hd : ∃ o, h'.get? dx = some o := let ⟨o, _, _, e', _⟩ := O'.ns; ⟨o, e'⟩
  refine I.write (x := a) (e := dx) (by rw [e]; exact True.intro) (.inr ho) (fun b q hb z => (sb.2 b hb).trans z) hd ?_
  refine ⟨by rw [upd_ne O.ne]; exact ho, ?_, O.ne, O'.obj, _, O'.ns, fun g => ?_, fun g hg => ?_⟩
  · have := length_putF f y fs; omega
  · show RelO ((putF f y fs).lookup g) (if g = f then some u else mA g)
    rw [lookup_putF]
    by_cases q : g = f
    · rw [if_pos q, if_pos q]; exact ry
    · rw [if_neg q, if_neg q]; exact r g
  · by_cases q : g = f
    · rw [q]; exact (keys_putF f y fs).1
    · refine (keys_putF f y fs).2 g (wi g fun z => hg ?_)
      show (if g = f then some u else mA g) = none
      rw [if_neg q]; exact z
theorem Inv.made (I : Inv X pins σ H s) : Inv X pins σ (upd (upd H s.heap.objs.size (.own (s.heap.objs.size + 1))) (s.heap.objs.size + 1) (.ins C s.heap.objs.size []))
    { s with heap := (s.heap.push PySem.W.emptyDict).push (PySem.W.instObj C s.heap.objs.size) } := by
  have e1 : (s.heap.push PySem.W.emptyDict).get? s.heap.objs.size = some PySem.W.emptyDict := Heap.get?_push_size s.heap rfl
  have e2 : ((s.heap.push PySem.W.emptyDict).push (PySem.W.instObj C s.heap.objs.size)).get? (s.heap.objs.size + 1) = some (PySem.W.instObj C s.heap.objs.size) := by
    have := Heap.get?_push_size (s.heap.push PySem.W.emptyDict) (o := PySem.W.instObj C s.heap.objs.size) rfl
    rwa [Heap.size_push] at this
  have e3 : (s.heap.push PySem.W.emptyDict).Ns s.heap.objs.size (fun _ => none) := ⟨PySem.W.emptyDict, #[], _, e1, rfl, (fun e he => absurd he (by simp)), fun _ => rfl⟩
  have I1 := I.laid (a := s.heap.objs.size) (o := .own (s.heap.objs.size + 1)) (h' := s.heap.push PySem.W.emptyDict) (t' := s.toks) (fun b u q => Heap.get?_push_of_some _ q) (Nat.le_refl _) ⟨_, e1⟩
  refine I1.laid (a := s.heap.objs.size + 1) (o := .ins C s.heap.objs.size []) (t' := s.toks) (fun b u q => Heap.get?_push_of_some _ q) (Nat.le_of_eq (Heap.size_push _ _)) ?_
  have ne : s.heap.objs.size ≠ s.heap.objs.size + 1 := Nat.ne_of_lt (Nat.lt_succ_self _)
  refine ⟨by rw [upd_ne ne, upd_same], Nat.zero_le _, ne, e2, fun _ => none, (Heap.Ns1.of_empty e3).at fun o q => Heap.get?_push_of_some _ q, fun _ => True.intro, fun y hy => absurd rfl hy⟩
theorem attr_of {prog : Program} {w : World} {env : Env} {e : Expr} {f : Str} {pos : Pos} {s : Shared} {Q : Value → Shared → Prop} (hb : attributeBase e f env (eval e env) = eval e env)
    (h : wpAny (model prog w) A (eval e env) (fun o s₁ => wpAny (model prog w) A (getAttr o f true) Q E s₁) E s) : wpAny (model prog w) A (eval (.Attribute e f pos) env) Q E s :=
  Attribute_any_ h (by rw [arm_eval_Attribute, hb])
end
def tFld (K : PySem.W.Frag) (ta : TE) (f : Str) : TE := fun σ H Q => ta σ H fun x H1 => ∃ a C dx fs v, x = .ref a ∧ H1 a = some (.ins C dx fs) ∧ Cls K C ∧ NoAttr K C f ∧ fs.lookup f = some v ∧ Q v H1
def sFld (K : PySem.W.Frag) (ta tv : TE) (f : Str) : TS := fun D σ H => tv σ H fun y H1 => ta σ H1 fun x H2 => ∃ a C dx fs, x = .ref a ∧ H2 a = some (.ins C dx fs) ∧ Cls K C ∧ NoAttr K C f ∧ fs.length < 1000 ∧
  D.nx σ (upd H2 a (.ins C dx (putF f y fs)))
def InOp (X : Cx) (op : Operator) (rd : V → V → Hp → VK → Prop) : Prop :=
  ∀ (pins : List (Addr × Obj)) (s : Shared) (σ : St) (H : Hp) (x y : V) (u v : Value) (Q : VK), Inv X pins σ H s → RelV x u → RelV y v → rd x y H Q → wpAny (model X.prog X.w) X.A (inplaceOp op u v) (EP X pins σ Q) X.xe s
def sFldAug (K : PySem.W.Frag) (ta tv : TE) (rd : V → V → Hp → VK → Prop) (f : Str) : TS := fun D σ H => ta σ H fun x H1 => ∃ a C dx fs v, x = .ref a ∧ H1 a = some (.ins C dx fs) ∧ Cls K C ∧ NoAttr K C f ∧ fs.lookup f = some v ∧
  tv σ H1 fun y H2 => rd v y H2 fun z H3 => ∃ dx' fs', H3 a = some (.ins C dx' fs') ∧ fs'.length < 1000 ∧ D.nx σ (upd H3 a (.ins C dx' (putF f z fs')))
section
variable {X : Cx} {o e value : Expr} {f : Str} {pos pos' tpos : Pos} {ta tv : TE}
theorem pe_fld (he : PE X e ta) (hb : attributeBase e f X.env (eval e X.env) = eval e X.env) : PE X (.Attribute e f pos) (tFld X.K ta f) := by
  intro pins s σ H Q I h
  refine attr_of hb (thn (he pins s σ H _ I h) fun u s1 ⟨x, H1, I1, rx, a, C, dx, fs, v, ex, ea, c, n, l, q⟩ => ?_)
  subst ex
  obtain rfl : u = Value.ref a := rx
  exact getattr_ok I1 ea c n l fun u' s2 I2 ru => ⟨v, H1, I2, ru, q⟩
theorem ps_fld (ha : PE X o ta) (hv : PE X value tv) (hs : swapsWith value (some (.Attribute o f pos')) pos.line X.env = pure false) : PS X (.Assign [.Attribute o f pos'] value pos) (sFld X.K ta tv f) := by
  intro pins s σ H D I h
  refine plainObj_wpAny_Assign_Attribute (thn (hv pins s σ H _ I h) fun u s1 ⟨y, H1, I1, ry, q⟩ => thn (ha pins s1 σ H1 _ I1 q) fun ov s2 ⟨x, H2, I2, rx, a, C, dx, fs, ex, ea, c, n, l, q2⟩ => ?_) hs
  subst ex
  obtain rfl : ov = Value.ref a := rx
  exact setattr_ok I2 ea c n l ry fun s3 I3 => ⟨σ, _, I3, q2⟩
theorem ps_fldaug {op : Operator} {rd : V → V → Hp → VK → Prop} (ha : PE X o ta) (hv : PE X value tv) (hop : InOp X op rd) : PS X (.AugAssign (.Attribute o f tpos) op value pos) (sFldAug X.K ta tv rd f) := by
  intro pins s σ H D I h
  refine wpAny_AugAssign_AttributeAny (thn (ha pins s σ H _ I h) fun ov s1 ⟨x, H1, I1, rx, a, C, dx, fs, v, ex, ea, c, n, l, q⟩ => ?_)
  subst ex
  obtain rfl : ov = Value.ref a := rx
  refine getattr_ok I1 ea c n l fun u s2 I2 ru => thn (hv pins s2 σ H1 _ I2 q) fun w3 s3 ⟨y, H2, I3, ry, q3⟩ => thn (hop pins s3 σ H2 v y u w3 _ I3 ru ry q3) fun w4 s4 ⟨z, H3, I4, rz, dx', fs', ea', l', q4⟩ => ?_
  exact setattr_ok I4 ea' c n l' rz fun s5 I5 => ⟨σ, _, I5, q4⟩
def rAdd : V → V → Hp → VK → Prop := fun x y H Q => ∃ i j, x = .int i ∧ y = .int j ∧ Q (.int (i + j)) H
def rSub : V → V → Hp → VK → Prop := fun x y H Q => ∃ i j, x = .int i ∧ y = .int j ∧ Q (.int (i - j)) H
theorem in_add : InOp X .Add rAdd := by
  rintro pins s σ H x y u v Q I rx ry ⟨i, j, rfl, rfl, q⟩
  obtain ⟨t, rfl⟩ := (show ∃ t, u = Value.int i t from rx)
  obtain ⟨t', rfl⟩ := (show ∃ t', v = Value.int j t' from ry)
  exact PyProof.Rows.iadd_int ⟨.int (i + j), H, I.tok _, ⟨_, rfl⟩, q⟩
theorem in_sub : InOp X .Sub rSub := by
  rintro pins s σ H x y u v Q I rx ry ⟨i, j, rfl, rfl, q⟩
  obtain ⟨t, rfl⟩ := (show ∃ t, u = Value.int i t from rx)
  obtain ⟨t', rfl⟩ := (show ∃ t', v = Value.int j t' from ry)
  exact PyProof.Rows.isub_int ⟨.int (i - j), H, I.tok _, ⟨_, rfl⟩, q⟩
end
section
variable {X : Cx} {pins : List (Addr × Obj)} {σ : St} {H : Hp} {s : Shared} {A : Around} {E : Value → Shared → Prop} {Q : Value → Shared → Prop} {c : Value} {b : Bool}
end
end L2
namespace L2
open PySem PySem.Spec PyProof.Rows
structure Room (k : Nat) (A : Around) : Prop where
  hd : A.handled = none
  dp : A.depth + 3 * k + 5 < recursionLimit
  un : A.units + 16 * k + 200 < cLine
theorem Room.mono {j k : Nat} {A : Around} (r : Room k A) (h : j ≤ k) : Room j A := ⟨r.hd, by have := r.dp; omega, by have := r.un; omega⟩
theorem Room.deeper {k : Nat} {A : Around} (r : Room (k + 1) A) (env : Env) : Room k (A.deeper env) :=
  ⟨r.hd, by have := r.dp; show A.depth + 1 + 3 * k + 5 < _; omega, by have := r.un; show A.units + 3 + 16 * k + 200 < _; omega⟩
theorem make_depth {A : Around} {C : Addr} {us : List Value} {kw : List (Str × Value)} : (A.under (.builtin "type.__call__" ⟨.ref C :: us, kw⟩)).depth = A.depth + 1 := by
  first | rfl | simp [Around.under, Code.weight, Code.isCreation, Code.isGuard, Code.isCaller, Code.frames, Code.isFrame, guardIds]
theorem make_units {A : Around} {C : Addr} {us : List Value} {kw : List (Str × Value)} : (A.under (.builtin "type.__call__" ⟨.ref C :: us, kw⟩)).units = A.units + 1 := by
  first | rfl | simp [Around.under, Code.cUnits, Code.frames, Code.isFrame]
theorem Room.make {k : Nat} {A : Around} (r : Room (k + 1) A) (C : Addr) (us : List Value) (kw : List (Str × Value)) : Room k (A.under (.builtin "type.__call__" ⟨.ref C :: us, kw⟩)) :=
  ⟨r.hd, by have := r.dp; rw [make_depth]; omega, by have := r.un; rw [make_units]; omega⟩
theorem Room.depth {k : Nat} {A : Around} (r : Room k A) : A.depth < recursionLimit := by have := r.dp; omega
theorem Room.units {k : Nat} {A : Around} (r : Room k A) : A.units + 64 < cLine := by have := r.un; omega
def tNil : TA := fun _ H Q => Q [] H
def tCons (ta : TE) (tr : TA) : TA := fun σ H Q => ta σ H fun x H1 => tr σ H1 fun xs H2 => Q (x :: xs) H2
section
variable {X : Cx} {e : Expr} {es : List Expr} {te : TE} {t : TA} {pos : Pos}
theorem pa_nil : PA X [] tNil := fun _ _ _ _ H Q I h => Calls.spliced_nil ⟨[], H, I, .nil, h⟩
theorem pa_cons (ha : PE X e te) (hr : PA X es t) (hs : starEach (e :: es) X.env = (false, eval e X.env) :: starEach es X.env := by rfl) : PA X (e :: es) (tCons te t) := by
  intro pos pins s σ H Q I h
  rw [hs]
  show wpAny _ _ (spliced ((false, eval e X.env) :: backTo pos (starEach es X.env))) _ _ s
  refine Calls.spliced_cons (thn (ha pins s σ H _ I h) fun u s1 ⟨x, H1, I1, r1, q1⟩ => ?_)
  exact thn (hr pos pins s1 σ H1 _ I1 q1) fun us s2 ⟨xs, H2, I2, r2, q2⟩ => ⟨x :: xs, H2, I2, .cons r1 r2, q2⟩
def tTup (t : TA) : TE := fun σ H Q => t σ H fun xs H1 => xs.length ≤ sizeLine ∧ ∀ p, H1 p = none → Q (.ref p) (upd H1 p (.tup xs))
def tLst (t : TA) : TE := fun σ H Q => t σ H fun xs H1 => xs.length ≤ sizeLine ∧ ∀ p, H1 p = none → Q (.ref p) (upd H1 p (.lst xs))
theorem pe_tup {x1} (h : PA X es t) : PE X (.Tuple es x1 pos) (tTup t) := by
  intro pins s σ H Q I hq
  refine wpAny_Tuple_spliced (thn (h pos pins s σ H _ I hq) fun us s1 ⟨xs, H1, I1, r, z, q⟩ => ⟨by rw [← r.length]; exact z, ?_⟩)
  have hf : H1 s1.heap.objs.size = none := I1.hok.fresh (Nat.le_refl _)
  refine ⟨.ref s1.heap.objs.size, upd H1 s1.heap.objs.size (.tup xs), I1.laid (t' := s1.toks) (fun b u e => Heap.get?_push_of_some _ e) (Nat.le_refl _) ?_, rfl, q _ hf⟩
  exact ⟨z, us, r, ⟨_, Heap.get?_push_size _ rfl, rfl, _, rfl⟩⟩
theorem pe_lst (h : PA X es t) : PE X (.List es pos) (tLst t) := by
  intro pins s σ H Q I hq
  refine wpAny_List_spliced (thn (h pos pins s σ H _ I hq) fun us s1 ⟨xs, H1, I1, r, z, q⟩ => ⟨by rw [← r.length]; exact z, ?_⟩)
  have hf : H1 s1.heap.objs.size = none := I1.hok.fresh (Nat.le_refl _)
  refine ⟨.ref s1.heap.objs.size, upd H1 s1.heap.objs.size (.lst xs), I1.laid (t' := s1.toks) (fun b u e => Heap.get?_push_of_some _ e) (Nat.le_refl _) ?_, rfl, q _ hf⟩
  exact ⟨z, us, 0, r, Heap.get?_push_size _ rfl⟩
end
abbrev Sp := List V → Hp → VK → XK → Prop
abbrev CXT := List Env → Hp → Shared → XK → Value → Shared → Prop
structure Env0 (P : Program) (w : World) (K : PySem.W.Frag) (mg : Str → Option Value) (base : Heap) (A : Around) (outer : List Env) (s : Shared) (H : Hp) : Prop where
  frames : A.frames = some outer
  mod : Mod K mg base
  bs : ∀ b o, base.get? b = some o → s.heap.get? b = some o ∧ H b = none
  bsz : base.objs.size ≤ s.heap.objs.size
  funs : s.heap.FunFrames base outer
  frf : ∀ b ∈ frs outer, H b = none
  hok : HOk P w H s.heap
  bare : AllBare s.gens
def CE (outer : List Env) (P : Program) (w : World) (H : Hp) (s : Shared) (Q : VK) (u : Value) (s' : Shared) : Prop :=
  ∃ v H', s'.os = s.os ∧ AllBare s'.gens ∧ Un (frs outer) [] H H' s.heap s'.heap ∧ HOk P w H' s'.heap ∧ RelV v u ∧ Q v H'
def CR (CX : CXT) (outer : List Env) (P : Program) (w : World) (H : Hp) (s : Shared) (Q : VK) (E : XK) (r : Result) (s' : Shared) : Prop :=
  match r with
  | .ok (.ret u) => CE outer P w H s Q u s'
  | .ok _ => False
  | .error e => CX outer H s E e s'
structure FnOk (P : Program) (w : World) (K : PySem.W.Frag) (mg : Str → Option Value) (base : Heap) (CX : CXT) (k : Nat) (f : Addr) (fd : FuncData) (ps : List Str) (sp : Sp) : Prop where
  len : ∀ vs H Q E, sp vs H Q E → vs.length = ps.length
  run : ∀ (A : Around) (outer : List Env) (s : Shared) (H : Hp) (args : Args) (us : List Value) (vs : List V) (Q : VK) (E : XK), Room k A → Env0 P w K mg base A outer s H → BindsTo s fd args (ps.zip us) → Vals vs us → sp vs H Q E →
    codeAny (model P w) A (.call (.ref f) args) (CR CX outer P w H s Q E) s
theorem FnOk.mono {P : Program} {w : World} {K : PySem.W.Frag} {mg : Str → Option Value} {base : Heap} {CX : CXT} {j k : Nat} {f : Addr} {fd : FuncData} {ps : List Str} {sp : Sp} (F : FnOk P w K mg base CX j f fd ps sp) (h : j ≤ k) :
    FnOk P w K mg base CX k f fd ps sp := ⟨F.len, fun A outer s H args us vs Q E hr => F.run A outer s H args us vs Q E (hr.mono h)⟩
theorem Env0.make {P : Program} {w : World} {K : PySem.W.Frag} {mg : Str → Option Value} {base : Heap} {A : Around} {outer : List Env} {s : Shared} {H : Hp} (e : Env0 P w K mg base A outer s H) (C : Addr) (us : List Value) (kw : List (Str × Value)) :
    Env0 P w K mg base (A.under (.builtin "type.__call__" ⟨.ref C :: us, kw⟩)) outer s H := ⟨by first | exact e.frames | (simpa [Around.under, Code.envs, Code.isFrame, pushEnvs] using e.frames), e.mod, e.bs, e.bsz, e.funs, e.frf, e.hok, e.bare⟩
section
variable {X : Cx} {pins : List (Addr × Obj)} {σ : St} {H : Hp} {s s' : Shared}
theorem Inv.env0 (I : Inv X pins σ H s) : Env0 X.prog X.w X.K X.mg X.base X.A X.stack s H :=
  ⟨I.ok.frames, I.ok.mod, I.bs, Nat.le_trans I.ok.bsz I.sz, I.stack, I.stkFree, I.hok, I.bare⟩
theorem Inv.after {Q : VK} {u : Value} (I : Inv X pins σ H s) (h : CE X.stack X.prog X.w H s Q u s') : EP X pins σ Q u s' := by
  obtain ⟨v, H', os, bare, un, hok, r, q⟩ := h
  obtain ⟨hh, g, d, t, os'⟩ := s'
  obtain rfl : os' = s.os := os
  exact ⟨v, H', I.call (h' := hh) (g' := g) (d' := d) (t' := t) (ch := []) un hok bare (fun b z => absurd z (by simp)), r, q⟩
end
def tCall (sp : Sp) (dvs : List V) (E : XK) (t : TA) : TE := fun σ H Q => t σ H fun vs H1 => sp (vs ++ dvs) H1 Q E
def tMake (C : Addr) (sp : Sp) (dvs : List V) (E : XK) (t : TA) : TE := fun σ H Q => t σ H fun vs H1 => ∀ x dx, H1 x = none → H1 dx = none → dx ≠ x →
  sp (.ref x :: (vs ++ dvs)) (upd (upd H1 dx (.own x)) x (.ins C dx [])) (fun v H2 => v = .non ∧ Q (.ref x) H2) E
def Binds (K : PySem.W.Frag) (fd : FuncData) (ps : List Str) (ds : List Value) : Prop :=
  ∀ (s : Shared) (us : List Value), K.In s.heap → (us ++ ds).length = ps.length → BindsTo s fd ⟨us, []⟩ (ps.zip (us ++ ds))
theorem Binds.all {K : PySem.W.Frag} {fd : FuncData} {ps : List Str} (h : ∀ us : List Value, us.length = ps.length → bindArgs fd ⟨us, []⟩ = pure (ps.zip us)) : Binds K fd ps [] := fun s us _ hl => by
  rw [List.append_nil] at hl ⊢
  exact .of_eq (h us hl)
def Passes (CX : CXT) (X : Cx) (E : XK) : Prop := ∀ (pins : List (Addr × Obj)) (σ : St) (H : Hp) (s : Shared) (e : Value) (s' : Shared), Inv X pins σ H s → CX X.stack H s E e s' → X.xe e s'
section
variable {X : Cx} {CX : CXT} {k : Nat} {f C : Addr} {fd : FuncData} {ps : List Str} {sp : Sp} {dvs : List V} {ds : List Value} {E : XK} {x m : Str} {p pos apos : Pos} {e o : Expr} {es : List Expr} {ta : TE} {t : TA}
theorem run_fn {pins : List (Addr × Obj)} {σ : St} {H : Hp} {s : Shared} {Q : VK} {us : List Value} {vs : List V} (F : FnOk X.prog X.w X.K X.mg X.base CX k f fd ps sp) (hr : Room k X.A) (hb : Binds X.K fd ps ds) (hd : Vals dvs ds) (hx : Passes CX X E)
    (I : Inv X pins σ H s) (r : Vals vs us) (h : sp (vs ++ dvs) H Q E) : wpAny (model X.prog X.w) X.A (call (.ref f) us) (EP X pins σ Q) X.xe s := by
  have r2 : Vals (vs ++ dvs) (us ++ ds) := r.append hd
  have hl : (us ++ ds).length = ps.length := by rw [← r2.length]; exact F.len _ _ _ _ h
  refine wpAny_call (codeAny_mono (F.run X.A X.stack s H ⟨us, []⟩ (us ++ ds) (vs ++ dvs) Q E hr I.env0 (hb s us I.kIn hl) r2 h) fun r s' hq => ?_)
  cases r with
  | error e => exact hx pins σ H s e s' I hq
  | ok fl =>
    cases fl with
    | ret u => exact I.after hq
    | next => exact False.elim hq
    | brk => exact False.elim hq
    | cont => exact False.elim hq
theorem pe_call (F : FnOk X.prog X.w X.K X.mg X.base CX k f fd ps sp) (hr : Room k X.A) (hg : Gl X x) (hm : X.mg x = some (.ref f)) (hk : PySem.W.keepIn X.K (.ref f) = true) (hb : Binds X.K fd ps ds) (hd : Vals dvs ds) (hx : Passes CX X E)
    (ha : PA X (e :: es) t) (hdb : (x == ("__debug__" : Str)) = false := by decide) (he : starEach (e :: es) X.env = (false, eval e X.env) :: starEach es X.env := by rfl) (hpl : (backTo pos (starEach es X.env)).any (·.1) = false := by rfl) :
    PE X (.Call (.Name x p) (e :: es) [] pos) (tCall sp dvs E t) := by
  intro pins s σ H Q I h
  refine wpAny_Call_Name_kw (ld_glob I hg hm ?_ hdb)
  refine PySem.W.callWith_K (h₀ := X.base) I.ok.mod.kin hk (thn (ha pos pins s σ H _ I h) fun us s1 ⟨vs, H1, I1, r, q⟩ => ⟨I1.kIn, ?_⟩) he hpl
  exact run_fn F hr hb hd hx I1 r q
structure Mk (K : PySem.W.Frag) (C f : Addr) : Prop where
  makes : PySem.W.makesIn K C = true
  init : PySem.W.findIn K (.ref C) "__init__" = some (some (.ref f))
  fn : PySem.W.isFn K (.ref f) = true
  kp : PySem.W.keepIn K (.ref C) = true
theorem run_make {pins : List (Addr × Obj)} {σ : St} {H : Hp} {s : Shared} {Q : VK} {us : List Value} {vs : List V} (M : Mk X.K C f) (F : FnOk X.prog X.w X.K X.mg X.base CX k f fd ps sp) (hr : Room (k + 1) X.A) (hb : Binds X.K fd ps ds) (hd : Vals dvs ds)
    (hx : Passes CX X E) (I : Inv X pins σ H s) (r : Vals vs us)
    (h : ∀ x dx, H x = none → H dx = none → dx ≠ x → sp (.ref x :: (vs ++ dvs)) (upd (upd H dx (.own x)) x (.ins C dx [])) (fun v H2 => v = .non ∧ Q (.ref x) H2) E) :
    wpAny (model X.prog X.w) X.A (call (.ref C) us) (EP X pins σ Q) X.xe s := by
  have hq := h (s.heap.objs.size + 1) s.heap.objs.size (I.hok.fresh (Nat.le_succ _)) (I.hok.fresh (Nat.le_refl _)) (Nat.ne_of_lt (Nat.lt_succ_self _))
  have I2 := Inv.made (C := C) I
  have r2 : Vals (V.ref (s.heap.objs.size + 1) :: (vs ++ dvs)) (Value.ref (s.heap.objs.size + 1) :: (us ++ ds)) := .cons rfl (r.append hd)
  have hl : (Value.ref (s.heap.objs.size + 1) :: us ++ ds).length = ps.length := by
    have e := r2.length
    rw [F.len _ _ _ _ hq] at e
    exact e.symm
  refine wpAny_call (make_map (f := f) I.kIn M.makes M.init (beq_iff_eq.mp M.fn) (codeAny_mono (F.run _ X.stack _ _ ⟨Value.ref (s.heap.objs.size + 1) :: us, []⟩ (Value.ref (s.heap.objs.size + 1) :: (us ++ ds)) _ _ E (hr.make C us [])
    (I2.env0.make C us []) (hb _ (Value.ref (s.heap.objs.size + 1) :: us) I2.kIn hl) r2 hq) fun r s' hq' => ?_))
  cases r with
  | error e => exact hx pins σ _ _ e s' I2 hq'
  | ok fl =>
    cases fl with
    | ret u =>
      obtain ⟨v, H', I3, rv, ev, q3⟩ := I2.after hq'
      subst ev
      exact ⟨rv, ⟨V.ref (s.heap.objs.size + 1), H', I3, rfl, q3⟩⟩
    | next => exact False.elim hq'
    | brk => exact False.elim hq'
    | cont => exact False.elim hq'
theorem pe_make (M : Mk X.K C f) (F : FnOk X.prog X.w X.K X.mg X.base CX k f fd ps sp) (hr : Room (k + 1) X.A) (hg : Gl X x) (hm : X.mg x = some (.ref C)) (hb : Binds X.K fd ps ds) (hd : Vals dvs ds) (hx : Passes CX X E)
    (ha : PA X (e :: es) t) (hdb : (x == ("__debug__" : Str)) = false := by decide) (he : starEach (e :: es) X.env = (false, eval e X.env) :: starEach es X.env := by rfl) (hpl : (backTo pos (starEach es X.env)).any (·.1) = false := by rfl) :
    PE X (.Call (.Name x p) (e :: es) [] pos) (tMake C sp dvs E t) := by
  intro pins s σ H Q I h
  refine wpAny_Call_Name_kw (ld_glob I hg hm ?_ hdb)
  refine PySem.W.callWith_K (h₀ := X.base) I.ok.mod.kin M.kp (thn (ha pos pins s σ H _ I h) fun us s1 ⟨vs, H1, I1, r, q⟩ => ⟨I1.kIn, ?_⟩) he hpl
  exact run_make M F hr hb hd hx I1 r q
theorem pe_make0 (M : Mk X.K C f) (F : FnOk X.prog X.w X.K X.mg X.base CX k f fd ps sp) (hr : Room (k + 1) X.A) (hg : Gl X x) (hm : X.mg x = some (.ref C)) (hb : Binds X.K fd ps ds) (hd : Vals dvs ds) (hx : Passes CX X E)
    (hdb : (x == ("__debug__" : Str)) = false := by decide) : PE X (.Call (.Name x p) [] [] pos) (tMake C sp dvs E tNil) := by
  intro pins s σ H Q I h
  refine wpAny_Call_Name_kw (ld_glob I hg hm ?_ hdb)
  exact PySem.W.callWith_K0 I.kIn M.kp (run_make (us := []) M F hr hb hd hx I .nil h)
end
section
variable {X : Cx} {CX : CXT} {k : Nat} {f C : Addr} {fd : FuncData} {ps ks : List Str} {sp : Sp} {E : XK} {x m : Str} {p pos apos kpos : Pos} {e o : Expr} {es : List Expr} {kws : List Keyword} {te ta : TE} {t tk : TA} {nm : Option Str}
variable {g : List Value → List Value → List Value} {gV : List V → List V → List V}
end
structure FnScope (N P : List Str) (sc : Scope) : Prop where
  kind : sc.kind = .function
  co : sc.isCoroutine = false
  gen : sc.isGenerator = false
  nd : N.Nodup
  pre : N.take P.length = P
  par : ∀ x ∈ P, sc.names.lookup x = some .local ∨ sc.names.lookup x = some .cell
  nofree : ∀ y ∈ sc.names, y.2 ≠ .free
theorem bindL_out {kindOf : Str → Option NameKind} {x : Str} : ∀ {binds : List (Str × Value)} {m : Str → Option Value}, (∀ v, (x, v) ∉ binds) → bindL kindOf binds m x = m x
  | [], _, _ => rfl
  | (n, v) :: r, m, h => by
    unfold bindL
    rw [bindL_out fun w hw => h w (List.mem_cons_of_mem _ hw)]
    split
    · have : x ≠ n := by rintro rfl; exact h v List.mem_cons_self
      simp [this]
    · rfl
theorem bindC_out {kindOf : Str → Option NameKind} {x : Str} : ∀ {binds : List (Str × Value)} {m : Str → Option Value}, (∀ v, (x, v) ∉ binds) → bindC kindOf binds m x = m x
  | [], _, _ => rfl
  | (n, v) :: r, m, h => by
    unfold bindC
    rw [bindC_out fun w hw => h w (List.mem_cons_of_mem _ hw)]
    split
    · rfl
    · have : x ≠ n := by rintro rfl; exact h v List.mem_cons_self
      simp [this]
theorem bindL_get {kindOf : Str → Option NameKind} {x : Str} {v : Value} : ∀ {P : List Str} {vs : List Value} {i : Nat} {m : Str → Option Value}, P.Nodup → P[i]? = some x → vs[i]? = some v → kindOf x = some .local →
    bindL kindOf (P.zip vs) m x = some v
  | [], _, _, _, _, h, _, _ => by simp at h
  | _ :: _, [], _, _, _, _, h, _ => by simp at h
  | p :: P, w :: vs, 0, m, nd, h1, h2, hk => by
    simp at h1 h2; subst h1; subst h2
    show bindL kindOf ((p, w) :: P.zip vs) m p = _
    unfold bindL
    rw [bindL_out fun v hv => (List.nodup_cons.mp nd).1 (List.of_mem_zip hv).1, if_pos hk]
    simp
  | p :: P, w :: vs, i + 1, m, nd, h1, h2, hk => by
    show bindL kindOf ((p, w) :: P.zip vs) m x = _
    unfold bindL
    exact bindL_get (i := i) (List.nodup_cons.mp nd).2 (by simpa using h1) (by simpa using h2) hk
theorem bindC_get {kindOf : Str → Option NameKind} {x : Str} {v : Value} : ∀ {P : List Str} {vs : List Value} {i : Nat} {m : Str → Option Value}, P.Nodup → P[i]? = some x → vs[i]? = some v → kindOf x ≠ some .local →
    bindC kindOf (P.zip vs) m x = some v
  | [], _, _, _, _, h, _, _ => by simp at h
  | _ :: _, [], _, _, _, _, h, _ => by simp at h
  | p :: P, w :: vs, 0, m, nd, h1, h2, hk => by
    simp at h1 h2; subst h1; subst h2
    show bindC kindOf ((p, w) :: P.zip vs) m p = _
    unfold bindC
    rw [bindC_out fun v hv => (List.nodup_cons.mp nd).1 (List.of_mem_zip hv).1, if_neg hk]
    simp
  | p :: P, w :: vs, i + 1, m, nd, h1, h2, hk => by
    show bindC kindOf ((p, w) :: P.zip vs) m x = _
    unfold bindC
    exact bindC_get (i := i) (List.nodup_cons.mp nd).2 (by simpa using h1) (by simpa using h2) hk
def start (N : List Str) (vs : List V) : St := vs.map some ++ List.replicate (N.length - vs.length) none
def cxOf (CX : CXT) (P : Program) (w : World) (K : PySem.W.Frag) (mg : Str → Option Value) (base : Heap) (N : List Str) (qual : Str) (scope : Scope) (f : Addr) (cd : Value) (A : Around) (outer : List Env) (s : Shared) (H : Hp) (E : XK) : Cx where
  prog := P
  w := w
  K := K
  mg := mg
  base := base
  A := A.deeper (envOfC qual scope s.heap.objs.size f cd)
  N := N
  s_0 := s
  H_0 := H
  env := envOfC qual scope s.heap.objs.size f cd
  outer := outer
  stack := envOfC qual scope s.heap.objs.size f cd :: outer
  ex := []
  calm := true
  fn := fun _ => true
  pn := []
  xe := fun e s' => wpAny (model P w) (A.deeper (envOfC qual scope s.heap.objs.size f cd)) (leaving (envOfC qual scope s.heap.objs.size f cd) e) (fun _ s'' => CX outer H s E e s'') (fun e' s'' => CX outer H s E e' s'') s'
theorem cell_has {sc : Scope} {n : Nat} {x : Str} (h : sc.names.lookup x = some .cell) : ∃ c, (cellsFrom n sc.names []).lookup x = some c := by
  have q := PySem.W.cellsFrom_some sc.names n [] (.inl h)
  exact Option.isSome_iff_exists.mp q
theorem inv_start {CX : CXT} {P : Program} {w : World} {K : PySem.W.Frag} {mg : Str → Option Value} {base : Heap} {N ps : List Str} {qual : Str} {scope : Scope} {f : Addr} {cd : Value} {A : Around} {outer : List Env} {s s1 : Shared} {H : Hp} {E : XK} {us : List Value} {vs : List V}
    (S : FnScope N ps scope) (hd : A.handled = none) (e0 : Env0 P w K mg base A outer s H) (hl : vs.length = ps.length) (r : Vals vs us)
    (x : InCallC s s.heap.objs.size (bindL (envOfC qual scope s.heap.objs.size f cd).kindOf (ps.zip us) fun _ => none) (cellsFrom (s.heap.objs.size + 1) scope.names []) (bindC (envOfC qual scope s.heap.objs.size f cd).kindOf (ps.zip us) fun _ => none) s1) :
    Inv (cxOf CX P w K mg base N qual scope f cd A outer s H E) [] (start N vs) H s1 := by
  have hpl : ps.length ≤ N.length := by have := congrArg List.length S.pre; rw [List.length_take] at this; omega
  obtain ⟨h1, tk, rfl, hk⟩ := x.done
  have noA : ∀ b : Addr, b ∉ (cxOf CX P w K mg base N qual scope f cd A outer s H E).ex := fun b z => absurd (show b ∈ ([] : List Addr) from z) (by simp)
  refine ⟨⟨e0.mod, S.kind, rfl, rfl, Nat.le_refl _, fun y z c h1 h2 => ?_, fun y hy => ?_, fun y c _ h => ?_, fun _ => hd, Around.frames_deeper e0.frames, .inr ⟨rfl, rfl⟩, fun b z => absurd z (noA b), e0.bs, e0.bsz, fun b _ _ => noA b, fun b z => absurd z (noA b), e0.funs, e0.frf⟩,
    rfl, e0.bare, Un.kept hk, ⟨_, x.toInCall.ns, fun i y v h1 h2 h3 => ?_⟩, fun y c h => ⟨_, x.cell y c h⟩, e0.hok.fresh (Nat.le_refl _), fun y c h => ?_, fun p hp => absurd (show p ∈ ([] : List (Addr × Obj)) from hp) (by simp), e0.hok.kept hk, ?_⟩
  · exact name_of_addr x.apart (PySem.mem_of_lookup h1) (PySem.mem_of_lookup h2)
  · have hy : scope.names.lookup y = some .cell ∨ scope.names.lookup y = some .free := hy
    rcases hy with hy | hy
    · exact cell_has hy
    · exact absurd rfl (S.nofree _ (PySem.mem_of_lookup hy))
  · exact Nat.le_of_lt (x.above y c (PySem.mem_of_lookup h))
  · have hi : i < vs.length := by
      unfold start at h2
      by_cases hi : i < vs.length
      · exact hi
      · rw [List.getElem?_append_right (by simpa using hi)] at h2
        rw [List.getElem?_replicate] at h2
        split at h2 <;> cases h2
    have ha : vs[i]? = some v := by
      unfold start at h2
      rw [List.getElem?_append_left (by simpa using hi), List.getElem?_map] at h2
      cases e : vs[i]? with
      | none => rw [e] at h2; cases h2
      | some a => rw [e] at h2; cases h2; rfl
    obtain ⟨u, hu, rv⟩ := r.get ha
    have hp : ps[i]? = some y := by
      rw [← S.pre, List.getElem?_take_of_lt (by omega)]; exact h1
    have ndP : ps.Nodup := by rw [← S.pre]; exact S.nd.sublist (List.take_sublist _ _)
    refine ⟨u, rv, ?_⟩
    rcases S.par y (List.mem_of_getElem? hp) with k | k
    · exact .inl ⟨k, bindL_get ndP hp hu k⟩
    · obtain ⟨c, e⟩ := cell_has (n := s.heap.objs.size + 1) k
      refine .inr ⟨.inl k, c, e, ?_⟩
      have q := x.cell y c e
      rw [bindC_get ndP hp hu (by show scope.names.lookup y ≠ _; rw [k]; decide)] at q
      exact q
  · exact e0.hok.fresh (Nat.le_of_lt (x.above y c (PySem.mem_of_lookup h)))
  · unfold start
    show _ = N.length
    rw [List.length_append, List.length_map, List.length_replicate]
    omega
theorem fn_of {CX : CXT} {P : Program} {w : World} {K : PySem.W.Frag} {mg : Str → Option Value} {base : Heap} {k : Nat} {f : Addr} {name qual : Str} {params : Arguments} {body : List Stmt} {scope : Scope} {dV kV doc pm cdv ct oc : Value} {an od : Option Addr}
    {osl : Array (Option Value)} {N ps : List Str} {sp : Sp} (lk : K.lookup f = some ⟨oc, od, .func (PySem.W.fnOf name qual params body scope dV kV doc pm an cdv ct), osl⟩) (hcd : PySem.W.codeIn K cdv qual = true) (S : FnScope N ps scope)
    (len : ∀ vs H Q E, sp vs H Q E → vs.length = ps.length)
    (hbody : ∀ (A : Around) (outer : List Env) (s : Shared) (H : Hp) (vs : List V) (Q : VK) (E : XK), Room k (A.deeper (envOfC qual scope s.heap.objs.size f cdv)) → sp vs H Q E →
      ∃ t, PSs (cxOf CX P w K mg base N qual scope f cdv A outer s H E) body t ∧ t { nx := fun _ H' => Q .non H', rt := Q } (start N vs) H) :
    FnOk P w K mg base CX (k + 1) f (PySem.W.fnOf name qual params body scope dV kV doc pm an cdv ct) ps sp := by
  refine ⟨len, fun A outer s H args us vs Q E hr e0 hb r hsp => ?_⟩
  have hl := len _ _ _ _ hsp
  have KX : K.In s.heap := e0.mod.kin.keeps fun b o e => (e0.bs b o e).1
  have lim : s.heap.NoLimit := e0.mod.nolimit.keeps fun b o e => (e0.bs b o e).1
  have hkind : ∀ y ∈ ps.zip us, scope.names.lookup y.1 = some .local ∨ (scope.names.lookup y.1 = some .cell ∧ ((cellsFrom (s.heap.objs.size + 1) scope.names []).lookup y.1).isSome = true) := fun ⟨n, v⟩ hy => by
    rcases S.par n (List.of_mem_zip hy).1 with q | q
    · exact .inl q
    · exact .inr ⟨q, PySem.W.cellsFrom_some _ _ _ (.inl q)⟩
  refine codeAny_call_function hr.depth (KX _ _ lk) rfl S.co S.gen rfl (PySem.W.codeRec_of KX hcd) (hb _ _ _ _ ?_)
  refine wpAny_newFunctionEnv_cells S.kind hkind fun env he s1 x => ?_
  subst he
  refine ⟨lim.keeps x.toInCall.keep, codeAny_func ?_⟩
  obtain ⟨t, ht, hq⟩ := hbody A outer s H vs Q E (hr.deeper _) hsp
  have I : Inv (cxOf CX P w K mg base N qual scope f cdv A outer s H E) [] (start N vs) H s1 := inv_start S hr.hd e0 hl r x
  refine wpAny_mono (ht [] s1 (start N vs) H _ I hq) (fun fl s' hs => ?_) fun e s' hs => hs
  have fin : ∀ {σ' : St} {H' : Hp} {v : V} {u : Value}, Inv (cxOf CX P w K mg base N qual scope f cdv A outer s H E) [] σ' H' s' → RelV v u → Q v H' → CE outer P w H s Q u s' :=
    fun {σ' H' v u} J rv q => ⟨v, H', J.os, J.bare, J.base, J.hok, rv, q⟩
  cases fl with
  | ret u =>
    obtain ⟨v, σ', H', J, rv, q⟩ := hs
    exact fin J rv q
  | next =>
    obtain ⟨σ', H', J, q⟩ := hs
    exact fin (v := V.non) (u := Value.none) J rfl q
  | brk =>
    obtain ⟨_, _, _, q⟩ := hs
    exact False.elim q
  | cont =>
    obtain ⟨_, _, _, q⟩ := hs
    exact False.elim q
end L2
namespace L2
open PySem PySem.Spec PyProof.Rows
section
variable {X : Cx} {x : Str} {p pos : Pos} {e : Expr} {es : List Expr} {t : TA} {id T : String} {r : List V → Hp → VK → Prop}
def tCB (r : List V → Hp → VK → Prop) (t : TA) : TE := fun σ H Q => t σ H fun vs H1 => r vs H1 Q
theorem pe_callB (hc : CallR X (.builtin id) r) (hg : Gl X x) (hm : X.mg x = none) (hv : bootBuiltins x = some (.builtin id)) (ha : PA X (e :: es) t) (hn : x ≠ "__name__" := by decide) (hdb : (x == ("__debug__" : Str)) = false := by decide)
    (he : starEach (e :: es) X.env = (false, eval e X.env) :: starEach es X.env := by rfl) (hpl : (backTo pos (starEach es X.env)).any (·.1) = false := by rfl) : PE X (.Call (.Name x p) (e :: es) [] pos) (tCB r t) := by
  intro pins s σ H Q I h
  refine wpAny_Call_Name_kw (ld_blt I hg hm hv ?_ hn hdb)
  exact PyProof.Rows.callWith_builtin1 (thn (ha pos pins s σ H _ I h) fun us s1 ⟨vs, H1, I1, r1, q1⟩ => hc pins s1 σ H1 vs us Q I1 r1 q1) he hpl
theorem pe_callTy (hc : CallR X (.type T) r) (hg : Gl X x) (hm : X.mg x = none) (hv : bootBuiltins x = some (.type T)) (ha : PA X (e :: es) t) (hn : x ≠ "__name__" := by decide) (hdb : (x == ("__debug__" : Str)) = false := by decide)
    (he : starEach (e :: es) X.env = (false, eval e X.env) :: starEach es X.env := by rfl) (hpl : (backTo pos (starEach es X.env)).any (·.1) = false := by rfl) : PE X (.Call (.Name x p) (e :: es) [] pos) (tCB r t) := by
  intro pins s σ H Q I h
  refine wpAny_Call_Name_kw (ld_blt I hg hm hv ?_ hn hdb)
  exact PyProof.Rows.callWith_type1 (thn (ha pos pins s σ H _ I h) fun us s1 ⟨vs, H1, I1, r1, q1⟩ => hc pins s1 σ H1 vs us Q I1 r1 q1) he hpl
end
end L2
namespace HT
open PySem PyProof.Rows
def lexLt : List Int → List Int → Bool
  | [], [] => false
  | [], _ :: _ => true
  | _ :: _, [] => false
  | x :: xs, y :: ys => if x = y then lexLt xs ys else decide (x < y)
theorem lexLt_cons (x y : Int) (xs ys : List Int) : lexLt (x :: xs) (y :: ys) = if x = y then lexLt xs ys else decide (x < y) := rfl
theorem lexLt_nil_nil : lexLt [] [] = false := rfl
theorem lexLt_nil_cons (y : Int) (ys : List Int) : lexLt [] (y :: ys) = true := rfl
theorem lexLt_cons_nil (x : Int) (xs : List Int) : lexLt (x :: xs) [] = false := rfl
theorem eqAt_int (A : Around) (s : Shared) (a : Int) (t : Tok) (c : Int) (u : Tok) : ∃ e, SeqAt.EqAt A s (.int a t) (.int c u) e ∧ (e = true ↔ a = c) :=
  ⟨(a == c), SeqAt.EqAt.int_int a t c u, by simp⟩
theorem rcLt_int (A : Around) (s : Shared) (a : Int) (t : Tok) (c : Int) (u : Tok) (prog : Program) (w : World) (E : Value → Shared → Prop) (Q : Value → Shared → Prop) (h : Q (.bool (decide (a < c))) s) :
    wpAny (model prog w) A (richCompare .Lt (.int a t) (.int c u)) Q E s :=
  (PyProof.Rows.lt_int h : wpAny (model prog w) A (compareOp .Lt (.int a t) (.int c u)) Q E s)
section
open PySem.SeqAt
open PySem.AutoSeq1 (wpAny_loadPart')
open PySem.MeetsSeq PySem.MeetsSeq2 PySem.MeetsSeq3
theorem tuple_lt_ints (l b : Addr) (items items2 : Array Value) (n n2 : Nat) (dd dd2 : Option Addr) (sl sl2 : Array (Option Value)) (ns ms : List Int) (hi : IntsAre items.toList ns) (hj : IntsAre items2.toList ms) :
    Meets (Builtin.«tuple.__lt__» ⟨[.ref l, .ref b], []⟩)
      (fun _ R s => s.heap.get? l = some { cls := .type "tuple", dict := dd, data := .seq items n, slots := sl } ∧ s.heap.get? b = some { cls := .type "tuple", dict := dd2, data := .seq items2 n2, slots := sl2 } ∧
        R (.ok (.ret (.bool (lexLt ns ms)))) s) :=
  .of_wp fun prog w A R s h => by
    obtain ⟨hp, g, d, tk, os⟩ := s; obtain ⟨hl, hb, h⟩ := h
    have f2 := AutoSeq1.sub_tuple_tuple
    have z1 : items.size = ns.length := by rw [← hi.length]; simp
    have z2 : items2.size = ms.length := by rw [← hj.length]; simp
    wp_walk using wpAny_loadPart' hl, wpAny_loadPart' hb, wpAny_forIn_list _ (fun rest b s' => b.1 = none ∧ s' = ⟨hp, g, d, tk, os⟩ ∧ ∃ (vs ws : List Value) (ns' ms' : List Int), rest = vs.zip ws ∧
      IntsAre vs ns' ∧ IntsAre ws ms' ∧ ns'.length + items2.size = ms'.length + items.size ∧ R (.ok (.ret (.bool (lexLt ns' ms')))) ⟨hp, g, d, tk, os⟩) _
    case turn =>
      rintro ⟨y, x⟩ rest b s' ⟨hb', rfl, vs, ws, ns', ms', hz, hvi, hwi, hlen, hR⟩
      cases hvi with
      | nil => rw [List.zip_nil_left] at hz; cases hz
      | cons a t hvi' =>
        cases hwi with
        | nil => rw [List.zip_nil_right] at hz; cases hz
        | cons c u hwi' =>
          rw [List.zip_cons_cons] at hz
          injection hz with hyx hrest
          injection hyx with hy hx
          subst hy hx
          rw [lexLt_cons] at hR
          simp only [List.length_cons] at hlen
          obtain ⟨e, he, hiff⟩ := eqAt_int A.in1 ⟨hp, g, d, tk, os⟩ a t c u
          refine wpAny_bind (he prog w _ _ ?_)
          cases e with
          | true =>
            rw [if_pos (hiff.mp rfl)] at hR
            wp_walk
            exact ⟨rfl, rfl, _, _, _, _, hrest, hvi', hwi', by omega, hR⟩
          | false =>
            rw [if_neg (fun q => absurd (hiff.mpr q) Bool.false_ne_true)] at hR
            have hri := rcLt_int A.in1 ⟨hp, g, d, tk, os⟩ a t c u prog w
            wp_walk using hri
            exact ⟨_, rfl, by simpa using hR⟩
    case fin =>
      rintro ⟨b1, b2⟩ s' ⟨hb', rfl, vs, ws, ns', ms', hz, hvi, hwi, hlen, hR⟩
      simp only at hb'
      subst hb'
      have hv : lexLt ns' ms' = decide (items.size < items2.size) := by
        cases hvi with
        | nil =>
          cases hwi with
          | nil =>
            simp only [List.length_nil] at hlen
            rw [lexLt_nil_nil]
            exact (decide_eq_false (by omega)).symm
          | cons c u hw =>
            simp only [List.length_nil, List.length_cons] at hlen
            rw [lexLt_nil_cons]
            exact (decide_eq_true (by omega)).symm
        | cons a t hv =>
          cases hwi with
          | nil =>
            simp only [List.length_nil, List.length_cons] at hlen
            rw [lexLt_cons_nil]
            exact (decide_eq_false (by omega)).symm
          | cons c u hw =>
            rw [List.zip_cons_cons] at hz
            cases hz
      rw [hv] at hR
      wp_walk
      exact ⟨_, rfl, by simpa [Builtin.Tuple.tupleCompareSizes] using hR⟩
    case h =>
      exact ⟨rfl, rfl, items.toList, items2.toList, ns, ms, rfl, hi, hj, by omega, h⟩
end
section
variable {prog : Program} {w : World} {A : Around} {E : Value → Shared → Prop} {s : Shared}
theorem lt_tupInts {l b : Addr} {items items2 : Array Value} {ns ms : List Int} {Q : Value → Shared → Prop} (hl : IsTup s.heap l items) (hb : IsTup s.heap b items2) (hi : IntsAre items.toList ns) (hj : IntsAre items2.toList ms)
    (hu : A.units < cLine) (h : Q (.bool (lexLt ns ms)) s) : wpAny (model prog w) A (compareOp .Lt (.ref l) (.ref b)) Q E s := by
  obtain ⟨⟨cls, dd, data, sl⟩, ho, hc, n, hd⟩ := id hl
  obtain ⟨⟨cls2, dd2, data2, sl2⟩, ho2, hc2, n2, hd2⟩ := id hb
  simp only at hc hd hc2 hd2
  subst hc hd hc2 hd2
  exact richCompare_meets_room (op := .Lt) ⟨_, ho, rfl⟩ ⟨_, ho2, rfl⟩ PySem.F.slot_tuple_lt PySem.F.entry_tuple_lt (PySem.F.args_tuple_lt_2 _ _) (tuple_lt_ints l b items items2 n n2 dd dd2 sl sl2 ns ms hi hj)
    ⟨ho, ho2, show Value.bool (lexLt ns ms) ≠ Value.notImplemented ∧ Q (.bool (lexLt ns ms)) s from ⟨(fun x => nomatch x), h⟩⟩ hu
def sIx (n d : Nat) : Option Int → Nat
  | none => d
  | some v => if v < 0 then (v + (n : Int)).toNat else min v.toNat n
theorem sIx_nat (n d k : Nat) : sIx n d (some (k : Int)) = min k n := by
  show (if (k : Int) < 0 then ((k : Int) + (n : Int)).toNat else min (k : Int).toNat n) = min k n
  rw [if_neg (by omega), Int.toNat_natCast]
end
end HT
namespace L2
open PySem PySem.Spec PyProof.Rows
abbrev TO := St → Hp → (Option Int → Hp → Prop) → Prop
def PO (X : Cx) (e : Option Expr) (t : TO) : Prop :=
  ∀ (pins : List (Addr × Obj)) (s : Shared) (σ : St) (H : Hp) (Q : Option Int → Hp → Prop), Inv X pins σ H s → t σ H Q →
    wpAny (model X.prog X.w) X.A (evalPart e X.env) (fun u s' => ∃ o H', Inv X pins σ H' s' ∧ IsPart u o ∧ Q o H') X.xe s
def tPart (t : TE) : TO := fun σ H Q => t σ H fun x H1 => ∃ i, x = .int i ∧ Q (some i) H1
theorem intsAre_of {ns : List Int} : ∀ {us : List Value}, Vals (ns.map V.int) us → IntsAre us ns := by
  induction ns with
  | nil => intro us r; rw [List.map_nil] at r; cases r; exact .nil
  | cons n ns ih =>
    intro us r
    rw [List.map_cons] at r
    cases r with
    | cons r1 r2 =>
      obtain ⟨t, e⟩ := r1
      subst e
      exact .cons n t (ih r2)
section
variable {X : Cx} {e : Expr} {te : TE} {lo hi : Option Expr} {tl th : TO} {pos p2 : Pos}
theorem po_some (h : PE X e te) : PO X (some e) (tPart te) := by
  intro pins s σ H Q I hw
  rw [evalPart_some]
  refine thn (h pins s σ H _ I hw) fun u s1 ⟨x, H1, I1, r1, q1⟩ => ?_
  obtain ⟨i, rfl, q⟩ := q1
  obtain ⟨t, rfl⟩ := r1
  exact ⟨some i, H1, I1, .int i t, q⟩
def SlR (X : Cx) (r : V → Option Int → Option Int → Hp → VK → Prop) : Prop :=
  ∀ (pins : List (Addr × Obj)) (s : Shared) (σ : St) (H : Hp) (x : V) (v vl vu : Value) (lo hi : Option Int) (sl : Addr) (Q : VK), Inv X pins σ H s → RelV x v → s.heap.IsSliceOf sl vl vu .none → IsPart vl lo → IsPart vu hi → r x lo hi H Q →
    ∃ T id, typeLookup (.type T) "__getitem__" = pure (some (.builtin id)) ∧ s.TypeIs v T ∧ wpAny (model X.prog X.w) X.A (getItem v (.ref sl)) (EP X pins σ Q) X.xe s
def tSl (r : V → Option Int → Option Int → Hp → VK → Prop) (te : TE) (tl th : TO) : TE := fun σ H Q => te σ H fun x H1 => tl σ H1 fun l H2 => th σ H2 fun u H3 => r x l u H3 Q
theorem pe_slice {r : V → Option Int → Option Int → Hp → VK → Prop} (hr : SlR X r) (he : PE X e te) (hl : PO X lo tl) (hu : PO X hi th) : PE X (.Subscript e (.Slice lo hi none p2) pos) (tSl r te tl th) := by
  intro pins s σ H Q I h
  refine Subscript_ (thn (he pins s σ H _ I h) fun v s1 ⟨x, H1, I1, r1, q1⟩ => ?_)
  refine wpAny_Slice (thn (hl pins s1 σ H1 _ I1 q1) fun vl s2 ⟨l, H2, I2, pl, q2⟩ => thn (hu pins s2 σ H2 _ I2 q2) fun vu s3 ⟨u, H3, I3, pu, q3⟩ => ?_)
  rw [evalPart_none]
  refine wpAny_pure ?_
  have I4 : Inv X pins σ H3 { s3 with heap := s3.heap.push { cls := .type "slice", data := .fields #[vl, vu, .none] } } := I3.kept (t' := s3.toks) fun b ob q => Heap.get?_push_of_some _ q
  obtain ⟨T, id, hT, ht, hg⟩ := hr pins { s3 with heap := s3.heap.push { cls := .type "slice", data := .fields #[vl, vu, .none] } } σ H3 x v vl vu l u s3.heap.objs.size Q I4 r1 (Heap.IsSliceOf.new ..) pl pu q3
  show wpAny (model X.prog X.w) X.A (subscriptTail e (.Slice lo hi none p2) v (.ref s3.heap.objs.size)) (EP X pins σ Q) X.xe { s3 with heap := s3.heap.push { cls := .type "slice", data := .fields #[vl, vu, .none] } }
  exact tail_any (ops := [.ref s3.heap.objs.size, v]) ht hT hg (by with_unfolding_all rfl)
def cutV (xs : List V) (lo hi : Option Int) : List V := (xs.drop (HT.sIx xs.length 0 lo)).take (HT.sIx xs.length xs.length hi - HT.sIx xs.length 0 lo)
theorem cutV_length (xs : List V) (lo hi : Option Int) : (cutV xs lo hi).length ≤ xs.length := by
  unfold cutV
  rw [List.length_take, List.length_drop]
  omega
end
end L2
namespace L2
open PySem PySem.Spec PyProof.Rows
def ixN (n : Nat) (i : Int) : Option Nat := if 0 ≤ i then (if i < n then some i.toNat else none) else if -(n : Int) ≤ i then some (i + n).toNat else none
def atI {α : Type} (xs : List α) (i : Int) : Option α := (ixN xs.length i).bind fun j => xs[j]?
theorem ixN_seq {n : Nat} {i : Int} {j : Nat} (h : ixN n i = some j) : seqIndex? i n = some j ∧ j < n ∧ -(n : Int) ≤ i ∧ i < n := by
  unfold ixN at h
  by_cases h0 : 0 ≤ i
  · rw [if_pos h0] at h
    by_cases h1 : i < n
    · rw [if_pos h1] at h
      have e : i.toNat = j := Option.some.inj h
      exact ⟨by rw [seqIndex_of h0 h1, e], by omega, by omega, h1⟩
    · rw [if_neg h1] at h; cases h
  · rw [if_neg h0] at h
    by_cases h1 : -(n : Int) ≤ i
    · rw [if_pos h1] at h
      have e : (i + n).toNat = j := Option.some.inj h
      exact ⟨by rw [seqIndex_neg (by omega) h1, e], by omega, h1, by omega⟩
    · rw [if_neg h1] at h; cases h
theorem atI_get {α : Type} {xs : List α} {i : Int} {v : α} (h : atI xs i = some v) : ∃ j, seqIndex? i xs.length = some j ∧ xs[j]? = some v ∧ j < xs.length ∧ -(xs.length : Int) ≤ i ∧ i < xs.length := by
  unfold atI at h
  cases e : ixN xs.length i with
  | none => rw [e] at h; cases h
  | some j =>
    rw [e] at h
    obtain ⟨h1, h2, h3, h4⟩ := ixN_seq e
    exact ⟨j, h1, h, h2, h3, h4⟩
theorem atI_nat {α : Type} {xs : List α} {j : Nat} {v : α} (h : xs[j]? = some v) : atI xs (j : Int) = some v := by
  have hj : j < xs.length := (List.getElem?_eq_some_iff.mp h).1
  have e : ixN xs.length (j : Int) = some j := by
    unfold ixN
    rw [if_pos (by omega), if_pos (by omega)]; simp
  unfold atI; rw [e]; exact h
def PlainIx (b : Expr) : Prop := ∀ o i, subscripted b false o i = operate [o, i] (getItem o i)
def IxR (X : Cx) (r : R2) : Prop :=
  ∀ (value slice : Expr) (pins : List (Addr × Obj)) (s : Shared) (σ : St) (H : Hp) (x y : V) (v u : Value) (Q : VK), Inv X pins σ H s → RelV x v → RelV y u → r x y H Q →
    subscripted slice false v u = operate [v, u] (getItem v u) → wpAny (model X.prog X.w) X.A (subscriptTail value slice v u) (EP X pins σ Q) X.xe s
def MtR (X : Cx) (id : String) (r : V → List V → Hp → VK → Prop) : Prop :=
  ∀ (pins : List (Addr × Obj)) (s : Shared) (σ : St) (H : Hp) (x : V) (xs : List V) (v : Value) (us : List Value) (Q : VK), Inv X pins σ H s → RelV x v → Vals xs us → r x xs H Q →
    wpAny (model X.prog X.w) X.A (call (.builtin id) (v :: us)) (EP X pins σ Q) X.xe s
section
variable {X : Cx} {a b : Expr} {ta tb : TE} {pos : Pos}
theorem pe_ix {r : R2} (hr : IxR X r) (ha : PE X a ta) (hb : PE X b tb) (hs : PlainIx b) : PE X (.Subscript a b pos) (tOp r ta tb) := by
  intro pins s σ H Q I h
  exact Subscript_ (binT ha hb I h fun v u s2 x y H2 I2 rx ry q => hr a b pins s2 σ H2 x y v u Q I2 rx ry q (hs _ _))
def rIxL (K : PySem.W.Frag) : R2 := fun x y H Q => ∃ p xs i v, x = .ref p ∧ y = .int i ∧ SqL K H p xs ∧ atI xs i = some v ∧ Q v H
def rIxT (K : PySem.W.Frag) : R2 := fun x y H Q => ∃ p xs i v, x = .ref p ∧ y = .int i ∧ SqT K H p xs ∧ atI xs i = some v ∧ Q v H
theorem ix_list : IxR X (rIxL X.K) := by
  intro value slice pins s σ H x y v u Q I rx ry h hs
  obtain ⟨p, xs, i, z, rfl, rfl, hq, he, q⟩ := h
  cases rx
  obtain ⟨t, rfl⟩ := ry
  obtain ⟨its, r, pl, hz⟩ := I.list hq
  obtain ⟨j, h1, h2, h3, h4, h5⟩ := atI_get he
  obtain ⟨w, ew, rw'⟩ := r.get h2
  have hl := r.length
  have hn := line63
  have fin : EP X pins σ Q w s := ⟨z, H, I, rw', q⟩
  by_cases h0 : 0 ≤ i
  · have hj : i.toNat = j := by
      rw [seqIndex_of h0 h5] at h1
      exact Option.some.inj h1
    exact item_listR pl.isList h0 (by omega) (by rw [hj]; simpa using ew) fin hs
  · have hj : (i + (its.toArray.size : Int)).toNat = j := by
      rw [seqIndex_neg (by omega) h4] at h1
      rw [List.size_toArray, ← hl]
      exact Option.some.inj h1
    exact subscriptTail_builtinR (x := w) pl.isList.typeIs slot_list_getitem.lookup
      (wpAny_getItem_list_neg (Q := fun r s' => r = w ∧ EP X pins σ Q r s') pl.isList (by omega) (by rw [List.size_toArray] <;> omega) (by omega) (by rw [hj]; simpa using ew) ⟨rfl, fin⟩) hs
theorem ix_tup : IxR X (rIxT X.K) := by
  intro value slice pins s σ H x y v u Q I rx ry h hs
  obtain ⟨p, xs, i, z, rfl, rfl, hq, he, q⟩ := h
  cases rx
  obtain ⟨t, rfl⟩ := ry
  obtain ⟨its, r, pl, hz⟩ := I.tuple hq
  obtain ⟨j, h1, h2, h3, h4, h5⟩ := atI_get he
  obtain ⟨w, ew, rw'⟩ := r.get h2
  have hl := r.length
  have hn := line63
  have fin : EP X pins σ Q w s := ⟨z, H, I, rw', q⟩
  exact subscriptTail_builtinR (x := w) pl.typeIs slot_tuple_getitem.lookup
    (getItem_tuple (j := j) (Q := fun r s' => r = w ∧ EP X pins σ Q r s') pl (by omega) (by omega) (by rw [List.size_toArray, ← hl]; exact h1) (by simpa using ew) ⟨rfl, fin⟩) hs
theorem slice_bounds (lo hi : Option Int) (n : Nat) : (sliceBounds lo hi none n).1 = ((HT.sIx n 0 lo : Nat) : Int) ∧ (sliceBounds lo hi none n).2.1 = ((HT.sIx n n hi : Nat) : Int) ∧ (sliceBounds lo hi none n).2.2 = 1 := by
  refine ⟨?_, ?_, rfl⟩
  · cases lo with
    | none => simp [sliceBounds, HT.sIx]
    | some i =>
      simp only [sliceBounds, HT.sIx, Option.getD_none, show (1 : Int) > 0 by decide, if_true]
      by_cases h : i < 0
      · simp only [h, if_true] <;> omega
      · simp only [h, if_false] <;> omega
  · cases hi with
    | none => simp [sliceBounds, HT.sIx]
    | some i =>
      simp only [sliceBounds, HT.sIx, Option.getD_none, show (1 : Int) > 0 by decide, if_true]
      by_cases h : i < 0
      · simp only [h, if_true] <;> omega
      · simp only [h, if_false] <;> omega
theorem slicePick_cut (its : List Value) (lo hi : Option Int) : slicePick its.toArray lo hi none = ((its.drop (HT.sIx its.length 0 lo)).take (HT.sIx its.length its.length hi - HT.sIx its.length 0 lo)).toArray := by
  obtain ⟨h1, h2, h3⟩ := slice_bounds lo hi its.toArray.size
  unfold slicePick
  rw [h1, h2, h3]
  simp only [sliceRange_one, pick_run, List.size_toArray] <;> rfl
def rSlL (K : PySem.W.Frag) : V → Option Int → Option Int → Hp → VK → Prop := fun x lo hi H Q => ∃ a xs, x = .ref a ∧ SqL K H a xs ∧ ∀ p, H p = none → Q (.ref p) (upd H p (.lst (cutV xs lo hi)))
theorem sl_list : SlR X (rSlL X.K) := by
  intro pins s σ H x v vl vu lo hi sl Q I rx hs pl pu h
  obtain ⟨a, xs, rfl, hx, q⟩ := h
  cases rx
  obtain ⟨its, r, ht, hz⟩ := I.list hx
  have hlen := r.length
  refine ⟨"list", _, slot_list_getitem.lookup, ht.isList.typeIs, ?_⟩
  refine wpAny_getItem_list_slice ht.isList hs pl pu .none (by simp) ?_ (by rw [List.size_toArray] <;> omega)
  rw [slicePick_cut, ← hlen]
  refine ⟨.ref s.heap.objs.size, _, I.laid (t' := s.toks) (o := .lst (cutV xs lo hi)) (fun b ob q => Heap.get?_push_of_some _ q) (Nat.le_refl _) ?_, rfl, q _ (I.hok.fresh (Nat.le_refl _))⟩
  exact ⟨Nat.le_trans (cutV_length xs lo hi) hz, _, 0, (r.drop (HT.sIx xs.length 0 lo)).take (HT.sIx xs.length xs.length hi - HT.sIx xs.length 0 lo), Heap.get?_push_size _ rfl⟩
theorem call_len_seq : CallR X (.builtin "len") (fun xs H Q => ∃ p ys, xs = [.ref p] ∧ (SqL X.K H p ys ∨ SqT X.K H p ys) ∧ Q (.int ys.length) H) := by
  intro pins s σ H xs us Q I r h
  obtain ⟨p, ys, rfl, hq, q⟩ := h
  obtain ⟨u, rfl, rx⟩ := vals1 r
  cases rx
  have hn := line63
  rcases hq with hq | hq
  · obtain ⟨its, r', pl, hz⟩ := I.list hq
    have hlen := r'.length
    exact Calls.call_len_list pl.isList (by simp only [List.size_toArray] <;> omega) ⟨.int ys.length, H, I.tok _, ⟨s.toks + 1, by rw [List.size_toArray, hlen]⟩, q⟩
  · obtain ⟨its, r', pl, hz⟩ := I.tuple hq
    have hlen := r'.length
    exact len_tuple pl (by simp only [List.size_toArray] <;> omega) ⟨.int ys.length, H, I.tok _, ⟨s.toks + 1, by rw [List.size_toArray, hlen]⟩, q⟩
def tyV (K : PySem.W.Frag) (T : String) (x : V) (H : Hp) : Prop := match x with
  | .str _ => T = "str"
  | .int _ => T = "int"
  | .ref p => (T = "list" ∧ ∃ xs, SqL K H p xs) ∨ (T = "tuple" ∧ ∃ o, K.lookup p = some o ∧ o.cls = .type "tuple" ∧ o.dict = none) ∨
      (T = "dict" ∧ ((∃ kvs, H p = some (.dK kvs)) ∨ ∃ kvs, H p = some (.dT kvs))) ∨ (T = "set" ∧ ∃ S n, H p = some (.set S n))
  | _ => False
theorem tyV_is {pins : List (Addr × Obj)} {σ : St} {H : Hp} {s : Shared} {T : String} {x : V} {v : Value} (I : Inv X pins σ H s) (r : RelV x v) (ty : tyV X.K T x H) :
    s.TypeIs v T ∧ ∀ a, v = .ref a → ∃ ob, s.heap.get? a = some ob ∧ ob.dict = none := by
  cases x with
  | str z =>
    obtain ⟨t, rfl⟩ := r
    cases (show T = "str" from ty)
    exact ⟨typeIs_str s z t, fun _ e => nomatch e⟩
  | int i =>
    obtain ⟨t, rfl⟩ := r
    cases (show T = "int" from ty)
    exact ⟨typeIs_int s i t, fun _ e => nomatch e⟩
  | ref p =>
    cases r
    rcases ty with ⟨rfl, xs, hq⟩ | ⟨rfl, o, hk, hc, hd⟩ | ⟨rfl, hk⟩ | ⟨rfl, S, n, hk⟩
    · obtain ⟨its, _, pl, _⟩ := I.list hq
      refine ⟨pl.isList.typeIs, fun a e => ?_⟩
      cases e
      obtain ⟨o, n, e, c, hd, _⟩ := pl
      exact ⟨o, e, hd⟩
    · refine ⟨⟨o, I.kIn p o hk, hc⟩, fun a e => ?_⟩
      cases e
      exact ⟨o, I.kIn _ o hk, hd⟩
    · have z : ∃ o, s.heap.get? p = some o ∧ o.ExactDict := by
        rcases hk with ⟨kvs, hk⟩ | ⟨kvs, hk⟩
        · obtain ⟨_, _, _, _, o, _, _, e, ex, _⟩ := I.hok p _ hk
          exact ⟨o, e, ex⟩
        · obtain ⟨_, _, _, _, o, _, _, e, ex, _⟩ := I.hok p _ hk
          exact ⟨o, e, ex⟩
      obtain ⟨o, e, ex⟩ := z
      refine ⟨⟨o, e, ex.1⟩, fun a e2 => ?_⟩
      cases e2
      exact ⟨o, e, ex.2.1⟩
    · obtain ⟨o, _, _, _, e, ex, _⟩ := I.hok p _ hk
      refine ⟨⟨o, e, ex.1⟩, fun a e2 => ?_⟩
      cases e2
      exact ⟨o, e, ex.2.1⟩
  | _ => exact False.elim ty
def tBM0 (K : PySem.W.Frag) (T : String) (r : V → List V → Hp → VK → Prop) (to : TE) : TE := fun σ H Q => to σ H fun x H1 => tyV K T x H1 ∧ r x [] H1 Q
def tBM (K : PySem.W.Frag) (T : String) (r : V → List V → Hp → VK → Prop) (to : TE) (t : TA) : TE := fun σ H Q => to σ H fun x H1 => tyV K T x H1 ∧ t σ H1 fun xs H2 => r x xs H2 Q
variable {o e : Expr} {es : List Expr} {to : TE} {t : TA} {name : Str} {apos cpos : Pos} {T id : String} {r : V → List V → Hp → VK → Prop}
theorem pe_bm0 (pa : PlainAttrs T) (slot : Slot T name id) (hty : typeOf (.builtin id) = pure (.type "method_descriptor")) (hm : MtR X id r) (ho : PE X o to)
    (hbase : attributeBase o name X.env (eval o X.env) = eval o X.env := by rfl) (hline : (apos.endLine == cpos.line) = true := by rfl) : PE X (.Call (.Attribute o name apos) [] [] cpos) (tBM0 X.K T r to) := by
  intro pins s σ H Q I h
  refine wpAny_Call_method0_late hbase hline (thn (ho pins s σ H _ I h) fun v s1 ⟨x, H1, I1, r1, ty, q1⟩ => ?_)
  obtain ⟨h1, h2⟩ := tyV_is I1 r1 ty
  exact ⟨T, id, pa, slot, hty, h1, h2, Calls.callWith_builtin rfl (PySem.evalArgs_none (hm pins s1 σ H1 x [] v [] Q I1 r1 .nil q1))⟩
theorem pe_bm (pa : PlainAttrs T) (slot : Slot T name id) (hty : typeOf (.builtin id) = pure (.type "method_descriptor")) (hm : MtR X id r) (ho : PE X o to) (ha : PA X (e :: es) t)
    (hbase : attributeBase o name X.env (eval o X.env) = eval o X.env := by rfl)
    (hfew : ((backTo cpos (starEach (e :: es) X.env)).all (fun x => !x.1) && (backToKw cpos (keywordEach [] X.env)).all (fun x => x.1.isSome)
      && decide ((e :: es).length + ([] : List Keyword).length + (if ([] : List Keyword).isEmpty then 0 else 1) < 30)) = true := by rfl)
    (hline : (apos.endLine == cpos.line) = true := by rfl) (hs : starEach (e :: es) X.env = (false, eval e X.env) :: starEach es X.env := by rfl) (hplain : (backTo cpos (starEach es X.env)).any (·.1) = false := by rfl) :
    PE X (.Call (.Attribute o name apos) (e :: es) [] cpos) (tBM X.K T r to t) := by
  intro pins s σ H Q I h
  refine wpAny_Call_method_late hbase hfew hline rfl (thn (ho pins s σ H _ I h) fun v s1 ⟨x, H1, I1, r1, ty, q1⟩ => ?_)
  obtain ⟨h1, h2⟩ := tyV_is I1 r1 ty
  refine ⟨T, id, pa, slot, hty, h1, h2, ?_⟩
  have hA := ha cpos pins s1 σ H1 _ I1 q1
  rw [hs] at hA ⊢
  refine Calls.callWith_builtin (by show (false || (backTo cpos (starEach es X.env)).any (·.1)) = false; rw [hplain] <;> rfl) (Calls.evalArgs_plain ?_)
  exact thn hA fun us s2 ⟨vs, H2, I2, r2, q2⟩ => hm pins s2 σ H2 x vs v us Q I2 r1 r2 q2
/- xs.append(e), list.index on a module's tuple .. are MtR facts of 06m -/
end
end L2
namespace L2
open PySem PySem.Spec PyProof.Rows
def MtM (X : Cx) (id : String) (r : V → List V → Hp → VK → Prop) : Prop :=
  ∀ (pins : List (Addr × Obj)) (s : Shared) (σ : St) (H : Hp) (x : V) (xs : List V) (v : Value) (us : List Value) (Q : VK), Inv X pins σ H s → RelV x v → Vals xs us → r x xs H Q →
    wpAny (model X.prog X.w) X.A (call (.builtin id) (v :: us)) (EP X pins σ Q) X.xe s
theorem Vals.one : ∀ {x : V} {us : List Value}, Vals [x] us → ∃ u, us = [u] ∧ RelV x u
  | _, _, .cons r .nil => ⟨_, rfl, r⟩
theorem Vals.zero : ∀ {us : List Value}, Vals [] us → us = []
  | _, .nil => rfl
theorem Vals.dropLast {xs : List V} {us : List Value} (h : Vals xs us) : Vals xs.dropLast us.dropLast := by
  induction h with
  | nil => exact .nil
  | cons r t ih =>
    cases t with
    | nil => exact .nil
    | cons q t' => exact .cons r ih
theorem Vals.eraseIdx : ∀ {xs : List V} {us : List Value} (i : Nat), Vals xs us → Vals (xs.eraseIdx i) (us.eraseIdx i)
  | _, _, _, .nil => .nil
  | _, _, 0, .cons _ t => t
  | _, _, i + 1, .cons r t => .cons r (Vals.eraseIdx i t)
theorem erase_last {α : Type} (l : List α) : l.eraseIdx (l.length - 1) = l.dropLast := by
  induction l with
  | nil => rfl
  | cons a r ih =>
    cases r with
    | nil => rfl
    | cons b r =>
      have e : (a :: b :: r).length - 1 = ((b :: r).length - 1) + 1 := by
        have h1 : (a :: b :: r).length = r.length + 2 := rfl
        have h2 : (b :: r).length = r.length + 1 := rfl
        omega
      rw [e, List.eraseIdx_cons_succ, ih]
      all_goals rfl
theorem len_erase {α : Type} : ∀ (l : List α) (i : Nat), (l.eraseIdx i).length ≤ l.length
  | [], _ => Nat.le_refl _
  | _ :: _, 0 => Nat.le_succ _
  | _ :: r, i + 1 => Nat.succ_le_succ (len_erase r i)
section
variable {X : Cx} {pins : List (Addr × Obj)} {σ : St} {H : Hp} {s : Shared} {l b : Addr} {xs ys zs : List V}
theorem Inv.lset {its its' : List Value} {n : Nat} {f : Array Value → Array Value} {t' : Nat} (I : Inv X pins σ H s) (hH : H l = some (.lst xs))
    (e : s.heap.get? l = some { cls := .type "list", data := .seq its.toArray n }) (hf : f its.toArray = its'.toArray) (hv : Vals ys its') (hz : ys.length ≤ sizeLine) :
    Inv X pins σ (upd H l (.lst ys)) { s with heap := s.heap.update l (Obj.mapSeq f), toks := t' } := by
  have q := PySem.IsL.update e f
  rw [hf] at q
  refine I.write (x := l) (e := l) (by rw [hH]; exact trivial) (.inl rfl) (fun b' u hb hu => (Heap.get?_update_other s.heap (Obj.mapSeq f) (Ne.symm hb)).trans hu) ⟨_, q⟩ ?_
  exact ⟨hz, its', _, hv, q⟩
theorem Inv.lstM (I : Inv X pins σ H s) (hH : H l = some (.lst xs)) : xs.length ≤ sizeLine ∧ ∃ (its : List Value) (n : Nat), Vals xs its ∧ xs.length = its.length ∧ s.heap.get? l = some { cls := .type "list", data := .seq its.toArray n } := by
  obtain ⟨z, its, n, r, e⟩ := I.hok l _ hH
  exact ⟨z, its, n, r, r.length, e⟩
theorem notLongL {n : Nat} (h : n ≤ sizeLine) : Builtin.List.listTooLong n = false := by
  unfold Builtin.List.listTooLong
  exact decide_eq_false (by omega)
end
section
variable {X : Cx}
def rAppend : V → List V → Hp → VK → Prop := fun x vs H Q => ∃ l xs y, x = .ref l ∧ vs = [y] ∧ H l = some (.lst xs) ∧ xs.length < sizeLine ∧ Q .non (upd H l (.lst (xs ++ [y])))
theorem mt_append : MtM X "list.append" rAppend := by
  intro pins s σ H x vs v us Q I rx rv h
  obtain ⟨l, xs, y, rfl, rfl, hH, hz, q⟩ := h
  cases rx
  obtain ⟨u, rfl, ru⟩ := rv.one
  obtain ⟨z, its, n, r, hl, e⟩ := I.lstM hH
  refine call_meets F.slot_list_append ⟨_, e, rfl⟩ F.entry_list_append (F.args_list_append_2 _ _) (PySem.list_append l its.toArray n u (by rw [List.size_toArray]; omega)) ⟨e, ?_⟩
  refine ⟨.non, _, I.lset (its' := its ++ [u]) hH e (by simp) (r.append (.cons ru .nil)) ?_, rfl, q⟩
  rw [List.length_append, List.length_singleton]
  omega
def rExtend : V → List V → Hp → VK → Prop := fun x vs H Q => ∃ l b xs zs, x = .ref l ∧ vs = [.ref b] ∧ H l = some (.lst xs) ∧ H b = some (.lst zs) ∧ xs.length + zs.length ≤ sizeLine ∧ Q .non (upd H l (.lst (xs ++ zs)))
theorem mt_extend : MtM X "list.extend" rExtend := by
  intro pins s σ H x vs v us Q I rx rv h
  obtain ⟨l, b, xs, zs, rfl, rfl, hH, hB, hz, q⟩ := h
  cases rx
  obtain ⟨u, rfl, ru⟩ := rv.one
  cases ru
  obtain ⟨z, its, n, r, hl, e⟩ := I.lstM hH
  obtain ⟨z2, its2, n2, r2, hl2, e2⟩ := I.lstM hB
  have hsz : its.toArray.size + its2.toArray.size ≤ sizeLine := by rw [List.size_toArray, List.size_toArray]; omega
  have hlong : ¬ (!its.toArray.isEmpty && Builtin.List.listTooLong (its.toArray.size + its2.toArray.size)) = true := by
    rw [notLongL hsz, Bool.and_false]
    exact Bool.false_ne_true
  refine call_meets F.slot_list_extend ⟨_, e, rfl⟩ F.entry_list_extend (F.args_list_extend_2 _ _)
    (AutoSeq1.list_extend_list_list_0 l its.toArray n b its2.toArray n2 hlong (by rw [List.size_toArray]; omega) (by omega)) ⟨e, e2, ?_⟩
  refine ⟨.non, _, I.lset (its' := its ++ its2) hH e (by simp) (r.append r2) ?_, rfl, q⟩
  rw [List.length_append]
  omega
def rPop : V → List V → Hp → VK → Prop := fun x vs H Q => ∃ l xs y, x = .ref l ∧ vs = [] ∧ H l = some (.lst xs) ∧ xs[xs.length - 1]? = some y ∧ Q y (upd H l (.lst xs.dropLast))
theorem mt_pop : MtM X "list.pop" rPop := by
  intro pins s σ H x vs v us Q I rx rv h
  obtain ⟨l, xs, y, rfl, rfl, hH, hy, q⟩ := h
  cases rx
  have hus := rv.zero
  subst hus
  obtain ⟨z, its, n, r, hl, e⟩ := I.lstM hH
  obtain ⟨u, hu, ru⟩ := r.get hy
  have hy' : its.toArray[its.toArray.size - 1]? = some u := by
    show its.toArray[its.length - 1]? = some u
    rw [← Array.getElem?_toList, ← hl]
    exact hu
  refine call_meets F.slot_list_pop ⟨_, e, rfl⟩ F.entry_list_pop (F.args_list_pop_1 _) (MeetsSeq.list_pop_last l its.toArray n u hy' (by rw [List.size_toArray]; omega)) ⟨e, ?_⟩
  refine ⟨y, _, I.lset (its' := its.dropLast) hH e ?_ r.dropLast ?_, ru, q⟩
  · show its.toArray.eraseIdxIfInBounds (its.toArray.size - 1) = its.dropLast.toArray
    rw [List.size_toArray, List.eraseIdxIfInBounds_toArray, erase_last]
  · rw [List.length_dropLast]
    omega
def rPopAt : V → List V → Hp → VK → Prop := fun x vs H Q => ∃ l xs i k y, x = .ref l ∧ vs = [.int i] ∧ H l = some (.lst xs) ∧ -(2 ^ 63) ≤ i ∧ i < 2 ^ 63 ∧ seqIndex? i xs.length = some k ∧ xs[k]? = some y ∧ Q y (upd H l (.lst (xs.eraseIdx k)))
theorem mt_popAt : MtM X "list.pop" rPopAt := by
  intro pins s σ H x vs v us Q I rx rv h
  obtain ⟨l, xs, i, k, y, rfl, rfl, hH, h1, h2, hk, hy, q⟩ := h
  cases rx
  obtain ⟨u, rfl, ru⟩ := rv.one
  obtain ⟨t, rfl⟩ := ru
  obtain ⟨z, its, n, r, hl, e⟩ := I.lstM hH
  obtain ⟨w, hw, rw'⟩ := r.get hy
  refine call_meets F.slot_list_pop ⟨_, e, rfl⟩ F.entry_list_pop (F.args_list_pop_2 _ _)
    (MeetsSeq.list_pop_at l its.toArray n i t k w (fitsIndex_both h1 h2) (by rw [List.size_toArray, ← hl]; exact hk) (by rw [← Array.getElem?_toList]; exact hw) (by rw [List.size_toArray]; omega)) ⟨e, ?_⟩
  refine ⟨y, _, I.lset (its' := its.eraseIdx k) hH e ?_ (r.eraseIdx k) ?_, rw', q⟩
  · show its.toArray.eraseIdxIfInBounds k = (its.eraseIdx k).toArray
    rw [List.eraseIdxIfInBounds_toArray]
  · have := len_erase xs k
    omega
end
section
variable {prog : Program} {w : World} {A : Around} {E : Value → Shared → Prop} {s : Shared}
set_option maxRecDepth 100000 in
end
section
variable {X : Cx}
end
end L2
namespace L2
open PySem PySem.Spec PyProof.Rows
section
variable {prog : Program} {w : World} {A : Around} {E : Value → Shared → Prop} {s : Shared} {l : Addr} {its : List Value} {ns : List Int} {Q : Value → Shared → Prop}
end
section
variable {X : Cx}
end
section
variable {X : Cx}
end
section
variable {X : Cx}
end
section
variable {X : Cx}
end
section
variable {X : Cx} {pins : List (Addr × Obj)} {σ : St} {H : Hp} {s : Shared}
end
section
variable {X : Cx}
end
end L2
namespace L2
open PySem PySem.Spec PyProof.Rows
abbrev CellAt (h : Heap) (c : Addr) (v : Option Value) : Prop := h.IsCell c v
def relS (scope sc : Scope) : Scope :=
  { scope with names := scope.names.map fun (n, k) => if (k == .free && sc.kind == .function && sc.names.lookup n == some .cell) then (n, .cell) else (n, k) }
def cloFrom (cells : List (Str × Addr)) : List (Str × NameKind) → List (Str × Addr) → List (Str × Addr)
  | [], acc => acc
  | (n, k) :: r, acc => if k == .free then cloFrom cells r ((n, (cells.lookup n).getD 0) :: acc) else cloFrom cells r acc
theorem closure_loop (env : Env) (f : Str × NameKind → List (Str × Addr) → Sem (ForInStep (List (Str × Addr))))
    (hf : ∀ n k c, f (n, k) c = if k == .free then (do let a ← cellOf env n; pure (.yield ((n, a) :: c))) else pure (.yield c)) :
    ∀ (names : List (Str × NameKind)) (acc : List (Str × Addr)), (∀ y ∈ names, y.2 = .free → ∃ c, env.cells.lookup y.1 = some c) → forIn names acc f = pure (cloFrom env.cells names acc)
  | [], acc, _ => by rw [List.forIn_nil]; rfl
  | (n, k) :: r, acc, h => by
    rw [List.forIn_cons, hf]
    have ih := fun acc => closure_loop env f hf r acc fun y hy => h y (List.mem_cons_of_mem _ hy)
    unfold cloFrom
    by_cases hk : (k == NameKind.free) = true
    · rw [if_pos hk, if_pos hk]
      obtain ⟨c, hc⟩ := h (n, k) List.mem_cons_self (by simpa using hk)
      have e : cellOf env n = pure c := by unfold cellOf; rw [hc]
      rw [e]
      have e2 : (env.cells.lookup n).getD 0 = c := by rw [hc]; rfl
      rw [e2]
      exact ih _
    · rw [if_neg hk, if_neg hk]
      exact ih _
theorem closure_ok {scope : Scope} {env : Env} (h : ∀ y ∈ scope.names, y.2 = .free → ∃ c, env.cells.lookup y.1 = some c) : closureFor scope env = pure (cloFrom env.cells scope.names []) := by
  simp only [closureFor]
  rw [closure_loop env _ (fun n k c => rfl) scope.names [] h]
  rfl
theorem mem_lookup {α : Type} : ∀ {l : List (Str × α)} {n : Str} {c : α}, (n, c) ∈ l → ∃ c', l.lookup n = some c'
  | (k, v) :: r, n, c, h => by
    rw [List.lookup_cons]
    cases hb : n == k with
    | true => exact ⟨_, rfl⟩
    | false =>
      rcases List.mem_cons.mp h with e | h
      · cases e; simp at hb
      · exact mem_lookup h
theorem cloFrom_mem {cells : List (Str × Addr)} : ∀ {names : List (Str × NameKind)} {acc : List (Str × Addr)} {n : Str} {c : Addr}, (n, c) ∈ cloFrom cells names acc → (n, c) ∈ acc ∨ ((n, .free) ∈ names ∧ c = (cells.lookup n).getD 0)
  | [], _, _, _, h => .inl h
  | (m, k) :: r, acc, n, c, h => by
    unfold cloFrom at h
    split at h
    · rename_i hk
      have hk : k = .free := by simpa using hk
      rcases cloFrom_mem h with h | ⟨h1, h2⟩
      · rcases List.mem_cons.mp h with e | h
        · cases e; exact .inr ⟨hk ▸ List.mem_cons_self, rfl⟩
        · exact .inl h
      · exact .inr ⟨List.mem_cons_of_mem _ h1, h2⟩
    · rcases cloFrom_mem h with h | ⟨h1, h2⟩
      · exact .inl h
      · exact .inr ⟨List.mem_cons_of_mem _ h1, h2⟩
theorem cloFrom_acc {cells : List (Str × Addr)} : ∀ {names : List (Str × NameKind)} {acc : List (Str × Addr)} {p : Str × Addr}, p ∈ acc → p ∈ cloFrom cells names acc
  | [], _, _, h => h
  | (m, k) :: r, acc, p, h => by
    unfold cloFrom
    split
    · exact cloFrom_acc (List.mem_cons_of_mem _ h)
    · exact cloFrom_acc h
theorem cloFrom_has {cells : List (Str × Addr)} : ∀ {names : List (Str × NameKind)} {acc : List (Str × Addr)} {n : Str}, (n, .free) ∈ names → (n, (cells.lookup n).getD 0) ∈ cloFrom cells names acc
  | (m, k) :: r, acc, n, h => by
    unfold cloFrom
    rcases List.mem_cons.mp h with e | h
    · cases e
      exact cloFrom_acc List.mem_cons_self
    · split
      · exact cloFrom_has h
      · exact cloFrom_has h
theorem cells_mem : ∀ {names : List (Str × NameKind)} {h : Heap} {acc : List (Str × Addr)} {x : Str} {c : Addr}, (x, c) ∈ cellsFrom h.objs.size names acc →
    (x, c) ∈ acc ∨ ((x, .cell) ∈ names ∧ h.objs.size ≤ c ∧ CellAt (pushCells h names) c none)
  | [], _, _, _, _, h => .inl h
  | (n, k) :: r, h, acc, x, c, hm => by
    unfold cellsFrom at hm
    unfold pushCells
    split at hm
    · rename_i hk
      rw [if_pos hk]
      have hk : k = .cell := by simpa using hk
      rw [← Heap.size_push h { cls := .type "cell", data := .cell none }] at hm
      rcases cells_mem hm with hm | ⟨h1, h2, h3⟩
      · rcases List.mem_cons.mp hm with e | hm
        · cases e
          exact .inr ⟨hk ▸ List.mem_cons_self, Nat.le_refl _, _, pushCells_keeps r _ _ _ (Heap.get?_push_size _ rfl), rfl⟩
        · exact .inl hm
      · rw [Heap.size_push] at h2
        exact .inr ⟨List.mem_cons_of_mem _ h1, Nat.le_of_succ_le h2, h3⟩
    · rename_i hk
      rw [if_neg hk]
      rcases cells_mem hm with hm | ⟨h1, h2, h3⟩
      · exact .inl hm
      · exact .inr ⟨List.mem_cons_of_mem _ h1, h2, h3⟩
theorem cells_acc : ∀ {names : List (Str × NameKind)} {n : Nat} {acc : List (Str × Addr)} {p : Str × Addr}, p ∈ acc → p ∈ cellsFrom n names acc
  | [], _, _, _, h => h
  | (m, k) :: r, n, acc, p, h => by
    unfold cellsFrom
    split
    · exact cells_acc (List.mem_cons_of_mem _ h)
    · exact cells_acc h
theorem cells_has : ∀ {names : List (Str × NameKind)} {n : Nat} {acc : List (Str × Addr)} {x : Str}, (x, .cell) ∈ names → ∃ c, (x, c) ∈ cellsFrom n names acc
  | (m, k) :: r, n, acc, x, h => by
    unfold cellsFrom
    rcases List.mem_cons.mp h with e | h
    · cases e
      exact ⟨n, cells_acc List.mem_cons_self⟩
    · split
      · exact cells_has h
      · exact cells_has h
theorem cells_inj : ∀ {names : List (Str × NameKind)} {h : Heap} {acc : List (Str × Addr)} {x y : Str} {c : Addr}, (∀ p ∈ acc, p.2 < h.objs.size) → (∀ x y c, (x, c) ∈ acc → (y, c) ∈ acc → x = y) →
    (x, c) ∈ cellsFrom h.objs.size names acc → (y, c) ∈ cellsFrom h.objs.size names acc → x = y
  | [], _, _, _, _, _, _, hi, h1, h2 => hi _ _ _ h1 h2
  | (n, k) :: r, h, acc, x, y, c, hl, hi, h1, h2 => by
    unfold cellsFrom at h1 h2
    split at h1
    · rename_i hk
      rw [if_pos hk] at h2
      rw [← Heap.size_push h { cls := .type "cell", data := .cell none }] at h1 h2
      refine cells_inj (h := h.push _) (fun p hp => ?_) (fun x y c a b => ?_) h1 h2
      · rw [Heap.size_push]
        rcases List.mem_cons.mp hp with rfl | hp
        · exact Nat.lt_succ_self _
        · exact Nat.lt_succ_of_lt (hl p hp)
      · rcases List.mem_cons.mp a with e | a <;> rcases List.mem_cons.mp b with e' | b
        · cases e; cases e'; rfl
        · cases e; exact absurd (hl _ b) (Nat.lt_irrefl _)
        · cases e'; exact absurd (hl _ a) (Nat.lt_irrefl _)
        · exact hi _ _ _ a b
    · rename_i hk
      rw [if_neg hk] at h2
      exact cells_inj hl hi h1 h2
theorem newEnv_comp {M : Model} {A : Around} {E : Value → Shared → Prop} {s : Shared} {scope : Scope} {globals : Addr} {closure : List (Str × Addr)} {qual : Str} {func : Option Addr} {code : Value} {around : Env} {builtins : Addr} {Q : Env → Shared → Prop}
    (h : Q (newEnv scope s.heap.objs.size globals (cellsFrom (s.heap.objs.size + 1) scope.names closure) qual func code (some around) builtins)
      { s with heap := pushCells (s.heap.push { cls := .type "dict", data := .dict #[] }) scope.names }) :
    wpAny M A (newFunctionEnv scope globals closure [] qual func code (some around) builtins) Q E s := by
  simp only [newFunctionEnv, Option.isSome_some, if_true]
  refine wpAny_bind (wpAny_alloc ?_)
  refine wpAny_bind (wpAny_layCells _ (fun n k c => rfl) scope.names closure _ _ ?_)
  rw [show ({ s with heap := s.heap.push { cls := .type "dict", data := .dict #[] } } : Shared).heap.objs.size = s.heap.objs.size + 1 from Heap.size_push ..]
  rw [List.forIn_nil]
  exact wpAny_bind (wpAny_pure (wpAny_pure h))
theorem lookup_relS {sc : Scope} : ∀ {names : List (Str × NameKind)} {x : Str} {k : NameKind},
    (names.map fun (n, k) => if (k == NameKind.free && sc.kind == .function && sc.names.lookup n == some .cell) then (n, NameKind.cell) else (n, k)).lookup x = some k →
    ∃ k', names.lookup x = some k' ∧ (k = k' ∨ (k' = .free ∧ k = .cell))
  | [], _, _, h => by simp at h
  | (n, k₀) :: r, x, k, h => by
    have ih := @lookup_relS sc r x k
    have h' : List.lookup x ((if (k₀ == NameKind.free && sc.kind == .function && sc.names.lookup n == some .cell) = true then (n, NameKind.cell) else (n, k₀)) :: (r.map _)) = some k := h
    cases hx : x == n with
    | true =>
      simp only [List.lookup_cons, hx]
      by_cases hc : (k₀ == NameKind.free && sc.kind == .function && sc.names.lookup n == some .cell) = true
      · rw [if_pos hc] at h'
        simp only [List.lookup_cons, hx] at h'
        cases h'
        simp only [Bool.and_eq_true, beq_iff_eq] at hc
        exact ⟨k₀, rfl, .inr ⟨hc.1.1, rfl⟩⟩
      · rw [if_neg hc] at h'
        simp only [List.lookup_cons, hx] at h'
        cases h'
        exact ⟨_, rfl, .inl rfl⟩
    | false =>
      simp only [List.lookup_cons, hx]
      by_cases hc : (k₀ == NameKind.free && sc.kind == .function && sc.names.lookup n == some .cell) = true
      · rw [if_pos hc] at h'
        simp only [List.lookup_cons, hx] at h'
        exact ih h'
      · rw [if_neg hc] at h'
        simp only [List.lookup_cons, hx] at h'
        exact ih h'
structure BlkOk (N : List Str) (sc scope : Scope) (own : List (Str × Nat)) : Prop where
  kind : scope.kind = .function
  uniq : ∀ y ∈ scope.names, scope.names.lookup y.1 = some y.2
  ix : ∀ p ∈ own, N[p.2]? = some p.1
  free : ∀ y ∈ scope.names, y.2 = .free → sc.names.lookup y.1 = some .cell ∨ sc.names.lookup y.1 = some .free
  own : ∀ y ∈ scope.names, y.2 = .local ∨ y.2 = .cell → y.1 ∈ own.map (·.1) ∨ y.1 ∉ N
def wipe (σ : St) : List Nat → St
  | [] => σ
  | v :: vs => (wipe σ vs).set v none
theorem wipe_length (σ : St) : ∀ vs : List Nat, (wipe σ vs).length = σ.length
  | [] => rfl
  | v :: vs => by unfold wipe; rw [List.length_set, wipe_length σ vs]
theorem wipe_some {σ : St} {i : Nat} {x : V} : ∀ {vs : List Nat}, (wipe σ vs)[i]? = some (some x) → σ[i]? = some (some x) ∧ i ∉ vs
  | [], h => ⟨h, by simp⟩
  | v :: vs, h => by
    unfold wipe at h
    by_cases hi : v = i
    · subst hi
      by_cases hv : v < (wipe σ vs).length
      · rw [List.getElem?_set_self hv] at h; cases h
      · rw [List.getElem?_eq_none (by simpa using hv)] at h; cases h
    · rw [List.getElem?_set_ne hi] at h
      obtain ⟨h1, h2⟩ := wipe_some h
      exact ⟨h1, by simp only [List.mem_cons, not_or]; exact ⟨fun e => hi e.symm, h2⟩⟩
abbrev Cx.blk (X : Cx) (s : Shared) (H : Hp) (scope : Scope) (cenv : Env) (fp : List Addr) : Cx := { X with s_0 := s, H_0 := H, env := cenv, outer := X.stack, ex := fp, fn := fun x => scope.names.lookup x == some .cell, pn := [], xe := fun _ _ => False }
section
variable {X : Cx} {pins : List (Addr × Obj)} {σ : St} {H : Hp} {s : Shared}
theorem block_start {scope : Scope} {own : List (Str × Nat)} {fp : List Addr} (I : Inv X pins σ H s) (ok : BlkOk X.N X.env.scope scope own) (hN : X.N.Nodup) (hfp : ∀ b ∈ fp, FpOk X pins H b ∧ b < s.heap.objs.size) :
    Inv (X.blk s H scope (compEnvC scope (cellsFrom (s.heap.objs.size + 1) scope.names (cloFrom X.env.cells scope.names [])) s.heap.objs.size X.env) fp) [] (wipe σ (own.map (·.2))) H { s with heap := pushCells (s.heap.push { cls := .type "dict", data := .dict #[] }) scope.names } := by
  have hfree : ∀ y ∈ scope.names, y.2 = .free → ∃ c, X.env.cells.lookup y.1 = some c := fun y hy e => by
    rcases ok.free y hy e with k | k
    · exact I.ok.has _ (.inl k)
    · exact I.ok.has _ (.inr k)
  generalize hcenv : compEnvC scope (cellsFrom (s.heap.objs.size + 1) scope.names (cloFrom X.env.cells scope.names [])) s.heap.objs.size X.env = cenv
  have kp : ∀ b o, s.heap.get? b = some o → (pushCells (s.heap.push { cls := .type "dict", data := .dict #[] }) scope.names).get? b = some o := fun b o e => pushCells_keeps _ _ _ _ (Heap.get?_push_of_some _ e)
  have hL : cenv.locals = s.heap.objs.size := by rw [← hcenv]; rfl
  have hcl : cenv.cells = cellsFrom (s.heap.objs.size + 1) scope.names (cloFrom X.env.cells scope.names []) := by rw [← hcenv]; rfl
  have hsc : cenv.scope = relS scope X.env.scope := by rw [← hcenv]; rfl
  rw [← Heap.size_push s.heap { cls := .type "dict", data := .dict #[] }] at hcl
  have cm : ∀ {y c}, (y, c) ∈ cloFrom X.env.cells scope.names [] → X.env.cells.lookup y = some c ∧ c < s.heap.objs.size := fun {y c} hm => by
    rcases cloFrom_mem hm with hm | ⟨h1, rfl⟩
    · cases hm
    · obtain ⟨c, hc⟩ := hfree _ h1 rfl
      rw [hc]
      obtain ⟨w, z⟩ := I.cell _ _ hc
      exact ⟨rfl, z.lt⟩
  have mem : ∀ {y c}, cenv.cells.lookup y = some c → (X.env.cells.lookup y = some c ∧ c < s.heap.objs.size) ∨ (s.heap.objs.size + 1 ≤ c ∧ CellAt (pushCells (s.heap.push { cls := .type "dict", data := .dict #[] }) scope.names) c none) := fun {y c} e => by
    rw [hcl] at e
    rcases cells_mem (PySem.mem_of_lookup e) with hm | ⟨_, h2, h3⟩
    · exact .inl (cm hm)
    · rw [Heap.size_push] at h2; exact .inr ⟨h2, h3⟩
  have look : ∀ {y}, scope.names.lookup y = some .free → ∃ c, cenv.cells.lookup y = some c ∧ X.env.cells.lookup y = some c := fun {y} hl => by
    have hy : (y, NameKind.free) ∈ scope.names := PySem.mem_of_lookup hl
    obtain ⟨c', e'⟩ := mem_lookup (cells_acc (names := scope.names) (n := (s.heap.push { cls := .type "dict", data := .dict #[] }).objs.size) (cloFrom_has (cells := X.env.cells) (acc := []) hy))
    rw [← hcl] at e'
    refine ⟨c', e', ?_⟩
    rw [hcl] at e'
    rcases cells_mem (PySem.mem_of_lookup e') with hm | ⟨h1, _, _⟩
    · exact (cm hm).1
    · have := ok.uniq _ h1
      rw [hl] at this; cases this
  have okB : (X.blk s H scope cenv fp).Ok := by
    refine ⟨I.ok.mod, by show cenv.scope.kind = _; rw [hsc]; exact ok.kind, by show cenv.globals = _; rw [← hcenv]; exact I.ok.glob, by show cenv.builtins = _; rw [← hcenv]; exact I.ok.blt, by show s.heap.objs.size ≤ cenv.locals; rw [hL]; exact Nat.le_refl _,
      fun y z c e1 e2 => ?_, fun y hy => ?_, fun y c z e => ?_, I.ok.hd, I.ok.frames, .inl rfl, fun b hb => ⟨?_, fun y c e z => ?_⟩, I.bs, Nat.le_trans I.ok.bsz I.sz, fun b o e hb => ?_, fun b hb z => ?_, I.stack, I.stkFree⟩
    · have e1 : cenv.cells.lookup y = some c := e1
      have e2 : cenv.cells.lookup z = some c := e2
      rw [hcl] at e1 e2
      refine cells_inj (fun p hp => ?_) (fun y z c a b => I.ok.inj y z c (cm a).1 (cm b).1) (PySem.mem_of_lookup e1) (PySem.mem_of_lookup e2)
      rw [Heap.size_push]
      exact Nat.lt_succ_of_lt (cm (y := p.1) (c := p.2) hp).2
    · show ∃ c, cenv.cells.lookup y = some c
      have key : ∀ k, cenv.kindOf y = some k → (k = .cell ∨ k = .free) → ∃ c, cenv.cells.lookup y = some c := fun k hk hk' => by
        unfold Env.kindOf at hk
        rw [hsc] at hk
        obtain ⟨k', e, r⟩ := lookup_relS hk
        have : k' = .cell ∨ k' = .free := by
          rcases r with rfl | ⟨rfl, _⟩
          · exact hk'
          · exact .inr rfl
        rcases this with rfl | rfl
        · obtain ⟨c, hm⟩ := cells_has (n := (s.heap.push { cls := .type "dict", data := .dict #[] }).objs.size) (acc := cloFrom X.env.cells scope.names []) (PySem.mem_of_lookup e)
          obtain ⟨c', e'⟩ := mem_lookup hm
          exact ⟨c', by rw [hcl]; exact e'⟩
        · obtain ⟨c, h1, _⟩ := look e
          exact ⟨c, h1⟩
      rcases hy with hy | hy
      · exact key _ hy (.inl rfl)
      · exact key _ hy (.inr rfl)
    · have z : (scope.names.lookup y == some NameKind.cell) = true := z
      have z : scope.names.lookup y = some .cell := by simpa using z
      have e : cenv.cells.lookup y = some c := e
      rw [hcl] at e
      rcases cells_mem (PySem.mem_of_lookup e) with hm | ⟨_, h2, _⟩
      · rcases cloFrom_mem hm with hm | ⟨h1, _⟩
        · cases hm
        · have q := ok.uniq _ h1
          rw [z] at q; cases q
      · rw [Heap.size_push] at h2
        exact Nat.le_of_succ_le h2
    · show b ≠ cenv.locals
      rw [hL]; exact Nat.ne_of_lt (hfp b hb).2
    · have e : cenv.cells.lookup y = some c := e
      rcases mem e with ⟨h1, _⟩ | ⟨h1, _⟩
      · exact (hfp b hb).1.2.2.2.2.1 y c h1 z
      · have h2 : s.heap.objs.size + 1 ≤ b := by rw [← z]; exact h1
        exact absurd (Nat.lt_of_lt_of_le (hfp b hb).2 (Nat.le_of_succ_le h2)) (Nat.lt_irrefl _)
    · rcases (hfp b hb).1.2.2.2.1 with z | z
      · exact I.ok.noex b o e z
      · exact absurd (Nat.lt_of_lt_of_le (Heap.lt_size e) (Nat.le_trans I.ok.bsz z)) (Nat.lt_irrefl _)
    · rcases List.mem_cons.mp (I.stkSub b z) with z | z
      · exact (hfp b hb).1.2.1 z
      · exact (hfp b hb).1.2.2.1 z
  refine ⟨okB, rfl, I.bare, Un.kept kp, ⟨fun _ => none, ?_, fun i y av e1 e2 e3 => ?_⟩, fun y c e => ?_, ?_, fun y c e => ?_, fun p hp => ?_, I.hok.kept kp, by rw [wipe_length]; exact I.len⟩
  · show Heap.Ns _ cenv.locals _
    rw [hL]
    exact Heap.Ns.keeps (Heap.Ns.new ..) fun b o e => pushCells_keeps _ _ _ _ e
  · obtain ⟨e2, hne⟩ := wipe_some e2
    have hfr : scope.names.lookup y = some .free ∧ (cenv.kindOf y = some .cell ∨ cenv.kindOf y = some .free) := by
      have key : ∀ k, cenv.scope.names.lookup y = some k → k = .local ∨ k = .cell ∨ k = .free → scope.names.lookup y = some .free ∧ (cenv.kindOf y = some .cell ∨ cenv.kindOf y = some .free) := fun k hk hk' => by
        have hk0 := hk
        rw [hsc] at hk
        obtain ⟨k', e, r⟩ := lookup_relS hk
        have no : ¬ (k' = .local ∨ k' = .cell) := fun hh => by
          rcases ok.own _ (PySem.mem_of_lookup e) hh with e' | e'
          · obtain ⟨p, hp, hpy⟩ := List.mem_map.mp e'
            have e3 := ok.ix p hp
            have : p.1 = y := hpy
            rw [this] at e3
            exact hne (List.mem_map.mpr ⟨p, hp, nodup_ix hN e3 e1⟩)
          · exact e' (List.mem_of_getElem? e1)
        rcases r with rfl | ⟨rfl, rfl⟩
        · rcases hk' with rfl | rfl | rfl
          · exact absurd (.inl rfl) no
          · exact absurd (.inr rfl) no
          · exact ⟨e, .inr hk0⟩
        · exact ⟨e, .inl hk0⟩
      have e3 : Vis cenv.scope y := e3
      rcases e3 with e3 | e3 | e3
      · exact key _ e3 (.inl rfl)
      · exact key _ e3 (.inr (.inl rfl))
      · exact key _ e3 (.inr (.inr rfl))
    obtain ⟨m, hn, hl⟩ := I.loc
    have hvis : Vis X.env.scope y := (ok.free _ (PySem.mem_of_lookup hfr.1) rfl).elim (fun k => .inr (.inl k)) (fun k => .inr (.inr k))
    obtain ⟨w, r, q⟩ := hl i y av e1 e2 hvis
    refine ⟨w, r, .inr ⟨hfr.2, ?_⟩⟩
    obtain ⟨c, h1, h2⟩ := look hfr.1
    rcases q with ⟨k, _⟩ | ⟨_, c', e', z⟩
    · have k : X.env.scope.names.lookup y = some .local := k
      rcases ok.free _ (PySem.mem_of_lookup hfr.1) rfl with k' | k' <;> rw [show X.env.scope.names.lookup y = _ from k'] at k <;> cases k
    · rw [h2] at e'; cases e'
      exact ⟨c, h1, z.keeps kp⟩
  · have e : cenv.cells.lookup y = some c := e
    rcases mem e with ⟨h1, _⟩ | ⟨_, z⟩
    · obtain ⟨w, z⟩ := I.cell y c h1
      exact ⟨w, z.keeps kp⟩
    · exact ⟨_, z⟩
  · show H cenv.locals = none
    rw [hL]; exact I.hok.fresh (Nat.le_refl _)
  · have e : cenv.cells.lookup y = some c := e
    rcases mem e with ⟨h1, _⟩ | ⟨h1, _⟩
    · exact I.freeC y c h1
    · exact I.hok.fresh (Nat.le_of_succ_le h1)
  · exact absurd (show p ∈ ([] : List (Addr × Obj)) ++ [] from hp) (by simp)
theorem app_ok {E : Value → Shared → Prop} {D : Addr} {xs : List V} {y : V} {v : Value} {Q : Value → Shared → Prop} (I : Inv X pins σ H s) (hD : H D = some (.lst xs)) (hz : xs.length < sizeLine) (r : RelV y v)
    (h : ∀ s', Inv X pins σ (upd H D (.lst (xs ++ [y]))) s' → Q .none s') : wpAny (model X.prog X.w) X.A (call (.builtin "list.append") [.ref D, v]) Q E s := by
  obtain ⟨hz', its, n, ri, e⟩ := I.hok D _ hD
  have hl := ri.length
  refine append_at (hsz := by rw [List.size_toArray]; omega) e fun h' sb ho' => ?_
  refine h { s with heap := h' } (I.write (t' := s.toks) (by rw [hD]; trivial) (.inl rfl) (fun b u hb q => (sb.2 b hb).trans q) ⟨_, ho'⟩ ⟨by rw [List.length_append]; exact hz, its ++ [v], n + 1, ri.append (.cons r .nil), ?_⟩)
  rw [ho']
  simp
def PTs (X : Cx) (ifs : List Expr) (t : TT) : Prop :=
  ∀ (pins : List (Addr × Obj)) (s : Shared) (σ : St) (H : Hp) (Q : Bool → Hp → Prop), Inv X pins σ H s → t σ H Q →
    wpAny (model X.prog X.w) X.A (forIn ifs true fun c r => if r = true then do let ok ← isTrue c X.env (eval c X.env); pure (ForInStep.yield ok) else pure (ForInStep.yield r)) (TP X pins σ Q) X.xe s
def tYes : TT := fun _ H Q => Q true H
theorem pts_nil : PTs X [] tYes := fun _ _ _ H _ I h => wpAny_tests_nil ⟨H, I, h⟩
theorem pts_one {c : Expr} {t : TT} (h : PT X c t) : PTs X [c] t := fun pins s σ H Q I hw => wpAny_tests_one (h pins s σ H Q I hw)
end
theorem thnF {α : Type} {t : Sem α} {Q Q' : α → Shared → Prop} {M : Model} {A : Around} {E : Value → Shared → Prop} {s : Shared} (h : wpAny M A t Q (fun _ _ => False) s) (hQ : ∀ a s, Q a s → Q' a s) : wpAny M A t Q' E s := wpAny_mono h hQ fun _ _ z => False.elim z
theorem compLoop_any {prog : Program} {w : World} {A : Around} {R : Result → Shared → Prop} {s : Shared} {elt target iter : Expr} {ifs : List Expr} {scope : Scope} {pos : Pos} {it acc : Value} {env : Env} (I : Nat → Shared → Prop)
    (turn : ∀ n s, I n s → wpAny (model prog w) A (pyNext it) (fun r s₁ => match r with
      | none => R (.ok .next) s₁
      | some v => wpAny (model prog w) A (letOwnedTupleGo target it v) (fun _ s₁' => wpAny (model prog w) A (assign target env v) (fun _ s₂ =>
          wpAny (model prog w) A (forIn ifs true fun c r => if r = true then do let ok ← isTrue c env (eval c env); pure (ForInStep.yield ok) else pure (ForInStep.yield r)) (fun ok s₃ =>
            if ok = true then wpAny (model prog w) A (eval elt env) (fun x s₄ =>
              wpAny (model prog w) A (call (.builtin "list.append") [acc, x]) (fun _ s₅ => ∃ m, m < n ∧ I m s₅) (notedBy (model prog w) A env fun e s' => R (.error e) s') s₄) (notedBy (model prog w) A env fun e s' => R (.error e) s') s₃
            else ∃ m, m < n ∧ I m s₃) (notedBy (model prog w) A env fun e s' => R (.error e) s') s₂) (notedBy (model prog w) A env fun e s' => R (.error e) s') s₁') (notedBy (model prog w) A env fun e s' => R (.error e) s') s₁) (notedBy (model prog w) A env fun e s' => R (.error e) s') s)
    (n : Nat) (h : I n s) :
    codeAny (model prog w) A (.compLoop (.ListComp elt [⟨target, iter, ifs, 0⟩] scope pos) 0 it acc env) R s := by
  refine codeAny_loop rfl I (fun n s hI => ?_) n h
  show wpAny _ A ((compTurn (.ListComp elt [⟨target, iter, ifs, 0⟩] scope pos) 0 it acc env).onRaise (fun x => do noteFrame x env; theTreesLotGoes x)) _ _ s
  refine wpAny_noted ?_
  rw [compTurn_list]
  refine wpAny_bind (wpAny_standAt (wpAny_bind (wpAny_mono (turn n s hI) (fun r s₁ h₁ => ?_) fun _ _ h' => h')))
  cases r with
  | none => exact wpAny_pure h₁
  | some v =>
    refine wpAny_bind (wpAny_mono h₁ (fun _ s₁' h₁' => ?_) fun _ _ h' => h')
    refine wpAny_bind (wpAny_mono h₁' (fun _ s₂ h₂ => wpAny_bind (wpAny_mono h₂ (fun ok s₃ h₃ => ?_) fun _ _ h' => h')) fun _ _ h' => h')
    cases ok with
    | false => exact wpAny_pure ⟨rfl, h₃⟩
    | true =>
      exact wpAny_bind (wpAny_bind (wpAny_mono h₃ (fun x s₄ h₄ => wpAny_bind (wpAny_mono h₄ (fun _ s₅ h₅ => wpAny_pure (wpAny_pure ⟨rfl, h₅⟩)) fun _ _ h' => h')) fun _ _ h' => h'))
section
variable {X : Cx}
def tLc (wi : TI) (g : TG) (tt : TT) (te : TE) (vs : List Nat) : TE := fun σ H Q => wi σ H fun J H1 => ∀ D, H1 D = none → ∃ W : Nat → Nat → Hp → Prop, (∃ m, W 0 m (upd H1 D (.lst []))) ∧ ∀ i m H, W i m H →
  (J.stop i H ∧ Q (.ref D) H) ∨ (J.go i H ∧ ∃ Nx : Hp → Prop, (∀ H', Nx H' → ∃ m', m' < m ∧ W (i + 1) m' H') ∧ ∀ x H', J.yld i H x H' → g x (wipe σ vs) H' fun σ2 H2 => wipe σ2 vs = wipe σ vs ∧ tt σ2 H2 fun b H3 =>
    if b = true then te σ2 H3 fun y H4 => ∃ acc, H4 D = some (.lst acc) ∧ acc.length < sizeLine ∧ Nx (upd H4 D (.lst (acc ++ [y]))) else Nx H3)
theorem lc_core {pins : List (Addr × Obj)} {s : Shared} {σ : St} {H : Hp} {Q : VK} {elt tg iter : Expr} {ifs : List Expr} {scope : Scope} {own : List (Str × Nat)} {pos pos' : Pos} {wi : TI} {g : TG} {tt : TT} {te : TE} {use : Option (Value → Sem Unit)} {Qf : Value → Shared → Prop}
    (hc : X.calm = true) (hN : X.N.Nodup) (I : Inv X pins σ H s) (hi : PI X tg iter wi) (ok : BlkOk X.N X.env.scope scope own)
    (hg : ∀ (s : Shared) (H : Hp) (C : Addr) (cl : List (Str × Addr)) (fp : List Addr), PG (X.blk s H scope (compEnvC scope cl C X.env) fp) tg g) (ht : ∀ (s : Shared) (H : Hp) (C : Addr) (cl : List (Str × Addr)) (fp : List Addr), PTs (X.blk s H scope (compEnvC scope cl C X.env) fp) ifs tt)
    (he : ∀ (s : Shared) (H : Hp) (C : Addr) (cl : List (Str × Addr)) (fp : List Addr), PE (X.blk s H scope (compEnvC scope cl C X.env) fp) elt te) (hs : ∀ x, foldedSetIterable iter X.env x = pure x)
    (h : tLc wi g tt te (own.map (·.2)) σ H Q)
    (hRR : ∀ D C s' m H', Inv X pins σ H' s' → Q (.ref D) H' → s'.heap.Ns C m → FpOk X pins H' C → compPost (model X.prog X.w) X.A X.xe use Qf (.ref D) C (.ok .next) s') :
    wpAny (model X.prog X.w) X.A (comprehension (.ListComp elt [⟨tg, iter, ifs, 0⟩] scope pos) scope X.env pos' (newList []) false (eval iter X.env) use) Qf X.xe s := by
  have hfree : ∀ y ∈ scope.names, y.2 = .free → ∃ c, X.env.cells.lookup y.1 = some c := fun y hy e => by
    rcases ok.free y hy e with k | k
    · exact I.ok.has _ (.inl k)
    · exact I.ok.has _ (.inr k)
  refine wpAny_comprehension_free (use := use) rfl hs (closure_ok hfree) ok.kind (fun y hy e => by rw [ok.uniq y hy, e])
    (thn (hi pins s σ H _ I h) fun xv s1 hx => thn hx fun itv s2 h2 => ?_)
  obtain ⟨it, fp, tn, J, H2, e, I2, T, st2, f2, q⟩ := h2
  subst e
  refine wpAny_newObj_type (newEnv_comp ?_) (by show 0 ≤ sizeLine; decide)
  generalize hD : s2.heap.objs.size = D
  have hDn : H2 D = none := I2.hok.fresh (Nat.le_of_eq hD)
  obtain ⟨W, ⟨m0, w0⟩, turn⟩ := q D hDn
  -- the new list
  generalize hs3 : ({ s2 with heap := s2.heap.push { cls := .type "list", data := .seq ([] : List Value).toArray } } : Shared) = s3
  have I3 : Inv X pins σ (upd H2 D (.lst [])) s3 := by
    rw [← hs3]
    refine I2.laid (t' := s2.toks) (fun b o e => Heap.get?_push_of_some _ e) (Nat.le_of_eq hD) ⟨Nat.zero_le _, [], 0, .nil, ?_⟩
    rw [← hD]
    exact Heap.get?_push_size _ rfl
  have h3 : s3.heap = s2.heap.push { cls := .type "list", data := .seq ([] : List Value).toArray } := by rw [← hs3]
  have sz : ∀ b ∈ fp, b < s2.heap.objs.size := fun b hb => by
    obtain ⟨o, e, _⟩ := T.obj _ _ st2 b hb
    exact Heap.lt_size e
  have f3 : ∀ b ∈ fp, FpOk X pins (upd H2 D (.lst [])) b ∧ b < s3.heap.objs.size := fun b hb => by
    have hlt := sz b hb
    refine ⟨⟨?_, (f2 b hb).2⟩, by rw [h3, Heap.size_push]; exact Nat.lt_succ_of_lt hlt⟩
    rw [upd_ne (by rw [← hD]; exact Nat.ne_of_lt hlt)]
    exact (f2 b hb).1
  have st3 : tn 0 s3.heap := T.keep _ _ _ st2 fun b _ o e => by rw [h3]; exact Heap.get?_push_of_some _ e
  have I4 := block_start I3 ok hN f3
  have pg := hg s3 (upd H2 D (.lst [])) s3.heap.objs.size (cellsFrom (s3.heap.objs.size + 1) scope.names (cloFrom X.env.cells scope.names [])) fp
  have pt := ht s3 (upd H2 D (.lst [])) s3.heap.objs.size (cellsFrom (s3.heap.objs.size + 1) scope.names (cloFrom X.env.cells scope.names [])) fp
  have pe := he s3 (upd H2 D (.lst [])) s3.heap.objs.size (cellsFrom (s3.heap.objs.size + 1) scope.names (cloFrom X.env.cells scope.names [])) fp
  show codeAny _ _ (.compStart (.ListComp elt [⟨tg, iter, ifs, 0⟩] scope pos) 0 (.ref it) (.ref D) (compEnvC scope (cellsFrom (s3.heap.objs.size + 1) scope.names (cloFrom X.env.cells scope.names [])) s3.heap.objs.size X.env)) (compPost (model X.prog X.w) X.A X.xe use Qf (.ref D) s3.heap.objs.size) { s3 with heap := pushCells (s3.heap.push { cls := .type "dict", data := .dict #[] }) scope.names }
  have nfp : ∀ b ∈ fp, (upd H2 D (.lst [])) b = none := fun b hb => (f3 b hb).1.1
  generalize hce : compEnvC scope (cellsFrom (s3.heap.objs.size + 1) scope.names (cloFrom X.env.cells scope.names [])) s3.heap.objs.size X.env = ce at I4 pg pt pe ⊢
  have cL : ce.locals = s3.heap.objs.size := by subst hce; rfl
  generalize hH3 : upd H2 D (.lst []) = H3 at I3 I4 pg pt pe w0 nfp f3
  generalize hs4 : ({ s3 with heap := pushCells (s3.heap.push { cls := .type "dict", data := .dict #[] }) scope.names } : Shared) = s4 at I4 ⊢
  have st4 : tn 0 s4.heap := T.keep _ _ _ st3 fun b _ o e => by rw [← hs4]; exact pushCells_keeps _ _ _ _ (Heap.get?_push_of_some _ e)
  have stat : ∀ {σ' : St} {H' : Hp} {s' : Shared}, Inv (X.blk s3 H3 scope ce fp) [] σ' H' s' → (∀ b ∈ fp, H' b = none) → ∀ b ∈ fp, FpOk (X.blk s3 H3 scope ce fp) [] H' b := fun {σ' H' s'} I' hn b hb =>
    ⟨hn b hb, (I'.ok.exf b hb).1, I'.ok.exfs b hb, .inl hb, fun x c e => (I'.ok.exf b hb).2 x c e, fun p hp => absurd (show p ∈ ([] : List (Addr × Obj)) ++ [] from hp) (by simp)⟩
  have loop : codeAny (model X.prog X.w) X.A (.compLoop (.ListComp elt [⟨tg, iter, ifs, 0⟩] scope pos) 0 (.ref it) (.ref D) ce) (compPost (model X.prog X.w) X.A X.xe use Qf (.ref D) s3.heap.objs.size) s4 := by
    refine compLoop_any (fun n s' => ∃ i H', Inv (X.blk s3 H3 scope ce fp) [] (wipe σ (own.map (·.2))) H' s' ∧ tn i s'.heap ∧ (∀ b ∈ fp, H' b = none) ∧ W i n H') ?_ m0 ⟨0, H3, I4, st4, nfp, w0⟩
    rintro n s5 ⟨i, H5, I5, st5, n5, w5⟩
    rcases turn i n H5 w5 with ⟨stop, qq⟩ | ⟨go, Nx, hNx, step⟩
    · have td := T.done (X.blk s3 H3 scope ce fp) rfl rfl rfl hc i [] s5 _ H5 (fun _ _ => False) I5 (stat I5 n5) st5 stop
      refine thnF td fun r s6 ⟨hr, I6⟩ => ?_
      subst hr
      -- back in the def's context
      have I7 : Inv X pins σ H5 s6 := I3.call' (ch := fp) I6.os I6.base I6.hok I6.bare fun b hb => ⟨(f3 b hb).1.2.2.2.1, (f3 b hb).1.2.1, (f3 b hb).1.2.2.2.2.1, (f3 b hb).1.2.2.2.2.2⟩
      have nC : H5 s3.heap.objs.size = none := by
        have z : H5 ce.locals = none := I6.free
        rw [cL] at z
        exact z
      obtain ⟨m, hn, _⟩ := I6.loc
      have hn : s6.heap.Ns ce.locals m := hn
      rw [cL] at hn
      exact hRR D s3.heap.objs.size s6 m H5 I7 qq hn (I3.fpOk (Nat.le_refl _) nC)
    · have ti := T.item (X.blk s3 H3 scope ce fp) rfl rfl rfl hc i [] s5 _ H5 (fun _ _ => False) I5 (stat I5 n5) st5 go
      refine thnF ti fun r s6 ⟨u, hr, h6⟩ => ?_
      subst hr
      refine thnF h6 fun _ s7 ⟨x, H7, I7, r7, y7, st7, n7⟩ => ?_
      have I7' := I7.pinned (stat I7 n7) (T.obj _ _ st7)
      refine thnF (pg _ s7 _ H7 x u _ I7' r7 (step x H7 y7)) fun _ s8 ⟨σ8, H8, I8, hw8, q8⟩ => ?_
      refine thnF (pt _ s8 σ8 H8 _ I8 q8) fun b s9 ⟨H9, I9, q9⟩ => ?_
      -- the turn's end
      have fin : ∀ {s' : Shared} {H' : Hp}, Inv (X.blk s3 H3 scope ce fp) ([] ++ pinsAt fp s7.heap) σ8 H' s' → Nx H' → ∃ m, m < n ∧ ∃ i H', Inv (X.blk s3 H3 scope ce fp) [] (wipe σ (own.map (·.2))) H' s' ∧ tn i s'.heap ∧ (∀ b ∈ fp, H' b = none) ∧ W i m H' := fun {s' H'} I' nx => by
        obtain ⟨m', hm, w'⟩ := hNx H' nx
        have pin' : ∀ b ∈ fp, ∀ o, s7.heap.get? b = some o → s'.heap.get? b = some o ∧ H' b = none := fun b hb o e =>
          let z := I'.pin (b, o) (List.mem_append_right _ (List.mem_append_right _ (mem_pinsAt hb e)))
          ⟨z.1, z.2.1⟩
        have hl : (wipe σ (own.map (·.2))).length = σ8.length := by rw [← hw8, wipe_length]
        refine ⟨m', hm, i + 1, H', (I'.unpinned (pins := [])).weak hl (fun j v e => ?_), T.keep _ _ _ st7 fun b hb o e => (pin' b hb o e).1, fun b hb => ?_, w'⟩
        · rw [← hw8] at e
          exact (wipe_some e).1
        · obtain ⟨o, e, _⟩ := T.obj _ _ st7 b hb
          exact (pin' b hb o e).2
      cases b with
      | false =>
        simp only [Bool.false_eq_true, if_false] at q9 ⊢
        exact fin I9 q9
      | true =>
        simp only [if_true] at q9 ⊢
        refine thnF (pe _ s9 σ8 H9 _ I9 q9) fun z s10 ⟨yv, H10, I10, r10, acc, hD10, hz10, nx⟩ => ?_
        exact app_ok (X := X.blk s3 H3 scope ce fp) I10 hD10 hz10 r10 fun s11 I11 => fin I11 nx
  exact codeAny_compStart_list loop (T.self X.A 0 _ _ _ st4 loop)
theorem pe_lc {elt tg iter : Expr} {ifs : List Expr} {scope : Scope} {own : List (Str × Nat)} {pos : Pos} {wi : TI} {g : TG} {tt : TT} {te : TE} (hc : X.calm = true) (hN : X.N.Nodup) (hi : PI X tg iter wi) (ok : BlkOk X.N X.env.scope scope own)
    (hg : ∀ (s : Shared) (H : Hp) (C : Addr) (cl : List (Str × Addr)) (fp : List Addr), PG (X.blk s H scope (compEnvC scope cl C X.env) fp) tg g) (ht : ∀ (s : Shared) (H : Hp) (C : Addr) (cl : List (Str × Addr)) (fp : List Addr), PTs (X.blk s H scope (compEnvC scope cl C X.env) fp) ifs tt)
    (he : ∀ (s : Shared) (H : Hp) (C : Addr) (cl : List (Str × Addr)) (fp : List Addr), PE (X.blk s H scope (compEnvC scope cl C X.env) fp) elt te) (hs : ∀ x, foldedSetIterable iter X.env x = pure x := by intro _; rfl) :
    PE X (.ListComp elt [⟨tg, iter, ifs, 0⟩] scope pos) (tLc wi g tt te (own.map (·.2))) := by
  intro pins s σ H Q I h
  rw [eval_ListComp]
  refine lc_core hc hN I hi ok hg ht he hs h fun D C s' m H' I' q hn f => ⟨m, hn, fun h'' sb => ?_⟩
  obtain ⟨f0, f1, f2, f3, f4, f5⟩ := f
  exact ⟨.ref D, H', I'.turned (t' := s'.toks) (fun b o hb e => (sb.2 b hb).trans e) f0 f1 f3 f4 f5, rfl, q⟩
theorem ps_setLc {i : Nat} {y : Str} {py : Pos} {elt tg iter : Expr} {ifs : List Expr} {scope : Scope} {own : List (Str × Nat)} {pos spos : Pos} {wi : TI} {g : TG} {tt : TT} {te : TE} (hc : X.calm = true) (hN : X.N.Nodup) (hy : X.N[i]? = some y) (hyl : X.env.scope.names.lookup y = some .local)
    (hsw : swapsWith (.ListComp elt [⟨tg, iter, ifs, 0⟩] scope pos) (some (.Name y py)) spos.line X.env = pure true) (hi : PI X tg iter wi) (ok : BlkOk X.N X.env.scope scope own)
    (hg : ∀ (s : Shared) (H : Hp) (C : Addr) (cl : List (Str × Addr)) (fp : List Addr), PG (X.blk s H scope (compEnvC scope cl C X.env) fp) tg g) (ht : ∀ (s : Shared) (H : Hp) (C : Addr) (cl : List (Str × Addr)) (fp : List Addr), PTs (X.blk s H scope (compEnvC scope cl C X.env) fp) ifs tt)
    (he : ∀ (s : Shared) (H : Hp) (C : Addr) (cl : List (Str × Addr)) (fp : List Addr), PE (X.blk s H scope (compEnvC scope cl C X.env) fp) elt te) (hs : ∀ x, foldedSetIterable iter X.env x = pure x := by intro _; rfl) :
    PS X (.Assign [.Name y py] (.ListComp elt [⟨tg, iter, ifs, 0⟩] scope pos) spos) (tAsg (tLc wi g tt te (own.map (·.2))) (gName i)) := by
  intro pins s σ H D I h
  rw [exec_Assign_Name_used _ _ _ _ hsw]
  refine wpAny_bind (wpAny_standAt (wpAny_bind ?_))
  show wpAny _ X.A (do let _ ← comprehension (.ListComp elt [⟨tg, iter, ifs, 0⟩] scope pos) scope X.env (firstIterPos [⟨tg, iter, ifs, 0⟩] pos) (newList []) false (eval iter X.env) (some (assign (.Name y py) X.env))) _ _ s
  have h : tLc wi g tt te (own.map (·.2)) σ H (fun x H1 => gName i x σ H1 D.nx) := h
  refine wpAny_bind (thn (lc_core (Qf := fun _ s' => SP X pins D .next s') hc hN I hi ok hg ht he hs h fun L C s' m H' I' q hn f => ?_) fun _ s' hq => wpAny_pure (wpAny_pure hq))
  show wpAny _ _ (assign (.Name y py) X.env (.ref L)) _ _ _
  refine wpAny_assign_Name (store_ok2 (v := V.ref L) I' hN hy (.inl hyl) rfl (fun s2 I2 ⟨a, sb, ha⟩ => ?_) (.inr hyl))
  obtain ⟨f0, f1, f2, f3, f4, f5⟩ := f
  have haC : C ≠ a := by
    rcases ha with z | z
    · rw [z]; exact f1
    · exact fun e => f4 y a z e.symm
  refine ⟨m, hn.sameBut sb haC, fun h3 sb3 => ?_⟩
  exact ⟨_, H', I2.turned (t' := s2.toks) (fun b o hb e => (sb3.2 b hb).trans e) f0 f1 f3 f4 f5, q⟩
theorem sw_true {elt : Expr} {gs : List Comprehension} {scope : Scope} {pos py : Pos} {y : Str} {l : Nat} {env : Env} (hk : env.scope.kind = .function) (hy : env.scope.names.lookup y = some .local) (hl : (py.line == pos.line) = true)
    (ha : (scope.names.any fun (n, k) => n == y && (k == .local || k == .cell)) = false) : swapsWith (.ListComp elt gs scope pos) (some (.Name y py)) l env = pure true := by
  have ky : env.kindOf y = some .local := hy
  have hb : env.blockKind = .function := by unfold Env.blockKind; rw [hk]; rfl
  unfold swapsWith
  simp only [hb, ky, ha, Expr.pos, hl]
  rfl
end
theorem lc_list {K : PySem.W.Frag} {a : Addr} {xs : List V} {g : TG} {tt : TT} {te : TE} {vs : List Nat} {σ : St} {H1 : Hp} {D : Addr} {Qd : Hp → Prop} (Pv : Nat → Hp → Prop) (h0 : Pv 0 (upd H1 D (.lst []))) (hl : ∀ i H, i ≤ xs.length → Pv i H → SqL K H a xs)
    (hs : ∀ i x H, xs[i]? = some x → Pv i H → g x (wipe σ vs) H fun σ2 H2 => wipe σ2 vs = wipe σ vs ∧ tt σ2 H2 fun b H3 =>
      if b = true then te σ2 H3 fun y H4 => ∃ acc, H4 D = some (.lst acc) ∧ acc.length < sizeLine ∧ Pv (i + 1) (upd H4 D (.lst (acc ++ [y]))) else Pv (i + 1) H3) (hd : ∀ H, Pv xs.length H → Qd H) :
    ∃ W : Nat → Nat → Hp → Prop, (∃ m, W 0 m (upd H1 D (.lst []))) ∧ ∀ i m H, W i m H →
      ((Itl K a).stop i H ∧ Qd H) ∨ ((Itl K a).go i H ∧ ∃ Nx : Hp → Prop, (∀ H', Nx H' → ∃ m', m' < m ∧ W (i + 1) m' H') ∧ ∀ x H', (Itl K a).yld i H x H' → g x (wipe σ vs) H' fun σ2 H2 => wipe σ2 vs = wipe σ vs ∧ tt σ2 H2 fun b H3 =>
        if b = true then te σ2 H3 fun y H4 => ∃ acc, H4 D = some (.lst acc) ∧ acc.length < sizeLine ∧ Nx (upd H4 D (.lst (acc ++ [y]))) else Nx H3) := by
  refine ⟨fun i m H => m = xs.length - i ∧ i ≤ xs.length ∧ Pv i H, ⟨xs.length, by simp, Nat.zero_le _, h0⟩, ?_⟩
  rintro i m H ⟨rfl, hi, p⟩
  have q := hl i H hi p
  by_cases hlt : i < xs.length
  · refine .inr ⟨⟨xs, xs[i], q, by simp [hlt]⟩, Pv (i + 1), fun H' p' => ⟨xs.length - (i + 1), by omega, rfl, hlt, p'⟩, fun x H' y => ?_⟩
    obtain ⟨e, y⟩ := y
    subst e
    exact hs i x _ (y xs q) p
  · have e : i = xs.length := by omega
    subst e
    exact .inl ⟨⟨xs, q, Nat.le_refl _⟩, hd H p⟩
def blkC (N : List Str) (sc scope : Scope) (own : List (Str × Nat)) : Bool :=
  (match scope.kind with | .function => true | _ => false) && (scope.names.all fun y => decide (scope.names.lookup y.1 = some y.2)) && (own.all fun p => decide (N[p.2]? = some p.1)) &&
    (scope.names.all fun y => match y.2 with
      | .free => (match sc.names.lookup y.1 with | some .cell => true | some .free => true | _ => false)
      | .local => decide (y.1 ∈ own.map (·.1)) || decide (y.1 ∉ N)
      | .cell => decide (y.1 ∈ own.map (·.1)) || decide (y.1 ∉ N)
      | _ => true)
theorem blkOk_by {N : List Str} {sc scope : Scope} {own : List (Str × Nat)} (h : blkC N sc scope own = true) : BlkOk N sc scope own := by
  unfold blkC at h
  simp only [Bool.and_eq_true, List.all_eq_true, decide_eq_true_eq] at h
  obtain ⟨⟨⟨h1, h2⟩, h3⟩, h4⟩ := h
  refine ⟨?_, h2, h3, fun y hy e => ?_, fun y hy e => ?_⟩
  · split at h1
    · assumption
    · cases h1
  · have q := h4 y hy
    simp only [e] at q
    split at q <;> first | exact .inl (by assumption) | exact .inr (by assumption) | cases q
  · have q := h4 y hy
    rcases e with e | e <;> (simp only [e, Bool.or_eq_true, decide_eq_true_eq] at q; exact q)
end L2
namespace L2
open PySem PySem.Spec PyProof.Rows
section
variable {prog : Program} {w : World} {A : Around} {R : Result → Shared → Prop} {s : Shared} {elt t0 i0 t1 i1 : Expr} {ifs0 ifs1 : List Expr} {scope : Scope} {pos : Pos} {it acc : Value} {env : Env}
end
section
variable {X : Cx}
end
end L2
namespace L2
open PySem PySem.Spec PyProof.Rows
section
variable {κ : Type} [DecidableEq κ]
def valV (kvs : List (κ × V)) (k : κ) : Option V := (kvs.find? fun kv => decide (kv.1 = k)).map (·.2)
def putK (kvs : List (κ × V)) (k : κ) (v : V) : List (κ × V) :=
  if (kvs.any fun kv => decide (kv.1 = k)) = true then kvs.map (fun kv => if kv.1 = k then (kv.1, v) else kv) else kvs ++ [(k, v)]
theorem valV_pos {p : κ × V} {r : List (κ × V)} {k : κ} (e : p.1 = k) : valV (p :: r) k = some p.2 := by simp [valV, List.find?_cons, e]
theorem valV_neg {p : κ × V} {r : List (κ × V)} {k : κ} (e : ¬ p.1 = k) : valV (p :: r) k = valV r k := by simp [valV, List.find?_cons, e]
theorem valV_any (k : κ) : ∀ kvs : List (κ × V), (kvs.any fun kv => decide (kv.1 = k)) = (valV kvs k).isSome
  | [] => rfl
  | p :: r => by
    rw [List.any_cons]
    by_cases e : p.1 = k
    · simp only [valV_pos e, decide_eq_true e, Bool.true_or, Option.isSome_some]
    · rw [valV_neg e, decide_eq_false e, Bool.false_or]; exact valV_any k r
theorem valV_map (k j : κ) (y : V) : ∀ kvs : List (κ × V), valV (kvs.map fun kv => if kv.1 = k then (kv.1, y) else kv) j = (valV kvs j).map fun x => if j = k then y else x
  | [] => rfl
  | p :: r => by
    have ih := valV_map k j y r
    rw [List.map_cons]
    by_cases h : p.1 = k
    · rw [if_pos h]
      by_cases e : p.1 = j
      · rw [valV_pos (p := (p.1, y)) e, valV_pos e, Option.map_some, if_pos (e.symm.trans h)]
      · rw [valV_neg (p := (p.1, y)) e, valV_neg e, ih]
    · rw [if_neg h]
      by_cases e : p.1 = j
      · rw [valV_pos (p := p) e, valV_pos e, Option.map_some, if_neg (fun z => h (e.trans z))]
      · rw [valV_neg (p := p) e, valV_neg e, ih]
theorem valV_snoc (k j : κ) (y : V) : ∀ kvs : List (κ × V), valV kvs k = none → valV (kvs ++ [(k, y)]) j = if j = k then some y else valV kvs j
  | [], _ => by
    by_cases e : k = j
    · rw [if_pos e.symm]; exact valV_pos (p := (k, y)) e
    · rw [if_neg (fun z => e z.symm)]; exact valV_neg (p := (k, y)) e
  | p :: r, hn => by
    rw [List.cons_append]
    have hk : ¬ p.1 = k := fun z => by rw [valV_pos z] at hn; cases hn
    rw [valV_neg hk] at hn
    have ih := valV_snoc k j y r hn
    by_cases e : p.1 = j
    · rw [valV_pos e, valV_pos e, if_neg (fun z => hk (e.trans z))]
    · rw [valV_neg e, valV_neg e, ih]
theorem valV_put (kvs : List (κ × V)) (k j : κ) (y : V) : valV (putK kvs k y) j = if j = k then some y else valV kvs j := by
  unfold putK
  by_cases a : (kvs.any fun kv => decide (kv.1 = k)) = true
  · rw [if_pos a, valV_map]
    rw [valV_any] at a
    by_cases e : j = k
    · obtain ⟨x, hx⟩ := Option.isSome_iff_exists.mp a
      rw [if_pos e, e, hx, Option.map_some, if_pos rfl]
    · rw [if_neg e]
      cases valV kvs j with
      | none => rfl
      | some x => rw [Option.map_some, if_neg e]
  · rw [if_neg a]
    refine valV_snoc k j y kvs ?_
    rw [valV_any] at a
    cases q : valV kvs k with
    | none => rfl
    | some x => rw [q] at a; exact (a rfl).elim
theorem length_putK (kvs : List (κ × V)) (k : κ) (v : V) : (putK kvs k v).length ≤ kvs.length + 1 := by
  unfold putK
  split
  · rw [List.length_map]; omega
  · rw [List.length_append, List.length_cons, List.length_nil]; omega
theorem putK_new {kvs : List (κ × V)} {k : κ} (v : V) (h : valV kvs k = none) : putK kvs k v = kvs ++ [(k, v)] := by
  unfold putK
  rw [valV_any, h]
  exact if_neg (by decide)
theorem RelO.isSome_eq {o : Option V} {u : Option Value} (r : RelO o u) : o.isSome = u.isSome := by
  cases o with
  | none => cases u with
    | none => rfl
    | some _ => exact (show False from r).elim
  | some _ => cases u with
    | none => exact (show False from r).elim
    | some _ => rfl
theorem RelO.getD {o : Option V} {u : Option Value} {d : V} {d' : Value} (r : RelO o u) (rd : RelV d d') : RelV (o.getD d) (u.getD d') := by
  cases o with
  | none => cases u with
    | none => exact rd
    | some _ => exact (show False from r).elim
  | some _ => cases u with
    | none => exact (show False from r).elim
    | some _ => exact r
theorem KV.val {kvs : List (κ × V)} {vs : List (κ × Value)} (r : KV kvs vs) (k : κ) : RelO (valV kvs k) (valueAt vs k) := by
  unfold KV at r
  induction r with
  | nil => exact True.intro
  | @cons p q ps qs h t ih =>
    obtain ⟨h1, h2⟩ := h
    by_cases e : p.1 = k
    · have e' : q.1 = k := h1.symm.trans e
      have b : valueAt (q :: qs) k = some q.2 := by simp [valueAt, List.find?_cons, e']
      rw [valV_pos e, b]; exact h2
    · have e' : ¬ q.1 = k := fun z => e (h1.trans z)
      have b : valueAt (q :: qs) k = valueAt qs k := by simp [valueAt, List.find?_cons, e']
      rw [valV_neg e, b]; exact ih
theorem KV.any {kvs : List (κ × V)} {vs : List (κ × Value)} (r : KV kvs vs) (k : κ) : (kvs.any fun kv => decide (kv.1 = k)) = vs.any fun kv => decide (kv.1 = k) := by
  unfold KV at r
  induction r with
  | nil => rfl
  | cons h t ih => rw [List.any_cons, List.any_cons, ih, h.1]
theorem KV.repl {kvs : List (κ × V)} {vs : List (κ × Value)} (r : KV kvs vs) (k : κ) {y : V} {u : Value} (ry : RelV y u) :
    KV (kvs.map fun kv => if kv.1 = k then (kv.1, y) else kv) (vs.map fun kv => if kv.1 = k then (kv.1, u) else kv) := by
  unfold KV at r ⊢
  induction r with
  | nil => exact .nil
  | @cons p q ps qs h t ih =>
    rw [List.map_cons, List.map_cons]
    refine .cons ?_ ih
    obtain ⟨h1, h2⟩ := h
    by_cases e : p.1 = k
    · rw [if_pos e, if_pos (h1.symm.trans e)]; exact ⟨h1, ry⟩
    · rw [if_neg e, if_neg (fun z => e (h1.trans z))]; exact ⟨h1, h2⟩
theorem KV.put {kvs : List (κ × V)} {vs : List (κ × Value)} (r : KV kvs vs) (k : κ) {y : V} {u : Value} (ry : RelV y u) : KV (putK kvs k y) (stored vs k u) := by
  unfold putK stored
  rw [r.any k]
  by_cases e : (vs.any fun kv => decide (kv.1 = k)) = true
  · rw [if_pos e, if_pos e]; exact r.repl k ry
  · rw [if_neg e, if_neg e]; exact Paired.snoc r ⟨rfl, ry⟩
theorem KV.length {kvs : List (κ × V)} {vs : List (κ × Value)} (r : KV kvs vs) : kvs.length = vs.length := Paired.length r
end
theorem kV_is {P : Program} {w : World} {k : Key} {u : Value} (r : RelV (kV k) u) : (mixKind P w).is k u = true := by
  cases k with
  | inl i => obtain ⟨t, e⟩ := (show ∃ t, u = Value.int i t from r); subst e; exact mixKind_int P w i t
  | inr x => obtain ⟨t, e⟩ := (show ∃ t, u = Value.str x t from r); subst e; exact mixKind_str P w x t
theorem items_are {P : Program} {w : World} : ∀ {ks : List Key} {us : List Value}, Vals (ks.map kV) us → ItemsAre (mixKind P w) ks us
  | [], _, r => by rw [List.map_nil] at r; cases r; exact .nil
  | k :: ks, _, r => by
    rw [List.map_cons] at r
    cases r with
    | cons h t => exact .cons (kV_is h) (items_are t)
abbrev KT (H : Hp) : List (List Key × V) → List (List Key × Addr × Value) → Prop := Paired fun p q => p.1 = q.1 ∧ H q.2.1 = some (.tup (p.1.map kV)) ∧ RelV p.2 q.2.2
theorem KT.val {H : Hp} {kvs : List (List Key × V)} {xs : List (List Key × Addr × Value)} (r : KT H kvs xs) (k : List Key) : RelO (valV kvs k) ((atKey xs k).map (·.2)) := by
  induction r with
  | nil => exact True.intro
  | @cons p q ps qs h t ih =>
    obtain ⟨h1, _, h2⟩ := h
    by_cases e : p.1 = k
    · have e' : q.1 = k := h1.symm.trans e
      have b : atKey (q :: qs) k = some q.2 := by simp [atKey, List.find?_cons, e']
      rw [valV_pos e, b]; exact h2
    · have e' : ¬ q.1 = k := fun z => e (h1.trans z)
      have b : atKey (q :: qs) k = atKey qs k := by simp [atKey, List.find?_cons, e']
      rw [valV_neg e, b]; exact ih
theorem KT.repl {H : Hp} {kvs : List (List Key × V)} {xs : List (List Key × Addr × Value)} (r : KT H kvs xs) (k : List Key) {y : V} {u : Value} (ry : RelV y u) :
    KT H (kvs.map fun kv => if kv.1 = k then (kv.1, y) else kv) (xs.map (putAt k u)) := by
  induction r with
  | nil => exact .nil
  | @cons p q ps qs h t ih =>
    rw [List.map_cons, List.map_cons]
    refine .cons ?_ ih
    obtain ⟨h1, h2, h3⟩ := h
    unfold putAt
    by_cases e : p.1 = k
    · rw [if_pos e, if_pos (h1.symm.trans e)]; exact ⟨h1, h2, ry⟩
    · rw [if_neg e, if_neg (fun z => e (h1.trans z))]; exact ⟨h1, h2, h3⟩
theorem KT.put {H : Hp} {kvs : List (List Key × V)} {xs : List (List Key × Addr × Value)} (r : KT H kvs xs) (k : List Key) {b : Addr} {y : V} {u : Value} (hb : H b = some (.tup (k.map kV))) (ry : RelV y u) :
    KT H (putK kvs k y) (storedH xs k b u) := by
  have e : (kvs.any fun kv => decide (kv.1 = k)) = (atKey xs k).isSome := by
    rw [valV_any, (r.val k).isSome_eq, Option.isSome_map]
  unfold putK storedH
  rw [e]
  by_cases q : (atKey xs k).isSome = true
  · rw [if_pos q, if_pos q]; exact r.repl k ry
  · rw [if_neg q, if_neg q]; exact Paired.snoc r ⟨rfl, hb, ry⟩
theorem KT.keeps {H H' : Hp} {kvs : List (List Key × V)} {xs : List (List Key × Addr × Value)} (r : KT H kvs xs) (ht : ∀ b ys, H b = some (.tup ys) → H' b = some (.tup ys)) : KT H' kvs xs :=
  Paired.mapP r fun _ _ z => ⟨z.1, ht _ _ z.2.1, z.2.2⟩
section
variable {P : Program} {w : World} {H : Hp} {h : Heap} {a : Addr}
theorem rd_of {u : HO} (ok : HOk P w H h) (e : Rd H a u) : ObjOk P w H h a u := e.ok ok
theorem dk_rd {kvs : List (Key × V)} (ok : HOk P w H h) (e : Rd H a (.dK kvs)) : kvs.length ≤ sizeLine ∧ (a == sysModules) = false ∧ ∃ vs, KV kvs vs ∧ h.DictOf (mixKind P w) a vs :=
  show ObjOk P w H h a (.dK kvs) from rd_of ok e
theorem dk_of {kvs : List (Key × V)} (ok : HOk P w H h) (e : H a = some (.dK kvs)) : kvs.length ≤ sizeLine ∧ (a == sysModules) = false ∧ ∃ vs, KV kvs vs ∧ h.DictOf (mixKind P w) a vs := dk_rd ok (.inl e)
theorem key_of {ks : List Key} (ok : HOk P w H h) (e : H a = some (.tup (ks.map kV))) : (tupleKind (mixKind P w)).is h ks a := by
  obtain ⟨_, its, r, o, h1, h2, n, h3⟩ := (show ObjOk P w H h a (.tup (ks.map kV)) from ok a _ e)
  exact ⟨o, its.toArray, n, h1, h2, h3, by simpa using items_are r⟩
theorem dt_rd {kvs : List (List Key × V)} (ok : HOk P w H h) (e : Rd H a (.dT kvs)) : kvs.length ≤ sizeLine ∧ (a == sysModules) = false ∧
    ∃ xs, KT H kvs xs ∧ h.DictOfH (tupleKind (mixKind P w)) a xs := by
  obtain ⟨z, y, xs, r, o, es, ep, h1, h2, h3, h4, h5⟩ := (show ObjOk P w H h a (.dT kvs) from rd_of ok e)
  refine ⟨z, y, xs, r, o, es, ep, h1, h2, h3, h4, fun x hx => ?_, h5⟩
  have all : ∀ {l : List (List Key × V)} {m : List (List Key × Addr × Value)}, KT H l m → ∀ x ∈ m, (tupleKind (mixKind P w)).is h x.1 x.2.1 := by
    intro l m q
    induction q with
    | nil => intro x hx; exact nomatch hx
    | @cons p q ps qs hq t ih =>
      intro x hx
      rcases List.mem_cons.mp hx with e | hx
      · subst e
        exact key_of ok (by rw [← hq.1]; exact hq.2.1)
      · exact ih x hx
  exact all r x hx
theorem dt_of {kvs : List (List Key × V)} (ok : HOk P w H h) (e : H a = some (.dT kvs)) : kvs.length ≤ sizeLine ∧ (a == sysModules) = false ∧
    ∃ xs, KT H kvs xs ∧ h.DictOfH (tupleKind (mixKind P w)) a xs := dt_rd ok (.inl e)
end
def DGet (H : Hp) (a : Addr) (y : V) (r : Option V) : Prop :=
  (∃ kvs k, Rd H a (.dK kvs) ∧ y = kV k ∧ r = valV kvs k) ∨ ∃ kvs k b, Rd H a (.dT kvs) ∧ y = .ref b ∧ H b = some (.tup (k.map kV)) ∧ r = valV kvs k
def DPut (H : Hp) (a : Addr) (y v : V) (H' : Hp) : Prop :=
  (∃ kvs k, H a = some (.dK kvs) ∧ y = kV k ∧ kvs.length < sizeLine ∧ H' = upd H a (.dK (putK kvs k v))) ∨
  ∃ kvs k b, H a = some (.dT kvs) ∧ y = .ref b ∧ H b = some (.tup (k.map kV)) ∧ kvs.length < sizeLine ∧ H' = upd H a (.dT (putK kvs k v))
theorem DGet.t {H : Hp} {a b : Addr} {kvs : List (List Key × V)} {k : List Key} (e : H a = some (.dT kvs)) (eb : H b = some (.tup (k.map kV))) : DGet H a (.ref b) (valV kvs k) := .inr ⟨kvs, k, b, .inl e, rfl, eb, rfl⟩
theorem DPut.t {H : Hp} {a b : Addr} {kvs : List (List Key × V)} {k : List Key} {v : V} (e : H a = some (.dT kvs)) (eb : H b = some (.tup (k.map kV))) (hl : kvs.length < sizeLine) :
    DPut H a (.ref b) v (upd H a (.dT (putK kvs k v))) := .inr ⟨kvs, k, b, e, rfl, eb, hl, rfl⟩
section
variable {X : Cx} {pins : List (Addr × Obj)} {σ : St} {H : Hp} {s : Shared} {a : Addr} {y v : V} {u r : Value} {o : Option V} {A : Around} {E : Value → Shared → Prop}
theorem Inv.big (I : Inv X pins σ H s) : sysModules < s.heap.objs.size := by
  have h : mainGlobals < s.heap.objs.size := (I.mod.glob.keeps I.bk).lt
  exact Nat.lt_trans (by decide) h
theorem d_write {h' : Heap} {t' : Nat} {ob : HO} (I : Inv X pins σ H s) (mu : Mut (H a)) (hs : Heap.SameBut a s.heap h') (he : ∃ q, h'.get? a = some q) (new : ObjOk X.prog X.w (upd H a ob) h' a ob) :
    Inv X pins σ (upd H a ob) { s with heap := h', toks := t' } :=
  I.write (x := a) (e := a) mu (.inl rfl) (fun b q hb z => (hs.2 b hb).trans z) he new
theorem dk_new {P : Program} {w : World} {H' : Hp} {h' : Heap} {kvs : List (Key × V)} {vs : List (Key × Value)} (z : kvs.length ≤ sizeLine) (hd : (a == sysModules) = false) (rel : KV kvs vs) (dd : h'.DictOf (mixKind P w) a vs) :
    ObjOk P w H' h' a (.dK kvs) := ⟨z, hd, vs, rel, dd⟩
theorem d_setItem {H' : Hp} {Q : Unit → Shared → Prop} (hu : A.units + 1 < cLine) (I : Inv X pins σ H s) (g : DPut H a y v H') (ry : RelV y u) (rv : RelV v r) (h : ∀ s', Inv X pins σ H' s' → Q () s') :
    wpAny (model X.prog X.w) A (setItem (.ref a) u r) Q E s := by
  rcases g with ⟨kvs, k, e, ey, l, eH⟩ | ⟨kvs, k, b, e, ey, eb, l, eH⟩
  · subst ey eH
    obtain ⟨z, hd, vs, rel, dd⟩ := dk_of I.hok e
    have hz : vs.length ≤ sizeLine := by rw [← rel.length]; exact z
    have hl : (putK kvs k v).length ≤ sizeLine := by have := length_putK kvs k v; omega
    refine wpAny_setItem_pairs (hsz := hz) (kV_is ry) dd fun h' dd' hs => h _ ?_
    have he : ∃ q, h'.get? a = some q := let ⟨q, _, _, hq, _⟩ := dd'; ⟨q, hq⟩
    exact d_write I (by rw [e]; exact True.intro) hs he (dk_new hl hd (rel.put k rv) dd')
  · subst ey eH
    cases (show u = Value.ref b from ry)
    obtain ⟨z, hd, xs, rel, dd⟩ := dt_of I.hok e
    have hz : xs.length ≤ sizeLine := by rw [← Paired.length rel]; exact z
    have hl : (putK kvs k v).length ≤ sizeLine := by have := length_putK kvs k v; omega
    refine wpAny_setItem_heap (hsz := hz) (tupleKind_room_in1 hu) (key_of I.hok eb) dd fun h' dd' hs => h _ ?_
    obtain ⟨q, es, ep, hq, h2, h3, h4, _, h5⟩ := dd'
    refine d_write I (by rw [e]; exact True.intro) hs ⟨q, hq⟩ ⟨hl, hd, _, (rel.put k eb rv).keeps fun c ys ec => ?_, q, es, ep, hq, h2, h3, h4, h5⟩
    rw [upd_ne (ne_of ec e (fun z => nomatch z))]
    exact ec
end
section
variable {X : Cx} {pins : List (Addr × Obj)} {σ : St} {H : Hp} {s : Shared} {a : Addr} {kvs : List (Key × V)} {k : Key} {u : Value} {A : Around} {E : Value → Shared → Prop}
end
def sDPut (td ty tv : TE) : TS := fun D σ H => tv σ H fun v H1 => td σ H1 fun x H2 => ty σ H2 fun y H3 => ∃ a H4, x = .ref a ∧ DPut H3 a y v H4 ∧ D.nx σ H4
section
variable {X : Cx} {o i e value : Expr} {pos pos' tpos : Pos} {td ty tv : TE}
theorem ps_dput (hu : X.A.units + 1 < cLine) (ho : PE X o td) (hi : PE X i ty) (hv : PE X value tv) (hs : swapsWith value (some (.Subscript o i pos')) pos.line X.env = pure false) :
    PS X (.Assign [.Subscript o i pos'] value pos) (sDPut td ty tv) := by
  intro pins s σ H D I h
  refine wpAny_Assign_Subscript (thn (hv pins s σ H _ I h) fun r s1 ⟨v, H1, I1, rv, q1⟩ => thn (ho pins s1 σ H1 _ I1 q1) fun u s2 ⟨x, H2, I2, rx, q2⟩ => thn (hi pins s2 σ H2 _ I2 q2) fun iv s3 ⟨y, H3, I3, ry, a, H4, ex, g, q3⟩ => ?_) hs
  subst ex
  obtain rfl : u = Value.ref a := rx
  exact d_setItem hu I3 g ry rv fun s4 I4 => ⟨σ, H4, I4, q3⟩
end
theorem dt_empty {P : Program} {w : World} {H : Hp} (h : Heap) (hb : sysModules < h.objs.size) : ObjOk P w H (h.push { cls := .type "dict", data := .dict #[] }) h.objs.size (.dT []) :=
  ⟨Nat.zero_le _, beq_eq_false_iff_ne.mpr (Ne.symm (Nat.ne_of_lt hb)), [], .nil, _, #[], 0, Heap.get?_push_size _ rfl, ⟨rfl, rfl, rfl⟩, rfl, rfl, List.nodup_nil⟩
def tDNewT : TE := fun _ H Q => ∀ p, H p = none → Q (.ref p) (upd H p (.dT []))
section
variable {X : Cx} {pos : Pos}
theorem pe_dnewT : PE X (.Dict [] [] pos) tDNewT := fun pins s σ H Q I h =>
  wpAny_Dict_empty ⟨.ref s.heap.objs.size, _, I.laid (a := s.heap.objs.size) (o := .dT []) (t' := s.toks) (fun _ _ q => Heap.get?_push_of_some _ q) (Nat.le_refl _) (dt_empty s.heap I.big), rfl, h _ (I.hok.fresh (Nat.le_refl _))⟩
end
structure M1 (X : Cx) (o : Expr) (m : Str) (apos : Pos) (e : Expr) (cpos : Pos) : Prop where
  base : attributeBase o m X.env (eval o X.env) = eval o X.env
  few : ((backTo cpos (starEach [e] X.env)).all (fun x => !x.1) && (backToKw cpos (keywordEach [] X.env)).all (fun x => x.1.isSome)
    && decide (([e] : List Expr).length + ([] : List Keyword).length + (if ([] : List Keyword).isEmpty then 0 else 1) < 30)) = true
  line : (apos.endLine == cpos.line) = true
  trees : backTo cpos (starEach [e] X.env) = [(false, eval e X.env)]
structure M2 (X : Cx) (o : Expr) (m : Str) (apos : Pos) (e f : Expr) (cpos : Pos) : Prop where
  base : attributeBase o m X.env (eval o X.env) = eval o X.env
  few : ((backTo cpos (starEach [e, f] X.env)).all (fun x => !x.1) && (backToKw cpos (keywordEach [] X.env)).all (fun x => x.1.isSome)
    && decide (([e, f] : List Expr).length + ([] : List Keyword).length + (if ([] : List Keyword).isEmpty then 0 else 1) < 30)) = true
  line : (apos.endLine == cpos.line) = true
  trees : backTo cpos (starEach [e, f] X.env) = [(false, eval e X.env), (false, eval f X.env)]
def IsD (H : Hp) (a : Addr) : Prop := (∃ kvs, Rd H a (.dK kvs)) ∨ ∃ kvs, Rd H a (.dT kvs)
theorem isD_at {X : Cx} {pins : List (Addr × Obj)} {σ : St} {H : Hp} {s : Shared} {a : Addr} (I : Inv X pins σ H s) (d : IsD H a) :
    s.TypeIs (.ref a) "dict" ∧ (∀ b, Value.ref a = .ref b → ∃ ob, s.heap.get? b = some ob ∧ ob.dict = none) ∧ (a == sysModules) = false := by
  rcases d with ⟨kvs, e⟩ | ⟨kvs, e⟩
  · obtain ⟨_, hd, vs, _, dd⟩ := dk_rd I.hok e
    refine ⟨dd.typeIs, fun b q => ?_, hd⟩
    cases q
    obtain ⟨ob, _, _, h1, h2, _⟩ := dd
    exact ⟨ob, h1, h2.2.1⟩
  · obtain ⟨_, hd, xs, _, dd⟩ := dt_rd I.hok e
    refine ⟨dd.typeIs, fun b q => ?_, hd⟩
    cases q
    obtain ⟨ob, _, _, h1, h2, _⟩ := dd
    exact ⟨ob, h1, h2.2.1⟩
section
variable {X : Cx} {pins : List (Addr × Obj)} {σ : St} {H : Hp} {s : Shared} {a : Addr} {y d : V} {u r : Value} {o : Option V} {A : Around} {E : Value → Shared → Prop}
theorem d_get1 {Q : Value → Shared → Prop} (hu : A.units + 1 < cLine) (I : Inv X pins σ H s) (g : DGet H a y o) (ry : RelV y u) (h : ∀ w' s', Inv X pins σ H s' → RelV (o.getD .non) w' → Q w' s') :
    wpAny (model X.prog X.w) A (call (.builtin "dict.get") [.ref a, u]) Q E s := by
  rcases g with ⟨kvs, k, e, ey, l⟩ | ⟨kvs, k, b, e, ey, eb, l⟩
  · subst ey
    obtain ⟨z, hd, vs, rel, dd⟩ := dk_rd I.hok e
    refine call_meetsIn PySem.F.slot_dict_get dd.typeIs PySem.F.entry_dict_get (PySem.F.args_dict_get_2 _ _) (meets_dict_get (mixKind X.prog X.w) a (kV_is ry) hd) ⟨_, dd.mapOf, h _ _ (I.tok _) ?_⟩
    rw [l]
    exact (rel.val k).getD rfl
  · subst ey
    cases (show u = Value.ref b from ry)
    obtain ⟨z, hd, xs, rel, dd⟩ := dt_rd I.hok e
    refine call_meetsIn PySem.F.slot_dict_get dd.typeIs PySem.F.entry_dict_get (PySem.F.args_dict_get_2 _ _) (meetsH_dict_get (tupleKind (mixKind X.prog X.w)) a b hd) ⟨tupleKind_room_in1 hu, k, xs, key_of I.hok eb, dd, h _ _ (I.tok _) ?_⟩
    rw [l]
    exact (rel.val k).getD rfl
theorem d_get2 {Q : Value → Shared → Prop} (hu : A.units + 1 < cLine) (I : Inv X pins σ H s) (g : DGet H a y o) (ry : RelV y u) (rd : RelV d r) (h : ∀ w' s', Inv X pins σ H s' → RelV (o.getD d) w' → Q w' s') :
    wpAny (model X.prog X.w) A (call (.builtin "dict.get") [.ref a, u, r]) Q E s := by
  rcases g with ⟨kvs, k, e, ey, l⟩ | ⟨kvs, k, b, e, ey, eb, l⟩
  · subst ey
    obtain ⟨z, hd, vs, rel, dd⟩ := dk_rd I.hok e
    refine call_meetsIn PySem.F.slot_dict_get dd.typeIs PySem.F.entry_dict_get (PySem.F.args_dict_get_3 _ _ _) (meets_dict_get_default (mixKind X.prog X.w) a (kV_is ry) hd r) ⟨_, dd.mapOf, h _ _ (I.tok _) ?_⟩
    rw [l]
    exact (rel.val k).getD rd
  · subst ey
    cases (show u = Value.ref b from ry)
    obtain ⟨z, hd, xs, rel, dd⟩ := dt_rd I.hok e
    refine call_meetsIn PySem.F.slot_dict_get dd.typeIs PySem.F.entry_dict_get (PySem.F.args_dict_get_3 _ _ _) (meetsH_dict_get_default (tupleKind (mixKind X.prog X.w)) a b hd r) ⟨tupleKind_room_in1 hu, k, xs, key_of I.hok eb, dd, h _ _ (I.tok _) ?_⟩
    rw [l]
    exact (rel.val k).getD rd
end
def tDGet1 (td ty : TE) : TE := fun σ H Q => td σ H fun x H1 => ∃ a, x = .ref a ∧ IsD H1 a ∧ ty σ H1 fun y H2 => ∃ o, DGet H2 a y o ∧ Q (o.getD .non) H2
def tDGet2 (td ty tx : TE) : TE := fun σ H Q => td σ H fun x H1 => ∃ a, x = .ref a ∧ IsD H1 a ∧ ty σ H1 fun y H2 => tx σ H2 fun z H3 => ∃ o, DGet H3 a y o ∧ Q (o.getD z) H3
section
variable {X : Cx} {o e f : Expr} {apos cpos : Pos} {td ty tx : TE}
theorem pe_dget1 (hu : X.A.units + 1 < cLine) (ho : PE X o td) (he : PE X e ty) (m : M1 X o "get" apos e cpos) : PE X (.Call (.Attribute o "get" apos) [e] [] cpos) (tDGet1 td ty) := by
  intro pins s σ H Q I h
  refine wpAny_Call_method m.base m.few m.line PySem.F.plainAttrs_dict PySem.F.slot_dict_get PySem.F.type_dict_get (thn (ho pins s σ H _ I h) fun u s1 ⟨x, H1, I1, rx, a, ex, d, q1⟩ => ?_)
  subst ex
  obtain rfl : u = Value.ref a := rx
  obtain ⟨t1, t2, _⟩ := isD_at I1 d
  refine ⟨t1, t2, ?_⟩
  rw [m.trees]
  refine Calls.callWith_builtin rfl (Calls.evalArgs_plain (Calls.spliced_cons (thn (he pins s1 σ H1 _ I1 q1) fun iv s2 ⟨y, H2, I2, ry, ov, g, q2⟩ => Calls.spliced_nil ?_)))
  exact d_get1 hu I2 g ry fun w' s3 I3 rw' => ⟨_, H2, I3, rw', q2⟩
theorem pe_dget2 (hu : X.A.units + 1 < cLine) (ho : PE X o td) (he : PE X e ty) (hf : PE X f tx) (m : M2 X o "get" apos e f cpos) : PE X (.Call (.Attribute o "get" apos) [e, f] [] cpos) (tDGet2 td ty tx) := by
  intro pins s σ H Q I h
  refine wpAny_Call_method m.base m.few m.line PySem.F.plainAttrs_dict PySem.F.slot_dict_get PySem.F.type_dict_get (thn (ho pins s σ H _ I h) fun u s1 ⟨x, H1, I1, rx, a, ex, d, q1⟩ => ?_)
  subst ex
  obtain rfl : u = Value.ref a := rx
  obtain ⟨t1, t2, _⟩ := isD_at I1 d
  refine ⟨t1, t2, ?_⟩
  rw [m.trees]
  refine Calls.callWith_builtin rfl (Calls.evalArgs_plain (Calls.spliced_cons (thn (he pins s1 σ H1 _ I1 q1) fun iv s2 ⟨y, H2, I2, ry, q2⟩ =>
    Calls.spliced_cons (thn (hf pins s2 σ H2 _ I2 q2) fun fv s3 ⟨z, H3, I3, rz, ov, g, q3⟩ => Calls.spliced_nil ?_))))
  exact d_get2 hu I3 g ry rz fun w' s4 I4 rw' => ⟨_, H3, I4, rw', q3⟩
end
section
variable {X : Cx} {pins : List (Addr × Obj)} {σ : St} {H : Hp} {s : Shared} {a : Addr} {kvs : List (Key × V)} {A : Around} {E : Value → Shared → Prop}
end
section
variable {X : Cx} {pins : List (Addr × Obj)} {σ : St} {H : Hp} {s : Shared} {a : Addr} {y : V} {u : Value} {A : Around} {E : Value → Shared → Prop}
end
end L2
namespace L2
open PySem PySem.Spec PyProof.Rows
section
variable {prog : Program} {w : World} {A : Around} {E : Value → Shared → Prop}
end
section
variable {X : Cx}
theorem refs_at : ∀ {ps : List Addr} {us : List Value}, Vals (ps.map V.ref) us → us = ps.map Value.ref
  | [], us, r => by
    rw [List.map_nil] at r
    cases r
    rfl
  | p :: ps, us, r => by
    rw [List.map_cons] at r
    cases r with
    | cons h t =>
      cases h
      rw [List.map_cons, ← refs_at t]
end
end L2
namespace L2
open PySem PySem.Spec PyProof.Rows
section
variable {X : Cx} {pins : List (Addr × Obj)} {σ : St} {H : Hp} {s : Shared} {h' : Heap}
theorem Inv.turnedNew {t' : Nat} {ch : List Addr} {T : Addr} {ob : HO} (I : Inv X pins σ H s) (k : ∀ b o, b ∉ ch → s.heap.get? b = some o → h'.get? b = some o) (hf : ∀ b ∈ ch, FpOk X pins H b) (hT : s.heap.objs.size ≤ T)
    (new : ObjOk X.prog X.w (upd H T ob) h' T ob) : Inv X pins σ (upd H T ob) { s with heap := h', toks := t' } := by
  have hn : H T = none := I.hok.fresh hT
  have nit : ∀ b u, H b = some u → b ∉ ch := fun b u e z => by
    have q := (hf b z).1
    rw [q] at e; cases e
  refine I.step (g' := s.gens) (d' := s.drawn) (ch := ch) (fun b hb => ⟨(hf b hb).2.2.2.1, (hf b hb).2.1, (hf b hb).2.2.2.2.1, (hf b hb).2.2.2.2.2⟩) (fun b o _ _ hc e _ => k b o hc e) (fun b o _ _ hc e _ => ⟨o.slots, k b o hc e⟩)
    (fun b o _ e n => ?_) (fun b o hc e => ⟨o, k b o hc e⟩) (fun b xs e => ?_) (fun b o u e => ?_) (fun b ps e => ⟨#[], ?_⟩) (fun m hm => ?_) (fun b u e => ?_) I.bare
  · rw [upd_ne (Nat.ne_of_lt (Nat.lt_of_lt_of_le (Heap.lt_size e) hT))]; exact n
  · rw [upd_ne (ne_of_none e hn)]; exact e
  · rw [upd_ne (ne_of_none e hn)]; exact e
  · rw [upd_ne (ne_of_none e hn), e]; simp
  · obtain ⟨o, es, ep, ho, r⟩ := hm
    exact ⟨o, es, ep, k _ o (fun z => (hf _ z).2.1 rfl) ho, r⟩
  · by_cases hb : b = T
    · subst hb
      rw [upd_same] at e
      cases e
      exact new
    · rw [upd_ne hb] at e
      refine (I.hok b u e).stay (fun c v hc q => k c v ?_ q) (fun c q => by rw [upd_ne (ne_of_none q hn)]; exact q) fun c xs q => by rw [upd_ne (ne_of_none q hn)]; exact q
      rcases hc with z | z
      · rw [z]; exact nit b u e
      · exact nit c _ z
end
section
variable {X : Cx}
end
section
variable {X : Cx} {tg : Expr}
end
section
variable {X : Cx} {tg : Expr}
end
section
variable {prog : Program} {w : World} {A : Around} {E : Value → Shared → Prop} {s : Shared}
end
section
variable {X : Cx} {pins : List (Addr × Obj)} {σ : St} {H : Hp} {s : Shared} {d : Addr} {o : Obj}
end
section
variable {P : Program} {w : World} {K : PySem.W.Frag} {tg : Expr} {d : Addr} {o : Obj} {es : Array DictEntry} {ep : Nat}
end
section
variable {X : Cx} {tg e : Expr} {td : TE} {apos cpos : Pos}
end
def Ite (K : PySem.W.Frag) (a : Addr) : It :=
  ⟨fun i H => ∃ (xs : List V) (x : V), SqL K H a xs ∧ xs[i]? = some x, fun i H v H' => ∃ T x, v = .ref T ∧ H T = none ∧ H' = upd H T (.tup [.int (i : Nat), x]) ∧ ∀ xs, SqL K H a xs → xs[i]? = some x, fun i H => ∃ xs : List V, SqL K H a xs ∧ xs.length ≤ i⟩
theorem turn_enum {P : Program} {w : World} {K : PySem.W.Frag} {elts : List Expr} {kk : Nat} {tpos : Pos} (a e it : Addr) :
    Turn P w K (.Tuple elts kk tpos) (Ite K a) [e, it] e (fun i h => (∃ old, IsEnum h e it ((i : Nat) : Int) old) ∧ h.IsListIter it a i ∧ e ≠ it) where
  mem := by simp
  obj := fun i h st b hb => by
    obtain ⟨⟨old, he⟩, ⟨o, ho, hc, hd⟩, _⟩ := st
    have e' : b = e ∨ b = it := by simpa using hb
    rcases e' with z | z
    · rw [z]; exact ⟨_, he, fun v q => nomatch q⟩
    · rw [z]; exact ⟨o, ho, fun v q => by rw [hd] at q; cases q⟩
  keep := fun i h h' st k => let ⟨⟨old, he⟩, hi, hne⟩ := st; ⟨⟨old, k e (by simp) _ he⟩, hi.at fun o q => k it (by simp) o q, hne⟩
  item := by
    intro X hP hw hK hc i pins s σ H E I hf st hg
    subst hP hw hK
    obtain ⟨⟨old, he⟩, hit, hne⟩ := st
    obtain ⟨xs, x, hq, hx⟩ := hg
    obtain ⟨its, rv, p, hz⟩ := I.list hq
    obtain ⟨u, hu, ru⟩ := rv.get hx
    have hel : e < s.heap.objs.size := Heap.lt_size he
    have hil : it < s.heap.objs.size := by obtain ⟨_, q, _⟩ := hit; exact Heap.lt_size q
    refine wpAny_pyNext_enum_item he hit p.isList (x := u) (by simpa using hu) hne fun h' ho hit' hT hsz hk => ?_
    refine ⟨_, rfl, wpAny_letOwnedTupleGo_enum (s := { s with heap := h', toks := s.toks + 1 }) ho fun h'' he' sb => ?_⟩
    have hT2 : h''.get? s.heap.objs.size = some { cls := .type "tuple", data := .seq #[.int i s.toks, u] } := (sb.2 _ (Nat.ne_of_gt hel)).trans hT
    have new : ObjOk X.prog X.w (upd H s.heap.objs.size (.tup [.int (i : Nat), x])) h'' s.heap.objs.size (.tup [.int (i : Nat), x]) :=
      ⟨by show 2 ≤ sizeLine; decide, [.int i s.toks, u], .cons ⟨_, rfl⟩ (.cons ru .nil), ⟨_, hT2, rfl, _, rfl⟩⟩
    have I1 : Inv X pins σ (upd H s.heap.objs.size (.tup [.int (i : Nat), x])) { s with heap := h'', toks := s.toks + 1 } :=
      I.turnedNew (ch := [e, it]) (fun b ob hb q => (sb.2 b (fun z => hb (by simp [z]))).trans (hk b ob (fun z => hb (by simp [z])) (fun z => hb (by simp [z])) q)) hf (Nat.le_refl _) new
    refine ⟨.ref s.heap.objs.size, _, I1, rfl, ⟨_, x, rfl, I.hok.fresh (Nat.le_refl _), rfl, fun ys hy => by rw [I.list_inj hy hq]; exact hx⟩, ⟨⟨u, ?_⟩, hit'.at fun o q => (sb.2 it (Ne.symm hne)).trans q, hne⟩, fun b hb => ?_⟩
    · have e1 : ((i + 1 : Nat) : Int) = (i : Int) + 1 := by omega
      rw [e1]; exact he'
    · have hb' : b < s.heap.objs.size := by
        have e' : b = e ∨ b = it := by simpa using hb
        rcases e' with z | z
        · rw [z]; exact hel
        · rw [z]; exact hil
      rw [upd_ne (Nat.ne_of_lt hb')]
      exact (hf b hb).1
  done := by
    intro X hP hw hK hc i pins s σ H E I hf st hg
    subst hP hw hK
    obtain ⟨⟨old, he⟩, hit, hne⟩ := st
    obtain ⟨xs, hq, hx⟩ := hg
    obtain ⟨its, rv, p, hz⟩ := I.list hq
    obtain ⟨f0, f1, f2, f3, f4, f5⟩ := hf it (by simp)
    have hl := rv.length
    exact wpAny_pyNext_enum_end (I.ok.hd hc) he hit p.isList (by simp; omega) fun h' eb => ⟨rfl, I.turned (t' := s.toks) (fun b o hb q => eb b o hb q) f0 f1 f3 f4 f5⟩
  self := fun A i s Q E st h => let ⟨⟨_, he⟩, _⟩ := st; wpAny_pyIter_enum he h
def iEnum (K : PySem.W.Frag) (ta : TA) : TI := fun σ H R => ta σ H fun vs H1 => ∃ a xs, vs = [.ref a] ∧ SqL K H1 a xs ∧ R (Ite K a) H1
theorem pi_enum {X : Cx} {e : Expr} {ta : TA} {p pos tpos : Pos} {elts : List Expr} {kk : Nat} (hg : Gl X "enumerate") (hm : X.mg "enumerate" = none) (ha : PA X [e] ta) (hs : starEach [e] X.env = [(false, eval e X.env)] := by rfl) :
    PI X (.Tuple elts kk tpos) (.Call (.Name "enumerate" p) [e] [] pos) (iEnum X.K ta) := by
  intro pins s σ H R I h
  refine Call_ (ld_blt I hg hm boot_enumerate (PyProof.Rows.callWith_type1 (thn (ha pos pins s σ H _ I h) fun us s1 ⟨vs, H1, I1, r1, q1⟩ => ?_) hs rfl))
  obtain ⟨a, xs, ex, hq, q⟩ := q1
  subst ex
  cases r1 with
  | cons r rr =>
    cases rr
    cases r
    obtain ⟨its, rv, p', hz⟩ := I1.list hq
    refine call_enumerate_list p'.isList fun h' he hit hsz hk => wpAny_pyIter_enum he ?_
    have I2 : Inv X pins σ H1 { s1 with heap := h' } := I1.kept (t' := s1.toks) hk
    refine ⟨s1.heap.objs.size + 1, [s1.heap.objs.size + 1, s1.heap.objs.size], _, _, H1, rfl, I2, turn_enum a (s1.heap.objs.size + 1) s1.heap.objs.size, ⟨⟨.none, he⟩, hit, Nat.succ_ne_self _⟩, fun b hb => ?_, q⟩
    have e' : b = s1.heap.objs.size + 1 ∨ b = s1.heap.objs.size := by simpa using hb
    have hle : s1.heap.objs.size ≤ b := by
      rcases e' with z | z
      · rw [z]; exact Nat.le_add_right _ _
      · rw [z]; exact Nat.le_refl _
    exact I1.fpOk hle (I1.hok.fresh hle)
end L2
section 
namespace Bits
open PySem PyProof.Rows
end Bits
end 
section 
namespace TL
open PySem PySem.Builtin PySem.Builtin.Str PySem.StrLaws
end TL
end 
namespace L2
open PySem PySem.Spec PyProof.Rows
section
variable {X : Cx} {pins : List (Addr × Obj)} {σ : St} {H : Hp} {s : Shared} {Q : VK}
end
section
variable {X : Cx}
end
section
variable {X : Cx} {o e : Expr} {to te : TE}
end
end L2
namespace L2
open PySem PySem.Spec PyProof.Rows
section
variable {X : Cx}
end
end L2
namespace Att
open PySem PySem.W PySem.Calls PyProof.Rows
section
variable {prog : Program} {w : World} {A : Around} {E : Value → Shared → Prop} {s : Shared} {K : Frag}
end
end Att
namespace L2
open PySem PySem.Spec PyProof.Rows
end L2
namespace L2
open PySem PySem.Spec PyProof.Rows
end L2
/- THE LAST THEOREM (shape; LID, My.* are yours):
   My.Adr: a structure of the addresses that your layer names (classes, functions); My.Txt K t: a structure (Prop) of the equations over K;
   My.txt_mk : {K} {implicit addresses ..} (e1 : nsIn K mainGlobals "law" = some (some (.ref f))) (e2 : K.lookup f = some ⟨oc, od, .func (fnOf "law" "law" params body scope dV kV doc pm an cdv ct), sl⟩) (e3 : codeIn K cdv "law" = true) .. : ∃ t, My.Txt K t
set_option maxRecDepth 100000 in
set_option maxHeartbeats 0 in
(the tactic k_is has no namespace: write k_is) -/
namespace L2
open PySem PySem.Spec PyProof.Rows
def inClass (s : Stmt) (j : Nat) : Stmt := match s with
  | .ClassDef _ _ _ body _ _ _ _ _ _ _ => body.getD j (.Pass ⟨0, 0, 0, 0⟩)
  | _ => .Pass ⟨0, 0, 0, 0⟩
def defArgs (s : Stmt) : Arguments := match s with
  | .FunctionDef _ a _ _ _ _ _ _ _ _ => a
  | _ => { posonlyargs := [], args := [], vararg := none, kwonlyargs := [], kw_defaults := [], kwarg := none, defaults := [] }
def defBody (s : Stmt) : List Stmt := match s with
  | .FunctionDef _ _ b _ _ _ _ _ _ _ => b
  | _ => []
def defScope (s : Stmt) : Scope := match s with
  | .FunctionDef _ _ _ _ _ _ sc _ _ _ => sc
  | _ => { kind := .function, names := [], isGenerator := false, isCoroutine := false }
abbrev CX0 : CXT := fun _ _ _ _ _ _ => False
abbrev E0 : XK := fun _ _ _ => False
theorem pass0 {X : Cx} : Passes CX0 X E0 := fun _ _ _ _ _ _ _ h => h.elim
structure Fun (K : PySem.W.Frag) (x qual : Str) (st : Stmt) (f : Addr) (fd : FuncData) : Prop where
  ex : ∃ (oc : Value) (od : Option Addr) (kV doc pm : Value) (an : Option Addr) (cdv ct : Value) (osl : Array (Option Value)),
    fd = PySem.W.fnOf x qual (defArgs st) (defBody st) (defScope st) .none kV doc pm an cdv ct ∧ K.lookup f = some ⟨oc, od, .func fd, osl⟩ ∧ PySem.W.codeIn K cdv qual = true
  kp : PySem.W.keepIn K (.ref f) = true
section
variable {P : Program} {w : World} {K : PySem.W.Frag} {mg : Str → Option Value} {base : Heap}
theorem Fun.ok {x qual : Str} {st : Stmt} {f : Addr} {fd : FuncData} {N ps : List Str} {k : Nat} {sp : Sp} (F : Fun K x qual st f fd) (S : FnScope N ps (defScope st)) (len : ∀ vs H Q E, sp vs H Q E → vs.length = ps.length)
    (hbody : ∀ (cdv : Value) (A : Around) (outer : List Env) (s : Shared) (H : Hp) (vs : List V) (Q : VK) (E : XK), Room k (A.deeper (envOfC qual (defScope st) s.heap.objs.size f cdv)) → sp vs H Q E →
      ∃ t, PSs (cxOf CX0 P w K mg base N qual (defScope st) f cdv A outer s H E).nox (defBody st) t ∧ t { nx := fun _ H' => Q .non H', rt := Q } (start N vs) H) : FnOk P w K mg base CX0 (k + 1) f fd ps sp := by
  obtain ⟨oc, od, kV, doc, pm, an, cdv, ct, osl, rfl, lk, hcd⟩ := F.ex
  refine fn_of lk hcd S len fun A outer s H vs Q E hr hsp => ?_
  obtain ⟨t, h, q⟩ := hbody cdv A outer s H vs Q E hr hsp
  exact ⟨t, h.nox, q⟩
theorem Fun.binds {x qual : Str} {st : Stmt} {f : Addr} {fd : FuncData} {ps : List Str} (F : Fun K x qual st f fd)
    (h : ∀ (kV doc pm : Value) (an : Option Addr) (cdv ct : Value) (us : List Value), us.length = ps.length → bindArgs (PySem.W.fnOf x qual (defArgs st) (defBody st) (defScope st) .none kV doc pm an cdv ct) ⟨us, []⟩ = pure (ps.zip us)) : Binds K fd ps [] := by
  obtain ⟨oc, od, kV, doc, pm, an, cdv, ct, osl, rfl, lk, hcd⟩ := F.ex
  exact .all (h kV doc pm an cdv ct)
theorem fun_mk {x qual : Str} {st : Stmt} {f : Addr} {oc : Value} {od an : Option Addr} {osl : Array (Option Value)} {kV doc pm cdv ct : Value} (l : K.lookup f = some ⟨oc, od, .func (PySem.W.fnOf x qual (defArgs st) (defBody st) (defScope st) .none kV doc pm an cdv ct), osl⟩)
    (c : PySem.W.codeIn K cdv qual = true) (k : PySem.W.keepIn K (.ref f) = true) : Fun K x qual st f (PySem.W.fnOf x qual (defArgs st) (defBody st) (defScope st) .none kV doc pm an cdv ct) := ⟨⟨oc, od, kV, doc, pm, an, cdv, ct, osl, rfl, l, c⟩, k⟩
end
theorem hu_of {A : Around} {k : Nat} (hr : Room k A) : A.units + 1 < cLine := Nat.lt_of_le_of_lt (Nat.add_le_add_left (by decide : 1 ≤ 64) _) hr.units
section
variable {X : Cx}
theorem pv (i : Nat) {x : Str} {pos : Pos} (hN : X.N[i]? = some x := by rfl) (hv : Vis X.env.scope x := by first | exact Or.inl rfl | exact Or.inr (Or.inl rfl) | exact Or.inr (Or.inr rfl)) (hd : (x == ("__debug__" : Str)) = false := by decide)
    (hcd : (x == ("__classdict__" : Str)) = false := by decide) : PE X (.Name x pos) (tVar i) := pe_var hN hv hd hcd
end
theorem iteF {A B : Prop} (h : B) : if false = true then A else B := by
  rw [if_neg Bool.false_ne_true]
  exact h
theorem iteT {A B : Prop} (h : A) : if true = true then A else B := by
  rw [if_pos rfl]
  exact h
theorem ite2 {c A B : Prop} [Decidable c] (h1 : c → A) (h2 : ¬ c → B) : if c then A else B := by
  by_cases h : c
  · rw [if_pos h]
    exact h1 h
  · rw [if_neg h]
    exact h2 h
def Same (H H' : Hp) : Prop := ∀ b o, H b = some o → H' b = some o
theorem Same.refl (H : Hp) : Same H H := fun _ _ h => h
theorem Same.trans {H H1 H2 : Hp} (a : Same H H1) (b : Same H1 H2) : Same H H2 := fun c o h => b c o (a c o h)
theorem Same.free {H H' : Hp} (e : Same H H') {l : Addr} (h : H' l = Option.none) : H l = Option.none := by
  cases q : H l with
  | none => rfl
  | some o =>
    rw [e l o q] at h
    cases h
theorem Same.seq {K : PySem.W.Frag} {H H' : Hp} {a : Addr} {xs : List V} (e : Same H H') (h : SqL K H a xs) : SqL K H' a xs := by
  rcases h with (h | ⟨o, h⟩) | h
  · exact .inl (.inl (e _ _ h))
  · exact .inl (.inr ⟨o, e _ _ h⟩)
  · exact .inr h
section
variable {κ : Type} [DecidableEq κ]
theorem valV_not {kvs : List (κ × V)} {k : κ} (h : valV kvs k = none) : ¬ k ∈ kvs.map (·.1) := by
  intro m
  obtain ⟨p, hp, e⟩ := List.mem_map.mp m
  have q : (kvs.any fun kv => decide (kv.1 = k)) = true := List.any_eq_true.mpr ⟨p, hp, decide_eq_true e⟩
  rw [valV_any, h] at q
  exact absurd q (by simp)
theorem nd_snoc : ∀ {l : List κ} {k : κ}, l.Nodup → ¬ k ∈ l → (l ++ [k]).Nodup
  | [], k, _, _ => by simp
  | a :: r, k, h, hk => by
    obtain ⟨h1, h2⟩ := List.nodup_cons.mp h
    show (a :: (r ++ [k])).Nodup
    refine List.nodup_cons.mpr ⟨fun m => ?_, nd_snoc h2 fun m => hk (List.mem_cons.mpr (Or.inr m))⟩
    rcases List.mem_append.mp m with q | q
    · exact h1 q
    · exact hk (List.mem_cons.mpr (Or.inl (List.mem_singleton.mp q).symm))
end
theorem nd_ix {α : Type} {l : List α} (hN : l.Nodup) {i j : Nat} {x : α} (a : l[i]? = some x) (b : l[j]? = some x) : i = j := by
  obtain ⟨h1, e1⟩ := List.getElem?_eq_some_iff.mp a
  obtain ⟨h2, e2⟩ := List.getElem?_eq_some_iff.mp b
  exact (List.getElem_inj hN).mp (e1.trans e2.symm)
end L2
end
section
set_option Elab.async false
set_option linter.all false
set_option maxRecDepth 100000
set_option maxHeartbeats 2000000
namespace L2
open PySem PySem.Spec PyProof.Rows
open PySem.W (WData Codec OpenSpec Well WellAll ReadsW ReadsAllW)
mutual
/-- x stands for the datum d, lists and tuples all the way -/
inductive Dw (K : PySem.W.Frag) (H : Hp) : V → WData → Prop
  | non : Dw K H .non .none
  | bl (b : Bool) : Dw K H (.bl b) (.bool b)
  | int (i : Int) : Dw K H (.int i) (.int i)
  | str (x : Str) : Dw K H (.str x) (.str x)
  | byt (b : Array UInt8) : Dw K H (.byt b) (.bytes b.toList)
  | lst {a : Addr} {xs : List V} {ds : List WData} : SqL K H a xs → DwAll K H xs ds → Dw K H (.ref a) (.list ds)
  | tup {a : Addr} {xs : List V} {ds : List WData} : SqT K H a xs → DwAll K H xs ds → Dw K H (.ref a) (.tuple ds)
inductive DwAll (K : PySem.W.Frag) (H : Hp) : List V → List WData → Prop
  | nil : DwAll K H [] []
  | cons {v : V} {vs : List V} {d : WData} {ds : List WData} : Dw K H v d → DwAll K H vs ds → DwAll K H (v :: vs) (d :: ds)
end
theorem dw_ints {K : PySem.W.Frag} {H : Hp} : ∀ ns : List Int, DwAll K H (ns.map V.int) (ns.map WData.int)
  | [] => .nil
  | n :: r => .cons (.int n) (dw_ints r)
theorem ints_dw {K : PySem.W.Frag} {H : Hp} : ∀ (ns : List Int) (xs : List V), DwAll K H xs (ns.map WData.int) → xs = ns.map V.int
  | [], xs, h => by
    cases h
    rfl
  | n :: r, xs, h => by
    cases h with
    | cons h1 h2 =>
      cases h1
      rw [ints_dw r _ h2] <;> rfl
section
variable {P : Program} {w : World} {K : PySem.W.Frag} {H : Hp} {h : Heap} {R : PySem.W.WRecords} {cl : Str → Option Addr}
theorem sqL_at {a : Addr} {xs : List V} (hok : HOk P w H h) (KX : K.In h) (q : SqL K H a xs) : ∃ (its : List Value) (o : Obj) (n : Nat), Vals xs its ∧ h.get? a = some o ∧ o.cls = .type "list" ∧ o.data = .seq its.toArray n := by
  rcases q with q | ⟨o, its, n, e, hc, _, hd, _, hv⟩
  · obtain ⟨_, its, n, hv, e⟩ := (show ObjOk P w H h a (.lst xs) from q.ok hok)
    exact ⟨its, _, n, hv, e, rfl, rfl⟩
  · exact ⟨its.toList, o, n, hv, KX _ _ e, hc, by simp [hd]⟩
theorem sqT_at {a : Addr} {xs : List V} (hok : HOk P w H h) (KX : K.In h) (q : SqT K H a xs) : ∃ (its : List Value) (o : Obj) (n : Nat), Vals xs its ∧ h.get? a = some o ∧ o.cls = .type "tuple" ∧ o.data = .seq its.toArray n := by
  rcases q with q | ⟨o, its, n, e, hc, hd, _, hv⟩
  · obtain ⟨_, its, hv, o, e, hc, n, hd⟩ := (show ObjOk P w H h a (.tup xs) from q.ok hok)
    exact ⟨its, o, n, hv, e, hc, hd⟩
  · exact ⟨its.toList, o, n, hv, KX _ _ e, hc, by simp [hd]⟩
mutual
theorem Dw.reads (hok : HOk P w H h) (KX : K.In h) : ∀ (d : WData) (v : V) (u : Value), Dw K H v d → RelV v u → ∃ as, ReadsW R cl h u d as
  | .none, _, _, x, r => by
    cases x
    cases r
    exact ⟨_, ReadsW.none⟩
  | .bool b, _, _, x, r => by
    cases x
    cases r
    exact ⟨_, ReadsW.bool b⟩
  | .int i, _, _, x, r => by
    cases x
    obtain ⟨t, rfl⟩ := r
    exact ⟨_, ReadsW.int i t⟩
  | .str s, _, _, x, r => by
    cases x
    obtain ⟨t, rfl⟩ := r
    exact ⟨_, ReadsW.str s t⟩
  | .bytes b, _, _, x, r => by
    cases x
    obtain ⟨t, rfl⟩ := r
    exact ⟨_, ReadsW.bytes _ t⟩
  | .list ds, _, _, x, r => by
    cases x with
    | lst hs ha =>
      cases r
      obtain ⟨its, o, n, rv, ho, hc, hd⟩ := sqL_at hok KX hs
      obtain ⟨as, hr⟩ := Dw.readsAll hok KX ds _ its ha rv
      exact ⟨_, ReadsW.list ho hc hd hr⟩
  | .tuple ds, _, _, x, r => by
    cases x with
    | tup hs ha =>
      cases r
      obtain ⟨its, o, n, rv, ho, hc, hd⟩ := sqT_at hok KX hs
      obtain ⟨as, hr⟩ := Dw.readsAll hok KX ds _ its ha rv
      exact ⟨_, ReadsW.tuple ho hc hd hr⟩
  | .float _, _, _, x, _ => by cases x
  | .dict _, _, _, x, _ => by cases x
  | .bytearray _, _, _, x, _ => by cases x
  | .set _, _, _, x, _ => by cases x
  | .frozenset _, _, _, x, _ => by cases x
  | .obj _ _, _, _, x, _ => by cases x
theorem Dw.readsAll (hok : HOk P w H h) (KX : K.In h) : ∀ (ds : List WData) (vs : List V) (us : List Value), DwAll K H vs ds → Vals vs us → ∃ as, ReadsAllW R cl h us ds as
  | [], _, _, x, r => by
    cases x
    cases r
    exact ⟨_, ReadsAllW.nil⟩
  | d :: ds, _, _, x, r => by
    cases x with
    | cons h1 h2 =>
      cases r with
      | cons r1 r2 =>
        obtain ⟨as, q1⟩ := Dw.reads hok KX d _ _ h1 r1
        obtain ⟨bs, q2⟩ := Dw.readsAll hok KX ds _ _ h2 r2
        exact ⟨_, ReadsAllW.cons q1 q2⟩
end
end
mutual
/-- data that a codec tells -/
def plW : WData → Bool
  | .none => true
  | .bool _ => true
  | .int _ => true
  | .str _ => true
  | .bytes _ => true
  | .list xs => plWs xs
  | .tuple xs => plWs xs
  | _ => false
def plWs : List WData → Bool
  | [] => true
  | x :: r => plW x && plWs r
end
theorem plWs_map {α : Type} {f : α → WData} (h : ∀ a, plW (f a) = true) : ∀ l : List α, plWs (l.map f) = true
  | [] => rfl
  | x :: r => by
    show (plW (f x) && plWs (r.map f)) = true
    rw [h x, plWs_map h r] <;> rfl
theorem pl_enc : ∀ (c : Codec) (a : c.denote), plW (c.enc a) = true
  | .unit, _ => rfl
  | .bool, _ => rfl
  | .int _ _, _ => rfl
  | .nat _ _, _ => rfl
  | .u8, _ => rfl
  | .bytes _ _, _ => rfl
  | .text _ _ _ _, _ => rfl
  | .list _ _ c, a => plWs_map (fun x => pl_enc c x) a
  | .pair c d, a => by
    show (plW (c.enc a.1) && (plW (d.enc a.2) && true)) = true
    rw [pl_enc c a.1, pl_enc d a.2] <;> rfl
  | .triple c d e, a => by
    show (plW (c.enc a.1) && (plW (d.enc a.2.1) && (plW (e.enc a.2.2) && true))) = true
    rw [pl_enc c a.1, pl_enc d a.2.1, pl_enc e a.2.2] <;> rfl
  | .option c, none => rfl
  | .option c, some x => pl_enc c x
theorem pl_encAll : ∀ (cs : List Codec) (a : Codec.denoteAll cs), plWs (Codec.encAll cs a) = true
  | [], _ => rfl
  | c :: cs, a => by
    show (plW (c.enc a.1) && plWs (Codec.encAll cs a.2)) = true
    rw [pl_enc c a.1, pl_encAll cs a.2] <;> rfl
theorem weight_mem : ∀ {xs : List WData} {d : WData}, d ∈ xs → d.weight ≤ WData.weightAll xs
  | [], d, h => absurd h (by simp)
  | x :: r, d, h => by
    show d.weight ≤ x.weight + 1 + WData.weightAll r
    rcases List.mem_cons.mp h with e | m
    · rw [e]
      omega
    · have z := weight_mem m
      omega
def toV : Value → V
  | .none => .non
  | .bool b => .bl b
  | .int i _ => .int i
  | .str x _ => .str x
  | .bytes b _ => .byt b
  | .ref a => .ref a
  | _ => .non
def OkU (A : List Addr) : Value → Prop
  | .none => True
  | .bool _ => True
  | .int _ _ => True
  | .str _ _ => True
  | .bytes _ _ => True
  | .ref a => a ∈ A
  | _ => False
theorem OkU.mono {A B : List Addr} (h : ∀ a ∈ A, a ∈ B) : ∀ {u : Value}, OkU A u → OkU B u := fun {u} x => by
  cases u with
  | ref a => exact h a x
  | none => trivial
  | bool b => trivial
  | int i t => trivial
  | str s t => trivial
  | bytes b t => trivial
  | _ => exact False.elim x
theorem relV_toV {A : List Addr} {u : Value} (x : OkU A u) : RelV (toV u) u := by
  cases u with
  | ref a => rfl
  | none => rfl
  | bool b => rfl
  | int i t => exact ⟨t, rfl⟩
  | str s t => exact ⟨t, rfl⟩
  | bytes b t => exact ⟨t, rfl⟩
  | _ => exact False.elim x
theorem vals_toV {A : List Addr} : ∀ {vs : List Value}, (∀ u ∈ vs, OkU A u) → Vals (vs.map toV) vs
  | [], _ => .nil
  | u :: r, h => .cons (relV_toV (h u (List.mem_cons_self ..))) (vals_toV fun x hx => h x (List.mem_cons_of_mem _ hx))
def ArgOb (h : Heap) (A : List Addr) (a : Addr) : Prop := ∃ vs : List Value, vs.length ≤ sizeLine ∧ (∀ u ∈ vs, OkU A u) ∧
  (h.get? a = some { cls := .type "list", data := .seq vs.toArray } ∨ h.get? a = some { cls := .type "tuple", data := .seq vs.toArray })
theorem ArgOb.mono {h : Heap} {A B : List Addr} {a : Addr} (k : ∀ a ∈ A, a ∈ B) (x : ArgOb h A a) : ArgOb h B a := by
  obtain ⟨vs, h1, h2, h3⟩ := x
  exact ⟨vs, h1, fun u hu => (h2 u hu).mono k, h3⟩
theorem wellAll_len {P : Params} {h : Heap} : ∀ {vs : List Value} {ds : List WData}, WellAll P h vs ds → vs.length = ds.length
  | _, _, .nil => rfl
  | _, _, .cons _ b => by
    show _ + 1 = _ + 1
    rw [wellAll_len b]
theorem well_list {P : Params} {h : Heap} {v : Value} {ds : List WData} (x : Well P h v (.list ds)) : ∃ (a : Addr) (vs : List Value), v = .ref a ∧ h.get? a = some { cls := .type "list", data := .seq vs.toArray } ∧ WellAll P h vs ds := by
  cases x with
  | list ho hall => exact ⟨_, _, rfl, ho, hall⟩
theorem well_tuple {P : Params} {h : Heap} {v : Value} {ds : List WData} (x : Well P h v (.tuple ds)) : ∃ (a : Addr) (vs : List Value), v = .ref a ∧ h.get? a = some { cls := .type "tuple", data := .seq vs.toArray } ∧ WellAll P h vs ds := by
  cases x with
  | tuple ho hall => exact ⟨_, _, rfl, ho, hall⟩
theorem well_cons {P : Params} {h : Heap} {us : List Value} {d : WData} {ds : List WData} (x : WellAll P h us (d :: ds)) : ∃ (v : Value) (vs : List Value), us = v :: vs ∧ Well P h v d ∧ WellAll P h vs ds := by
  cases x with
  | cons a b => exact ⟨_, _, rfl, a, b⟩
theorem line_of {n : Nat} (h : n ≤ 1048576) : n ≤ sizeLine := Nat.le_trans h (by decide)
section
variable {P : Params} {h : Heap}
mutual
theorem area_one : ∀ (d : WData) (v : Value), Well P h v d → plW d = true → d.weight ≤ 1048576 → ∃ A : List Addr, OkU A v ∧ ∀ a ∈ A, ArgOb h A a
  | .none, _, x, _, _ => by
    cases x
    exact ⟨[], trivial, fun a m => absurd m (by simp)⟩
  | .bool b, _, x, _, _ => by
    cases x
    exact ⟨[], trivial, fun a m => absurd m (by simp)⟩
  | .int i, _, x, _, _ => by
    cases x
    exact ⟨[], trivial, fun a m => absurd m (by simp)⟩
  | .str s, _, x, _, _ => by
    cases x
    exact ⟨[], trivial, fun a m => absurd m (by simp)⟩
  | .bytes b, _, x, _, _ => by
    cases x
    exact ⟨[], trivial, fun a m => absurd m (by simp)⟩
  | .list ds, _, x, p, z => by
    obtain ⟨a, vs, rfl, ho, hall⟩ := well_list x
    have z2 : WData.weightAll ds ≤ 1048576 := z
    obtain ⟨A, h1, h2⟩ := area_all ds _ hall p fun d hd => Nat.le_trans (weight_mem hd) z2
    have k : ∀ b ∈ A, b ∈ a :: A := fun b hb => List.mem_cons_of_mem _ hb
    refine ⟨a :: A, List.mem_cons_self .., fun b hb => ?_⟩
    rcases List.mem_cons.mp hb with e | m
    · rw [e]
      exact ⟨vs, line_of (by rw [wellAll_len hall]; exact Nat.le_trans (PySem.W.length_le_weightAllW ds) z2), fun u hu => (h1 u hu).mono k, .inl ho⟩
    · exact (h2 b m).mono k
  | .tuple ds, _, x, p, z => by
    obtain ⟨a, vs, rfl, ho, hall⟩ := well_tuple x
    have z2 : WData.weightAll ds ≤ 1048576 := z
    obtain ⟨A, h1, h2⟩ := area_all ds _ hall p fun d hd => Nat.le_trans (weight_mem hd) z2
    have k : ∀ b ∈ A, b ∈ a :: A := fun b hb => List.mem_cons_of_mem _ hb
    refine ⟨a :: A, List.mem_cons_self .., fun b hb => ?_⟩
    rcases List.mem_cons.mp hb with e | m
    · rw [e]
      exact ⟨vs, line_of (by rw [wellAll_len hall]; exact Nat.le_trans (PySem.W.length_le_weightAllW ds) z2), fun u hu => (h1 u hu).mono k, .inr ho⟩
    · exact (h2 b m).mono k
  | .float _, _, _, p, _ => Bool.noConfusion (show false = true from p)
  | .dict _, _, _, p, _ => Bool.noConfusion (show false = true from p)
  | .bytearray _, _, _, p, _ => Bool.noConfusion (show false = true from p)
  | .set _, _, _, p, _ => Bool.noConfusion (show false = true from p)
  | .frozenset _, _, _, p, _ => Bool.noConfusion (show false = true from p)
  | .obj _ _, _, _, p, _ => Bool.noConfusion (show false = true from p)
theorem area_all : ∀ (ds : List WData) (vs : List Value), WellAll P h vs ds → plWs ds = true → (∀ d ∈ ds, d.weight ≤ 1048576) → ∃ A : List Addr, (∀ u ∈ vs, OkU A u) ∧ ∀ a ∈ A, ArgOb h A a
  | [], _, x, _, _ => by
    cases x
    exact ⟨[], fun u m => absurd m (by simp), fun a m => absurd m (by simp)⟩
  | d :: ds, _, x, p, z => by
    obtain ⟨v, vs, rfl, x1, x2⟩ := well_cons x
    have q : plW d = true ∧ plWs ds = true := Bool.and_eq_true_iff.mp p
    obtain ⟨A, a1, a2⟩ := area_one d v x1 q.1 (z d (List.mem_cons_self ..))
    obtain ⟨B, b1, b2⟩ := area_all ds vs x2 q.2 fun e he => z e (List.mem_cons_of_mem _ he)
    have kA : ∀ b ∈ A, b ∈ A ++ B := fun b hb => List.mem_append.mpr (.inl hb)
    have kB : ∀ b ∈ B, b ∈ A ++ B := fun b hb => List.mem_append.mpr (.inr hb)
    refine ⟨A ++ B, fun u hu => ?_, fun b hb => ?_⟩
    · rcases List.mem_cons.mp hu with e | m
      · rw [e]
        exact a1.mono kA
      · exact (b1 u m).mono kB
    · rcases List.mem_append.mp hb with m | m
      · exact (a2 b m).mono kA
      · exact (b2 b m).mono kB
end
end
def hoOf (o : Obj) : Option HO := match o.data with
  | .seq vs _ => if (o.cls == Value.type "list") = true then some (.frz o (.lst (vs.toList.map toV))) else some (.frz o (.tup (vs.toList.map toV)))
  | _ => none
def argH (K : PySem.W.Frag) (h : Heap) (A : List Addr) : Hp := fun b => if b ∈ A then (if (K.lookup b).isNone = true then (h.get? b).bind hoOf else none) else none
def OnlyF (H : Hp) : Prop := ∀ b, H b = none ∨ ∃ o u, H b = some (.frz o u)
theorem hoOf_lst (vs : List Value) : hoOf { cls := .type "list", data := .seq vs.toArray } = some (.frz { cls := .type "list", data := .seq vs.toArray } (.lst (vs.map toV))) := by
  show (if (Value.type "list" == Value.type "list") = true then some (HO.frz { cls := .type "list", data := .seq vs.toArray } (.lst (vs.toArray.toList.map toV))) else some (HO.frz { cls := .type "list", data := .seq vs.toArray } (.tup (vs.toArray.toList.map toV)))) = _
  rw [if_pos (beq_self_eq_true _)]
theorem hoOf_tup (vs : List Value) : hoOf { cls := .type "tuple", data := .seq vs.toArray } = some (.frz { cls := .type "tuple", data := .seq vs.toArray } (.tup (vs.map toV))) := by
  show (if (Value.type "tuple" == Value.type "list") = true then some (HO.frz { cls := .type "tuple", data := .seq vs.toArray } (.lst (vs.toArray.toList.map toV))) else some (HO.frz { cls := .type "tuple", data := .seq vs.toArray } (.tup (vs.toArray.toList.map toV)))) = _
  rw [if_neg (by decide)]
section
variable {P : Program} {w : World} {K : PySem.W.Frag} {h : Heap} {A : List Addr}
theorem argH_at {b : Addr} {o : Obj} (hb : b ∈ A) (hk : K.lookup b = none) (e : h.get? b = some o) : argH K h A b = hoOf o := by
  unfold argH
  rw [if_pos hb, hk, if_pos (show (none : Option Obj).isNone = true from rfl), e] <;> rfl
theorem of_argH {b : Addr} {u : HO} (q : argH K h A b = some u) : b ∈ A ∧ K.lookup b = none := by
  unfold argH at q
  by_cases hb : b ∈ A
  · rw [if_pos hb] at q
    cases hk : K.lookup b with
    | none => exact ⟨hb, rfl⟩
    | some o =>
      rw [hk, if_neg (by simp)] at q
      cases q
  · rw [if_neg hb] at q
    cases q
theorem argH_is (ar : ∀ a ∈ A, ArgOb h A a) {b : Addr} {u : HO} (q : argH K h A b = some u) : K.lookup b = none ∧ ∃ vs : List Value, vs.length ≤ sizeLine ∧ (∀ u ∈ vs, OkU A u) ∧
    ((h.get? b = some { cls := .type "list", data := .seq vs.toArray } ∧ u = .frz { cls := .type "list", data := .seq vs.toArray } (.lst (vs.map toV))) ∨
     (h.get? b = some { cls := .type "tuple", data := .seq vs.toArray } ∧ u = .frz { cls := .type "tuple", data := .seq vs.toArray } (.tup (vs.map toV)))) := by
  obtain ⟨hb, hk⟩ := of_argH q
  obtain ⟨vs, h1, h2, h3⟩ := ar b hb
  refine ⟨hk, vs, h1, h2, ?_⟩
  rcases h3 with e | e
  · rw [argH_at hb hk e, hoOf_lst] at q
    exact .inl ⟨e, (Option.some.inj q).symm⟩
  · rw [argH_at hb hk e, hoOf_tup] at q
    exact .inr ⟨e, (Option.some.inj q).symm⟩
theorem argH_only (ar : ∀ a ∈ A, ArgOb h A a) : OnlyF (argH K h A) := fun b => by
  cases q : argH K h A b with
  | none => exact .inl rfl
  | some u =>
    obtain ⟨_, vs, _, _, ⟨_, e⟩ | ⟨_, e⟩⟩ := argH_is ar q
    · exact .inr ⟨_, _, by rw [e]⟩
    · exact .inr ⟨_, _, by rw [e]⟩
theorem argH_ok (ar : ∀ a ∈ A, ArgOb h A a) : HOk P w (argH K h A) h := fun b u q => by
  obtain ⟨_, vs, h1, h2, ⟨e, rfl⟩ | ⟨e, rfl⟩⟩ := argH_is ar q
  · exact ⟨e, by rw [List.length_map]; exact h1, vs, _, vals_toV h2, e⟩
  · exact ⟨e, by rw [List.length_map]; exact h1, vs, vals_toV h2, _, e, rfl, _, rfl⟩
theorem seq_inj {c c' : Value} {vs us : List Value} (e : (some { cls := c, data := .seq vs.toArray } : Option Obj) = some { cls := c', data := .seq us.toArray }) : c = c' ∧ vs = us := by
  have e1 := Option.some.inj e
  have e2 : c = c' := congrArg Obj.cls e1
  have e3 : Data.seq vs.toArray = Data.seq us.toArray := congrArg Obj.data e1
  injection e3 with e4
  refine ⟨e2, ?_⟩
  have e5 := congrArg Array.toList e4
  simpa using e5
theorem argL (KX : K.In h) (ar : ∀ a ∈ A, ArgOb h A a) {a : Addr} {vs : List Value} (ha : a ∈ A) (e : h.get? a = some { cls := .type "list", data := .seq vs.toArray }) : (∀ u ∈ vs, OkU A u) ∧ SqL K (argH K h A) a (vs.map toV) := by
  obtain ⟨us, h1, h2, h3⟩ := ar a ha
  have hu : us = vs := by
    rcases h3 with q | q
    · rw [e] at q
      exact (seq_inj q).2.symm
    · rw [e] at q
      exact absurd (Value.type.inj (seq_inj q).1) (by decide)
  subst hu
  refine ⟨h2, ?_⟩
  cases hk : K.lookup a with
  | none => exact .inl (.inr ⟨_, by rw [argH_at ha hk e, hoOf_lst]⟩)
  | some o =>
    have e2 := KX a o hk
    rw [e] at e2
    obtain rfl := Option.some.inj e2
    exact .inr ⟨_, us.toArray, _, hk, rfl, rfl, rfl, by rw [List.size_toArray]; exact h1, by simpa using vals_toV h2⟩
theorem argT (KX : K.In h) (ar : ∀ a ∈ A, ArgOb h A a) {a : Addr} {vs : List Value} (ha : a ∈ A) (e : h.get? a = some { cls := .type "tuple", data := .seq vs.toArray }) : (∀ u ∈ vs, OkU A u) ∧ SqT K (argH K h A) a (vs.map toV) := by
  obtain ⟨us, h1, h2, h3⟩ := ar a ha
  have hu : us = vs := by
    rcases h3 with q | q
    · rw [e] at q
      exact absurd (Value.type.inj (seq_inj q).1) (by decide)
    · rw [e] at q
      exact (seq_inj q).2.symm
  subst hu
  refine ⟨h2, ?_⟩
  cases hk : K.lookup a with
  | none => exact .inl (.inr ⟨_, by rw [argH_at ha hk e, hoOf_tup]⟩)
  | some o =>
    have e2 := KX a o hk
    rw [e] at e2
    obtain rfl := Option.some.inj e2
    exact .inr ⟨_, us.toArray, _, hk, rfl, rfl, by rw [List.size_toArray]; exact h1, by simpa using vals_toV h2⟩
mutual
theorem dw_one {Pm : Params} (KX : K.In h) (ar : ∀ a ∈ A, ArgOb h A a) : ∀ (d : WData) (v : Value), Well Pm h v d → plW d = true → OkU A v → Dw K (argH K h A) (toV v) d
  | .none, _, x, _, _ => by
    cases x
    exact .non
  | .bool b, _, x, _, _ => by
    cases x
    exact .bl b
  | .int i, _, x, _, _ => by
    cases x
    exact .int i
  | .str s, _, x, _, _ => by
    cases x
    exact .str s
  | .bytes b, _, x, _, _ => by
    cases x
    have z := Dw.byt (K := K) (H := argH K h A) b.toArray
    exact z
  | .list ds, _, x, p, hu => by
    obtain ⟨a, vs, rfl, ho, hall⟩ := well_list x
    obtain ⟨h2, hs⟩ := argL KX ar hu ho
    exact .lst hs (dw_all KX ar ds _ hall p h2)
  | .tuple ds, _, x, p, hu => by
    obtain ⟨a, vs, rfl, ho, hall⟩ := well_tuple x
    obtain ⟨h2, hs⟩ := argT KX ar hu ho
    exact .tup hs (dw_all KX ar ds _ hall p h2)
  | .float _, _, _, p, _ => Bool.noConfusion (show false = true from p)
  | .dict _, _, _, p, _ => Bool.noConfusion (show false = true from p)
  | .bytearray _, _, _, p, _ => Bool.noConfusion (show false = true from p)
  | .set _, _, _, p, _ => Bool.noConfusion (show false = true from p)
  | .frozenset _, _, _, p, _ => Bool.noConfusion (show false = true from p)
  | .obj _ _, _, _, p, _ => Bool.noConfusion (show false = true from p)
theorem dw_all {Pm : Params} (KX : K.In h) (ar : ∀ a ∈ A, ArgOb h A a) : ∀ (ds : List WData) (vs : List Value), WellAll Pm h vs ds → plWs ds = true → (∀ u ∈ vs, OkU A u) → DwAll K (argH K h A) (vs.map toV) ds
  | [], _, x, _, _ => by
    cases x
    exact .nil
  | d :: ds, _, x, p, hu => by
    obtain ⟨v, vs, rfl, x1, x2⟩ := well_cons x
    have q : plW d = true ∧ plWs ds = true := Bool.and_eq_true_iff.mp p
    exact .cons (dw_one KX ar d v x1 q.1 (hu _ (List.mem_cons_self ..))) (dw_all KX ar ds vs x2 q.2 fun u m => hu u (List.mem_cons_of_mem _ m))
end
end
theorem spec_call {P : Program} {w : World} {K : PySem.W.Frag} {mg mb : Str → Option Value} {CX : CXT} {k : Nat} {fa : Addr} {fd : FuncData} {ps : List Str} {sp : Sp} {s₁ : Shared} {vals : List Value} {ds : List WData} {R : PySem.W.WRecords} {cl : Str → Option Addr} {d0 : WData}
    (KX : K.In s₁.heap) (hns : s₁.heap.Ns mainGlobals mg) (hb : s₁.heap.Ns builtinsNs mb) (hbb : ∀ x : Str, x ≠ "__name__" → mb x = bootBuiltins x) (hlim : s₁.heap.NoLimit) (hg : s₁.gens = #[])
    (hwl : WellAll w.params s₁.heap vals ds) (hpl : plWs ds = true) (hwt : ∀ d ∈ ds, d.weight ≤ 1048576) (hr : Room k callerA)
    (F : ∀ base : Heap, K.In base → base.Ns mainGlobals mg → FnOk P w K mg base CX k fa fd ps sp) (hbind : ∀ (s : Shared) (us : List Value), us.length = ps.length → BindsTo s fd ⟨us, []⟩ (ps.zip us)) (hlen : ds.length = ps.length)
    (hsp : ∀ (H : Hp) (xs : List V), OnlyF H → DwAll K H xs ds → sp xs H (fun v H' => Dw K H' v d0) fun _ _ _ => False)
    (hCX : ∀ H e s', CX [] H s₁ (fun _ _ _ => False) e s' → False) :
    codeAny (model P w) callerA (.call (.ref fa) ⟨vals, []⟩) (fun r s' => ∃ u as, r = .ok (.ret u) ∧ ReadsW R cl s'.heap u d0 as ∧ OldK s₁.heap s'.heap ∧ s'.os = s₁.os ∧ AllBare s'.gens) s₁ := by
  obtain ⟨A, ho, ar⟩ := area_all ds vals hwl hpl hwt
  have hO : OnlyF (argH K s₁.heap A) := argH_only ar
  have hok : HOk P w (argH K s₁.heap A) s₁.heap := argH_ok ar
  have hS := dw_all KX ar ds vals hwl hpl ho
  have hV := vals_toV ho
  have hK : ∀ b u, argH K s₁.heap A b = some u → K.lookup b = none := fun b u q => (argH_is ar q).1
  have noA : ∀ {b : Addr} {o : Obj} {es : Array DictEntry} {ep : Nat}, s₁.heap.get? b = some o → o.data = .dict es ep → argH K s₁.heap A b = none := fun {b o es ep} e d => by
    cases q : argH K s₁.heap A b with
    | none => rfl
    | some u =>
      obtain ⟨_, vs, _, _, ⟨e2, _⟩ | ⟨e2, _⟩⟩ := argH_is ar q
      · rw [e2] at e
        cases e
        have d' : Data.seq vs.toArray _ = Data.dict es ep := d
        cases d'
      · rw [e2] at e
        cases e
        have d' : Data.seq vs.toArray _ = Data.dict es ep := d
        cases d'
  generalize argH K s₁.heap A = H at hO hok hS hK noA
  have base_of : ∀ {b : Addr} {o : Obj}, s₁.heap.get? b = some o → H b = none → (hidT s₁.heap H).get? b = some o := fun e n => hidT_get e n
  have nsK : ∀ {b : Addr} {m : Str → Option Value}, s₁.heap.Ns b m → (hidT s₁.heap H).Ns b m := fun {b m} ⟨o, es, ep, e, d, r⟩ => ⟨o, es, ep, base_of e (noA e d), d, r⟩
  have nK : ∀ b o, K.lookup b = some o → H b = none := fun b o e => by
    cases q : H b with
    | none => rfl
    | some u =>
      rw [hK b u q] at e
      cases e
  have hKb : K.In (hidT s₁.heap H) := fun b o e => base_of (KX b o e) (nK b o e)
  have hM : Mod K mg (hidT s₁.heap H) := ⟨hKb, nsK hns, ⟨mb, nsK hb, hbb⟩, let ⟨mc, h1, h2⟩ := hlim; ⟨mc, nsK h1, h2⟩⟩
  have e0 : Env0 P w K mg (hidT s₁.heap H) callerA [] s₁ H := ⟨rfl, hM, fun b o e => of_hidT e, Nat.le_of_eq (hidT_size _ _), trivial, fun b hb => absurd (show b ∈ ([] : List Addr) from hb) (by simp), hok, .of_eq hg⟩
  have hl : vals.length = ps.length := by rw [wellAll_len hwl]; exact hlen
  refine codeAny_mono ((F _ hKb (nsK hns)).run callerA [] s₁ H ⟨vals, []⟩ vals (vals.map toV) _ _ hr e0 (hbind s₁ vals hl) hV (hsp H _ hO hS)) fun r s' x => ?_
  cases r with
  | error e => exact (hCX H e s' x).elim
  | ok fl =>
    cases fl with
    | next => exact False.elim x
    | brk => exact False.elim x
    | cont => exact False.elim x
    | ret u =>
      obtain ⟨v, H', os, bare, un, hok', r', q⟩ := x
      have kept : ∀ b o, s₁.heap.get? b = some o → s'.heap.get? b = some o := fun b o e => by
        cases q2 : H b with
        | none => exact un.keep b o e q2 (by intro z; exact absurd (show b ∈ ([] : List Addr) from z) (by simp)) (by simp)
        | some u2 =>
          rcases hO b with z | ⟨ob, u3, z⟩
          · rw [q2] at z
            cases z
          · have z2 := un.frzs b ob _ z
            obtain ⟨e1, _⟩ := hok b _ z
            obtain ⟨e2, _⟩ := hok' b _ z2
            rw [e] at e1
            cases e1
            exact e2
      have KX' : K.In s'.heap := fun b o e => kept b o (KX b o e)
      obtain ⟨as, hrd⟩ := Dw.reads (R := R) (cl := cl) hok' KX' d0 v u q r'
      exact ⟨u, as, rfl, hrd, OldK.of_keep kept, os, bare⟩
theorem layable_weight {ds : List WData} (h : WData.layableAll ds = true) : ∀ d ∈ ds, d.weight ≤ 1048576 := fun d hd =>
  (PySem.W.layableW_iff.mp (List.all_eq_true.mp h d hd)).2.2
theorem encAll_len : ∀ (cs : List Codec) (a : Codec.denoteAll cs), (Codec.encAll cs a).length = cs.length
  | [], _ => rfl
  | c :: cs, a => by
    show (Codec.encAll cs a.2).length + 1 = cs.length + 1
    rw [encAll_len cs a.2]
theorem walk_spec {r : OpenSpec} {k : Nat} {q : Program} {loose : List Str} {XP : (Str → Option Value) → Heap → Prop} {YP : World → Heap → Prop} {d : DefRec} {K : Params → PySem.W.Frag} {CX : World → CXT} {ps : List Str} {sp : World → Sp}
    (hwell : r.wellSaid = true) (hdf : d.params.defaults = []) (hlen : r.args.length = ps.length) (hr : Room k callerA)
    (hY : ∀ (w : World) (h : Heap), YP w h → (K w.params).In h)
    (F : ∀ (w : World) (mg : Str → Option Value) (fa : Addr) (h : Heap), YP w h → (K w.params).In h → h.Ns mainGlobals mg → mg d.name = some (.ref fa) →
      ∃ fd : FuncData, (∀ (s : Shared) (us : List Value), us.length = ps.length → BindsTo s fd ⟨us, []⟩ (ps.zip us)) ∧
        ∀ base : Heap, (K w.params).In base → base.Ns mainGlobals mg → FnOk r.prog w (K w.params) mg base (CX w) k fa fd ps (sp w))
    (hsp : ∀ (w : World) (H : Hp) (xs : List V) (a : Codec.denoteAll r.args), OnlyF H → Codec.withinAll r.args a = true → Codec.app r.args r.asked a = true → DwAll (K w.params) H xs (Codec.encAll r.args a) →
      sp w xs H (fun v H' => Dw (K w.params) H' v (r.ret.enc (Codec.app r.args r.f a))) fun _ _ _ => False)
    (hCX : ∀ (w : World) (H : Hp) (s : Shared) (e : Value) (s' : Shared), CX w [] H s (fun _ _ _ => False) e s' → False) :
    PySem.W.WalkOS q loose XP YP r d [] (fun f vs => PySem.call f vs) := by
  intro w s_0 s₁ mg mb G Y fa o pm cd doc dV kV ho hd hcd hD hmg hg args vals as hpre hlay hrd hwl hlo
  obtain ⟨a, e1, e2⟩ := PySem.W.os_pre_some hpre
  obtain ⟨e3, hwi⟩ := Codec.encAll_of_decAll r.args args a e1
  subst e3
  have KX := hY w _ Y
  obtain ⟨fd, hb, hF⟩ := F w mg fa _ Y KX G.T.g hmg
  refine PySem.W.enter_call (codeAny_mono (spec_call (R := []) (cl := classAt s_0.heap) (d0 := r.ret.enc (Codec.app r.args r.f a)) KX G.T.g G.T.b G.T.builtins G.T.nolimit hg hwl (pl_encAll _ _) (layable_weight hlay) hr hF hb (by rw [encAll_len]; exact hlen)
    (fun H xs hO hS => hsp w H xs a hO hwi e2 hS) fun H e s' => hCX w H s₁ e s') fun r' s' hq => ?_)
  obtain ⟨u, as', rfl, h1, h2, h3, h4⟩ := hq
  exact ⟨.inl ⟨u, _, as', rfl, fun _ => rfl, h1, (OpenSpec.post_iff hwell hwi _ _).mpr rfl, fun z => Bool.noConfusion (show false = true from z)⟩, h2, h3, h4⟩
theorem walk_specK {r : OpenSpec} {k : Nat} {q : Program} {loose : List Str} {XP : (Str → Option Value) → Heap → Prop} {YP : World → Heap → Prop} {d : DefRec} {K : Params → PySem.W.Frag} {CX : CXT} {ps : List Str} {sp : PySem.W.Frag → Sp}
    (hwell : r.wellSaid = true) (hdf : d.params.defaults = []) (hlen : r.args.length = ps.length) (hr : Room k callerA)
    (hY : ∀ (w : World) (h : Heap), YP w h → (K w.params).In h)
    (F : ∀ (w : World) (mg : Str → Option Value) (fa : Addr) (h : Heap), YP w h → (K w.params).In h → h.Ns mainGlobals mg → mg d.name = some (.ref fa) →
      ∃ fd : FuncData, (∀ (s : Shared) (us : List Value), us.length = ps.length → BindsTo s fd ⟨us, []⟩ (ps.zip us)) ∧
        ∀ base : Heap, (K w.params).In base → base.Ns mainGlobals mg → FnOk r.prog w (K w.params) mg base CX k fa fd ps (sp (K w.params)))
    (hsp : ∀ (K : PySem.W.Frag) (H : Hp) (xs : List V) (a : Codec.denoteAll r.args), OnlyF H → Codec.withinAll r.args a = true → Codec.app r.args r.asked a = true → DwAll K H xs (Codec.encAll r.args a) →
      sp K xs H (fun v H' => Dw K H' v (r.ret.enc (Codec.app r.args r.f a))) fun _ _ _ => False)
    (hCX : ∀ (H : Hp) (s : Shared) (e : Value) (s' : Shared), CX [] H s (fun _ _ _ => False) e s' → False) :
    PySem.W.WalkOS q loose XP YP r d [] (fun f vs => PySem.call f vs) :=
  walk_spec (K := K) (CX := fun _ => CX) (sp := fun w => sp (K w.params)) hwell hdf hlen hr hY F (fun w H xs a h1 h2 h3 h4 => hsp (K w.params) H xs a h1 h2 h3 h4) fun _ H s e s' => hCX H s e s'
end L2
end
section
set_option Elab.async false
set_option linter.all false
set_option maxRecDepth 100000
namespace Hf
open Km446 (Sea Place Heli Desk Call Ans)
abbrev KCall := Km446.Call
/-! ## the nearest open base -/
def nstep (s : Sea) (p : Nat) (r : Option (Nat × Nat)) (b : Nat) : Option (Nat × Nat) := match s.way p b, r with
  | none, _ => r
  | some d, none => some (b, d)
  | some d, some (c, e) => if d < e then some (b, d) else some (c, e)
theorem nearest_eq (s : Sea) (p : Nat) : s.nearest p = s.bases.foldl (nstep s p) none := rfl
theorem nstep_none {s : Sea} {p : Nat} {r : Option (Nat × Nat)} {b : Nat} (h : s.way p b = none) : nstep s p r b = r := by
  unfold nstep; rw [h]
theorem nstep_some0 {s : Sea} {p b d : Nat} (h : s.way p b = some d) : nstep s p none b = some (b, d) := by
  unfold nstep; rw [h]
theorem nstep_some {s : Sea} {p b d c e : Nat} (h : s.way p b = some d) : nstep s p (some (c, e)) b = if d < e then some (b, d) else some (c, e) := by
  unfold nstep; rw [h]
/-- the state of the fold is some pair that was there or is a base with its way -/
theorem fold_mem {s : Sea} {p : Nat} : ∀ (l : List Nat) (r : Option (Nat × Nat)) (c e : Nat), l.foldl (nstep s p) r = some (c, e) → r = some (c, e) ∨ (c ∈ l ∧ s.way p c = some e)
  | [], r, c, e, h => .inl h
  | b :: l, r, c, e, h => by
    rw [List.foldl_cons] at h
    rcases fold_mem l _ c e h with h | ⟨h1, h2⟩
    · cases hw : s.way p b with
      | none => rw [nstep_none hw] at h; exact .inl h
      | some d =>
        cases r with
        | none =>
          rw [nstep_some0 hw] at h
          cases h
          exact .inr ⟨List.mem_cons_self .., hw⟩
        | some ce =>
          obtain ⟨c0, e0⟩ := ce
          rw [nstep_some hw] at h
          split at h
          · cases h
            exact .inr ⟨List.mem_cons_self .., hw⟩
          · exact .inl h
    · exact .inr ⟨List.mem_cons_of_mem _ h1, h2⟩
theorem nstep_le {s : Sea} {p b : Nat} {c e : Nat} : ∃ c' e', nstep s p (some (c, e)) b = some (c', e') ∧ e' ≤ e := by
  cases hw : s.way p b with
  | none => exact ⟨c, e, nstep_none hw, Nat.le_refl _⟩
  | some d =>
    rw [nstep_some hw]
    split
    · exact ⟨b, d, rfl, by omega⟩
    · exact ⟨c, e, rfl, Nat.le_refl _⟩
theorem fold_le {s : Sea} {p : Nat} : ∀ (l : List Nat) (c e : Nat), ∃ c' e', l.foldl (nstep s p) (some (c, e)) = some (c', e') ∧ e' ≤ e
  | [], c, e => ⟨c, e, rfl, Nat.le_refl _⟩
  | b :: l, c, e => by
    obtain ⟨c1, e1, h1, h2⟩ := nstep_le (s := s) (p := p) (b := b) (c := c) (e := e)
    obtain ⟨c2, e2, h3, h4⟩ := fold_le l c1 e1
    exact ⟨c2, e2, by rw [List.foldl_cons, h1, h3], by omega⟩
theorem fold_in {s : Sea} {p : Nat} : ∀ (l : List Nat) (r : Option (Nat × Nat)) (b d : Nat), b ∈ l → s.way p b = some d → ∃ c e, l.foldl (nstep s p) r = some (c, e) ∧ e ≤ d
  | [], _, _, _, h, _ => by cases h
  | a :: l, r, b, d, h, hw => by
    rw [List.foldl_cons]
    rcases List.mem_cons.mp h with h | h
    · subst h
      cases r with
      | none => rw [nstep_some0 hw]; exact fold_le l b d
      | some ce =>
        obtain ⟨c0, e0⟩ := ce
        rw [nstep_some hw]
        split
        · exact fold_le l b d
        · obtain ⟨c2, e2, h3, h4⟩ := fold_le (s := s) (p := p) l c0 e0
          exact ⟨c2, e2, h3, by omega⟩
    · exact fold_in l _ b d h hw
theorem nearest_mem {s : Sea} {p c e : Nat} (h : s.nearest p = some (c, e)) : c ∈ s.bases ∧ s.way p c = some e := by
  rcases fold_mem s.bases none c e h with h | h
  · cases h
  · exact h
theorem nearest_le {s : Sea} {p b d : Nat} (hb : b ∈ s.bases) (hw : s.way p b = some d) : ∃ c e, s.nearest p = some (c, e) ∧ e ≤ d := fold_in s.bases none b d hb hw
theorem mem_bases {s : Sea} {b : Nat} : b ∈ s.bases ↔ b < s.places.length ∧ (s.place b).base = true ∧ (s.place b).open_ = true := by
  unfold Km446.Sea.bases
  rw [List.mem_filter, List.mem_range, Bool.and_eq_true]
theorem place_get {s : Sea} {p : Nat} {x : Place} (h : s.places[p]? = some x) : s.place p = x := by
  unfold Km446.Sea.place
  rw [List.getD_eq_getElem?_getD, h]; rfl
theorem way_self (s : Sea) (p : Nat) : s.way p p = some 0 := by unfold Km446.Sea.way; rw [if_pos rfl]
theorem way_ne {s : Sea} {a b : Nat} (h : a ≠ b) : s.way a b = if s.ways a b = 0 then none else some (s.ways a b) := by unfold Km446.Sea.way; rw [if_neg h]
/-- it can come back from p with so much fuel -/
def Back (s : Sea) (burn p fuel : Nat) : Prop := ∃ c e, s.nearest p = some (c, e) ∧ burn * (e + s.reserve) ≤ fuel
theorem back_iff {s : Sea} {h : Heli} : s.back h = true ↔ Back s h.burn h.place h.fuel := by
  unfold Km446.Sea.back Km446.Sea.must Back
  cases e : s.nearest h.place with
  | none => simp
  | some x =>
    obtain ⟨c, d⟩ := x
    simp only [Option.map_some, decide_eq_true_eq]
    exact ⟨fun h => ⟨c, d, rfl, h⟩, fun ⟨c', e', h1, h2⟩ => by cases h1; exact h2⟩
theorem Back.more {s : Sea} {b p f g : Nat} (h : Back s b p f) (l : f ≤ g) : Back s b p g := by
  obtain ⟨c, e, h1, h2⟩ := h
  exact ⟨c, e, h1, Nat.le_trans h2 l⟩
theorem Back.must {s : Sea} {h : Heli} (k : Back s h.burn h.place h.fuel) : ∃ n, s.must h h.place = some n ∧ n ≤ h.fuel := by
  obtain ⟨c, e, h1, h2⟩ := k
  exact ⟨_, by unfold Km446.Sea.must; rw [h1]; rfl, h2⟩
/-- at an open base the reserve is enough -/
theorem Back.base {s : Sea} {b p f : Nat} (hp : p ∈ s.bases) (hf : b * s.reserve ≤ f) : Back s b p f := by
  obtain ⟨c, e, h1, h2⟩ := nearest_le hp (way_self s p)
  have : e = 0 := by omega
  subst this
  exact ⟨c, 0, h1, by simpa using hf⟩
/-- more bases, the same ways: it can come back as well -/
theorem Back.grow {s t : Sea} {b p f : Nat} (h : Back s b p f) (hb : ∀ c, c ∈ s.bases → c ∈ t.bases) (hw : ∀ c, s.way p c = t.way p c) (hr : t.reserve = s.reserve) : Back t b p f := by
  obtain ⟨c, e, h1, h2⟩ := h
  obtain ⟨h3, h4⟩ := nearest_mem h1
  obtain ⟨c', e', h5, h6⟩ := nearest_le (hb c h3) ((hw c).symm.trans h4)
  refine ⟨c', e', h5, ?_⟩
  rw [hr]
  exact Nat.le_trans (Nat.mul_le_mul_left b (by omega)) h2
/-! ## what always holds of a sea -/
structure HeliOk (s : Sea) (x : Heli) : Prop where
  pl : x.place < s.places.length
  ft : x.fuel ≤ x.tank
  tk : x.tank ≤ 10000
  b1 : 1 ≤ x.burn
  b2 : x.burn ≤ 100
  o1 : 1 ≤ x.hover
  o2 : x.hover ≤ 100
  s1 : 1 ≤ x.seats
  s2 : x.seats ≤ 30
  w1 : 1 ≤ x.winch
  w2 : x.winch ≤ 60
  is : x.in_ ≤ x.seats
  bz : x.busy ≤ 1800
  bk : Back s x.burn x.place x.fuel
structure SeaOk (s : Sea) : Prop where
  np : s.places.length ≤ 6
  nh : s.helis.length ≤ 3
  rs : s.reserve ≤ 60
  tm : s.time ≤ 10000
  sym : ∀ a b, s.ways a b = s.ways b a
  wb : ∀ a b, s.ways a b ≤ 300
  wl : ∀ a b, s.ways a b ≠ 0 → a < s.places.length ∧ b < s.places.length ∧ a ≠ b
  op : ∀ (p : Nat) (x : Place), s.places[p]? = some x → x.open_ = true → x.base = true
  pn : ∀ (p : Nat) (x : Place), s.places[p]? = some x → x.persons ≤ 1000
  hl : ∀ (h : Nat) (x : Heli), s.helis[h]? = some x → HeliOk s x
theorem HeliOk.move {s t : Sea} {x : Heli} (k : HeliOk s x) (hl : s.places.length ≤ t.places.length) (hb : Back t x.burn x.place x.fuel) : HeliOk t x :=
  ⟨Nat.lt_of_lt_of_le k.pl hl, k.ft, k.tk, k.b1, k.b2, k.o1, k.o2, k.s1, k.s2, k.w1, k.w2, k.is, k.bz, hb⟩
/-- places change, but bases (open or not) stay -/
theorem bases_set {s : Sea} {p : Nat} {y : Place} (hy : y.base = (s.place p).base) (ho : y.open_ = (s.place p).open_) : (s.setPlace p y).bases = s.bases := by
  unfold Km446.Sea.bases Km446.Sea.setPlace
  simp only [List.length_set]
  refine List.filter_congr fun q hq => ?_
  have hq : q < s.places.length := List.mem_range.mp hq
  unfold Km446.Sea.place at *
  simp only [List.getD_eq_getElem?_getD, List.getElem?_set] at *
  by_cases e : p = q
  · subst e
    simp [hq] at *
    rw [hy, ho]
  · simp [e]
theorem nearest_cong {s t : Sea} {p : Nat} (hb : t.bases = s.bases) (hw : ∀ b, t.way p b = s.way p b) : t.nearest p = s.nearest p := by
  rw [nearest_eq, nearest_eq, hb]
  have e : nstep t p = nstep s p := by
    funext r b
    unfold nstep
    rw [hw]
  rw [e]
theorem Back.cong {s t : Sea} {b p f : Nat} (h : Back s b p f) (hb : t.bases = s.bases) (hw : ∀ c, t.way p c = s.way p c) (hr : t.reserve = s.reserve) : Back t b p f := by
  obtain ⟨c, e, h1, h2⟩ := h
  exact ⟨c, e, (nearest_cong hb hw).trans h1, by rw [hr]; exact h2⟩
theorem way_cong {s t : Sea} (h : t.ways = s.ways) (p b : Nat) : t.way p b = s.way p b := by unfold Km446.Sea.way; rw [h]
/-! ## every call keeps it -/
/-- one call upon a sea alone -/
def one (s : Sea) (c : KCall) : Desk × Ans := Km446.act ⟨s, [], []⟩ c
abbrev nxt (s : Sea) (c : KCall) : Sea := (one s c).1.now
abbrev ans (s : Sea) (c : KCall) : Ans := (one s c).2
theorem ok_opened {r : Nat} (h : r ≤ 60) : SeaOk (Km446.opened r) := by
  refine ⟨by simp [Km446.opened], by simp [Km446.opened], h, by simp [Km446.opened], fun _ _ => rfl, fun _ _ => by simp [Km446.opened], fun a b k => absurd rfl k, fun p x k => ?_, fun p x k => ?_, fun p x k => ?_⟩
  all_goals simp [Km446.opened] at k
theorem place_new {s : Sea} {x : Place} {p : Nat} (h : p < s.places.length) : ({ s with places := s.places ++ [x] } : Sea).place p = s.place p := by
  unfold Km446.Sea.place
  simp [List.getD_eq_getElem?_getD, List.getElem?_append_left h]
theorem ok_place {s : Sea} (k : SeaOk s) {x : Place} (hn : s.places.length < 6) (hx : x.open_ = true → x.base = true) (hp : x.persons ≤ 1000) : SeaOk { s with places := s.places ++ [x] } := by
  refine ⟨by simp; omega, k.nh, k.rs, k.tm, k.sym, k.wb, fun a b h => ?_, fun p y h => ?_, fun p y h => ?_, fun h y hy => ?_⟩
  · obtain ⟨h1, h2, h3⟩ := k.wl a b h
    simp
    exact ⟨by omega, by omega, h3⟩
  · by_cases e : p < s.places.length
    · rw [List.getElem?_append_left e] at h
      exact k.op p y h
    · rw [List.getElem?_append_right (by omega)] at h
      cases hz : p - s.places.length with
      | zero => rw [hz] at h; cases h; exact hx
      | succ n => rw [hz] at h; simp at h
  · by_cases e : p < s.places.length
    · rw [List.getElem?_append_left e] at h
      exact k.pn p y h
    · rw [List.getElem?_append_right (by omega)] at h
      cases hz : p - s.places.length with
      | zero => rw [hz] at h; cases h; exact hp
      | succ n => rw [hz] at h; simp at h
  · have q := k.hl h y hy
    refine q.move (by simp) (q.bk.grow (fun c hc => ?_) (fun c => rfl) rfl)
    obtain ⟨h1, h2⟩ := mem_bases.mp hc
    refine mem_bases.mpr ⟨by simp; omega, ?_⟩
    rw [place_new h1]
    exact h2
theorem ok_way {s : Sea} (k : SeaOk s) {a b n : Nat} (ha : a < s.places.length) (hb : b < s.places.length) (hne : a ≠ b) (hn : n ≤ 300) (hh : s.helis = []) :
    SeaOk { s with ways := fun x y => if (x = a ∧ y = b) ∨ (x = b ∧ y = a) then n else s.ways x y } := by
  refine ⟨k.np, k.nh, k.rs, k.tm, fun x y => ?_, fun x y => ?_, fun x y h => ?_, k.op, k.pn, fun h y hy => ?_⟩
  · show (if _ then _ else _) = (if _ then _ else _)
    rw [k.sym x y]
    by_cases e : (x = a ∧ y = b) ∨ (x = b ∧ y = a)
    · rw [if_pos e, if_pos (by omega)]
    · rw [if_neg e, if_neg (by omega)]
  · show (if _ then _ else _) ≤ 300
    have := k.wb x y
    split <;> omega
  · have h : (if (x = a ∧ y = b) ∨ (x = b ∧ y = a) then n else s.ways x y) ≠ 0 := h
    split at h
    · rename_i e
      show x < s.places.length ∧ y < s.places.length ∧ x ≠ y
      omega
    · exact k.wl x y h
  · have hy : s.helis[h]? = some y := hy
    rw [hh] at hy
    cases hy
theorem set_hl {s : Sea} (k : SeaOk s) {h : Nat} {y : Heli} (hy : HeliOk s y) : SeaOk (s.setHeli h y) := by
  refine ⟨k.np, by show (s.helis.set h y).length ≤ 3; rw [List.length_set]; exact k.nh, k.rs, k.tm, k.sym, k.wb, k.wl, k.op, k.pn, fun j z hz => ?_⟩
  have hz : (s.helis.set h y)[j]? = some z := hz
  rw [List.getElem?_set] at hz
  have tr : ∀ {z : Heli}, HeliOk s z → HeliOk (s.setHeli h y) z := fun q => q.move (Nat.le_refl _) (q.bk.cong rfl (fun _ => rfl) rfl)
  split at hz
  · split at hz
    · cases hz; exact tr hy
    · cases hz
  · exact tr (k.hl j z hz)
/-- a place is changed, whatever can come back still can -/
theorem set_pl {s : Sea} (k : SeaOk s) {p : Nat} {y : Place} (ho : y.open_ = true → y.base = true) (hn : y.persons ≤ 1000) (hb : ∀ (h : Nat) (x : Heli), s.helis[h]? = some x → Back (s.setPlace p y) x.burn x.place x.fuel) : SeaOk (s.setPlace p y) := by
  have e : ∀ (q : Nat) (z : Place), (s.places.set p y)[q]? = some z → z = y ∨ s.places[q]? = some z := fun q z hz => by
    rw [List.getElem?_set] at hz
    split at hz
    · split at hz
      · cases hz; exact .inl rfl
      · cases hz
    · exact .inr hz
  have hlen : (s.places.set p y).length = s.places.length := List.length_set
  refine ⟨by show (s.places.set p y).length ≤ 6; rw [hlen]; exact k.np, k.nh, k.rs, k.tm, k.sym, k.wb, fun a b h => by show a < (s.places.set p y).length ∧ b < (s.places.set p y).length ∧ a ≠ b; rw [hlen]; exact k.wl a b h, fun q z hz => ?_, fun q z hz => ?_, fun j z hz => ?_⟩
  · rcases e q z hz with h | h
    · rw [h]; exact ho
    · exact k.op q z h
  · rcases e q z hz with h | h
    · rw [h]; exact hn
    · exact k.pn q z h
  · exact (k.hl j z hz).move (by show s.places.length ≤ (s.places.set p y).length; rw [hlen]; exact Nat.le_refl _) (hb j z hz)
theorem ok_persons {s : Sea} (k : SeaOk s) {p n : Nat} (hp : p < s.places.length) (hn : n ≤ 1000) : SeaOk (s.setPlace p { s.place p with persons := n }) := by
  have hx : s.places[p]? = some (s.place p) := by
    unfold Km446.Sea.place
    rw [List.getD_eq_getElem?_getD, List.getElem?_eq_getElem hp]; rfl
  refine set_pl k (fun z => k.op p (s.place p) hx z) hn fun h x hh => (k.hl h x hh).bk.cong (bases_set rfl rfl) (fun _ => rfl) rfl
theorem get_place {s : Sea} {p : Nat} (hp : p < s.places.length) : s.places[p]? = some (s.place p) := by
  unfold Km446.Sea.place
  rw [List.getD_eq_getElem?_getD, List.getElem?_eq_getElem hp]; rfl
theorem ok_open {s : Sea} (k : SeaOk s) {b : Nat} (hp : b < s.places.length) (hb : (s.place b).base = true) : SeaOk (s.setPlace b { s.place b with open_ := true }) := by
  refine set_pl k (fun _ => hb) (show (s.place b).persons ≤ 1000 from k.pn b (s.place b) (get_place hp)) fun h x hh => (k.hl h x hh).bk.grow (fun c hc => ?_) (fun _ => rfl) rfl
  obtain ⟨h1, h2, h3⟩ := mem_bases.mp hc
  refine mem_bases.mpr ⟨by show c < (s.places.set b _).length; rw [List.length_set]; exact h1, ?_⟩
  have e : (s.setPlace b { s.place b with open_ := true }).place c = if b = c then { s.place b with open_ := true } else s.place c := by
    show (s.places.set b _).getD c _ = _
    rw [List.getD_eq_getElem?_getD, List.getElem?_set]
    by_cases e : b = c
    · subst e; rw [if_pos rfl, if_pos rfl, if_pos hp]; rfl
    · rw [if_neg e, if_neg e, get_place h1]; rfl
  rw [e]
  split
  · rename_i z; subst z; exact ⟨h2, rfl⟩
  · exact ⟨h2, h3⟩
theorem ok_close {s : Sea} (k : SeaOk s) {b : Nat} (hp : b < s.places.length) (h : ¬ ((s.setPlace b { s.place b with open_ := false }).helis.any fun x => !(s.setPlace b { s.place b with open_ := false }).back x) = true) : SeaOk (s.setPlace b { s.place b with open_ := false }) := by
  refine set_pl k (fun z => by cases z) (show (s.place b).persons ≤ 1000 from k.pn b (s.place b) (get_place hp)) fun j x hx => ?_
  have hm : x ∈ (s.setPlace b { s.place b with open_ := false }).helis := List.mem_of_getElem? hx
  refine back_iff.mp ?_
  cases q : (s.setPlace b { s.place b with open_ := false }).back x with
  | true => rfl
  | false => exact absurd (List.any_eq_true.mpr ⟨x, hm, by rw [q]; rfl⟩) h
theorem stay_le {s : Sea} {x : Heli} (k : HeliOk s x) {n : Nat} (h : n ≤ s.stay x / x.winch) : Back s x.burn x.place (x.fuel - n * x.winch * x.hover) ∧ n * x.winch * x.hover ≤ x.fuel := by
  obtain ⟨c, e, h1, h2⟩ := k.bk
  have e1 : s.stay x = (x.fuel - x.burn * (e + s.reserve)) / x.hover := by
    unfold Km446.Sea.stay Km446.Sea.must
    rw [h1]; rfl
  rw [e1] at h
  have a1 : n * x.winch ≤ (x.fuel - x.burn * (e + s.reserve)) / x.hover := (Nat.le_div_iff_mul_le (by have := k.w1; omega)).mp h
  have a2 : n * x.winch * x.hover ≤ x.fuel - x.burn * (e + s.reserve) := (Nat.le_div_iff_mul_le (by have := k.o1; omega)).mp a1
  exact ⟨⟨c, e, h1, by omega⟩, by omega⟩
/-- one step of a case split on a chain of ifs -/
theorem dite_cases {α : Type} {c : Prop} [Decidable c] {a b : α} {P : α → Prop} (h1 : c → P a) (h2 : ¬ c → P b) : P (if c then a else b) := by
  by_cases h : c
  · rw [if_pos h]; exact h1 h
  · rw [if_neg h]; exact h2 h
theorem ok_next {s : Sea} (k : SeaOk s) : ∀ c : KCall, SeaOk (nxt s c)
  | .start r => by
    refine dite_cases (P := fun z : Desk × Ans => SeaOk z.1.now) (fun _ => k) fun h => ok_opened (by omega)
  | .place b n => by
    refine dite_cases (P := fun z : Desk × Ans => SeaOk z.1.now) (fun _ => k) fun h => ?_
    refine dite_cases (P := fun z : Desk × Ans => SeaOk z.1.now) (fun _ => k) fun h' => ?_
    exact ok_place k (by simp only [Km446.PLACES] at h'; omega) (fun z => z) (by show n ≤ 1000; omega)
  | .way a b n => by
    refine dite_cases (P := fun z : Desk × Ans => SeaOk z.1.now) (fun _ => k) fun h => ?_
    refine dite_cases (P := fun z : Desk × Ans => SeaOk z.1.now) (fun _ => k) fun h' => ?_
    refine dite_cases (P := fun z : Desk × Ans => SeaOk z.1.now) (fun _ => k) fun h'' => ?_
    refine ok_way k (by simp only [] at h; omega) (by simp only [] at h; omega) (by omega) (by omega) ?_
    exact Decidable.of_not_not h''
  | .heli p t b o c w => by
    refine dite_cases (P := fun z : Desk × Ans => SeaOk z.1.now) (fun _ => k) fun h => ?_
    refine dite_cases (P := fun z : Desk × Ans => SeaOk z.1.now) (fun _ => k) fun h' => ?_
    refine dite_cases (P := fun z : Desk × Ans => SeaOk z.1.now) (fun _ => k) fun h'' => ?_
    refine dite_cases (P := fun z : Desk × Ans => SeaOk z.1.now) (fun _ => k) fun h3 => ?_
    have h : ¬ s.places.length ≤ p := h
    have h' : ¬ (t = 0 ∨ 10000 < t ∨ b = 0 ∨ 100 < b ∨ o = 0 ∨ 100 < o ∨ c = 0 ∨ 30 < c ∨ w = 0 ∨ 60 < w ∨ t < b * s.reserve) := h'
    have h'' : ¬ (((s.place p).base && (s.place p).open_) = false) := h''
    have h3 : ¬ (3 ≤ s.helis.length) := h3
    have hb : p ∈ s.bases := mem_bases.mpr ⟨by omega, by simpa using h''⟩
    refine ⟨k.np, by show (s.helis ++ [_]).length ≤ 3; rw [List.length_append]; simp; omega, k.rs, k.tm, k.sym, k.wb, k.wl, k.op, k.pn, fun j y hy => ?_⟩
    have hy : (s.helis ++ [(⟨p, 0, t, t, b, o, c, 0, w⟩ : Heli)])[j]? = some y := hy
    by_cases e : j < s.helis.length
    · rw [List.getElem?_append_left e] at hy
      have q := k.hl j y hy
      exact q.move (Nat.le_refl _) (q.bk.cong rfl (fun _ => rfl) rfl)
    · rw [List.getElem?_append_right (by omega)] at hy
      cases hz : j - s.helis.length with
      | succ n => rw [hz] at hy; simp at hy
      | zero =>
        rw [hz] at hy
        cases hy
        have q : HeliOk s ⟨p, 0, t, t, b, o, c, 0, w⟩ := ⟨by show p < _; omega, Nat.le_refl _, by show t ≤ _; omega, by show 1 ≤ b; omega, by show b ≤ _; omega, by show 1 ≤ o; omega, by show o ≤ _; omega, by show 1 ≤ c; omega, by show c ≤ _; omega, by show 1 ≤ w; omega, by show w ≤ _; omega, Nat.zero_le _, Nat.zero_le _,
          Back.base hb (by show b * s.reserve ≤ t; omega)⟩
        exact q.move (Nat.le_refl _) (q.bk.cong rfl (fun _ => rfl) rfl)
  | .go h p => by
    unfold nxt one Km446.act
    show SeaOk (match s.helis[h]? with | none => _ | some x => _ : Desk × Ans).1.now
    cases e : s.helis[h]? with
    | none => exact k
    | some x =>
      have q := k.hl h x e
      refine dite_cases (P := fun z : Desk × Ans => SeaOk z.1.now) (fun _ => k) fun h1 => ?_
      refine dite_cases (P := fun z : Desk × Ans => SeaOk z.1.now) (fun _ => k) fun h2 => ?_
      refine dite_cases (P := fun z : Desk × Ans => SeaOk z.1.now) (fun _ => k) fun h3 => ?_
      refine dite_cases (P := fun z : Desk × Ans => SeaOk z.1.now) (fun _ => k) fun h4 => ?_
      have h1 : ¬ s.places.length ≤ p := h1
      have h4 : ¬ (s.may x p = false) := h4
      have h4 : s.may x p = true := by cases z : s.may x p with | true => rfl | false => exact absurd z h4
      have hw := way_ne (s := s) h3
      have hb := k.wb x.place p
      unfold Km446.Sea.may at h4
      refine set_hl k ⟨by show p < _; omega, ?_, q.tk, q.b1, q.b2, q.o1, q.o2, q.s1, q.s2, q.w1, q.w2, q.is, ?_, ?_⟩
      · show x.fuel - _ ≤ x.tank
        have := q.ft
        omega
      · show s.ways x.place p ≤ 1800
        omega
      · rw [hw] at h4
        by_cases z : s.ways x.place p = 0
        · rw [if_pos z] at h4; cases h4
        · rw [if_neg z] at h4
          have h5 : (decide (x.burn * s.ways x.place p ≤ x.fuel) && s.back { x with place := p, fuel := x.fuel - x.burn * s.ways x.place p }) = true := h4
          rw [Bool.and_eq_true] at h5
          exact back_iff.mp h5.2
  | .winch h n => by
    unfold nxt one Km446.act
    show SeaOk (match s.helis[h]? with | none => _ | some x => _ : Desk × Ans).1.now
    cases e : s.helis[h]? with
    | none => exact k
    | some x =>
      have q := k.hl h x e
      refine dite_cases (P := fun z : Desk × Ans => SeaOk z.1.now) (fun _ => k) fun h1 => ?_
      refine dite_cases (P := fun z : Desk × Ans => SeaOk z.1.now) (fun _ => k) fun h2 => ?_
      refine dite_cases (P := fun z : Desk × Ans => SeaOk z.1.now) (fun _ => k) fun h3 => ?_
      refine dite_cases (P := fun z : Desk × Ans => SeaOk z.1.now) (fun _ => k) fun h4 => ?_
      refine dite_cases (P := fun z : Desk × Ans => SeaOk z.1.now) (fun _ => k) fun h5 => ?_
      have h3 : ¬ ((s.place x.place).persons < n) := h3
      have h4 : ¬ (x.seats < x.in_ + n) := h4
      have h5 : ¬ (s.lift x < n) := h5
      have h6 : n ≤ s.stay x / x.winch := by
        unfold Km446.Sea.lift at h5
        omega
      obtain ⟨h7, h8⟩ := stay_le q h6
      have hp := k.pn _ _ (get_place q.pl)
      have k1 := ok_persons k (p := x.place) (n := (s.place x.place).persons - n) q.pl (by omega)
      refine set_hl k1 ?_
      have hw : n * x.winch ≤ 30 * 60 := Nat.mul_le_mul (by have := q.s2; omega) q.w2
      refine ⟨by show x.place < (s.places.set _ _).length; rw [List.length_set]; exact q.pl, ?_, q.tk, q.b1, q.b2, q.o1, q.o2, q.s1, q.s2, q.w1, q.w2, by show x.in_ + n ≤ x.seats; omega, by show n * x.winch ≤ 1800; omega, ?_⟩
      · show x.fuel - _ ≤ x.tank
        have := q.ft
        omega
      · exact h7.cong (bases_set rfl rfl) (fun _ => rfl) rfl
  | .land h => by
    unfold nxt one Km446.act
    show SeaOk (match s.helis[h]? with | none => _ | some x => _ : Desk × Ans).1.now
    cases e : s.helis[h]? with
    | none => exact k
    | some x =>
      have q := k.hl h x e
      refine dite_cases (P := fun z : Desk × Ans => SeaOk z.1.now) (fun _ => k) fun h1 => ?_
      refine dite_cases (P := fun z : Desk × Ans => SeaOk z.1.now) (fun _ => k) fun h2 => ?_
      have k1 := set_hl k (h := h) (y := { x with in_ := 0 }) ⟨q.pl, q.ft, q.tk, q.b1, q.b2, q.o1, q.o2, q.s1, q.s2, q.w1, q.w2, Nat.zero_le _, q.bz, q.bk⟩
      exact ⟨k1.np, k1.nh, k1.rs, k1.tm, k1.sym, k1.wb, k1.wl, k1.op, k1.pn, fun j z hz => (k1.hl j z hz).move (Nat.le_refl _) ((k1.hl j z hz).bk.cong rfl (fun _ => rfl) rfl)⟩
  | .refuel h => by
    unfold nxt one Km446.act
    show SeaOk (match s.helis[h]? with | none => _ | some x => _ : Desk × Ans).1.now
    cases e : s.helis[h]? with
    | none => exact k
    | some x =>
      have q := k.hl h x e
      refine dite_cases (P := fun z : Desk × Ans => SeaOk z.1.now) (fun _ => k) fun h1 => ?_
      refine dite_cases (P := fun z : Desk × Ans => SeaOk z.1.now) (fun _ => k) fun h2 => ?_
      exact set_hl k (h := h) ⟨q.pl, Nat.le_refl _, q.tk, q.b1, q.b2, q.o1, q.o2, q.s1, q.s2, q.w1, q.w2, q.is, by show 10 ≤ 1800; decide, q.bk.more q.ft⟩
  | .minutes n => by
    refine dite_cases (P := fun z : Desk × Ans => SeaOk z.1.now) (fun _ => k) fun h => ?_
    refine dite_cases (P := fun z : Desk × Ans => SeaOk z.1.now) (fun _ => k) fun h' => ?_
    have h' : ¬ (10000 < s.time + n) := h'
    refine ⟨k.np, by show (s.helis.map _).length ≤ 3; rw [List.length_map]; exact k.nh, k.rs, by show s.time + n ≤ 10000; omega, k.sym, k.wb, k.wl, k.op, k.pn, fun j y hy => ?_⟩
    have hy : (s.helis.map fun x => { x with busy := x.busy - n })[j]? = some y := hy
    rw [List.getElem?_map] at hy
    cases e : s.helis[j]? with
    | none => rw [e] at hy; cases hy
    | some x =>
      rw [e] at hy
      cases hy
      have q := k.hl j x e
      exact ⟨q.pl, q.ft, q.tk, q.b1, q.b2, q.o1, q.o2, q.s1, q.s2, q.w1, q.w2, q.is, by show x.busy - n ≤ 1800; have := q.bz; omega, q.bk.cong rfl (fun _ => rfl) rfl⟩
  | .close b => by
    refine dite_cases (P := fun z : Desk × Ans => SeaOk z.1.now) (fun _ => k) fun h => ?_
    refine dite_cases (P := fun z : Desk × Ans => SeaOk z.1.now) (fun _ => k) fun h' => ?_
    refine dite_cases (P := fun z : Desk × Ans => SeaOk z.1.now) (fun _ => k) fun h'' => ?_
    exact ok_close k (by have h : ¬ s.places.length ≤ b := h; omega) h''
  | .open_ b => by
    refine dite_cases (P := fun z : Desk × Ans => SeaOk z.1.now) (fun _ => k) fun h => ?_
    refine dite_cases (P := fun z : Desk × Ans => SeaOk z.1.now) (fun _ => k) fun h' => ?_
    have h : ¬ (s.places.length ≤ b ∨ (s.place b).base = false) := h
    refine ok_open k (by omega) ?_
    cases z : (s.place b).base with
    | true => rfl
    | false => exact absurd (.inr z) h
  | .more p n => by
    refine dite_cases (P := fun z : Desk × Ans => SeaOk z.1.now) (fun _ => k) fun h => ?_
    refine dite_cases (P := fun z : Desk × Ans => SeaOk z.1.now) (fun _ => k) fun h' => ?_
    refine dite_cases (P := fun z : Desk × Ans => SeaOk z.1.now) (fun _ => k) fun h'' => ?_
    have h : ¬ (s.places.length ≤ p ∨ (s.place p).base = true) := h
    have h' : ¬ (n = 0 ∨ 1000 < (s.place p).persons + n) := h'
    exact ok_persons k (by omega) (by omega)
  | .may .. => k
  | .stay .. => k
  | .lift .. => k
  | .nearest .. => k
  | .must .. => k
  | .range_ .. => k
  | .brings .. => k
  | .least .. => k
  | .where_ .. => k
  | .look .. => k
  | .see .. => k
  | .far .. => k
  | .next => k
  | .sums => k
  | .back => k
  | .again => k
  | .state => k
end Hf
end
section
set_option Elab.async false
set_option linter.all false
set_option maxRecDepth 100000
namespace Hf
open Km446 (Sea Place Heli Desk Call Ans)
/-! ## the list handed in, as calls -/
def flat : KCall → List Int
  | .start reserve => [0, (reserve : Nat)]
  | .place b n => [1, (b : Nat), (n : Nat)]
  | .way a b n => [2, (a : Nat), (b : Nat), (n : Nat)]
  | .heli p t b o c w => [3, (p : Nat), (t : Nat), (b : Nat), (o : Nat), (c : Nat), (w : Nat)]
  | .go h p => [4, (h : Nat), (p : Nat)]
  | .winch h n => [5, (h : Nat), (n : Nat)]
  | .land h => [6, (h : Nat)]
  | .refuel h => [7, (h : Nat)]
  | .minutes n => [8, (n : Nat)]
  | .close b => [9, (b : Nat)]
  | .open_ b => [10, (b : Nat)]
  | .more p n => [11, (p : Nat), (n : Nat)]
  | .may h p => [12, (h : Nat), (p : Nat)]
  | .stay h => [13, (h : Nat)]
  | .lift h => [14, (h : Nat)]
  | .nearest p => [15, (p : Nat)]
  | .must h p => [16, (h : Nat), (p : Nat)]
  | .range_ h => [17, (h : Nat)]
  | .brings h p t => [18, (h : Nat), (p : Nat), (t : Nat)]
  | .least h p n => [19, (h : Nat), (p : Nat), (n : Nat)]
  | .where_ h => [20, (h : Nat)]
  | .look h => [21, (h : Nat)]
  | .see p => [22, (p : Nat)]
  | .far a b => [23, (a : Nat), (b : Nat)]
  | .next => [24]
  | .sums => [25]
  | .back => [26]
  | .again => [27]
  | .state => [28]
def told (a : Ans) : List Int := a.value :: a.out.map fun (x : Nat) => (x : Int)
/-- the calls one behind another -/
def runD : Desk → List KCall → List (List Int)
  | _, [] => []
  | d, x :: xs => told (Km446.act d x).2 :: runD (Km446.act d x).1 xs
theorem nat32 {z : Int} (h : Km446Neutral.natural z 32 = true) : 0 ≤ z ∧ z < 4294967296 := by
  unfold Km446Neutral.natural at h
  rw [Bool.and_eq_true, decide_eq_true_eq, decide_eq_true_eq] at h
  exact h
theorem tn {z : Int} (h : 0 ≤ z) : ((z.toNat : Nat) : Int) = z := Int.toNat_of_nonneg h
def Small : KCall → Prop := fun x => ∀ z ∈ flat x, 0 ≤ z ∧ z < 4294967296
theorem shape_cases {p : Int} {n k : Nat} (h : PyKm446.shape p = some (n, k)) : k = 0 ∧ ((p = 0 ∧ n = 1) ∨ (p = 1 ∧ n = 2) ∨ (p = 2 ∧ n = 3) ∨ (p = 3 ∧ n = 6) ∨ (p = 4 ∧ n = 2) ∨ (p = 5 ∧ n = 2) ∨ (p = 6 ∧ n = 1) ∨ (p = 7 ∧ n = 1) ∨ (p = 8 ∧ n = 1) ∨ (p = 9 ∧ n = 1) ∨ (p = 10 ∧ n = 1) ∨ (p = 11 ∧ n = 2) ∨ (p = 12 ∧ n = 2) ∨ (p = 13 ∧ n = 1) ∨ (p = 14 ∧ n = 1) ∨ (p = 15 ∧ n = 1) ∨ (p = 16 ∧ n = 2) ∨ (p = 17 ∧ n = 1) ∨ (p = 18 ∧ n = 3) ∨ (p = 19 ∧ n = 3) ∨ (p = 20 ∧ n = 1) ∨ (p = 21 ∧ n = 1) ∨ (p = 22 ∧ n = 1) ∨ (p = 23 ∧ n = 2) ∨ (p = 24 ∧ n = 0) ∨ (p = 25 ∧ n = 0) ∨ (p = 26 ∧ n = 0) ∨ (p = 27 ∧ n = 0) ∨ (p = 28 ∧ n = 0)) := by
  unfold PyKm446.shape at h
  by_cases e0 : p = 0
  · rw [if_pos e0] at h; cases h; exact ⟨rfl, by simp [e0]⟩
  rw [if_neg e0] at h
  by_cases e1 : p = 1
  · rw [if_pos e1] at h; cases h; exact ⟨rfl, by simp [e1]⟩
  rw [if_neg e1] at h
  by_cases e2 : p = 2
  · rw [if_pos e2] at h; cases h; exact ⟨rfl, by simp [e2]⟩
  rw [if_neg e2] at h
  by_cases e3 : p = 3
  · rw [if_pos e3] at h; cases h; exact ⟨rfl, by simp [e3]⟩
  rw [if_neg e3] at h
  by_cases e4 : p = 4
  · rw [if_pos e4] at h; cases h; exact ⟨rfl, by simp [e4]⟩
  rw [if_neg e4] at h
  by_cases e5 : p = 5
  · rw [if_pos e5] at h; cases h; exact ⟨rfl, by simp [e5]⟩
  rw [if_neg e5] at h
  by_cases e6 : p = 6
  · rw [if_pos e6] at h; cases h; exact ⟨rfl, by simp [e6]⟩
  rw [if_neg e6] at h
  by_cases e7 : p = 7
  · rw [if_pos e7] at h; cases h; exact ⟨rfl, by simp [e7]⟩
  rw [if_neg e7] at h
  by_cases e8 : p = 8
  · rw [if_pos e8] at h; cases h; exact ⟨rfl, by simp [e8]⟩
  rw [if_neg e8] at h
  by_cases e9 : p = 9
  · rw [if_pos e9] at h; cases h; exact ⟨rfl, by simp [e9]⟩
  rw [if_neg e9] at h
  by_cases e10 : p = 10
  · rw [if_pos e10] at h; cases h; exact ⟨rfl, by simp [e10]⟩
  rw [if_neg e10] at h
  by_cases e11 : p = 11
  · rw [if_pos e11] at h; cases h; exact ⟨rfl, by simp [e11]⟩
  rw [if_neg e11] at h
  by_cases e12 : p = 12
  · rw [if_pos e12] at h; cases h; exact ⟨rfl, by simp [e12]⟩
  rw [if_neg e12] at h
  by_cases e13 : p = 13
  · rw [if_pos e13] at h; cases h; exact ⟨rfl, by simp [e13]⟩
  rw [if_neg e13] at h
  by_cases e14 : p = 14
  · rw [if_pos e14] at h; cases h; exact ⟨rfl, by simp [e14]⟩
  rw [if_neg e14] at h
  by_cases e15 : p = 15
  · rw [if_pos e15] at h; cases h; exact ⟨rfl, by simp [e15]⟩
  rw [if_neg e15] at h
  by_cases e16 : p = 16
  · rw [if_pos e16] at h; cases h; exact ⟨rfl, by simp [e16]⟩
  rw [if_neg e16] at h
  by_cases e17 : p = 17
  · rw [if_pos e17] at h; cases h; exact ⟨rfl, by simp [e17]⟩
  rw [if_neg e17] at h
  by_cases e18 : p = 18
  · rw [if_pos e18] at h; cases h; exact ⟨rfl, by simp [e18]⟩
  rw [if_neg e18] at h
  by_cases e19 : p = 19
  · rw [if_pos e19] at h; cases h; exact ⟨rfl, by simp [e19]⟩
  rw [if_neg e19] at h
  by_cases e20 : p = 20
  · rw [if_pos e20] at h; cases h; exact ⟨rfl, by simp [e20]⟩
  rw [if_neg e20] at h
  by_cases e21 : p = 21
  · rw [if_pos e21] at h; cases h; exact ⟨rfl, by simp [e21]⟩
  rw [if_neg e21] at h
  by_cases e22 : p = 22
  · rw [if_pos e22] at h; cases h; exact ⟨rfl, by simp [e22]⟩
  rw [if_neg e22] at h
  by_cases e23 : p = 23
  · rw [if_pos e23] at h; cases h; exact ⟨rfl, by simp [e23]⟩
  rw [if_neg e23] at h
  by_cases e24 : p = 24
  · rw [if_pos e24] at h; cases h; exact ⟨rfl, by simp [e24]⟩
  rw [if_neg e24] at h
  by_cases e25 : p = 25
  · rw [if_pos e25] at h; cases h; exact ⟨rfl, by simp [e25]⟩
  rw [if_neg e25] at h
  by_cases e26 : p = 26
  · rw [if_pos e26] at h; cases h; exact ⟨rfl, by simp [e26]⟩
  rw [if_neg e26] at h
  by_cases e27 : p = 27
  · rw [if_pos e27] at h; cases h; exact ⟨rfl, by simp [e27]⟩
  rw [if_neg e27] at h
  by_cases e28 : p = 28
  · rw [if_pos e28] at h; cases h; exact ⟨rfl, by simp [e28]⟩
  rw [if_neg e28] at h
  cases h
theorem len1 {a : List Int} (h : a.length = 1) : ∃ x, a = [x] := by
  match a, h with
  | [x], _ => exact ⟨x, rfl⟩
theorem len2 {a : List Int} (h : a.length = 2) : ∃ x y, a = [x, y] := by
  match a, h with
  | [x, y], _ => exact ⟨x, y, rfl⟩
theorem len3 {a : List Int} (h : a.length = 3) : ∃ x y z, a = [x, y, z] := by
  match a, h with
  | [x, y, z], _ => exact ⟨x, y, z, rfl⟩
theorem len6 {a : List Int} (h : a.length = 6) : ∃ x1 x2 x3 x4 x5 x6, a = [x1, x2, x3, x4, x5, x6] := by
  match a, h with
  | [x1, x2, x3, x4, x5, x6], _ => exact ⟨x1, x2, x3, x4, x5, x6, rfl⟩
theorem whole_id {c : List (List Int)} (ok : PyFlat.okCall PyKm446.shape c) : PyKm446.whole c = c := by
  obtain ⟨p, a, xs, rfl, hs⟩ := ok
  obtain ⟨hk, hc⟩ := shape_cases hs
  have hx : xs = [] := List.eq_nil_of_length_eq_zero hk
  subst hx
  rcases hc with ⟨rfl, hn⟩ | ⟨rfl, hn⟩ | ⟨rfl, hn⟩ | ⟨rfl, hn⟩ | ⟨rfl, hn⟩ | ⟨rfl, hn⟩ | ⟨rfl, hn⟩ | ⟨rfl, hn⟩ | ⟨rfl, hn⟩ | ⟨rfl, hn⟩ | ⟨rfl, hn⟩ | ⟨rfl, hn⟩ | ⟨rfl, hn⟩ | ⟨rfl, hn⟩ | ⟨rfl, hn⟩ | ⟨rfl, hn⟩ | ⟨rfl, hn⟩ | ⟨rfl, hn⟩ | ⟨rfl, hn⟩ | ⟨rfl, hn⟩ | ⟨rfl, hn⟩ | ⟨rfl, hn⟩ | ⟨rfl, hn⟩ | ⟨rfl, hn⟩ | ⟨rfl, hn⟩ | ⟨rfl, hn⟩ | ⟨rfl, hn⟩ | ⟨rfl, hn⟩ | ⟨rfl, hn⟩
  · obtain ⟨b0, rfl⟩ := len1 hn; rfl
  · obtain ⟨b0, b1, rfl⟩ := len2 hn; rfl
  · obtain ⟨b0, b1, b2, rfl⟩ := len3 hn; rfl
  · obtain ⟨b0, b1, b2, b3, b4, b5, rfl⟩ := len6 hn; rfl
  · obtain ⟨b0, b1, rfl⟩ := len2 hn; rfl
  · obtain ⟨b0, b1, rfl⟩ := len2 hn; rfl
  · obtain ⟨b0, rfl⟩ := len1 hn; rfl
  · obtain ⟨b0, rfl⟩ := len1 hn; rfl
  · obtain ⟨b0, rfl⟩ := len1 hn; rfl
  · obtain ⟨b0, rfl⟩ := len1 hn; rfl
  · obtain ⟨b0, rfl⟩ := len1 hn; rfl
  · obtain ⟨b0, b1, rfl⟩ := len2 hn; rfl
  · obtain ⟨b0, b1, rfl⟩ := len2 hn; rfl
  · obtain ⟨b0, rfl⟩ := len1 hn; rfl
  · obtain ⟨b0, rfl⟩ := len1 hn; rfl
  · obtain ⟨b0, rfl⟩ := len1 hn; rfl
  · obtain ⟨b0, b1, rfl⟩ := len2 hn; rfl
  · obtain ⟨b0, rfl⟩ := len1 hn; rfl
  · obtain ⟨b0, b1, b2, rfl⟩ := len3 hn; rfl
  · obtain ⟨b0, b1, b2, rfl⟩ := len3 hn; rfl
  · obtain ⟨b0, rfl⟩ := len1 hn; rfl
  · obtain ⟨b0, rfl⟩ := len1 hn; rfl
  · obtain ⟨b0, rfl⟩ := len1 hn; rfl
  · obtain ⟨b0, b1, rfl⟩ := len2 hn; rfl
  · have := List.eq_nil_of_length_eq_zero hn
    subst this; rfl
  · have := List.eq_nil_of_length_eq_zero hn
    subst this; rfl
  · have := List.eq_nil_of_length_eq_zero hn
    subst this; rfl
  · have := List.eq_nil_of_length_eq_zero hn
    subst this; rfl
  · have := List.eq_nil_of_length_eq_zero hn
    subst this; rfl
theorem asked1_call {c : List (List Int)} (ok : PyFlat.okCall PyKm446.shape c) (h : Km446Neutral.asked1 c = true) : PyKm446.whole c = c ∧ ∃ x : KCall, Km446Neutral.callOf c = some x ∧ PyFlat.put1 c = flat x ∧ Small x := by
  obtain ⟨p, a, xs, rfl, hs⟩ := ok
  obtain ⟨hk, hc⟩ := shape_cases hs
  have hx : xs = [] := List.eq_nil_of_length_eq_zero hk
  subst hx
  rcases hc with ⟨rfl, hn⟩ | ⟨rfl, hn⟩ | ⟨rfl, hn⟩ | ⟨rfl, hn⟩ | ⟨rfl, hn⟩ | ⟨rfl, hn⟩ | ⟨rfl, hn⟩ | ⟨rfl, hn⟩ | ⟨rfl, hn⟩ | ⟨rfl, hn⟩ | ⟨rfl, hn⟩ | ⟨rfl, hn⟩ | ⟨rfl, hn⟩ | ⟨rfl, hn⟩ | ⟨rfl, hn⟩ | ⟨rfl, hn⟩ | ⟨rfl, hn⟩ | ⟨rfl, hn⟩ | ⟨rfl, hn⟩ | ⟨rfl, hn⟩ | ⟨rfl, hn⟩ | ⟨rfl, hn⟩ | ⟨rfl, hn⟩ | ⟨rfl, hn⟩ | ⟨rfl, hn⟩ | ⟨rfl, hn⟩ | ⟨rfl, hn⟩ | ⟨rfl, hn⟩ | ⟨rfl, hn⟩
  · obtain ⟨b0, rfl⟩ := len1 hn
    have h0 := nat32 (show Km446Neutral.natural b0 32 = true from h)
    refine ⟨rfl, .start b0.toNat, rfl, ?_, ?_⟩
    · show [(0 : Int), b0] = [(0 : Int), ((b0.toNat : Nat) : Int)]
      rw [tn h0.1]
    · intro z hz
      have hz : z = 0 ∨ z = ((b0.toNat : Nat) : Int) := by simpa [flat] using hz
      omega
  · obtain ⟨b0, b1, rfl⟩ := len2 hn
    have h : (Km446Neutral.natural b0 32 && Km446Neutral.natural b1 32) = true := h
    simp only [Bool.and_eq_true] at h
    obtain ⟨h0, h1⟩ := h
    have h0 := nat32 h0; have h1 := nat32 h1
    refine ⟨rfl, .place b0.toNat b1.toNat, rfl, ?_, ?_⟩
    · show [(1 : Int), b0, b1] = [(1 : Int), ((b0.toNat : Nat) : Int), ((b1.toNat : Nat) : Int)]
      rw [tn h0.1, tn h1.1]
    · intro z hz
      have hz : z = 1 ∨ z = ((b0.toNat : Nat) : Int) ∨ z = ((b1.toNat : Nat) : Int) := by simpa [flat] using hz
      omega
  · obtain ⟨b0, b1, b2, rfl⟩ := len3 hn
    have h : (Km446Neutral.natural b0 32 && Km446Neutral.natural b1 32 && Km446Neutral.natural b2 32) = true := h
    simp only [Bool.and_eq_true] at h
    obtain ⟨⟨h0, h1⟩, h2⟩ := h
    have h0 := nat32 h0; have h1 := nat32 h1; have h2 := nat32 h2
    refine ⟨rfl, .way b0.toNat b1.toNat b2.toNat, rfl, ?_, ?_⟩
    · show [(2 : Int), b0, b1, b2] = [(2 : Int), ((b0.toNat : Nat) : Int), ((b1.toNat : Nat) : Int), ((b2.toNat : Nat) : Int)]
      rw [tn h0.1, tn h1.1, tn h2.1]
    · intro z hz
      have hz : z = 2 ∨ z = ((b0.toNat : Nat) : Int) ∨ z = ((b1.toNat : Nat) : Int) ∨ z = ((b2.toNat : Nat) : Int) := by simpa [flat] using hz
      omega
  · obtain ⟨b0, b1, b2, b3, b4, b5, rfl⟩ := len6 hn
    have h : (Km446Neutral.natural b0 32 && Km446Neutral.natural b1 32 && Km446Neutral.natural b2 32 && Km446Neutral.natural b3 32 && Km446Neutral.natural b4 32 && Km446Neutral.natural b5 32) = true := h
    simp only [Bool.and_eq_true] at h
    obtain ⟨⟨⟨⟨⟨h0, h1⟩, h2⟩, h3⟩, h4⟩, h5⟩ := h
    have h0 := nat32 h0; have h1 := nat32 h1; have h2 := nat32 h2; have h3 := nat32 h3; have h4 := nat32 h4; have h5 := nat32 h5
    refine ⟨rfl, .heli b0.toNat b1.toNat b2.toNat b3.toNat b4.toNat b5.toNat, rfl, ?_, ?_⟩
    · show [(3 : Int), b0, b1, b2, b3, b4, b5] = [(3 : Int), ((b0.toNat : Nat) : Int), ((b1.toNat : Nat) : Int), ((b2.toNat : Nat) : Int), ((b3.toNat : Nat) : Int), ((b4.toNat : Nat) : Int), ((b5.toNat : Nat) : Int)]
      rw [tn h0.1, tn h1.1, tn h2.1, tn h3.1, tn h4.1, tn h5.1]
    · intro z hz
      have hz : z = 3 ∨ z = ((b0.toNat : Nat) : Int) ∨ z = ((b1.toNat : Nat) : Int) ∨ z = ((b2.toNat : Nat) : Int) ∨ z = ((b3.toNat : Nat) : Int) ∨ z = ((b4.toNat : Nat) : Int) ∨ z = ((b5.toNat : Nat) : Int) := by simpa [flat] using hz
      omega
  · obtain ⟨b0, b1, rfl⟩ := len2 hn
    have h : (Km446Neutral.natural b0 32 && Km446Neutral.natural b1 32) = true := h
    simp only [Bool.and_eq_true] at h
    obtain ⟨h0, h1⟩ := h
    have h0 := nat32 h0; have h1 := nat32 h1
    refine ⟨rfl, .go b0.toNat b1.toNat, rfl, ?_, ?_⟩
    · show [(4 : Int), b0, b1] = [(4 : Int), ((b0.toNat : Nat) : Int), ((b1.toNat : Nat) : Int)]
      rw [tn h0.1, tn h1.1]
    · intro z hz
      have hz : z = 4 ∨ z = ((b0.toNat : Nat) : Int) ∨ z = ((b1.toNat : Nat) : Int) := by simpa [flat] using hz
      omega
  · obtain ⟨b0, b1, rfl⟩ := len2 hn
    have h : (Km446Neutral.natural b0 32 && Km446Neutral.natural b1 32) = true := h
    simp only [Bool.and_eq_true] at h
    obtain ⟨h0, h1⟩ := h
    have h0 := nat32 h0; have h1 := nat32 h1
    refine ⟨rfl, .winch b0.toNat b1.toNat, rfl, ?_, ?_⟩
    · show [(5 : Int), b0, b1] = [(5 : Int), ((b0.toNat : Nat) : Int), ((b1.toNat : Nat) : Int)]
      rw [tn h0.1, tn h1.1]
    · intro z hz
      have hz : z = 5 ∨ z = ((b0.toNat : Nat) : Int) ∨ z = ((b1.toNat : Nat) : Int) := by simpa [flat] using hz
      omega
  · obtain ⟨b0, rfl⟩ := len1 hn
    have h0 := nat32 (show Km446Neutral.natural b0 32 = true from h)
    refine ⟨rfl, .land b0.toNat, rfl, ?_, ?_⟩
    · show [(6 : Int), b0] = [(6 : Int), ((b0.toNat : Nat) : Int)]
      rw [tn h0.1]
    · intro z hz
      have hz : z = 6 ∨ z = ((b0.toNat : Nat) : Int) := by simpa [flat] using hz
      omega
  · obtain ⟨b0, rfl⟩ := len1 hn
    have h0 := nat32 (show Km446Neutral.natural b0 32 = true from h)
    refine ⟨rfl, .refuel b0.toNat, rfl, ?_, ?_⟩
    · show [(7 : Int), b0] = [(7 : Int), ((b0.toNat : Nat) : Int)]
      rw [tn h0.1]
    · intro z hz
      have hz : z = 7 ∨ z = ((b0.toNat : Nat) : Int) := by simpa [flat] using hz
      omega
  · obtain ⟨b0, rfl⟩ := len1 hn
    have h0 := nat32 (show Km446Neutral.natural b0 32 = true from h)
    refine ⟨rfl, .minutes b0.toNat, rfl, ?_, ?_⟩
    · show [(8 : Int), b0] = [(8 : Int), ((b0.toNat : Nat) : Int)]
      rw [tn h0.1]
    · intro z hz
      have hz : z = 8 ∨ z = ((b0.toNat : Nat) : Int) := by simpa [flat] using hz
      omega
  · obtain ⟨b0, rfl⟩ := len1 hn
    have h0 := nat32 (show Km446Neutral.natural b0 32 = true from h)
    refine ⟨rfl, .close b0.toNat, rfl, ?_, ?_⟩
    · show [(9 : Int), b0] = [(9 : Int), ((b0.toNat : Nat) : Int)]
      rw [tn h0.1]
    · intro z hz
      have hz : z = 9 ∨ z = ((b0.toNat : Nat) : Int) := by simpa [flat] using hz
      omega
  · obtain ⟨b0, rfl⟩ := len1 hn
    have h0 := nat32 (show Km446Neutral.natural b0 32 = true from h)
    refine ⟨rfl, .open_ b0.toNat, rfl, ?_, ?_⟩
    · show [(10 : Int), b0] = [(10 : Int), ((b0.toNat : Nat) : Int)]
      rw [tn h0.1]
    · intro z hz
      have hz : z = 10 ∨ z = ((b0.toNat : Nat) : Int) := by simpa [flat] using hz
      omega
  · obtain ⟨b0, b1, rfl⟩ := len2 hn
    have h : (Km446Neutral.natural b0 32 && Km446Neutral.natural b1 32) = true := h
    simp only [Bool.and_eq_true] at h
    obtain ⟨h0, h1⟩ := h
    have h0 := nat32 h0; have h1 := nat32 h1
    refine ⟨rfl, .more b0.toNat b1.toNat, rfl, ?_, ?_⟩
    · show [(11 : Int), b0, b1] = [(11 : Int), ((b0.toNat : Nat) : Int), ((b1.toNat : Nat) : Int)]
      rw [tn h0.1, tn h1.1]
    · intro z hz
      have hz : z = 11 ∨ z = ((b0.toNat : Nat) : Int) ∨ z = ((b1.toNat : Nat) : Int) := by simpa [flat] using hz
      omega
  · obtain ⟨b0, b1, rfl⟩ := len2 hn
    have h : (Km446Neutral.natural b0 32 && Km446Neutral.natural b1 32) = true := h
    simp only [Bool.and_eq_true] at h
    obtain ⟨h0, h1⟩ := h
    have h0 := nat32 h0; have h1 := nat32 h1
    refine ⟨rfl, .may b0.toNat b1.toNat, rfl, ?_, ?_⟩
    · show [(12 : Int), b0, b1] = [(12 : Int), ((b0.toNat : Nat) : Int), ((b1.toNat : Nat) : Int)]
      rw [tn h0.1, tn h1.1]
    · intro z hz
      have hz : z = 12 ∨ z = ((b0.toNat : Nat) : Int) ∨ z = ((b1.toNat : Nat) : Int) := by simpa [flat] using hz
      omega
  · obtain ⟨b0, rfl⟩ := len1 hn
    have h0 := nat32 (show Km446Neutral.natural b0 32 = true from h)
    refine ⟨rfl, .stay b0.toNat, rfl, ?_, ?_⟩
    · show [(13 : Int), b0] = [(13 : Int), ((b0.toNat : Nat) : Int)]
      rw [tn h0.1]
    · intro z hz
      have hz : z = 13 ∨ z = ((b0.toNat : Nat) : Int) := by simpa [flat] using hz
      omega
  · obtain ⟨b0, rfl⟩ := len1 hn
    have h0 := nat32 (show Km446Neutral.natural b0 32 = true from h)
    refine ⟨rfl, .lift b0.toNat, rfl, ?_, ?_⟩
    · show [(14 : Int), b0] = [(14 : Int), ((b0.toNat : Nat) : Int)]
      rw [tn h0.1]
    · intro z hz
      have hz : z = 14 ∨ z = ((b0.toNat : Nat) : Int) := by simpa [flat] using hz
      omega
  · obtain ⟨b0, rfl⟩ := len1 hn
    have h0 := nat32 (show Km446Neutral.natural b0 32 = true from h)
    refine ⟨rfl, .nearest b0.toNat, rfl, ?_, ?_⟩
    · show [(15 : Int), b0] = [(15 : Int), ((b0.toNat : Nat) : Int)]
      rw [tn h0.1]
    · intro z hz
      have hz : z = 15 ∨ z = ((b0.toNat : Nat) : Int) := by simpa [flat] using hz
      omega
  · obtain ⟨b0, b1, rfl⟩ := len2 hn
    have h : (Km446Neutral.natural b0 32 && Km446Neutral.natural b1 32) = true := h
    simp only [Bool.and_eq_true] at h
    obtain ⟨h0, h1⟩ := h
    have h0 := nat32 h0; have h1 := nat32 h1
    refine ⟨rfl, .must b0.toNat b1.toNat, rfl, ?_, ?_⟩
    · show [(16 : Int), b0, b1] = [(16 : Int), ((b0.toNat : Nat) : Int), ((b1.toNat : Nat) : Int)]
      rw [tn h0.1, tn h1.1]
    · intro z hz
      have hz : z = 16 ∨ z = ((b0.toNat : Nat) : Int) ∨ z = ((b1.toNat : Nat) : Int) := by simpa [flat] using hz
      omega
  · obtain ⟨b0, rfl⟩ := len1 hn
    have h0 := nat32 (show Km446Neutral.natural b0 32 = true from h)
    refine ⟨rfl, .range_ b0.toNat, rfl, ?_, ?_⟩
    · show [(17 : Int), b0] = [(17 : Int), ((b0.toNat : Nat) : Int)]
      rw [tn h0.1]
    · intro z hz
      have hz : z = 17 ∨ z = ((b0.toNat : Nat) : Int) := by simpa [flat] using hz
      omega
  · obtain ⟨b0, b1, b2, rfl⟩ := len3 hn
    have h : (Km446Neutral.natural b0 32 && Km446Neutral.natural b1 32 && Km446Neutral.natural b2 32) = true := h
    simp only [Bool.and_eq_true] at h
    obtain ⟨⟨h0, h1⟩, h2⟩ := h
    have h0 := nat32 h0; have h1 := nat32 h1; have h2 := nat32 h2
    refine ⟨rfl, .brings b0.toNat b1.toNat b2.toNat, rfl, ?_, ?_⟩
    · show [(18 : Int), b0, b1, b2] = [(18 : Int), ((b0.toNat : Nat) : Int), ((b1.toNat : Nat) : Int), ((b2.toNat : Nat) : Int)]
      rw [tn h0.1, tn h1.1, tn h2.1]
    · intro z hz
      have hz : z = 18 ∨ z = ((b0.toNat : Nat) : Int) ∨ z = ((b1.toNat : Nat) : Int) ∨ z = ((b2.toNat : Nat) : Int) := by simpa [flat] using hz
      omega
  · obtain ⟨b0, b1, b2, rfl⟩ := len3 hn
    have h : (Km446Neutral.natural b0 32 && Km446Neutral.natural b1 32 && Km446Neutral.natural b2 32) = true := h
    simp only [Bool.and_eq_true] at h
    obtain ⟨⟨h0, h1⟩, h2⟩ := h
    have h0 := nat32 h0; have h1 := nat32 h1; have h2 := nat32 h2
    refine ⟨rfl, .least b0.toNat b1.toNat b2.toNat, rfl, ?_, ?_⟩
    · show [(19 : Int), b0, b1, b2] = [(19 : Int), ((b0.toNat : Nat) : Int), ((b1.toNat : Nat) : Int), ((b2.toNat : Nat) : Int)]
      rw [tn h0.1, tn h1.1, tn h2.1]
    · intro z hz
      have hz : z = 19 ∨ z = ((b0.toNat : Nat) : Int) ∨ z = ((b1.toNat : Nat) : Int) ∨ z = ((b2.toNat : Nat) : Int) := by simpa [flat] using hz
      omega
  · obtain ⟨b0, rfl⟩ := len1 hn
    have h0 := nat32 (show Km446Neutral.natural b0 32 = true from h)
    refine ⟨rfl, .where_ b0.toNat, rfl, ?_, ?_⟩
    · show [(20 : Int), b0] = [(20 : Int), ((b0.toNat : Nat) : Int)]
      rw [tn h0.1]
    · intro z hz
      have hz : z = 20 ∨ z = ((b0.toNat : Nat) : Int) := by simpa [flat] using hz
      omega
  · obtain ⟨b0, rfl⟩ := len1 hn
    have h0 := nat32 (show Km446Neutral.natural b0 32 = true from h)
    refine ⟨rfl, .look b0.toNat, rfl, ?_, ?_⟩
    · show [(21 : Int), b0] = [(21 : Int), ((b0.toNat : Nat) : Int)]
      rw [tn h0.1]
    · intro z hz
      have hz : z = 21 ∨ z = ((b0.toNat : Nat) : Int) := by simpa [flat] using hz
      omega
  · obtain ⟨b0, rfl⟩ := len1 hn
    have h0 := nat32 (show Km446Neutral.natural b0 32 = true from h)
    refine ⟨rfl, .see b0.toNat, rfl, ?_, ?_⟩
    · show [(22 : Int), b0] = [(22 : Int), ((b0.toNat : Nat) : Int)]
      rw [tn h0.1]
    · intro z hz
      have hz : z = 22 ∨ z = ((b0.toNat : Nat) : Int) := by simpa [flat] using hz
      omega
  · obtain ⟨b0, b1, rfl⟩ := len2 hn
    have h : (Km446Neutral.natural b0 32 && Km446Neutral.natural b1 32) = true := h
    simp only [Bool.and_eq_true] at h
    obtain ⟨h0, h1⟩ := h
    have h0 := nat32 h0; have h1 := nat32 h1
    refine ⟨rfl, .far b0.toNat b1.toNat, rfl, ?_, ?_⟩
    · show [(23 : Int), b0, b1] = [(23 : Int), ((b0.toNat : Nat) : Int), ((b1.toNat : Nat) : Int)]
      rw [tn h0.1, tn h1.1]
    · intro z hz
      have hz : z = 23 ∨ z = ((b0.toNat : Nat) : Int) ∨ z = ((b1.toNat : Nat) : Int) := by simpa [flat] using hz
      omega
  · have := List.eq_nil_of_length_eq_zero hn
    subst this
    refine ⟨rfl, .next, rfl, rfl, ?_⟩
    intro z hz
    have hz : z = 24 := by simpa [flat] using hz
    subst hz
    decide
  · have := List.eq_nil_of_length_eq_zero hn
    subst this
    refine ⟨rfl, .sums, rfl, rfl, ?_⟩
    intro z hz
    have hz : z = 25 := by simpa [flat] using hz
    subst hz
    decide
  · have := List.eq_nil_of_length_eq_zero hn
    subst this
    refine ⟨rfl, .back, rfl, rfl, ?_⟩
    intro z hz
    have hz : z = 26 := by simpa [flat] using hz
    subst hz
    decide
  · have := List.eq_nil_of_length_eq_zero hn
    subst this
    refine ⟨rfl, .again, rfl, rfl, ?_⟩
    intro z hz
    have hz : z = 27 := by simpa [flat] using hz
    subst hz
    decide
  · have := List.eq_nil_of_length_eq_zero hn
    subst this
    refine ⟨rfl, .state, rfl, rfl, ?_⟩
    intro z hz
    have hz : z = 28 := by simpa [flat] using hz
    subst hz
    decide
/-- the object before and behind a start that is answered 0 -/
def Rel (s : Km446Neutral.S) (d : Desk) : Prop := s = some d ∨ (s = none ∧ d = Km446.fresh 0)
theorem told_eq (a : Ans) : Km446Neutral.told a = told a := rfl
theorem step_rel {s : Km446Neutral.S} {d : Desk} {c : List (List Int)} {x : KCall} (r : Rel s d) (hx : Km446Neutral.callOf c = some x) (ne : (Km446Neutral.step s c).2.isEmpty = false) :
    (Km446Neutral.step s c).2 = told (Km446.act d x).2 ∧ Rel (Km446Neutral.step s c).1 (Km446.act d x).1 := by
  rcases r with e | ⟨e, e'⟩
  · subst e
    unfold Km446Neutral.step
    rw [hx]
    exact ⟨rfl, .inl rfl⟩
  · subst e e'
    unfold Km446Neutral.step at ne ⊢
    rw [hx] at ne ⊢
    cases x with
    | start r =>
      by_cases h : 60 < r
      · have q : Km446.act (Km446.fresh 0) (.start r) = (Km446.fresh 0, Km446.only (-22)) := if_pos h
        simp only [Km446Neutral.isStart, if_true, q]
        exact ⟨rfl, .inr ⟨rfl, rfl⟩⟩
      · have q : Km446.act (Km446.fresh 0) (.start r) = (⟨Km446.opened r, [], []⟩, Km446.only 0) := if_neg h
        simp only [Km446Neutral.isStart, if_true, q]
        exact ⟨rfl, .inl rfl⟩
    | _ => exact absurd ne (by simp [Km446Neutral.isStart])
theorem play : ∀ (cs : List (List (List Int))) (s : Km446Neutral.S) (d : Desk), Rel s d → (∀ c ∈ cs, PyFlat.okCall PyKm446.shape c) → (cs.all Km446Neutral.asked1) = true → Km446Neutral.may s cs = true →
    ∃ xs : List KCall, PyFlat.put cs = xs.flatMap flat ∧ xs.length = cs.length ∧ (∀ x ∈ xs, Small x) ∧ PyFlat.played Km446Neutral.step s cs = runD d xs
  | [], s, d, r, h0, h1, h2 => ⟨[], rfl, rfl, (fun x hx => by cases hx), rfl⟩
  | c :: cs, s, d, r, h0, h1, h2 => by
    rw [List.all_cons, Bool.and_eq_true] at h1
    obtain ⟨_, x, hx, hp, hs⟩ := asked1_call (h0 c (List.mem_cons_self ..)) h1.1
    unfold Km446Neutral.may at h2
    rw [Bool.and_eq_true] at h2
    obtain ⟨e1, e2⟩ := step_rel r hx (by simpa using h2.1)
    obtain ⟨xs, g1, g2, g4, g3⟩ := play cs _ _ e2 (fun c hc => h0 c (List.mem_cons_of_mem _ hc)) h1.2 h2.2
    refine ⟨x :: xs, ?_, by simp [g2], fun y hy => ?_, ?_⟩
    · show PyFlat.put1 c ++ PyFlat.put cs = _
      rw [hp, g1, List.flatMap_cons]
    · rcases List.mem_cons.mp hy with z | z
      · subst z; exact hs
      · exact g4 y z
    · show (Km446Neutral.step s c).2 :: PyFlat.played Km446Neutral.step (Km446Neutral.step s c).1 cs = _
      rw [e1, g3]
      all_goals rfl
/-- WHAT IS ASKED, as calls; what is due, as the calls' answers one behind another -/
theorem asked_calls {l : List Int} (h : PyKm446.answers_asked l = true) : ∃ xs : List KCall, l = xs.flatMap flat ∧ xs.length ≤ 1000 ∧ (∀ x ∈ xs, Small x) ∧ PyKm446.answers l = PyFlat.told (runD (Km446.fresh 0) xs) := by
  unfold PyKm446.answers_asked at h
  cases e : PyFlat.calls PyKm446.shape l.length l with
  | none => rw [e] at h; cases h
  | some raw =>
    rw [e] at h
    simp only [Bool.and_eq_true] at h
    obtain ⟨⟨⟨⟨_, h2⟩, _⟩, h4⟩, _⟩ := h
    obtain ⟨e1, hok⟩ := PyFlat.put_calls _ _ _ e
    have hw : raw.map PyKm446.whole = raw := by
      have e3 : raw.map PyKm446.whole = raw.map id := List.map_congr_left fun c hc => whole_id (hok c hc)
      rw [e3, List.map_id]
    rw [hw] at h4
    unfold Km446Neutral.asked at h4
    simp only [Bool.and_eq_true] at h4
    obtain ⟨_, _, h5, h6⟩ := h4
    obtain ⟨xs, g1, g2, g4, g3⟩ := play raw Km446Neutral.start (Km446.fresh 0) (.inr ⟨rfl, rfl⟩) hok h5 h6
    refine ⟨xs, e1.trans g1, ?_, g4, ?_⟩
    · rw [g2]
      simpa [PyFlat.atMost] using h2
    · unfold PyKm446.answers PyKm446.calls
      rw [e]
      show PyFlat.told (PyFlat.played Km446Neutral.step Km446Neutral.start (raw.map PyKm446.whole)) = _
      rw [hw, g3]
end Hf
end
section
set_option Elab.async false
set_option linter.all false
set_option maxRecDepth 100000
set_option maxHeartbeats 2000000
namespace Hf
open Km446 (Sea Place Heli Desk Call Ans)
/-! ## the desk: what can be taken back, and done again -/
structure DeskOk (d : Desk) : Prop where
  now : SeaOk d.now
  past : ∀ s ∈ d.past, SeaOk s
  future : ∀ s ∈ d.future, SeaOk s
  few : d.past.length + d.future.length ≤ 20
/-- a change: the calls of points 2 to 4 -/
def isChg : KCall → Bool
  | .place .. | .way .. | .heli .. | .go .. | .winch .. | .land .. | .refuel .. | .minutes .. | .close .. | .open_ .. | .more .. => true
  | _ => false
/-- one of the calls that only ask, upon a sea alone -/
def isAsk : KCall → Bool
  | .may .. | .stay .. | .lift .. | .nearest .. | .must .. | .range_ .. | .brings .. | .least .. | .where_ .. | .look .. | .see .. | .far .. | .next | .sums => true
  | _ => false
theorem ask_desk {c : KCall} (h : isAsk c = true) (d : Desk) : Km446.act d c = (d, ans d.now c) := by
  cases c <;> first | (cases h; done) | rfl
/-- a change: refused, and all is as it was; or the desk becomes the new sea -/
theorem lift_chg {c : KCall} (hc : isChg c = true) (d : Desk) : ((ans d.now c).value < 0 ∧ (ans d.now c).out = [] ∧ nxt d.now c = d.now ∧ Km446.act d c = (d, ans d.now c)) ∨ (0 ≤ (ans d.now c).value ∧ Km446.act d c = (d.become (nxt d.now c), ans d.now c)) := by
  have nn : ∀ n : Nat, (0 : Int) ≤ (n : Int) := fun n => Int.natCast_nonneg n
  cases c with
  | place b n =>
    dsimp only [ans, nxt, one, Km446.act]
    repeat' split
    all_goals first | (left; exact ⟨by dsimp only [Km446.only]; decide, rfl, rfl, rfl⟩) | (right; exact ⟨nn _, rfl⟩)
  | way a b n =>
    dsimp only [ans, nxt, one, Km446.act]
    repeat' split
    all_goals first | (left; exact ⟨by dsimp only [Km446.only]; decide, rfl, rfl, rfl⟩) | (right; exact ⟨nn _, rfl⟩)
  | heli p t b o c w =>
    dsimp only [ans, nxt, one, Km446.act]
    repeat' split
    all_goals first | (left; exact ⟨by dsimp only [Km446.only]; decide, rfl, rfl, rfl⟩) | (right; exact ⟨nn _, rfl⟩)
  | minutes n =>
    dsimp only [ans, nxt, one, Km446.act]
    repeat' split
    all_goals first | (left; exact ⟨by dsimp only [Km446.only]; decide, rfl, rfl, rfl⟩) | (right; exact ⟨nn _, rfl⟩)
  | close b =>
    dsimp only [ans, nxt, one, Km446.act]
    repeat' split
    all_goals first | (left; exact ⟨by dsimp only [Km446.only]; decide, rfl, rfl, rfl⟩) | (right; exact ⟨nn _, rfl⟩)
  | open_ b =>
    dsimp only [ans, nxt, one, Km446.act]
    repeat' split
    all_goals first | (left; exact ⟨by dsimp only [Km446.only]; decide, rfl, rfl, rfl⟩) | (right; exact ⟨nn _, rfl⟩)
  | more p n =>
    dsimp only [ans, nxt, one, Km446.act]
    repeat' split
    all_goals first | (left; exact ⟨by dsimp only [Km446.only]; decide, rfl, rfl, rfl⟩) | (right; exact ⟨nn _, rfl⟩)
  | go h p =>
    dsimp only [ans, nxt, one, Km446.act]
    cases hx : d.now.helis[h]? with
    | none => left; exact ⟨by dsimp only [Km446.only]; decide, rfl, rfl, rfl⟩
    | some x =>
      dsimp only
      repeat' split
      all_goals first | (left; exact ⟨by dsimp only [Km446.only]; decide, rfl, rfl, rfl⟩) | (right; exact ⟨nn _, rfl⟩)
  | winch h n =>
    dsimp only [ans, nxt, one, Km446.act]
    cases hx : d.now.helis[h]? with
    | none => left; exact ⟨by dsimp only [Km446.only]; decide, rfl, rfl, rfl⟩
    | some x =>
      dsimp only
      repeat' split
      all_goals first | (left; exact ⟨by dsimp only [Km446.only]; decide, rfl, rfl, rfl⟩) | (right; exact ⟨nn _, rfl⟩)
  | land h =>
    dsimp only [ans, nxt, one, Km446.act]
    cases hx : d.now.helis[h]? with
    | none => left; exact ⟨by dsimp only [Km446.only]; decide, rfl, rfl, rfl⟩
    | some x =>
      dsimp only
      repeat' split
      all_goals first | (left; exact ⟨by dsimp only [Km446.only]; decide, rfl, rfl, rfl⟩) | (right; exact ⟨nn _, rfl⟩)
  | refuel h =>
    dsimp only [ans, nxt, one, Km446.act]
    cases hx : d.now.helis[h]? with
    | none => left; exact ⟨by dsimp only [Km446.only]; decide, rfl, rfl, rfl⟩
    | some x =>
      dsimp only
      repeat' split
      all_goals first | (left; exact ⟨by dsimp only [Km446.only]; decide, rfl, rfl, rfl⟩) | (right; exact ⟨nn _, rfl⟩)
  | _ => cases hc
theorem take_mem {s : Sea} {l : List Sea} {n : Nat} (h : s ∈ l.take n) : s ∈ l := List.mem_of_mem_take h
theorem become_ok {d : Desk} (k : DeskOk d) {s : Sea} (hs : SeaOk s) : DeskOk (d.become s) := by
  refine ⟨hs, fun t ht => ?_, (fun t ht => by cases ht), ?_⟩
  · have ht : t ∈ (d.now :: d.past).take 20 := ht
    rcases List.mem_cons.mp (take_mem ht) with e | e
    · rw [e]; exact k.now
    · exact k.past t e
  · show ((d.now :: d.past).take 20).length + 0 ≤ 20
    rw [List.length_take]
    omega
theorem desk_next {d : Desk} (k : DeskOk d) (c : KCall) : DeskOk (Km446.act d c).1 := by
  by_cases hc : isChg c = true
  · rcases lift_chg hc d with ⟨_, _, _, e⟩ | ⟨_, e⟩
    · rw [e]; exact k
    · rw [e]; exact become_ok k (ok_next k.now c)
  · by_cases ha : isAsk c = true
    · rw [ask_desk ha]; exact k
    · cases c with
      | start r =>
        show DeskOk (if 60 < r then _ else _ : Desk × Ans).1
        split
        · exact k
        · exact ⟨ok_opened (by omega), (fun t ht => by cases ht), (fun t ht => by cases ht), by show 0 + 0 ≤ 20; omega⟩
      | back =>
        dsimp only [Km446.act]
        split
        · exact k
        · rename_i s r e
          have kp := k.past
          have kf := k.few
          rw [e] at kp kf
          refine ⟨kp _ (List.mem_cons_self ..), fun t ht => kp t (List.mem_cons_of_mem _ ht), fun t ht => ?_, ?_⟩
          · rcases List.mem_cons.mp ht with z | z
            · rw [z]; exact k.now
            · exact k.future t z
          · show r.length + (d.now :: d.future).length ≤ 20
            simp at kf ⊢
            omega
      | again =>
        dsimp only [Km446.act]
        split
        · exact k
        · rename_i s r e
          have kp := k.future
          have kf := k.few
          rw [e] at kp kf
          refine ⟨kp _ (List.mem_cons_self ..), fun t ht => ?_, fun t ht => kp t (List.mem_cons_of_mem _ ht), ?_⟩
          · rcases List.mem_cons.mp (take_mem ht) with z | z
            · rw [z]; exact k.now
            · exact k.past t z
          · show ((d.now :: d.past).take 20).length + r.length ≤ 20
            rw [List.length_take]
            simp at kf ⊢
            omega
      | state => exact k
      | _ => first | exact absurd rfl hc | exact absurd rfl ha
theorem desk_fresh : DeskOk (Km446.fresh 0) := ⟨ok_opened (by decide), (fun t ht => by cases ht), (fun t ht => by cases ht), by show 0 + 0 ≤ 20; omega⟩
/-- an answer is short -/
theorem out_few (d : Desk) (c : KCall) : (Km446.act d c).2.out.length ≤ 5 := by
  cases c <;> dsimp only [Km446.act] <;> repeat' split
  all_goals first | (simp [Km446.only]; done) | (dsimp only [Km446.only, List.length]; omega)
theorem told_few (d : Desk) (c : KCall) : (told (Km446.act d c).2).length ≤ 6 := by
  have := out_few d c
  unfold told
  simp
  omega
/-! ## the run -/
def deskOf : Desk → List KCall → Desk
  | d, [] => d
  | d, x :: xs => deskOf (Km446.act d x).1 xs
theorem deskOf_snoc (x : KCall) : ∀ (l : List KCall) (d : Desk), deskOf d (l ++ [x]) = (Km446.act (deskOf d l) x).1
  | [], d => rfl
  | y :: l, d => deskOf_snoc x l _
theorem runD_snoc (x : KCall) : ∀ (l : List KCall) (d : Desk), runD d (l ++ [x]) = runD d l ++ [told (Km446.act (deskOf d l) x).2]
  | [], d => rfl
  | y :: l, d => by
    show _ :: runD _ (l ++ [x]) = _
    rw [runD_snoc x l]
    rfl
theorem desk_run : ∀ (l : List KCall) (d : Desk), DeskOk d → DeskOk (deskOf d l)
  | [], _, k => k
  | x :: l, _, k => desk_run l _ (desk_next k x)
theorem told_snoc (l : List (List Int)) (a : List Int) : PyFlat.told (l ++ [a]) = PyFlat.told l ++ ((a.length : Int) :: a) := by
  unfold PyFlat.told
  rw [List.flatMap_append]
  simp
theorem run_len : ∀ (l : List KCall) (d : Desk), (PyFlat.told (runD d l)).length ≤ 7 * l.length
  | [], _ => Nat.le_refl _
  | x :: l, d => by
    have h := run_len l (Km446.act d x).1
    have h2 := told_few d x
    show (PyFlat.told (told (Km446.act d x).2 :: runD (Km446.act d x).1 l)).length ≤ 7 * (l.length + 1)
    have e : PyFlat.told (told (Km446.act d x).2 :: runD (Km446.act d x).1 l) = (((told (Km446.act d x).2).length : Int) :: told (Km446.act d x).2) ++ PyFlat.told (runD (Km446.act d x).1 l) := by
      unfold PyFlat.told
      rw [List.flatMap_cons]
    rw [e, List.length_append, List.length_cons]
    omega
end Hf
end
section
set_option Elab.async false
set_option linter.all false
namespace Hf
open Km446 (mostGo REFUEL)
/-- full loads one behind another, then what is left of the time -/
theorem most_closed {d w most c : Nat} (hw : 0 < w) (hm : 0 < most) (hc : c = 2 * d + most * w + 10) : ∀ (f t : Nat), t < f * c →
    mostGo d w most f t = (t + 10) / c * most + (if t - (t + 10) / c * c < 2 * d then 0 else (t - (t + 10) / c * c - 2 * d) / w)
  | 0, t, h => by simp at h
  | f + 1, t, h => by
    have ih := most_closed (d := d) hw hm hc f
    have hR : REFUEL = 10 := rfl
    have hmw : 0 < most * w := Nat.mul_pos hm hw
    unfold mostGo
    by_cases h1 : t < 2 * d
    · have k0 : (t + 10) / c = 0 := Nat.div_eq_of_lt (by omega)
      rw [if_pos h1, k0]
      simp [h1]
    · rw [if_neg h1]
      by_cases h2 : t < 2 * d + most * w
      · have k0 : (t + 10) / c = 0 := Nat.div_eq_of_lt (by omega)
        rw [if_pos h2, if_neg (by omega), k0]
        simp [h1]
      · rw [if_neg h2, if_neg (by omega)]
        by_cases h3 : t < c
        · have k1 : (t + 10) / c = 1 := by
            rw [Nat.div_eq_iff (by omega)]
            omega
          have e0 : t - 1 * c = 0 := by omega
          rw [if_pos (by rw [hR]; omega), k1, e0]
          split <;> simp
        · rw [if_neg (by rw [hR]; omega)]
          have h' : (f + 1) * c = f * c + c := Nat.succ_mul f c
          have i := ih (t - c) (by omega)
          have k : (t + 10) / c = (t - c + 10) / c + 1 := by
            have : t + 10 = (t - c + 10) + c := by omega
            rw [this, Nat.add_div_right _ (by omega)]
          have kc : ((t - c + 10) / c + 1) * c = (t - c + 10) / c * c + c := Nat.succ_mul _ _
          have km : ((t - c + 10) / c + 1) * most = (t - c + 10) / c * most + most := Nat.succ_mul _ _
          have er : t - (2 * d + most * w + REFUEL) = t - c := by rw [hR, hc]
          rw [er, i, k, kc, km]
          have r : t - ((t - c + 10) / c * c + c) = t - c - (t - c + 10) / c * c := by omega
          rw [r]
          omega
/-- with the fuel that the specification has -/
theorem brings_closed {d w most t c : Nat} (hw : 0 < w) (hm : 0 < most) (hc : c = 2 * d + most * w + 10) (ht : t ≤ 10000) :
    mostGo d w most 1000 t = (t + 10) / c * most + (if t - (t + 10) / c * c < 2 * d then 0 else (t - (t + 10) / c * c - 2 * d) / w) := by
  refine most_closed hw hm hc 1000 t ?_
  have hmw : 0 < most * w := Nat.mul_pos hm hw
  have : 1000 * 11 ≤ 1000 * c := Nat.mul_le_mul_left _ (by omega)
  omega
theorem brings_zero {d w : Nat} (hw : 0 < w) : ∀ (f t : Nat), mostGo d w 0 f t = 0
  | 0, _ => rfl
  | f + 1, t => by
    unfold mostGo
    split
    · rfl
    · split
      · omega
      · rfl
/-- what the number of loads bounds: k loads bring at most so many -/
def byLoads (d w most t k : Nat) : Nat := min (k * most) ((t - (k * (2 * d) + (k - 1) * 10)) / w)
end Hf
end
section
set_option Elab.async false
set_option linter.all false
set_option maxRecDepth 100000
set_option maxHeartbeats 2000000
namespace Hf
open PySem PySem.Spec PyProof.Rows L2
open Km446 (Sea Heli Desk Ans)
abbrev KPlace := Km446.Place
/-! ## the text by places -/
def top (i : Nat) : Stmt := PySem.Challenge.pw_helifuel_s01_answers.main.body.getD i (.Pass ⟨0, 0, 0, 0⟩)
/-! ## what stands in the heap -/
/-- the classes: Place, Helicopter, World, Flights -/
structure Cs where
  p : Addr
  h : Addr
  w : Addr
  f : Addr
/-- where a world stands: itself, its list of places, its dict of ways, its list of helicopters, the places, the helicopters -/
structure Adr where
  w : Addr
  lp : Addr
  dw : Addr
  lh : Addr
  ps : List Addr
  hs : List Addr
def Adr.all (A : Adr) : List Addr := A.w :: A.lp :: A.dw :: A.lh :: (A.ps ++ A.hs)
def pf (x : KPlace) : List (Str × V) := [("is_base", .bl x.base), ("is_open", .bl x.open_), ("waiting", .int x.persons)]
def hf (x : Heli) : List (Str × V) := [("place", .int x.place), ("fuel", .int x.fuel), ("busy", .int x.busy), ("aboard", .int x.in_), ("tank", .int x.tank), ("burn", .int x.burn), ("hover", .int x.hover), ("seats", .int x.seats), ("winch", .int x.winch)]
def wf (s : Sea) (A : Adr) : List (Str × V) := [("reserve", .int s.reserve), ("minute", .int s.time), ("saved", .int s.saved), ("places", .ref A.lp), ("ways", .ref A.dw), ("helis", .ref A.lh)]
def PlaceAt (C : Cs) (H : Hp) (a : Addr) (x : KPlace) : Prop := ∃ dx, H a = some (.ins C.p dx (pf x))
def HeliAt (C : Cs) (H : Hp) (a : Addr) (x : Heli) : Prop := ∃ dx, H a = some (.ins C.h dx (hf x))
def wkey (a b : Nat) : List Key := [Sum.inl (a : Int), Sum.inl (b : Int)]
structure WaysIn (kvs : List (List Key × V)) (ways : Nat → Nat → Nat) : Prop where
  val : ∀ a b : Nat, a < b → valV kvs (wkey a b) = if ways a b = 0 then none else some (V.int (ways a b))
  nd : (kvs.map (·.1)).Nodup
  ks : ∀ k ∈ kvs.map (·.1), ∃ a b : Nat, a < 6 ∧ b < 6 ∧ k = wkey a b
structure WorldAt (C : Cs) (H : Hp) (A : Adr) (s : Sea) : Prop where
  w : ∃ dx, H A.w = some (.ins C.w dx (wf s A))
  lp : H A.lp = some (.lst (A.ps.map V.ref))
  lh : H A.lh = some (.lst (A.hs.map V.ref))
  dw : ∃ kvs, H A.dw = some (.dT kvs) ∧ WaysIn kvs s.ways
  np : A.ps.length = s.places.length
  nh : A.hs.length = s.helis.length
  pat : ∀ (j : Nat) (a : Addr), A.ps[j]? = some a → ∃ x, s.places[j]? = some x ∧ PlaceAt C H a x
  hat : ∀ (j : Nat) (a : Addr), A.hs[j]? = some a → ∃ x, s.helis[j]? = some x ∧ HeliAt C H a x
  ndp : A.ps.Nodup
  ndh : A.hs.Nodup
  ne : A.lp ≠ A.lh
theorem WorldAt.same {C : Cs} {H H' : Hp} {A : Adr} {s : Sea} (W : WorldAt C H A s) (e : Same H H') : WorldAt C H' A s :=
  ⟨let ⟨dx, h⟩ := W.w; ⟨dx, e _ _ h⟩, e _ _ W.lp, e _ _ W.lh, let ⟨k, h, q⟩ := W.dw; ⟨k, e _ _ h, q⟩, W.np, W.nh,
    fun j a ha => let ⟨x, h1, dx, h2⟩ := W.pat j a ha; ⟨x, h1, dx, e _ _ h2⟩, fun j a ha => let ⟨x, h1, dx, h2⟩ := W.hat j a ha; ⟨x, h1, dx, e _ _ h2⟩, W.ndp, W.ndh, W.ne⟩
theorem HeliAt.same {C : Cs} {H H' : Hp} {a : Addr} {x : Heli} (W : HeliAt C H a x) (e : Same H H') : HeliAt C H' a x := let ⟨dx, h⟩ := W; ⟨dx, e _ _ h⟩
theorem PlaceAt.same {C : Cs} {H H' : Hp} {a : Addr} {x : KPlace} (W : PlaceAt C H a x) (e : Same H H') : PlaceAt C H' a x := let ⟨dx, h⟩ := W; ⟨dx, e _ _ h⟩
theorem WorldAt.place {C : Cs} {H : Hp} {A : Adr} {s : Sea} (W : WorldAt C H A s) {p : Nat} (hp : p < s.places.length) : ∃ a, A.ps[p]? = some a ∧ PlaceAt C H a (s.place p) := by
  have h : p < A.ps.length := by rw [W.np]; exact hp
  obtain ⟨x, h1, h2⟩ := W.pat p _ (List.getElem?_eq_getElem h)
  exact ⟨_, List.getElem?_eq_getElem h, by rw [place_get h1]; exact h2⟩
theorem WorldAt.heli {C : Cs} {H : Hp} {A : Adr} {s : Sea} (W : WorldAt C H A s) {h : Nat} {x : Heli} (hx : s.helis[h]? = some x) : ∃ a, A.hs[h]? = some a ∧ HeliAt C H a x := by
  have h' : h < A.hs.length := by rw [W.nh]; exact (List.getElem?_eq_some_iff.mp hx).1
  obtain ⟨y, h1, h2⟩ := W.hat h _ (List.getElem?_eq_getElem h')
  rw [hx] at h1
  cases h1
  exact ⟨_, List.getElem?_eq_getElem h', h2⟩
theorem same_new {H : Hp} {p : Addr} {o : HO} (h : H p = Option.none) : Same H (upd H p o) := fun b o' e => by
  rw [upd_ne (ne_of_none e h)]
  exact e
/-- what reading asks of a sea -/
structure SeaW (s : Sea) : Prop where
  np : s.places.length ≤ 6
  sym : ∀ a b, s.ways a b = s.ways b a
  op : ∀ (p : Nat) (x : KPlace), s.places[p]? = some x → x.open_ = true → x.base = true
theorem SeaOk.weak {s : Sea} (k : SeaOk s) : SeaW s := ⟨k.np, k.sym, k.op⟩
/-! ## the text's facts -/
def GI (mg : Str → Option Value) (x : Str) (i : Int) : Prop := ∃ t, mg x = some (.int i t)
def wN : List Str := ["reserve", "minute", "saved", "places", "ways", "helis"]
def hN : List Str := ["place", "fuel", "busy", "aboard", "tank", "burn", "hover", "seats", "winch"]
def pN : List Str := ["is_base", "is_open", "waiting"]
def fN : List Str := ["world", "earlier", "later"]
structure Txt (K : PySem.W.Frag) (mg : Str → Option Value) (C : Cs) : Prop where
  cw : Cls K C.w
  ch : Cls K C.h
  cp : Cls K C.p
  nw : ∀ f ∈ wN, NoAttr K C.w f
  nh : ∀ f ∈ hN, NoAttr K C.h f
  np : ∀ f ∈ pN, NoAttr K C.p f
  wh : C.w ≠ C.h
  wp : C.w ≠ C.p
  hp : C.h ≠ C.p
  len : mg "len" = none
  min : mg "min" = none
  max : mg "max" = none
  enumerate : mg "enumerate" = none
  sum : mg "sum" = none
  dict : mg "dict" = none
  cf : Cls K C.f
  nf : ∀ f ∈ fN, NoAttr K C.f f
  fw : C.f ≠ C.w
  fh : C.f ≠ C.h
  fp : C.f ≠ C.p
  gi : ∀ p ∈ (([("NOT_THERE", -2), ("NOBODY", -6), ("TOO_FEW_WAIT", -12), ("NOT_NOW", -16), ("ALREADY_SO", -17), ("WRONG_NUMBER", -22), ("TOO_MANY", -28), ("MAY_NOT", -33), ("NO_SEATS", -62), ("TOO_LATE", -75),
    ("MINUTES_TO_REFUEL", 10), ("MOST_PLACES", 6), ("MOST_HELICOPTERS", 3), ("MOST_WAITING", 1000), ("MOST_SAVED", 100000), ("LONGEST_WAY", 300), ("LARGEST_TANK", 10000), ("MOST_BURNT", 100), ("MOST_SEATS", 30), ("SLOWEST_WINCH", 60),
    ("MOST_MINUTES", 1440), ("LAST_MINUTE", 10000), ("LONGEST_RESERVE", 60)] : List (Str × Int)) ++ ([
    ("NO_CHANGE", -2), ("NO_BASE", -6), ("NONE_BUSY", -6), ("NO_WAY", -33), ("MOST_TAKEN_BACK", 20), ("MINUTES_BETWEEN_LOADS", 10), ("MOST_MINUTES_TO_BRING", 10000), ("MOST_TO_BRING", 1000)] : List (Str × Int)) ++ ([
    ("HF_START", 0), ("HF_PLACE", 1), ("HF_WAY", 2), ("HF_HELI", 3), ("HF_GO", 4), ("HF_WINCH", 5), ("HF_LAND", 6), ("HF_REFUEL", 7), ("HF_MINUTES", 8), ("HF_CLOSE", 9), ("HF_OPEN", 10), ("HF_MORE", 11),
    ("HF_MAY", 12), ("HF_STAY", 13), ("HF_LIFT", 14), ("HF_NEAREST", 15), ("HF_MUST", 16), ("HF_RANGE", 17), ("HF_BRINGS", 18), ("HF_LEAST", 19), ("HF_WHERE", 20), ("HF_LOOK", 21), ("HF_SEE", 22), ("HF_FAR", 23), ("HF_NEXT", 24), ("HF_SUMS", 25), ("HF_BACK", 26), ("HF_AGAIN", 27)] : List (Str × Int))), GI mg p.1 p.2
section
variable {X : Cx} {K : PySem.W.Frag} {H : Hp} {Q : VK} {C : Cs} {A : Adr} {s : Sea} {mg : Str → Option Value}
theorem pe_gint {x : Str} {i : Int} {pos : Pos} (h : GI X.mg x i) (hg : Gl X x := by rfl) (hd : (x == ("__debug__" : Str)) = false := by decide) : PE X (.Name x pos) (tC (.int i)) := by
  obtain ⟨t, h⟩ := h
  exact pe_glob hg h ⟨t, rfl⟩ hd
/-- o.f, read -/
theorem rd {a D dx : Addr} {fs : List (Str × V)} {f : Str} {v : V} (h : H a = some (.ins D dx fs)) (c : Cls K D) (n : NoAttr K D f) (l : fs.lookup f = some v) (q : Q v H) :
    ∃ a' C' dx' fs' v', V.ref a = V.ref a' ∧ H a' = some (.ins C' dx' fs') ∧ Cls K C' ∧ NoAttr K C' f ∧ fs'.lookup f = some v' ∧ Q v' H := ⟨a, D, dx, fs, v, rfl, h, c, n, l, q⟩
theorem rdW {f : Str} {v : V} (T : Txt K mg C) (W : WorldAt C H A s) (l : (wf s A).lookup f = some v) (q : Q v H) (n : f ∈ wN := by decide +kernel) :
    ∃ a' C' dx' fs' v', V.ref A.w = V.ref a' ∧ H a' = some (.ins C' dx' fs') ∧ Cls K C' ∧ NoAttr K C' f ∧ fs'.lookup f = some v' ∧ Q v' H := let ⟨_, h⟩ := W.w; rd h T.cw (T.nw f n) l q
theorem rdH {a : Addr} {x : Heli} {f : Str} {v : V} (T : Txt K mg C) (W : HeliAt C H a x) (l : (hf x).lookup f = some v) (q : Q v H) (n : f ∈ hN := by decide +kernel) :
    ∃ a' C' dx' fs' v', V.ref a = V.ref a' ∧ H a' = some (.ins C' dx' fs') ∧ Cls K C' ∧ NoAttr K C' f ∧ fs'.lookup f = some v' ∧ Q v' H := let ⟨_, h⟩ := W; rd h T.ch (T.nh f n) l q
theorem rdP {a : Addr} {x : KPlace} {f : Str} {v : V} (T : Txt K mg C) (W : PlaceAt C H a x) (l : (pf x).lookup f = some v) (q : Q v H) (n : f ∈ pN := by decide +kernel) :
    ∃ a' C' dx' fs' v', V.ref a = V.ref a' ∧ H a' = some (.ins C' dx' fs') ∧ Cls K C' ∧ NoAttr K C' f ∧ fs'.lookup f = some v' ∧ Q v' H := let ⟨_, h⟩ := W; rd h T.cp (T.np f n) l q
end
/-! ## what a def can -/
/-- the def x of the text, as it stands behind the top -/
def Has (K : PySem.W.Frag) (mg : Str → Option Value) (x : Str) (st : Stmt) (ps : List Str) : Prop := ∃ f fd, Fun K x x st f fd ∧ mg x = some (.ref f) ∧ Binds K fd ps []
/-- its promise -/
def Can (P : Program) (w : World) (K : PySem.W.Frag) (mg : Str → Option Value) (base : Heap) (k : Nat) (x : Str) (ps : List Str) (sp : Sp) : Prop :=
  ∃ f fd, FnOk P w K mg base CX0 k f fd ps sp ∧ mg x = some (.ref f) ∧ PySem.W.keepIn K (.ref f) = true ∧ Binds K fd ps []
theorem pe_can {X : Cx} {k : Nat} {x : Str} {ps : List Str} {sp : Sp} {e : Expr} {es : List Expr} {t : TA} {p pos : Pos} {j : Nat} (c : Can X.prog X.w X.K X.mg X.base k x ps sp) (hr : Room j X.A) (hj : k ≤ j) (ha : PA X (e :: es) t) (hg : Gl X x := by rfl)
    (hdb : (x == ("__debug__" : Str)) = false := by decide) (he : starEach (e :: es) X.env = (false, eval e X.env) :: starEach es X.env := by rfl) (hpl : (backTo pos (starEach es X.env)).any (·.1) = false := by rfl) :
    PE X (.Call (.Name x p) (e :: es) [] pos) (tCall sp [] E0 t) := by
  obtain ⟨f, fd, F, hm, hk, hb⟩ := c
  exact pe_call F (hr.mono hj) hg hm hk hb .nil pass0 ha hdb he hpl
section
variable {P : Program} {w : World} {K : PySem.W.Frag} {mg : Str → Option Value} {base : Heap}
theorem can_of {x : Str} {st : Stmt} {N ps : List Str} {k : Nat} {sp : Sp} (F : Has K mg x st ps) (S : FnScope N ps (defScope st)) (len : ∀ vs H Q E, sp vs H Q E → vs.length = ps.length)
    (hbody : ∀ (f : Addr) (cdv : Value) (A : Around) (outer : List Env) (s : Shared) (H : Hp) (vs : List V) (Q : VK) (E : XK), Room k (A.deeper (envOfC x (defScope st) s.heap.objs.size f cdv)) → sp vs H Q E →
      ∃ t, PSs (cxOf CX0 P w K mg base N x (defScope st) f cdv A outer s H E).nox (defBody st) t ∧ t { nx := fun _ H' => Q .non H', rt := Q } (start N vs) H) : Can P w K mg base (k + 1) x ps sp := by
  obtain ⟨f, fd, F, hm, hb⟩ := F
  exact ⟨f, fd, F.ok S len fun cdv A outer s H vs Q E hr h => hbody f cdv A outer s H vs Q E hr h, hm, F.kp, hb⟩
/-! ## has_place, has_helicopter -/
abbrev sHasPlace : Stmt := top 18
def spHasPlace (C : Cs) : Sp := fun vs H Q _ => ∃ (A : Adr) (s : Sea) (p : Nat), vs = [.ref A.w, .int p] ∧ WorldAt C H A s ∧ Q (.bl (decide (p < s.places.length))) H
theorem scHasPlace : FnScope ["world", "p"] ["world", "p"] (defScope sHasPlace) := ⟨rfl, rfl, rfl, by decide +kernel, rfl, by decide +kernel, by decide +kernel⟩
theorem okHasPlace {C : Cs} (T : Txt K mg C) (F : Has K mg "has_place" sHasPlace ["world", "p"]) : Can P w K mg base 1 "has_place" ["world", "p"] (spHasPlace C) := by
  refine can_of F scHasPlace (fun vs H Q E h => ?_) (fun f cdv A0 outer s0 H vs Q E hr h => ?_)
  · obtain ⟨A, s, p, rfl, _⟩ := h
    rfl
  · obtain ⟨A, s, p, rfl, W, k⟩ := h
    refine ⟨_, pss_one (ps_ret (pe_cmpR op_lt (pv 1) (pe_callB call_len_seq (by rfl) T.len PySem.boot_len (pa_cons (pe_fld (pv 0) rfl) pa_nil)) (nomark _))), ?_⟩
    refine ⟨_, rfl, _, rfl, rdW T W rfl ?_⟩
    refine ⟨_, _, rfl, .inl (SqL.of W.lp), _, _, rfl, rfl, ?_⟩
    rw [List.length_map, W.np]
    simpa using k
end
end Hf
end
section
set_option Elab.async false
set_option linter.all false
set_option maxRecDepth 100000
set_option maxHeartbeats 2000000
namespace Hf
open PySem PySem.Spec PyProof.Rows L2
open Km446 (Sea Heli Desk Ans)
theorem call_min3 {X : Cx} (hc : X.calm = true) : CallR X (.builtin "min") (fun xs H Q => ∃ i j k, xs = [.int i, .int j, .int k] ∧ Q (.int (if j < i then (if k < j then k else j) else (if k < i then k else i))) H) := by
  intro pins s σ H xs us Q I r h
  obtain ⟨i, j, k, rfl, q⟩ := h
  obtain ⟨u1, u2, u3, rfl, ⟨t1, rfl⟩, ⟨t2, rfl⟩, ⟨t3, rfl⟩⟩ : ∃ u1 u2 u3, us = [u1, u2, u3] ∧ RelV (.int i) u1 ∧ RelV (.int j) u2 ∧ RelV (.int k) u3 := by
    cases r with
    | cons r1 r2 =>
      cases r2 with
      | cons r3 r4 =>
        cases r4 with
        | cons r5 r6 => cases r6; exact ⟨_, _, _, rfl, r1, r3, r5⟩
  refine min_three_ints (I.ok.hd hc) fun h' tk k => ⟨_, H, I.kept k, ?_, q⟩
  split <;> split <;> exact ⟨_, rfl⟩
/-- an optional number as a value -/
def nv : Option Nat → V
  | none => .non
  | some n => .int n
section
variable {P : Program} {w : World} {K : PySem.W.Frag} {mg : Str → Option Value} {base : Heap} {C : Cs}
local macro_rules | `(tactic| walk_at "f") => `(tactic| refine ⟨_, _, _, _, _, rfl, by assumption, by assumption, (by first | exact Txt.nw (by assumption) _ (by decide +kernel) | exact Txt.nh (by assumption) _ (by decide +kernel) | exact Txt.np (by assumption) _ (by decide +kernel)), by rfl, ?_⟩)
local macro_rules | `(tactic| walk_at "r") => `(tactic| repeat (first | refine ⟨_, rfl, ?_⟩ | walk_at "f" | refine ⟨_, _, rfl, rfl, ?_⟩ | refine ⟨rfl, ?_⟩))
abbrev s_has_helicopter : Stmt := top 19
theorem sc_has_helicopter : FnScope ["world", "h"] ["world", "h"] (defScope s_has_helicopter) := ⟨rfl, rfl, rfl, by decide +kernel, rfl, by decide +kernel, by decide +kernel⟩
def sp_has_helicopter (C : Cs) : Sp := fun vs H Q _ => ∃ (A : Adr) (s : Sea) (h : Nat), vs = [.ref A.w, .int h] ∧ WorldAt C H A s ∧ Q (.bl (decide (h < s.helis.length))) H
theorem ok_has_helicopter (T : Txt K mg C) (F : Has K mg "has_helicopter" s_has_helicopter ["world", "h"]) : Can P w K mg base 1 "has_helicopter" ["world", "h"] (sp_has_helicopter C) := by
  refine can_of F sc_has_helicopter (fun vs H Q E h => ?_) (fun f cdv A0 outer s0 H vs Q E hr h => ?_)
  · obtain ⟨A, s, p, rfl, _⟩ := h
    rfl
  · obtain ⟨A, s, p, rfl, W, k⟩ := h
    refine ⟨_, (pss_one (ps_ret (pe_cmpR op_lt (pv 1) (pe_callB call_len_seq (by rfl) T.len PySem.boot_len (pa_cons (pe_fld (pv 0) rfl) pa_nil)) (nomark _)))), ?_⟩
    have tw := T.cw
    obtain ⟨dx, hw⟩ := W.w
    walk_at "r"
    refine ⟨_, _, rfl, .inl (SqL.of W.lh), _, _, rfl, rfl, ?_⟩
    rw [List.length_map, W.nh]
    simpa using k
abbrev s_way_key : Stmt := top 20
theorem sc_way_key : FnScope ["a", "b"] ["a", "b"] (defScope s_way_key) := ⟨rfl, rfl, rfl, by decide +kernel, rfl, by decide +kernel, by decide +kernel⟩
def sp_way_key : Sp := fun vs H Q _ => ∃ (a b : Nat), vs = [.int a, .int b] ∧ ∀ p, H p = none → Q (.ref p) (upd H p (.tup ((wkey (min a b) (max a b)).map kV)))
theorem ok_way_key (T : Txt K mg C) (F : Has K mg "way_key" s_way_key ["a", "b"]) : Can P w K mg base 1 "way_key" ["a", "b"] sp_way_key := by
  refine can_of F sc_way_key (fun vs H Q E h => ?_) (fun f cdv A0 outer s0 H vs Q E hr h => ?_)
  · obtain ⟨a, b, rfl, _⟩ := h
    rfl
  · obtain ⟨a, b, rfl, k⟩ := h
    refine ⟨_, (pss_one (ps_ret (pe_tup (pa_cons (pe_callB (call_min2 rfl) (by rfl) T.min PyProof.Rows.boot_min (pa_cons (pv 0) (pa_cons (pv 1) pa_nil))) (pa_cons (pe_callB (call_max2 rfl) (by rfl) T.max PyProof.Rows.boot_max (pa_cons (pv 0) (pa_cons (pv 1) pa_nil))) pa_nil))))), ?_⟩
    refine ⟨_, rfl, _, rfl, _, _, rfl, _, rfl, _, rfl, _, _, rfl, (by show 2 ≤ sizeLine; decide), fun p hp => ?_⟩
    have e1 : (if (b : Int) < (a : Int) then (b : Int) else (a : Int)) = ((min a b : Nat) : Int) := by split <;> omega
    have e2 : (if (b : Int) > (a : Int) then (b : Int) else (a : Int)) = ((max a b : Nat) : Int) := by split <;> omega
    rw [e1, e2]
    exact k p hp
abbrev s_way_minutes : Stmt := top 21
theorem sc_way_minutes : FnScope ["world", "a", "b"] ["world", "a", "b"] (defScope s_way_minutes) := ⟨rfl, rfl, rfl, by decide +kernel, rfl, by decide +kernel, by decide +kernel⟩
def sp_way_minutes (C : Cs) : Sp := fun vs H Q _ => ∃ (A : Adr) (s : Sea) (a b : Nat), vs = [.ref A.w, .int a, .int b] ∧ WorldAt C H A s ∧ (∀ x y, s.ways x y = s.ways y x) ∧ ∀ H', Same H H' → Q (nv (s.way a b)) H'
theorem way_val {s : Sea} {kvs : List (List Key × V)} (hk : WaysIn kvs s.ways) (hs : ∀ x y, s.ways x y = s.ways y x) {a b : Nat} (hne : a ≠ b) : (valV kvs (wkey (min a b) (max a b))).getD .non = nv (s.way a b) := by
  rw [hk.val _ _ (by omega), way_ne hne]
  have e : s.ways (min a b) (max a b) = s.ways a b := by
    by_cases q : a < b
    · rw [Nat.min_eq_left (by omega), Nat.max_eq_right (by omega)]
    · rw [Nat.min_eq_right (by omega), Nat.max_eq_left (by omega), hs]
  rw [e]
  split <;> rfl
theorem ok_way_minutes (T : Txt K mg C) (F : Has K mg "way_minutes" s_way_minutes ["world", "a", "b"]) (c_way_key : Can P w K mg base 1 "way_key" ["a", "b"] sp_way_key) : Can P w K mg base 2 "way_minutes" ["world", "a", "b"] (sp_way_minutes C) := by
  refine can_of F sc_way_minutes (fun vs H Q E h => ?_) (fun f cdv A0 outer s0 H vs Q E hr h => ?_)
  · obtain ⟨A, s, a, b, rfl, _⟩ := h
    rfl
  · obtain ⟨A, s, a, b, rfl, W, hs, k⟩ := h
    refine ⟨_, (pss_cons (ps_if (pt_cmpR op_eq (pv 1) (pv 2) (nomark _)) (pss_one (ps_ret pe_int)) pss_nil)
      (pss_one (ps_ret (pe_dget1 (hu_of hr) (pe_fld (pv 0) rfl) (pe_can c_way_key hr (by decide) (pa_cons (pv 1) (pa_cons (pv 2) pa_nil))) ⟨rfl, rfl, rfl, rfl⟩)))), ?_⟩
    refine ⟨_, rfl, _, rfl, rfl, _, rfl, ite2 (fun e => ?_) (fun e => ?_)⟩
    · have e : a = b := by simp at e; omega
      subst e
      have q := k H (Same.refl H)
      rw [way_self] at q
      exact q
    · have e : a ≠ b := by simp at e; omega
      obtain ⟨kvs, hd, hk⟩ := W.dw
      have tw := T.cw
      obtain ⟨dx, hw⟩ := W.w
      walk_at "r"
      refine ⟨.inr ⟨kvs, .inl hd⟩, ?_⟩
      walk_at "r"
      refine ⟨a, b, rfl, fun p hp => ⟨_, DGet.t (same_new hp _ _ hd) upd_same, ?_⟩⟩
      rw [way_val hk hs e]
      exact k _ (same_new hp)
theorem lc_enum {a : Addr} {xs : List V} {g : TG} {tt : TT} {te : TE} {vs : List Nat} {σ : L2.St} {H1 : Hp} {D : Addr} {Qd : Hp → Prop} (Pv : Nat → Hp → Prop) (h0 : Pv 0 (upd H1 D (.lst []))) (hl : ∀ i H, i ≤ xs.length → Pv i H → SqL K H a xs)
    (hs : ∀ i x H T, xs[i]? = some x → Pv i H → H T = none → g (.ref T) (wipe σ vs) (upd H T (.tup [.int (i : Nat), x])) fun σ2 H2 => wipe σ2 vs = wipe σ vs ∧ tt σ2 H2 fun b H3 =>
      if b = true then te σ2 H3 fun y H4 => ∃ acc, H4 D = some (.lst acc) ∧ acc.length < sizeLine ∧ Pv (i + 1) (upd H4 D (.lst (acc ++ [y]))) else Pv (i + 1) H3) (hd : ∀ H, Pv xs.length H → Qd H) :
    ∃ W : Nat → Nat → Hp → Prop, (∃ m, W 0 m (upd H1 D (.lst []))) ∧ ∀ i m H, W i m H →
      ((Ite K a).stop i H ∧ Qd H) ∨ ((Ite K a).go i H ∧ ∃ Nx : Hp → Prop, (∀ H', Nx H' → ∃ m', m' < m ∧ W (i + 1) m' H') ∧ ∀ x H', (Ite K a).yld i H x H' → g x (wipe σ vs) H' fun σ2 H2 => wipe σ2 vs = wipe σ vs ∧ tt σ2 H2 fun b H3 =>
        if b = true then te σ2 H3 fun y H4 => ∃ acc, H4 D = some (.lst acc) ∧ acc.length < sizeLine ∧ Nx (upd H4 D (.lst (acc ++ [y]))) else Nx H3) := by
  refine ⟨fun i m H => m = xs.length - i ∧ i ≤ xs.length ∧ Pv i H, ⟨xs.length, by simp, Nat.zero_le _, h0⟩, ?_⟩
  rintro i m H ⟨rfl, hi, p⟩
  have q := hl i H hi p
  by_cases hlt : i < xs.length
  · refine .inr ⟨⟨xs, xs[i], q, by simp [hlt]⟩, Pv (i + 1), fun H' p' => ⟨xs.length - (i + 1), by omega, rfl, hlt, p'⟩, fun x H' y => ?_⟩
    obtain ⟨T0, z, rfl, hT, rfl, y⟩ := y
    exact hs i z _ T0 (y xs q) p hT
  · have e : i = xs.length := by omega
    subst e
    exact .inl ⟨⟨xs, q, Nat.le_refl _⟩, hd H p⟩
theorem range_snoc {f : Nat → Bool} (i : Nat) : (List.range (i + 1)).filter f = (List.range i).filter f ++ (if f i = true then [i] else []) := by
  rw [List.range_succ, List.filter_append]
  congr 1
  by_cases h : f i = true
  · rw [if_pos h, List.filter_cons, if_pos h]; rfl
  · rw [if_neg h, List.filter_cons, if_neg h]; rfl
abbrev s_open_bases : Stmt := top 22
theorem sc_open_bases : FnScope ["world", "b", "place"] ["world"] (defScope s_open_bases) := ⟨rfl, rfl, rfl, by decide +kernel, rfl, by decide +kernel, by decide +kernel⟩
def sp_open_bases (C : Cs) : Sp := fun vs H Q _ => ∃ (A : Adr) (s : Sea), vs = [.ref A.w] ∧ WorldAt C H A s ∧ SeaW s ∧ ∀ H' l, Same H H' → H l = none → H' l = some (.lst (s.bases.map fun (b : Nat) => V.int b)) → Q (.ref l) H'
theorem ok_open_bases (T : Txt K mg C) (F : Has K mg "open_bases" s_open_bases ["world"]) : Can P w K mg base 1 "open_bases" ["world"] (sp_open_bases C) := by
  refine can_of F sc_open_bases (fun vs H Q E h => ?_) (fun f cdv A0 outer s0 H vs Q E hr h => ?_)
  · obtain ⟨A, s, rfl, _⟩ := h
    rfl
  · obtain ⟨A, s, rfl, W, ok, k⟩ := h
    refine ⟨_, (pss_one (ps_ret (pe_lc (g := (gTup K 2 (gCons (gName 1) (gCons (gName 2) gNil)))) (tt := (tB (tFld K (tVar 2) "is_open"))) (te := (tVar 1)) rfl sc_open_bases.nd (pi_enum (by rfl) T.enumerate (pa_cons (pe_fld (pv 0) rfl) pa_nil)) (blkOk_by (own := [("b", 1), ("place", 2)]) (by show blkC ["world", "b", "place"] (defScope s_open_bases) _ [("b", 1), ("place", 2)] = true; decide +kernel)) (by intro _ _ _ _ _; exact (pg_tup rfl (pgs_cons (pg_name (i := 1) sc_open_bases.nd rfl (Or.inl rfl)) (pgs_cons (pg_name (i := 2) sc_open_bases.nd rfl (Or.inl rfl)) pgs_nil)))) (by intro _ _ _ _ _; exact (pts_one (pt_val (pe_fld (pv 2) rfl)))) (by intro _ _ _ _ _; exact (pv 1))))), ?_⟩
    have tw := T.cw
    have tp := T.cp
    obtain ⟨dx, hw⟩ := W.w
    walk_at "r"
    refine ⟨_, _, rfl, SqL.of W.lp, fun D hD => ?_⟩
    refine lc_enum (K := K) (a := A.lp) (xs := A.ps.map V.ref) (fun i H' => Same H H' ∧ H' D = some (.lst (((List.range i).filter (fun b => (s.place b).base && (s.place b).open_)).map fun (b : Nat) => V.int b))) ⟨same_new hD, upd_same⟩ (fun i H' _ h => SqL.of (h.1 _ _ W.lp)) ?_ ?_
    · rintro i x H' T0 hx ⟨h1, h2⟩ hT
      rw [List.getElem?_map] at hx
      cases ea : A.ps[i]? with
      | none => rw [ea] at hx; cases hx
      | some a =>
        rw [ea] at hx
        cases hx
        obtain ⟨y, hy, dy, hpl⟩ := W.pat i a ea
        have hpl' : (upd H' T0 (.tup [.int (i : Nat), .ref a])) a = some (.ins C.p dy (pf y)) := same_new hT _ _ (h1 _ _ hpl)
        have hD' : (upd H' T0 (.tup [.int (i : Nat), .ref a])) D = _ := same_new hT _ _ h2
        refine ⟨_, _, rfl, SqT.of upd_same, rfl, _, _, rfl, _, _, rfl, rfl, rfl, ?_⟩
        walk_at "r"
        have ey : s.place i = y := place_get hy
        have eo : ((s.place i).base && (s.place i).open_) = y.open_ := by
          rw [ey]
          cases z : y.open_ with
          | false => exact Bool.and_false _
          | true => rw [ok.op i y hy z]; rfl
        refine ite2 (fun e => ?_) (fun e => ?_)
        · refine ⟨_, rfl, _, hD', ?_, ?_, ?_⟩
          · rw [List.length_map]
            refine Nat.lt_of_le_of_lt (List.length_filter_le _ _) ?_
            rw [List.length_range]
            have := (List.getElem?_eq_some_iff.mp ea).1
            have := W.np
            have := ok.np
            exact Nat.lt_of_lt_of_le (show i < 7 by omega) (by decide)
          · intro b o e'
            have nb : b ≠ D := ne_of_none e' hD
            rw [upd_ne nb]
            exact same_new hT _ _ (h1 _ _ e')
          · rw [upd_same, range_snoc, eo, if_pos e, List.map_append]
            rfl
        · refine ⟨fun b o e' => same_new hT _ _ (h1 _ _ e'), ?_⟩
          rw [hD', range_snoc, eo, if_neg e, List.append_nil]
    · rintro H' ⟨h1, h2⟩
      rw [List.length_map, W.np] at h2
      exact k H' D h1 hD h2
/-! ## the nearest open base -/
theorem take_succ_of {α : Type} {l : List α} {i : Nat} {x : α} (h : l[i]? = some x) : l.take (i + 1) = l.take i ++ [x] := by
  rw [List.take_add_one, h]
  rfl
abbrev s_nearest_base : Stmt := top 27
theorem sc_nearest_base : FnScope ["world", "p", "nearest", "fewest", "b", "minutes"] ["world", "p"] (defScope s_nearest_base) := ⟨rfl, rfl, rfl, by decide +kernel, rfl, by decide +kernel, by decide +kernel⟩
def sp_nearest_base (C : Cs) : Sp := fun vs H Q _ => ∃ (A : Adr) (s : Sea) (p : Nat), vs = [.ref A.w, .int p] ∧ WorldAt C H A s ∧ SeaW s ∧ ∀ H', Same H H' → Q (nv ((s.nearest p).map (·.1))) H'
theorem ok_nearest_base (T : Txt K mg C) (F : Has K mg "nearest_base" s_nearest_base ["world", "p"]) (c_open_bases : Can P w K mg base 1 "open_bases" ["world"] (sp_open_bases C)) (c_way_minutes : Can P w K mg base 2 "way_minutes" ["world", "a", "b"] (sp_way_minutes C)) :
    Can P w K mg base 3 "nearest_base" ["world", "p"] (sp_nearest_base C) := by
  refine can_of F sc_nearest_base (fun vs H Q E h => ?_) (fun f cdv A0 outer s0 H vs Q E hr h => ?_)
  · obtain ⟨A, s, p, rfl, _⟩ := h
    rfl
  · obtain ⟨A, s, p, rfl, W, ok, k⟩ := h
    refine ⟨_, (pss_cons (ps_set (i := 2) sc_nearest_base.nd rfl (Or.inl rfl) pe_non)
      (pss_cons (ps_set (i := 3) sc_nearest_base.nd rfl (Or.inl rfl) pe_non)
      (pss_cons (ps_for PassesOwn.never rfl (pi_list (pe_can c_open_bases hr (by decide) (pa_cons (pv 0) pa_nil))) (pg_name (i := 4) sc_nearest_base.nd rfl (Or.inl rfl)) (pss_cons (ps_set (i := 5) sc_nearest_base.nd rfl (Or.inl rfl) (pe_can c_way_minutes hr (by decide) (pa_cons (pv 0) (pa_cons (pv 1) (pa_cons (pv 4) pa_nil)))))
      (pss_one (ps_if (PW.pt (pw_and (pt_cmpR op_notN (pv 5) pe_non (nomark _)) (pw_and1 (PW.pt (pw_or (pt_cmpR op_isN (pv 3) pe_non (nomark _)) (pw_or1 (pt_cmpR op_lt (pv 5) (pv 3) (nomark _)))))))) (pss_cons (ps_set (i := 2) sc_nearest_base.nd rfl (Or.inl rfl) (pv 4))
      (pss_one (ps_set (i := 3) sc_nearest_base.nd rfl (Or.inl rfl) (pv 5)))) pss_nil))))
      (pss_one (ps_ret (pv 2)))))), ?_⟩
    walk_at "r"
    refine ⟨A, s, rfl, W, ok, fun H1 l e1 hl h1 => ?_⟩
    refine ⟨l, rfl, ⟨_, SqL.of h1⟩, for_list (K := K) (a := l) (xs := s.bases.map fun (b : Nat) => V.int b) (fun i σ H' => ∃ v4 v5 : Option V, σ = [some (.ref A.w), some (.int p), some (nv (((s.bases.take i).foldl (nstep s p) none).map (·.1))), some (nv (((s.bases.take i).foldl (nstep s p) none).map (·.2))), v4, v5] ∧ Same H1 H')
      ⟨none, none, rfl, Same.refl _⟩ (fun i σ H' _ ⟨_, _, _, e⟩ => SqL.of (e _ _ h1)) ?_ ?_⟩
    · rintro i y σ H' hi ⟨v4, v5, rfl, e⟩
      rw [List.getElem?_map] at hi
      cases eb : s.bases[i]? with
      | none => rw [eb] at hi; cases hi
      | some b =>
        rw [eb] at hi
        cases hi
        walk_at "r"
        refine ⟨A, s, p, b, rfl, (W.same e1).same e, ok.sym, fun H2 e2 => ?_⟩
        have tk := take_succ_of eb
        have fin : ∀ r', nstep s p ((s.bases.take i).foldl (nstep s p) none) b = r' → (s.bases.take (i + 1)).foldl (nstep s p) none = r' := fun r' h => by rw [tk, List.foldl_append]; exact h
        cases hw : s.way p b with
        | none =>
          have q := fin _ (nstep_none hw)
          walk_at "r"
          refine iteF ?_
          exact ⟨_, _, by rw [q]; rfl, e.trans e2⟩
        | some d =>
          cases hr' : (s.bases.take i).foldl (nstep s p) none with
          | none =>
            rw [hr'] at fin
            have q := fin _ (nstep_some0 hw)
            walk_at "r"
            exact ⟨_, _, by rw [q]; rfl, e.trans e2⟩
          | some ce =>
            obtain ⟨c, ee⟩ := ce
            rw [hr'] at fin
            have q := fin _ (nstep_some hw)
            walk_at "r"
            refine ite2 (fun h => ?_) (fun h => ?_)
            · have h : d < ee := by simp at h; omega
              rw [if_pos h] at q
              walk_at "r"
              exact ⟨_, _, by rw [q]; rfl, e.trans e2⟩
            · have h : ¬ d < ee := by simp at h; omega
              rw [if_neg h] at q
              exact ⟨_, _, by rw [q]; rfl, e.trans e2⟩
    · rintro σ H' ⟨v4, v5, rfl, e⟩
      rw [List.length_map, List.take_length]
      walk_at "r"
      exact k H' (e1.trans e)
/-! ## what must be left -/
abbrev s_must_be_left : Stmt := top 28
theorem sc_must_be_left : FnScope ["world", "heli", "p", "base"] ["world", "heli", "p"] (defScope s_must_be_left) := ⟨rfl, rfl, rfl, by decide +kernel, rfl, by decide +kernel, by decide +kernel⟩
def sp_must_be_left (C : Cs) : Sp := fun vs H Q _ => ∃ (A : Adr) (s : Sea) (a : Addr) (x : Heli) (p : Nat), vs = [.ref A.w, .ref a, .int p] ∧ WorldAt C H A s ∧ SeaW s ∧ HeliAt C H a x ∧ x.burn ≤ 100 ∧ ∀ H', Same H H' → Q (nv (s.must x p)) H'
theorem ok_must_be_left (T : Txt K mg C) (F : Has K mg "must_be_left" s_must_be_left ["world", "heli", "p"]) (c_nearest_base : Can P w K mg base 3 "nearest_base" ["world", "p"] (sp_nearest_base C)) (c_way_minutes : Can P w K mg base 2 "way_minutes" ["world", "a", "b"] (sp_way_minutes C)) :
    Can P w K mg base 4 "must_be_left" ["world", "heli", "p"] (sp_must_be_left C) := by
  refine can_of F sc_must_be_left (fun vs H Q E h => ?_) (fun f cdv A0 outer s0 H vs Q E hr h => ?_)
  · obtain ⟨A, s, a, x, p, rfl, _⟩ := h
    rfl
  · obtain ⟨A, s, a, x, p, rfl, W, ok, hx, hb, k⟩ := h
    refine ⟨_, (pss_cons (ps_set (i := 3) sc_must_be_left.nd rfl (Or.inl rfl) (pe_can c_nearest_base hr (by decide) (pa_cons (pv 0) (pa_cons (pv 2) pa_nil))))
      (pss_cons (ps_if (pt_cmpR op_isN (pv 3) pe_non (nomark _)) (pss_one (ps_ret pe_non)) pss_nil)
      (pss_one (ps_ret (pe_op op_mul (pe_op op_add (pe_can c_way_minutes hr (by decide) (pa_cons (pv 0) (pa_cons (pv 2) (pa_cons (pv 3) pa_nil)))) (pe_fld (pv 0) rfl)) (pe_fld (pv 1) rfl)))))), ?_⟩
    have tw := T.cw
    have th := T.ch
    walk_at "r"
    refine ⟨A, s, p, rfl, W, ok, fun H1 e1 => ?_⟩
    unfold Km446.Sea.must at k
    cases hn : s.nearest p with
    | none =>
      rw [hn] at k
      walk_at "r"
      exact k _ e1
    | some ce =>
      obtain ⟨c, e⟩ := ce
      rw [hn] at k
      walk_at "r"
      refine ⟨A, s, p, c, rfl, W.same e1, ok.sym, fun H2 e2 => ?_⟩
      rw [(nearest_mem hn).2]
      have W2 := (W.same e1).same e2
      obtain ⟨dw, hw⟩ := W2.w
      obtain ⟨dh, hh⟩ := (hx.same e1).same e2
      walk_at "r"
      refine ⟨.inr ⟨by omega, by omega⟩, ?_⟩
      have q := k _ (e1.trans e2)
      have ee : ((e : Int) + (s.reserve : Int)) * (x.burn : Int) = ((x.burn * (e + s.reserve) : Nat) : Int) := by rw [Int.mul_comm]; simp
      show Q (.int (((e : Int) + (s.reserve : Int)) * (x.burn : Int))) H2
      rw [ee]
      exact q
abbrev s_is_enough : Stmt := top 29
theorem sc_is_enough : FnScope ["world", "heli", "p", "fuel", "least"] ["world", "heli", "p", "fuel"] (defScope s_is_enough) := ⟨rfl, rfl, rfl, by decide +kernel, rfl, by decide +kernel, by decide +kernel⟩
def enough (o : Option Nat) (fuel : Int) : Bool := match o with
  | none => false
  | some n => decide ((n : Int) ≤ fuel)
def sp_is_enough (C : Cs) : Sp := fun vs H Q _ => ∃ (A : Adr) (s : Sea) (a : Addr) (x : Heli) (p : Nat) (fuel : Int), vs = [.ref A.w, .ref a, .int p, .int fuel] ∧ WorldAt C H A s ∧ SeaW s ∧ HeliAt C H a x ∧ x.burn ≤ 100 ∧ ∀ H', Same H H' → Q (.bl (enough (s.must x p) fuel)) H'
theorem ok_is_enough (T : Txt K mg C) (F : Has K mg "is_enough" s_is_enough ["world", "heli", "p", "fuel"]) (c_must_be_left : Can P w K mg base 4 "must_be_left" ["world", "heli", "p"] (sp_must_be_left C)) : Can P w K mg base 5 "is_enough" ["world", "heli", "p", "fuel"] (sp_is_enough C) := by
  refine can_of F sc_is_enough (fun vs H Q E h => ?_) (fun f cdv A0 outer s0 H vs Q E hr h => ?_)
  · obtain ⟨A, s, a, x, p, fuel, rfl, _⟩ := h
    rfl
  · obtain ⟨A, s, a, x, p, fuel, rfl, W, ok, hx, hb, k⟩ := h
    refine ⟨_, (pss_cons (ps_set (i := 4) sc_is_enough.nd rfl (Or.inl rfl) (pe_can c_must_be_left hr (by decide) (pa_cons (pv 0) (pa_cons (pv 1) (pa_cons (pv 2) pa_nil)))))
      (pss_one (ps_ret (pe_and (pe_cmpR op_notN (pv 4) pe_non (nomark _)) (pe_one (pe_cmpR op_ge (pv 3) (pv 4) (nomark _))))))), ?_⟩
    walk_at "r"
    refine ⟨A, s, a, x, p, rfl, W, ok, hx, hb, fun H1 e1 => ?_⟩
    cases hm : s.must x p with
    | none =>
      rw [hm] at k
      walk_at "r"
      exact k _ e1
    | some n =>
      rw [hm] at k
      walk_at "r"
      exact k _ e1
abbrev s_can_come_back : Stmt := top 30
theorem sc_can_come_back : FnScope ["world", "heli"] ["world", "heli"] (defScope s_can_come_back) := ⟨rfl, rfl, rfl, by decide +kernel, rfl, by decide +kernel, by decide +kernel⟩
def sp_can_come_back (C : Cs) : Sp := fun vs H Q _ => ∃ (A : Adr) (s : Sea) (a : Addr) (x : Heli), vs = [.ref A.w, .ref a] ∧ WorldAt C H A s ∧ SeaW s ∧ HeliAt C H a x ∧ x.burn ≤ 100 ∧ ∀ H', Same H H' → Q (.bl (s.back x)) H'
theorem enough_back (s : Sea) (x : Heli) : enough (s.must x x.place) x.fuel = s.back x := by
  unfold enough Km446.Sea.back
  cases s.must x x.place with
  | none => rfl
  | some n => simp
theorem ok_can_come_back (T : Txt K mg C) (F : Has K mg "can_come_back" s_can_come_back ["world", "heli"]) (c_is_enough : Can P w K mg base 5 "is_enough" ["world", "heli", "p", "fuel"] (sp_is_enough C)) : Can P w K mg base 6 "can_come_back" ["world", "heli"] (sp_can_come_back C) := by
  refine can_of F sc_can_come_back (fun vs H Q E h => ?_) (fun f cdv A0 outer s0 H vs Q E hr h => ?_)
  · obtain ⟨A, s, a, x, rfl, _⟩ := h
    rfl
  · obtain ⟨A, s, a, x, rfl, W, ok, hx, hb, k⟩ := h
    refine ⟨_, (pss_one (ps_ret (pe_can c_is_enough hr (by decide) (pa_cons (pv 0) (pa_cons (pv 1) (pa_cons (pe_fld (pv 1) rfl) (pa_cons (pe_fld (pv 1) rfl) pa_nil))))))), ?_⟩
    have th := T.ch
    obtain ⟨dh, hh⟩ := hx
    walk_at "r"
    refine ⟨A, s, a, x, x.place, x.fuel, rfl, W, ok, ⟨dh, hh⟩, hb, fun H1 e1 => ?_⟩
    rw [enough_back]
    exact k _ e1
abbrev s_may_go : Stmt := top 31
theorem sc_may_go : FnScope ["world", "heli", "p", "minutes"] ["world", "heli", "p"] (defScope s_may_go) := ⟨rfl, rfl, rfl, by decide +kernel, rfl, by decide +kernel, by decide +kernel⟩
def sp_may_go (C : Cs) : Sp := fun vs H Q _ => ∃ (A : Adr) (s : Sea) (a : Addr) (x : Heli) (p : Nat), vs = [.ref A.w, .ref a, .int p] ∧ WorldAt C H A s ∧ SeaW s ∧ HeliAt C H a x ∧ x.burn ≤ 100 ∧ ∀ H', Same H H' → Q (.bl (s.may x p)) H'
theorem enough_may {s : Sea} {x : Heli} {p d : Nat} (h : s.way x.place p = some d) : enough (s.must x p) ((x.fuel : Int) - (d : Int) * (x.burn : Int)) = s.may x p := by
  unfold Km446.Sea.may
  rw [h]
  show _ = (decide (x.burn * d ≤ x.fuel) && s.back { x with place := p, fuel := x.fuel - x.burn * d })
  unfold enough Km446.Sea.back
  have e : s.must { x with place := p, fuel := x.fuel - x.burn * d } p = s.must x p := rfl
  show _ = (decide (x.burn * d ≤ x.fuel) && match s.must { x with place := p, fuel := x.fuel - x.burn * d } p with | none => false | some n => decide (n ≤ x.fuel - x.burn * d))
  rw [e]
  have c : (d : Int) * (x.burn : Int) = ((x.burn * d : Nat) : Int) := by rw [Int.mul_comm]; simp
  rw [c]
  generalize x.burn * d = m
  cases s.must x p with
  | none => simp
  | some n =>
    show decide ((n : Int) ≤ (x.fuel : Int) - (m : Int)) = (decide (m ≤ x.fuel) && decide (n ≤ x.fuel - m))
    rw [Bool.eq_iff_iff]
    simp only [decide_eq_true_eq, Bool.and_eq_true]
    omega
theorem ok_may_go (T : Txt K mg C) (F : Has K mg "may_go" s_may_go ["world", "heli", "p"]) (c_way_minutes : Can P w K mg base 2 "way_minutes" ["world", "a", "b"] (sp_way_minutes C)) (c_is_enough : Can P w K mg base 5 "is_enough" ["world", "heli", "p", "fuel"] (sp_is_enough C)) : Can P w K mg base 6 "may_go" ["world", "heli", "p"] (sp_may_go C) := by
  refine can_of F sc_may_go (fun vs H Q E h => ?_) (fun f cdv A0 outer s0 H vs Q E hr h => ?_)
  · obtain ⟨A, s, a, x, p, rfl, _⟩ := h
    rfl
  · obtain ⟨A, s, a, x, p, rfl, W, ok, hx, hb, k⟩ := h
    refine ⟨_, (pss_cons (ps_set (i := 3) sc_may_go.nd rfl (Or.inl rfl) (pe_can c_way_minutes hr (by decide) (pa_cons (pv 0) (pa_cons (pe_fld (pv 1) rfl) (pa_cons (pv 2) pa_nil)))))
      (pss_cons (ps_if (pt_cmpR op_isN (pv 3) pe_non (nomark _)) (pss_one (ps_ret pe_bl)) pss_nil)
      (pss_one (ps_ret (pe_can c_is_enough hr (by decide) (pa_cons (pv 0) (pa_cons (pv 1) (pa_cons (pv 2) (pa_cons (pe_op op_sub (pe_fld (pv 1) rfl) (pe_op op_mul (pv 3) (pe_fld (pv 1) rfl))) pa_nil))))))))), ?_⟩
    have th := T.ch
    obtain ⟨dh, hh⟩ := hx
    walk_at "r"
    refine ⟨A, s, x.place, p, rfl, W, ok.sym, fun H1 e1 => ?_⟩
    have hh1 := e1 _ _ hh
    cases hw : s.way x.place p with
    | none =>
      walk_at "r"
      have q : s.may x p = false := by unfold Km446.Sea.may; rw [hw]
      rw [q] at k
      exact k _ e1
    | some d =>
      walk_at "r"
      refine ⟨.inr ⟨by omega, by omega⟩, ?_⟩
      walk_at "r"
      refine ⟨A, s, a, x, p, _, rfl, W.same e1, ok, ⟨dh, hh1⟩, hb, fun H2 e2 => ?_⟩
      rw [enough_may hw]
      exact k _ (e1.trans e2)
abbrev s_may_hover : Stmt := top 32
theorem sc_may_hover : FnScope ["world", "heli", "beyond"] ["world", "heli"] (defScope s_may_hover) := ⟨rfl, rfl, rfl, by decide +kernel, rfl, by decide +kernel, by decide +kernel⟩
def sp_may_hover (C : Cs) : Sp := fun vs H Q _ => ∃ (A : Adr) (s : Sea) (a : Addr) (x : Heli), vs = [.ref A.w, .ref a] ∧ WorldAt C H A s ∧ SeaOk s ∧ HeliAt C H a x ∧ HeliOk s x ∧ ∀ H', Same H H' → Q (.int (s.stay x)) H'
theorem ok_may_hover (T : Txt K mg C) (F : Has K mg "may_hover" s_may_hover ["world", "heli"]) (c_must_be_left : Can P w K mg base 4 "must_be_left" ["world", "heli", "p"] (sp_must_be_left C)) : Can P w K mg base 5 "may_hover" ["world", "heli"] (sp_may_hover C) := by
  refine can_of F sc_may_hover (fun vs H Q E h => ?_) (fun f cdv A0 outer s0 H vs Q E hr h => ?_)
  · obtain ⟨A, s, a, x, rfl, _⟩ := h
    rfl
  · obtain ⟨A, s, a, x, rfl, W, ok, hx, hk, k⟩ := h
    refine ⟨_, (pss_cons (ps_set (i := 2) sc_may_hover.nd rfl (Or.inl rfl) (pe_op op_sub (pe_fld (pv 1) rfl) (pe_can c_must_be_left hr (by decide) (pa_cons (pv 0) (pa_cons (pv 1) (pa_cons (pe_fld (pv 1) rfl) pa_nil))))))
      (pss_one (ps_ret (pe_op op_fdiv (pv 2) (pe_fld (pv 1) rfl))))), ?_⟩
    have th := T.ch
    obtain ⟨dh, hh⟩ := hx
    walk_at "r"
    refine ⟨A, s, a, x, x.place, rfl, W, ok.weak, ⟨dh, hh⟩, hk.b2, fun H1 e1 => ?_⟩
    have hh1 := e1 _ _ hh
    obtain ⟨n, hm, hn⟩ := hk.bk.must
    unfold Km446.Sea.stay at k
    rw [hm] at k ⊢
    walk_at "r"
    refine ⟨⟨by have := hk.o1; omega, by have := hk.o2; omega⟩, ?_⟩
    have e : ((x.fuel : Int) - (n : Int)) / (x.hover : Int) = (((x.fuel - n) / x.hover : Nat) : Int) := by
      rw [← Int.ofNat_sub hn]; rfl
    show Q (.int (((x.fuel : Int) - (n : Int)) / (x.hover : Int))) H1
    rw [e]
    exact k _ e1
abbrev s_seats_left : Stmt := top 33
theorem sc_seats_left : FnScope ["heli"] ["heli"] (defScope s_seats_left) := ⟨rfl, rfl, rfl, by decide +kernel, rfl, by decide +kernel, by decide +kernel⟩
def sp_seats_left (C : Cs) : Sp := fun vs H Q _ => ∃ (a : Addr) (x : Heli), vs = [.ref a] ∧ HeliAt C H a x ∧ x.in_ ≤ x.seats ∧ Q (.int ((x.seats - x.in_ : Nat) : Int)) H
theorem ok_seats_left (T : Txt K mg C) (F : Has K mg "seats_left" s_seats_left ["heli"]) : Can P w K mg base 1 "seats_left" ["heli"] (sp_seats_left C) := by
  refine can_of F sc_seats_left (fun vs H Q E h => ?_) (fun f cdv A0 outer s0 H vs Q E hr h => ?_)
  · obtain ⟨a, x, rfl, _⟩ := h
    rfl
  · obtain ⟨a, x, rfl, hx, hi, k⟩ := h
    refine ⟨_, (pss_one (ps_ret (pe_op op_sub (pe_fld (pv 0) rfl) (pe_fld (pv 0) rfl)))), ?_⟩
    have th := T.ch
    obtain ⟨dh, hh⟩ := hx
    walk_at "r"
    rw [Int.ofNat_sub hi] at k
    exact k
abbrev s_winched_in_time : Stmt := top 34
theorem sc_winched_in_time : FnScope ["world", "heli"] ["world", "heli"] (defScope s_winched_in_time) := ⟨rfl, rfl, rfl, by decide +kernel, rfl, by decide +kernel, by decide +kernel⟩
def sp_winched_in_time (C : Cs) : Sp := fun vs H Q _ => ∃ (A : Adr) (s : Sea) (a : Addr) (x : Heli), vs = [.ref A.w, .ref a] ∧ WorldAt C H A s ∧ SeaOk s ∧ HeliAt C H a x ∧ HeliOk s x ∧ ∀ H', Same H H' → Q (.int ((s.stay x / x.winch : Nat) : Int)) H'
theorem ok_winched_in_time (T : Txt K mg C) (F : Has K mg "winched_in_time" s_winched_in_time ["world", "heli"]) (c_may_hover : Can P w K mg base 5 "may_hover" ["world", "heli"] (sp_may_hover C)) : Can P w K mg base 6 "winched_in_time" ["world", "heli"] (sp_winched_in_time C) := by
  refine can_of F sc_winched_in_time (fun vs H Q E h => ?_) (fun f cdv A0 outer s0 H vs Q E hr h => ?_)
  · obtain ⟨A, s, a, x, rfl, _⟩ := h
    rfl
  · obtain ⟨A, s, a, x, rfl, W, ok, hx, hk, k⟩ := h
    refine ⟨_, (pss_one (ps_ret (pe_op op_fdiv (pe_can c_may_hover hr (by decide) (pa_cons (pv 0) (pa_cons (pv 1) pa_nil))) (pe_fld (pv 1) rfl)))), ?_⟩
    have th := T.ch
    obtain ⟨dh, hh⟩ := hx
    walk_at "r"
    refine ⟨A, s, a, x, rfl, W, ok, ⟨dh, hh⟩, hk, fun H1 e1 => ?_⟩
    have hh1 := e1 _ _ hh
    walk_at "r"
    exact ⟨⟨by have := hk.w1; omega, by have := hk.w2; omega⟩, k _ e1⟩
abbrev s_may_lift : Stmt := top 35
theorem sc_may_lift : FnScope ["world", "heli", "waiting"] ["world", "heli"] (defScope s_may_lift) := ⟨rfl, rfl, rfl, by decide +kernel, rfl, by decide +kernel, by decide +kernel⟩
def sp_may_lift (C : Cs) : Sp := fun vs H Q _ => ∃ (A : Adr) (s : Sea) (a : Addr) (x : Heli), vs = [.ref A.w, .ref a] ∧ WorldAt C H A s ∧ SeaOk s ∧ HeliAt C H a x ∧ HeliOk s x ∧ ∀ H', Same H H' → Q (.int (s.lift x)) H'
theorem at_ref {as : List Addr} {j : Nat} {a : Addr} (h : as[j]? = some a) : atI (as.map V.ref) (j : Int) = some (V.ref a) := atI_nat (by rw [List.getElem?_map, h]; rfl)
theorem ok_may_lift (T : Txt K mg C) (F : Has K mg "may_lift" s_may_lift ["world", "heli"]) (c_seats_left : Can P w K mg base 1 "seats_left" ["heli"] (sp_seats_left C)) (c_winched_in_time : Can P w K mg base 6 "winched_in_time" ["world", "heli"] (sp_winched_in_time C)) : Can P w K mg base 7 "may_lift" ["world", "heli"] (sp_may_lift C) := by
  refine can_of F sc_may_lift (fun vs H Q E h => ?_) (fun f cdv A0 outer s0 H vs Q E hr h => ?_)
  · obtain ⟨A, s, a, x, rfl, _⟩ := h
    rfl
  · obtain ⟨A, s, a, x, rfl, W, ok, hx, hk, k⟩ := h
    refine ⟨_, (pss_cons (ps_set (i := 2) sc_may_lift.nd rfl (Or.inl rfl) (pe_fld (pe_ix ix_list (pe_fld (pv 0) rfl) (pe_fld (pv 1) rfl) (fun _ _ => rfl)) rfl))
      (pss_one (ps_ret (pe_callB (call_min3 rfl) (by rfl) T.min PyProof.Rows.boot_min (pa_cons (pv 2) (pa_cons (pe_can c_seats_left hr (by decide) (pa_cons (pv 1) pa_nil)) (pa_cons (pe_can c_winched_in_time hr (by decide) (pa_cons (pv 0) (pa_cons (pv 1) pa_nil))) pa_nil))))))), ?_⟩
    have tw := T.cw
    have th := T.ch
    have tp := T.cp
    obtain ⟨dw, hw⟩ := W.w
    obtain ⟨dh, hh⟩ := hx
    obtain ⟨ap, hap, dp, hpl⟩ := W.place hk.pl
    walk_at "r"
    refine ⟨_, _, _, _, rfl, rfl, SqL.of W.lp, at_ref hap, ?_⟩
    walk_at "r"
    refine ⟨a, x, rfl, ⟨dh, hh⟩, hk.is, ?_⟩
    walk_at "r"
    refine ⟨A, s, a, x, rfl, W, ok, ⟨dh, hh⟩, hk, fun H1 e1 => ?_⟩
    refine ⟨_, _, _, rfl, ?_⟩
    have q := k _ e1
    unfold Km446.Sea.lift at q
    have e : (if ((x.seats - x.in_ : Nat) : Int) < ((s.place x.place).persons : Int) then (if ((s.stay x / x.winch : Nat) : Int) < ((x.seats - x.in_ : Nat) : Int) then ((s.stay x / x.winch : Nat) : Int) else ((x.seats - x.in_ : Nat) : Int)) else (if ((s.stay x / x.winch : Nat) : Int) < ((s.place x.place).persons : Int) then ((s.stay x / x.winch : Nat) : Int) else ((s.place x.place).persons : Int))) = ((min (min (x.seats - x.in_) (s.place x.place).persons) (s.stay x / x.winch) : Nat) : Int) := by
      generalize s.stay x / x.winch = m
      generalize x.seats - x.in_ = n
      generalize (s.place x.place).persons = o
      split <;> split <;> omega
    rw [e]
    exact q
end
end Hf
end
section
set_option Elab.async false
set_option linter.all false
set_option maxRecDepth 100000
set_option maxHeartbeats 2000000
namespace Hf
open PySem PySem.Spec PyProof.Rows L2
open Km446 (Sea Heli Desk Ans)
section
variable {P : Program} {w : World} {K : PySem.W.Frag} {mg : Str → Option Value} {base : Heap} {C : Cs}
local macro_rules | `(tactic| walk_at "f") => `(tactic| refine ⟨_, _, _, _, _, rfl, by assumption, by assumption, (by first | exact Txt.nw (by assumption) _ (by decide +kernel) | exact Txt.nh (by assumption) _ (by decide +kernel) | exact Txt.np (by assumption) _ (by decide +kernel)), by rfl, ?_⟩)
local macro_rules | `(tactic| walk_at "r") => `(tactic| repeat (first | refine ⟨_, rfl, ?_⟩ | walk_at "f" | refine ⟨_, _, rfl, rfl, ?_⟩ | refine ⟨rfl, ?_⟩))
/-! ## the calls that ask -/
/-- the answer as a new list, all else as it was -/
def Told (H : Hp) (Q : VK) (s : Sea) (c : KCall) : Prop := ∀ H' l, Same H H' → H l = none → H' l = some (.lst ((told (ans s c)).map V.int)) → Q (.ref l) H'
theorem Told.end_ {H H1 : Hp} {Q : VK} {s : Sea} {c : KCall} {xs : List V} (k : Told H Q s c) (e : Same H H1) (hx : xs = (told (ans s c)).map V.int) (hl : xs.length ≤ 10) : xs.length ≤ sizeLine ∧ ∀ p, H1 p = none → Q (.ref p) (upd H1 p (.lst xs)) :=
  ⟨Nat.le_trans hl (by decide), fun l hl => k _ l (e.trans (same_new hl)) (e.free hl) (by rw [upd_same, hx])⟩
theorem get_none {α : Type} {l : List α} {i : Nat} (h : ¬ i < l.length) : l[i]? = none := List.getElem?_eq_none_iff.mpr (by omega)
theorem get_some {α : Type} {l : List α} {i : Nat} (h : i < l.length) : ∃ x, l[i]? = some x := ⟨_, List.getElem?_eq_getElem h⟩
abbrev cHas (P : Program) (w : World) (K : PySem.W.Frag) (mg : Str → Option Value) (base : Heap) (C : Cs) := Can P w K mg base 1 "has_helicopter" ["world", "h"] (sp_has_helicopter C)
abbrev cPl (P : Program) (w : World) (K : PySem.W.Frag) (mg : Str → Option Value) (base : Heap) (C : Cs) := Can P w K mg base 1 "has_place" ["world", "p"] (spHasPlace C)
abbrev s_ask_stay : Stmt := top 38
theorem sc_ask_stay : FnScope ["world", "h", "heli"] ["world", "h"] (defScope s_ask_stay) := ⟨rfl, rfl, rfl, by decide +kernel, rfl, by decide +kernel, by decide +kernel⟩
def sp_ask_stay (C : Cs) : Sp := fun vs H Q _ => ∃ (A : Adr) (s : Sea) (h : Nat), vs = [.ref A.w, .int h] ∧ WorldAt C H A s ∧ SeaOk s ∧ Told H Q s (.stay h)
theorem ok_ask_stay (T : Txt K mg C) (F : Has K mg "ask_stay" s_ask_stay ["world", "h"]) (c_has_helicopter : cHas P w K mg base C) (c_may_hover : Can P w K mg base 5 "may_hover" ["world", "heli"] (sp_may_hover C)) : Can P w K mg base 6 "ask_stay" ["world", "h"] (sp_ask_stay C) := by
  refine can_of F sc_ask_stay (fun vs H Q E h => ?_) (fun f cdv A0 outer s0 H vs Q E hr h => ?_)
  · obtain ⟨A, s, h, rfl, _⟩ := h
    rfl
  · obtain ⟨A, s, h, rfl, W, ok, k⟩ := h
    refine ⟨_, (pss_cons (ps_if (pt_not (pt_val (pe_can c_has_helicopter hr (by decide) (pa_cons (pv 0) (pa_cons (pv 1) pa_nil))))) (pss_one (ps_ret (pe_lst (pa_cons (pe_gint (T.gi ("NOT_THERE", (-2)) (by decide +kernel))) pa_nil)))) pss_nil)
      (pss_cons (ps_set (i := 2) sc_ask_stay.nd rfl (Or.inl rfl) (pe_ix ix_list (pe_fld (pv 0) rfl) (pv 1) (fun _ _ => rfl)))
      (pss_one (ps_ret (pe_lst (pa_cons (pe_can c_may_hover hr (by decide) (pa_cons (pv 0) (pa_cons (pv 2) pa_nil))) (pa_cons (pe_fld (pv 2) rfl) (pa_cons (pe_fld (pv 2) rfl) pa_nil)))))))), ?_⟩
    have tw := T.cw
    have th := T.ch
    obtain ⟨dw, hw⟩ := W.w
    walk_at "r"
    refine ⟨A, s, h, rfl, W, ?_⟩
    walk_at "r"
    refine ite2 (fun q => ?_) (fun q => ?_)
    · have q : s.helis[h]? = none := get_none (by simpa using q)
      exact k.end_ (Same.refl _) (by simp [ans, one, Km446.act, q, told, Km446.only]) (by simp)
    · obtain ⟨x, hx⟩ := get_some (l := s.helis) (i := h) (by simpa using q)
      obtain ⟨a, ha, dh, hh⟩ := W.heli hx
      walk_at "r"
      refine ⟨_, _, _, _, rfl, rfl, SqL.of W.lh, at_ref ha, ?_⟩
      walk_at "r"
      refine ⟨A, s, a, x, rfl, W, ok, ⟨dh, hh⟩, ok.hl h x hx, fun H1 e1 => ?_⟩
      have hh1 := e1 _ _ hh
      walk_at "r"
      exact k.end_ e1 (by simp [ans, one, Km446.act, hx, told]) (by simp)
abbrev s_ask_lift : Stmt := top 39
theorem sc_ask_lift : FnScope ["world", "h", "heli"] ["world", "h"] (defScope s_ask_lift) := ⟨rfl, rfl, rfl, by decide +kernel, rfl, by decide +kernel, by decide +kernel⟩
def sp_ask_lift (C : Cs) : Sp := fun vs H Q _ => ∃ (A : Adr) (s : Sea) (h : Nat), vs = [.ref A.w, .int h] ∧ WorldAt C H A s ∧ SeaOk s ∧ Told H Q s (.lift h)
theorem ok_ask_lift (T : Txt K mg C) (F : Has K mg "ask_lift" s_ask_lift ["world", "h"]) (c_has_helicopter : cHas P w K mg base C) (c_may_lift : Can P w K mg base 7 "may_lift" ["world", "heli"] (sp_may_lift C)) (c_seats_left : Can P w K mg base 1 "seats_left" ["heli"] (sp_seats_left C)) : Can P w K mg base 8 "ask_lift" ["world", "h"] (sp_ask_lift C) := by
  refine can_of F sc_ask_lift (fun vs H Q E h => ?_) (fun f cdv A0 outer s0 H vs Q E hr h => ?_)
  · obtain ⟨A, s, h, rfl, _⟩ := h
    rfl
  · obtain ⟨A, s, h, rfl, W, ok, k⟩ := h
    refine ⟨_, (pss_cons (ps_if (pt_not (pt_val (pe_can c_has_helicopter hr (by decide) (pa_cons (pv 0) (pa_cons (pv 1) pa_nil))))) (pss_one (ps_ret (pe_lst (pa_cons (pe_gint (T.gi ("NOT_THERE", (-2)) (by decide +kernel))) pa_nil)))) pss_nil)
      (pss_cons (ps_set (i := 2) sc_ask_lift.nd rfl (Or.inl rfl) (pe_ix ix_list (pe_fld (pv 0) rfl) (pv 1) (fun _ _ => rfl)))
      (pss_one (ps_ret (pe_lst (pa_cons (pe_can c_may_lift hr (by decide) (pa_cons (pv 0) (pa_cons (pv 2) pa_nil))) (pa_cons (pe_fld (pe_ix ix_list (pe_fld (pv 0) rfl) (pe_fld (pv 2) rfl) (fun _ _ => rfl)) rfl) (pa_cons (pe_can c_seats_left hr (by decide) (pa_cons (pv 2) pa_nil)) pa_nil)))))))), ?_⟩
    have tw := T.cw
    have th := T.ch
    have tp := T.cp
    obtain ⟨dw, hw⟩ := W.w
    walk_at "r"
    refine ⟨A, s, h, rfl, W, ?_⟩
    walk_at "r"
    refine ite2 (fun q => ?_) (fun q => ?_)
    · have q : s.helis[h]? = none := get_none (by simpa using q)
      exact k.end_ (Same.refl _) (by simp [ans, one, Km446.act, q, told, Km446.only]) (by simp)
    · obtain ⟨x, hx⟩ := get_some (l := s.helis) (i := h) (by simpa using q)
      obtain ⟨a, ha, dh, hh⟩ := W.heli hx
      have hk := ok.hl h x hx
      obtain ⟨ap, hap, dp, hpl⟩ := W.place hk.pl
      walk_at "r"
      refine ⟨_, _, _, _, rfl, rfl, SqL.of W.lh, at_ref ha, ?_⟩
      walk_at "r"
      refine ⟨A, s, a, x, rfl, W, ok, ⟨dh, hh⟩, hk, fun H1 e1 => ?_⟩
      have hh1 := e1 _ _ hh
      have hw1 := e1 _ _ hw
      have hp1 := e1 _ _ hpl
      walk_at "r"
      refine ⟨_, _, _, _, rfl, rfl, SqL.of (e1 _ _ W.lp), at_ref hap, ?_⟩
      walk_at "r"
      refine ⟨a, x, rfl, ⟨dh, hh1⟩, hk.is, ?_⟩
      exact k.end_ e1 (by simp [ans, one, Km446.act, hx, told]) (by simp)
abbrev s_ask_may : Stmt := top 37
theorem sc_ask_may : FnScope ["world", "h", "p", "heli"] ["world", "h", "p"] (defScope s_ask_may) := ⟨rfl, rfl, rfl, by decide +kernel, rfl, by decide +kernel, by decide +kernel⟩
def sp_ask_may (C : Cs) : Sp := fun vs H Q _ => ∃ (A : Adr) (s : Sea) (h p : Nat), vs = [.ref A.w, .int h, .int p] ∧ WorldAt C H A s ∧ SeaOk s ∧ Told H Q s (.may h p)
theorem ok_ask_may (T : Txt K mg C) (F : Has K mg "ask_may" s_ask_may ["world", "h", "p"]) (c_has_helicopter : cHas P w K mg base C) (c_has_place : cPl P w K mg base C) (c_may_go : Can P w K mg base 6 "may_go" ["world", "heli", "p"] (sp_may_go C)) : Can P w K mg base 7 "ask_may" ["world", "h", "p"] (sp_ask_may C) := by
  refine can_of F sc_ask_may (fun vs H Q E h => ?_) (fun f cdv A0 outer s0 H vs Q E hr h => ?_)
  · obtain ⟨A, s, h, p, rfl, _⟩ := h
    rfl
  · obtain ⟨A, s, h, p, rfl, W, ok, k⟩ := h
    refine ⟨_, (pss_cons (ps_if (PW.pt (pw_or (pt_not (pt_val (pe_can c_has_helicopter hr (by decide) (pa_cons (pv 0) (pa_cons (pv 1) pa_nil))))) (pw_or1 (pt_not (pt_val (pe_can c_has_place hr (by decide) (pa_cons (pv 0) (pa_cons (pv 2) pa_nil)))))))) (pss_one (ps_ret (pe_lst (pa_cons (pe_gint (T.gi ("NOT_THERE", (-2)) (by decide +kernel))) pa_nil)))) pss_nil)
      (pss_cons (ps_set (i := 3) sc_ask_may.nd rfl (Or.inl rfl) (pe_ix ix_list (pe_fld (pv 0) rfl) (pv 1) (fun _ _ => rfl)))
      (pss_one (ps_ret (pe_lst (pa_cons (pe_ifExp (pt_val (pe_can c_may_go hr (by decide) (pa_cons (pv 0) (pa_cons (pv 3) (pa_cons (pv 2) pa_nil))))) pe_int pe_int) (pa_cons (pe_ifExp (pt_cmpR op_eq (pe_fld (pv 3) rfl) pe_int (nomark _)) pe_int pe_int) pa_nil))))))), ?_⟩
    have tw := T.cw
    have th := T.ch
    obtain ⟨dw, hw⟩ := W.w
    walk_at "r"
    refine ⟨A, s, h, rfl, W, ?_⟩
    walk_at "r"
    refine ite2 (fun q => ?_) (fun q => ?_)
    · have q : s.helis[h]? = none := get_none (by simpa using q)
      exact k.end_ (Same.refl _) (by simp [ans, one, Km446.act, q, told, Km446.only]) (by simp)
    · obtain ⟨x, hx⟩ := get_some (l := s.helis) (i := h) (by simpa using q)
      obtain ⟨a, ha, dh, hh⟩ := W.heli hx
      have hk := ok.hl h x hx
      walk_at "r"
      refine ⟨A, s, p, rfl, W, ?_⟩
      walk_at "r"
      refine ite2 (fun q => ?_) (fun q => ?_)
      · have q : s.places.length ≤ p := by simpa using q
        exact k.end_ (Same.refl _) (by simp [ans, one, Km446.act, hx, q, told, Km446.only]) (by simp)
      · have q : ¬ s.places.length ≤ p := by simpa using q
        walk_at "r"
        refine ⟨_, _, _, _, rfl, rfl, SqL.of W.lh, at_ref ha, ?_⟩
        walk_at "r"
        refine ⟨A, s, a, x, p, rfl, W, ok.weak, ⟨dh, hh⟩, hk.b2, fun H1 e1 => ?_⟩
        have hh1 := e1 _ _ hh
        walk_at "r"
        refine ite2 (fun r => ?_) (fun r => ?_) <;> walk_at "r" <;> refine ite2 (fun z => ?_) (fun z => ?_) <;> refine k.end_ e1 ?_ (by simp) <;> simp at z <;> simp [ans, one, Km446.act, hx, q, told, Km446.bit, r, z] <;> omega
end
end Hf
end
section
set_option Elab.async false
set_option linter.all false
set_option maxRecDepth 100000
set_option maxHeartbeats 2000000
namespace Hf
open PySem PySem.Spec PyProof.Rows L2
open Km446 (Sea Heli Desk Ans)
section
variable {P : Program} {w : World} {K : PySem.W.Frag} {mg : Str → Option Value} {base : Heap} {C : Cs}
local macro_rules | `(tactic| walk_at "f") => `(tactic| refine ⟨_, _, _, _, _, rfl, by assumption, by assumption, (by first | exact Txt.nw (by assumption) _ (by decide +kernel) | exact Txt.nh (by assumption) _ (by decide +kernel) | exact Txt.np (by assumption) _ (by decide +kernel)), by rfl, ?_⟩)
local macro_rules | `(tactic| walk_at "r") => `(tactic| repeat (first | refine ⟨_, rfl, ?_⟩ | walk_at "f" | refine ⟨_, _, rfl, rfl, ?_⟩ | refine ⟨rfl, ?_⟩))
/-! ## a world that changes -/
theorem WorldAt.there {H : Hp} {A : Adr} {s : Sea} (W : WorldAt C H A s) : ∀ b ∈ A.all, ∃ o, H b = some o := by
  intro b hb
  unfold Adr.all at hb
  rcases List.mem_cons.mp hb with e | hb
  · obtain ⟨dx, h⟩ := W.w; exact ⟨_, by rw [e]; exact h⟩
  rcases List.mem_cons.mp hb with e | hb
  · exact ⟨_, by rw [e]; exact W.lp⟩
  rcases List.mem_cons.mp hb with e | hb
  · obtain ⟨kvs, h, _⟩ := W.dw; exact ⟨_, by rw [e]; exact h⟩
  rcases List.mem_cons.mp hb with e | hb
  · exact ⟨_, by rw [e]; exact W.lh⟩
  rcases List.mem_append.mp hb with hb | hb
  · obtain ⟨j, hj⟩ := List.mem_iff_getElem?.mp hb
    obtain ⟨x, _, dx, h⟩ := W.pat j b hj
    exact ⟨_, h⟩
  · obtain ⟨j, hj⟩ := List.mem_iff_getElem?.mp hb
    obtain ⟨x, _, dx, h⟩ := W.hat j b hj
    exact ⟨_, h⟩
structure Keep (A A' : Adr) (H H' : Hp) : Prop where
  w : A'.w = A.w
  out : ∀ b o, H b = some o → b ∉ A.all → H' b = some o
  new : ∀ b ∈ A'.all, b ∈ A.all ∨ H b = none
  old : ∀ b ∈ A.all, b ∈ A'.all
theorem Keep.same {A : Adr} {H H' : Hp} (e : Same H H') : Keep A A H H' := ⟨rfl, fun b o h _ => e b o h, fun b h => .inl h, fun b h => h⟩
theorem Keep.upd {A A' : Adr} {H H' : Hp} (k : Keep A A' H H') {a : Addr} {o : HO} (ha : a ∈ A.all) : Keep A A' H (upd H' a o) :=
  ⟨k.w, fun b o h n => by rw [upd_ne (fun e => n (by rw [e]; exact ha))]; exact k.out b o h n, k.new, k.old⟩
theorem Keep.more {A A' : Adr} {H H' H2 : Hp} (k : Keep A A' H H') (e : Same H' H2) : Keep A A' H H2 := ⟨k.w, fun b o h n => e _ _ (k.out b o h n), k.new, k.old⟩
theorem mem_w (A : Adr) : A.w ∈ A.all := by simp [Adr.all]
theorem mem_lp (A : Adr) : A.lp ∈ A.all := by simp [Adr.all]
theorem mem_dw (A : Adr) : A.dw ∈ A.all := by simp [Adr.all]
theorem mem_lh (A : Adr) : A.lh ∈ A.all := by simp [Adr.all]
theorem mem_p {A : Adr} {j : Nat} {a : Addr} (h : A.ps[j]? = some a) : a ∈ A.all := by
  have := List.mem_of_getElem? h
  simp [Adr.all, this]
theorem mem_h {A : Adr} {j : Nat} {a : Addr} (h : A.hs[j]? = some a) : a ∈ A.all := by
  have := List.mem_of_getElem? h
  simp [Adr.all, this]
/-- a change upon the world at A: what the call makes of it, its answer as a new list -/
def Chg (C : Cs) (H : Hp) (A : Adr) (Q : VK) (s : Sea) (c : KCall) : Prop :=
  ∀ H' A' l, WorldAt C H' A' (nxt s c) → Keep A A' H H' → H' l = some (.lst ((told (ans s c)).map V.int)) → H l = none → l ∉ A'.all → Q (.ref l) H'
theorem Chg.end_ {H H1 : Hp} {A A' : Adr} {Q : VK} {s s' : Sea} {c : KCall} {a : Ans} {xs : List V} (k : Chg C H A Q s c) (e1 : nxt s c = s') (e2 : ans s c = a) (W : WorldAt C H1 A' s') (kp : Keep A A' H H1) (hx : xs = (told a).map V.int) (hl : xs.length ≤ 10) :
    xs.length ≤ sizeLine ∧ ∀ p, H1 p = none → Q (.ref p) (L2.upd H1 p (.lst xs)) := by
  refine ⟨Nat.le_trans hl (by decide), fun l hl => ?_⟩
  have nl : l ∉ A'.all := fun m => by
    obtain ⟨o, h⟩ := W.there l m
    rw [hl] at h
    cases h
  refine k _ A' l ?_ (kp.more (same_new hl)) (by rw [upd_same, hx, e2]) ?_ nl
  · rw [e1]; exact W.same (same_new hl)
  · cases q : H l with
    | none => rfl
    | some o =>
      have := kp.out l o q (fun m => nl (kp.old l m))
      rw [hl] at this
      cases this
/-- refused: all is as it was -/
theorem Chg.no {H H1 : Hp} {A : Adr} {Q : VK} {s : Sea} {c : KCall} {v : Int} (k : Chg C H A Q s c) (e : one s c = (⟨s, [], []⟩, Km446.only v)) (W : WorldAt C H1 A s) (kp : Keep A A H H1) :
    [V.int v].length ≤ sizeLine ∧ ∀ p, H1 p = none → Q (.ref p) (L2.upd H1 p (.lst [V.int v])) :=
  k.end_ (s' := s) (a := Km446.only v) (by show (one s c).1.now = s; rw [e]) (by show (one s c).2 = _; rw [e]) W kp rfl (by simp)
structure Dist (C : Cs) : Prop where
  wh : C.w ≠ C.h
  wp : C.w ≠ C.p
  hp : C.h ≠ C.p
theorem Txt.dist (T : Txt K mg C) : Dist C := ⟨T.wh, T.wp, T.hp⟩
theorem ins_ne {H : Hp} {a b A B dx dy : Addr} {f g : List (Str × V)} (h1 : H a = some (.ins A dx f)) (h2 : H b = some (.ins B dy g)) (n : A ≠ B) : a ≠ b := fun e => by
  rw [e, h2] at h1
  cases h1
  exact n rfl
theorem upd_upd {H : Hp} {a : Addr} {o o' : HO} : upd (upd H a o) a o' = upd H a o' := by
  funext b
  by_cases e : b = a
  · rw [e, upd_same, upd_same]
  · rw [upd_ne e, upd_ne e, upd_ne e]
theorem set_get_ne {α : Type} {l : List α} {i j : Nat} {x : α} (h : j ≠ i) : (l.set i x)[j]? = l[j]? := List.getElem?_set_ne (fun e => h e.symm)
theorem WorldAt.heliSet (D : Dist C) {H : Hp} {A : Adr} {s : Sea} (W : WorldAt C H A s) {h : Nat} {a dx : Addr} (ha : A.hs[h]? = some a) (y : Heli) : WorldAt C (upd H a (.ins C.h dx (hf y))) A (s.setHeli h y) := by
  obtain ⟨x, hx, dh, hh⟩ := W.hat h a ha
  obtain ⟨dw, hw⟩ := W.w
  obtain ⟨kvs, hd, hk⟩ := W.dw
  refine ⟨⟨dw, ?_⟩, ?_, ?_, ⟨kvs, ?_, hk⟩, W.np, ?_, fun j b hb => ?_, fun j b hb => ?_, W.ndp, W.ndh, W.ne⟩
  · rw [upd_ne (ins_ne hw hh D.wh)]; exact hw
  · rw [upd_ne (ne_of W.lp hh (by intro z; cases z))]; exact W.lp
  · rw [upd_ne (ne_of W.lh hh (by intro z; cases z))]; exact W.lh
  · rw [upd_ne (ne_of hd hh (by intro z; cases z))]; exact hd
  · show A.hs.length = (s.helis.set h y).length
    rw [List.length_set]; exact W.nh
  · obtain ⟨z, hz, dz, hz'⟩ := W.pat j b hb
    exact ⟨z, hz, dz, by rw [upd_ne (ins_ne hz' hh (fun e => D.hp e.symm))]; exact hz'⟩
  · by_cases e : j = h
    · subst e
      rw [ha] at hb
      cases hb
      refine ⟨y, ?_, dx, upd_same⟩
      show (s.helis.set j y)[j]? = some y
      rw [List.getElem?_set_self (List.getElem?_eq_some_iff.mp hx).1]
    · obtain ⟨z, hz, dz, hz'⟩ := W.hat j b hb
      have nb : b ≠ a := fun q => e (nd_ix W.ndh hb (by rw [q]; exact ha))
      refine ⟨z, ?_, dz, by rw [upd_ne nb]; exact hz'⟩
      show (s.helis.set h y)[j]? = some z
      rw [set_get_ne e]; exact hz
theorem WorldAt.placeSet (D : Dist C) {H : Hp} {A : Adr} {s : Sea} (W : WorldAt C H A s) {p : Nat} {a dx : Addr} (ha : A.ps[p]? = some a) (y : KPlace) : WorldAt C (upd H a (.ins C.p dx (pf y))) A (s.setPlace p y) := by
  obtain ⟨x, hx, dh, hh⟩ := W.pat p a ha
  obtain ⟨dw, hw⟩ := W.w
  obtain ⟨kvs, hd, hk⟩ := W.dw
  refine ⟨⟨dw, ?_⟩, ?_, ?_, ⟨kvs, ?_, hk⟩, ?_, W.nh, fun j b hb => ?_, fun j b hb => ?_, W.ndp, W.ndh, W.ne⟩
  · rw [upd_ne (ins_ne hw hh D.wp)]; exact hw
  · rw [upd_ne (ne_of W.lp hh (by intro z; cases z))]; exact W.lp
  · rw [upd_ne (ne_of W.lh hh (by intro z; cases z))]; exact W.lh
  · rw [upd_ne (ne_of hd hh (by intro z; cases z))]; exact hd
  · show A.ps.length = (s.places.set p y).length
    rw [List.length_set]; exact W.np
  · by_cases e : j = p
    · subst e
      rw [ha] at hb
      cases hb
      refine ⟨y, ?_, dx, upd_same⟩
      show (s.places.set j y)[j]? = some y
      rw [List.getElem?_set_self (List.getElem?_eq_some_iff.mp hx).1]
    · obtain ⟨z, hz, dz, hz'⟩ := W.pat j b hb
      have nb : b ≠ a := fun q => e (nd_ix W.ndp hb (by rw [q]; exact ha))
      refine ⟨z, ?_, dz, by rw [upd_ne nb]; exact hz'⟩
      show (s.places.set p y)[j]? = some z
      rw [set_get_ne e]; exact hz
  · obtain ⟨z, hz, dz, hz'⟩ := W.hat j b hb
    exact ⟨z, hz, dz, by rw [upd_ne (ins_ne hz' hh D.hp)]; exact hz'⟩
theorem WorldAt.worldSet (D : Dist C) {H : Hp} {A : Adr} {s s' : Sea} (W : WorldAt C H A s) {dx : Addr} (hp : s'.places = s.places) (hh : s'.helis = s.helis) (hw : s'.ways = s.ways) : WorldAt C (upd H A.w (.ins C.w dx (wf s' A))) A s' := by
  obtain ⟨dw, hw0⟩ := W.w
  obtain ⟨kvs, hd, hk⟩ := W.dw
  refine ⟨⟨dx, upd_same⟩, ?_, ?_, ⟨kvs, ?_, by rw [hw]; exact hk⟩, by rw [hp]; exact W.np, by rw [hh]; exact W.nh, fun j b hb => ?_, fun j b hb => ?_, W.ndp, W.ndh, W.ne⟩
  · rw [upd_ne (ne_of W.lp hw0 (by intro z; cases z))]; exact W.lp
  · rw [upd_ne (ne_of W.lh hw0 (by intro z; cases z))]; exact W.lh
  · rw [upd_ne (ne_of hd hw0 (by intro z; cases z))]; exact hd
  · obtain ⟨z, hz, dz, hz'⟩ := W.pat j b hb
    exact ⟨z, by rw [hp]; exact hz, dz, by rw [upd_ne (ins_ne hz' hw0 (fun e => D.wp e.symm))]; exact hz'⟩
  · obtain ⟨z, hz, dz, hz'⟩ := W.hat j b hb
    exact ⟨z, by rw [hh]; exact hz, dz, by rw [upd_ne (ins_ne hz' hw0 (fun e => D.wh e.symm))]; exact hz'⟩
/-! ## the calls that fly -/
abbrev s_land : Stmt := top 56
theorem sc_land : FnScope ["world", "h", "heli", "landed"] ["world", "h"] (defScope s_land) := ⟨rfl, rfl, rfl, by decide +kernel, rfl, by decide +kernel, by decide +kernel⟩
def sp_land (C : Cs) : Sp := fun vs H Q _ => ∃ (A : Adr) (s : Sea) (h : Nat), vs = [.ref A.w, .int h] ∧ WorldAt C H A s ∧ SeaOk s ∧ Chg C H A Q s (.land h)
theorem ok_land (T : Txt K mg C) (F : Has K mg "land" s_land ["world", "h"]) (c_has_helicopter : cHas P w K mg base C) : Can P w K mg base 2 "land" ["world", "h"] (sp_land C) := by
  refine can_of F sc_land (fun vs H Q E h => ?_) (fun f cdv A0 outer s0 H vs Q E hr h => ?_)
  · obtain ⟨A, s, h, rfl, _⟩ := h
    rfl
  · obtain ⟨A, s, h, rfl, W, ok, k⟩ := h
    refine ⟨_, (pss_cons (ps_if (pt_not (pt_val (pe_can c_has_helicopter hr (by decide) (pa_cons (pv 0) (pa_cons (pv 1) pa_nil))))) (pss_one (ps_ret (pe_lst (pa_cons (pe_gint (T.gi ("NOT_THERE", (-2)) (by decide +kernel))) pa_nil)))) pss_nil)
      (pss_cons (ps_set (i := 2) sc_land.nd rfl (Or.inl rfl) (pe_ix ix_list (pe_fld (pv 0) rfl) (pv 1) (fun _ _ => rfl)))
      (pss_cons (ps_if (PW.pt (pw_or (pt_cmpR op_gt (pe_fld (pv 2) rfl) pe_int (nomark _)) (pw_or1 (pt_not (pt_val (pe_fld (pe_ix ix_list (pe_fld (pv 0) rfl) (pe_fld (pv 2) rfl) (fun _ _ => rfl)) rfl)))))) (pss_one (ps_ret (pe_lst (pa_cons (pe_gint (T.gi ("NOT_NOW", (-16)) (by decide +kernel))) pa_nil)))) pss_nil)
      (pss_cons (ps_if (pt_cmpR op_eq (pe_fld (pv 2) rfl) pe_int (nomark _)) (pss_one (ps_ret (pe_lst (pa_cons (pe_gint (T.gi ("NOBODY", (-6)) (by decide +kernel))) pa_nil)))) pss_nil)
      (pss_cons (ps_set (i := 3) sc_land.nd rfl (Or.inl rfl) (pe_fld (pv 2) rfl))
      (pss_cons (ps_fldaug (pv 0) (pv 3) in_add)
      (pss_cons (ps_fld (pv 2) pe_int rfl)
      (pss_one (ps_ret (pe_lst (pa_cons (pv 3) pa_nil))))))))))), ?_⟩
    have tw := T.cw
    have th := T.ch
    have tp := T.cp
    obtain ⟨dw, hw⟩ := W.w
    walk_at "r"
    refine ⟨A, s, h, rfl, W, ?_⟩
    walk_at "r"
    refine ite2 (fun q => ?_) (fun q => ?_)
    · have q : s.helis[h]? = none := get_none (by simpa using q)
      exact k.no (by simp [one, Km446.act, q]) W (Keep.same (Same.refl _))
    · obtain ⟨x, hx⟩ := get_some (l := s.helis) (i := h) (by simpa using q)
      obtain ⟨a, ha, dh, hh⟩ := W.heli hx
      have hk := ok.hl h x hx
      obtain ⟨ap, hap, dp, hpl⟩ := W.place hk.pl
      walk_at "r"
      refine ⟨_, _, _, _, rfl, rfl, SqL.of W.lh, at_ref ha, ?_⟩
      walk_at "r"
      refine ite2 (fun q => ?_) (fun q => ?_)
      · have q : x.busy ≠ 0 := by simp at q; omega
        exact k.no (by simp [one, Km446.act, hx, q]) W (Keep.same (Same.refl _))
      · have q : x.busy = 0 := by simp at q; omega
        walk_at "r"
        refine ⟨_, _, _, _, rfl, rfl, SqL.of W.lp, at_ref hap, ?_⟩
        walk_at "r"
        refine ite2 (fun r => ?_) (fun r => ?_)
        · have r : (s.place x.place).base = false := by simpa using r
          exact k.no (by simp [one, Km446.act, hx, q, r]) W (Keep.same (Same.refl _))
        · have r : (s.place x.place).base = true := by simpa using r
          walk_at "r"
          refine ite2 (fun z => ?_) (fun z => ?_)
          · have z : x.in_ = 0 := by simp at z; omega
            exact k.no (by simp [one, Km446.act, hx, q, r, z]) W (Keep.same (Same.refl _))
          · have z : x.in_ ≠ 0 := by simp at z; omega
            walk_at "r"
            refine ⟨_, _, hw, (by show 6 < 1000; decide), ?_⟩
            have W1 : WorldAt C (upd H A.w (.ins C.w dw (wf { s with saved := s.saved + x.in_ } A))) A { s with saved := s.saved + x.in_ } := W.worldSet T.dist rfl rfl rfl
            have hh1 : (upd H A.w (.ins C.w dw (wf { s with saved := s.saved + x.in_ } A))) a = some (.ins C.h dh (hf x)) := by rw [upd_ne (ins_ne hh hw (fun e => T.wh e.symm))]; exact hh
            have W2 := W1.heliSet T.dist ha (dx := dh) { x with in_ := 0 }
            walk_at "r"
            refine ⟨a, C.h, dh, hf x, rfl, hh1, th, T.nh _ (by decide +kernel), (by show 9 < 1000; decide), ?_⟩
            walk_at "r"
            exact k.end_ (s' := { s.setHeli h { x with in_ := 0 } with saved := s.saved + x.in_ }) (a := Km446.only ((x.in_ : Nat) : Int)) (by simp [nxt, one, Km446.act, hx, q, r, z, Km446.Desk.become]) (by simp [ans, one, Km446.act, hx, q, r, z]) W2 (((Keep.same (Same.refl _)).upd (mem_w A)).upd (mem_h ha)) rfl (by simp)
end
end Hf
end
section
set_option Elab.async false
set_option linter.all false
set_option maxRecDepth 100000
set_option maxHeartbeats 2000000
namespace Hf
open PySem PySem.Spec PyProof.Rows L2
open Km446 (Sea Heli Desk Ans)
section
variable {P : Program} {w : World} {K : PySem.W.Frag} {mg : Str → Option Value} {base : Heap} {C : Cs}
local macro_rules | `(tactic| walk_at "f") => `(tactic| refine ⟨_, _, _, _, _, rfl, by assumption, by assumption, (by first | exact Txt.nw (by assumption) _ (by decide +kernel) | exact Txt.nh (by assumption) _ (by decide +kernel) | exact Txt.np (by assumption) _ (by decide +kernel)), by rfl, ?_⟩)
local macro_rules | `(tactic| walk_at "r") => `(tactic| repeat (first | refine ⟨_, rfl, ?_⟩ | walk_at "f" | refine ⟨_, _, rfl, rfl, ?_⟩ | refine ⟨rfl, ?_⟩))
abbrev cMayGo (P : Program) (w : World) (K : PySem.W.Frag) (mg : Str → Option Value) (base : Heap) (C : Cs) := Can P w K mg base 6 "may_go" ["world", "heli", "p"] (sp_may_go C)
abbrev cWay (P : Program) (w : World) (K : PySem.W.Frag) (mg : Str → Option Value) (base : Heap) (C : Cs) := Can P w K mg base 2 "way_minutes" ["world", "a", "b"] (sp_way_minutes C)
theorem swapH {R : Hp → Prop} {H1 H2 : Hp} (e : H1 = H2) (h : R H2) : R H1 := by rw [e]; exact h
abbrev s_refuel : Stmt := top 57
theorem sc_refuel : FnScope ["world", "h", "heli", "taken"] ["world", "h"] (defScope s_refuel) := ⟨rfl, rfl, rfl, by decide +kernel, rfl, by decide +kernel, by decide +kernel⟩
def sp_refuel (C : Cs) : Sp := fun vs H Q _ => ∃ (A : Adr) (s : Sea) (h : Nat), vs = [.ref A.w, .int h] ∧ WorldAt C H A s ∧ SeaOk s ∧ Chg C H A Q s (.refuel h)
theorem ok_refuel (T : Txt K mg C) (F : Has K mg "refuel" s_refuel ["world", "h"]) (c_has_helicopter : cHas P w K mg base C) : Can P w K mg base 2 "refuel" ["world", "h"] (sp_refuel C) := by
  refine can_of F sc_refuel (fun vs H Q E h => ?_) (fun f cdv A0 outer s0 H vs Q E hr h => ?_)
  · obtain ⟨A, s, h, rfl, _⟩ := h
    rfl
  · obtain ⟨A, s, h, rfl, W, ok, k⟩ := h
    refine ⟨_, (pss_cons (ps_if (pt_not (pt_val (pe_can c_has_helicopter hr (by decide) (pa_cons (pv 0) (pa_cons (pv 1) pa_nil))))) (pss_one (ps_ret (pe_lst (pa_cons (pe_gint (T.gi ("NOT_THERE", (-2)) (by decide +kernel))) pa_nil)))) pss_nil)
      (pss_cons (ps_set (i := 2) sc_refuel.nd rfl (Or.inl rfl) (pe_ix ix_list (pe_fld (pv 0) rfl) (pv 1) (fun _ _ => rfl)))
      (pss_cons (ps_if (PW.pt (pw_or (pt_cmpR op_gt (pe_fld (pv 2) rfl) pe_int (nomark _)) (pw_or1 (pt_not (pt_val (pe_fld (pe_ix ix_list (pe_fld (pv 0) rfl) (pe_fld (pv 2) rfl) (fun _ _ => rfl)) rfl)))))) (pss_one (ps_ret (pe_lst (pa_cons (pe_gint (T.gi ("NOT_NOW", (-16)) (by decide +kernel))) pa_nil)))) pss_nil)
      (pss_cons (ps_set (i := 3) sc_refuel.nd rfl (Or.inl rfl) (pe_op op_sub (pe_fld (pv 2) rfl) (pe_fld (pv 2) rfl)))
      (pss_cons (ps_if (pt_cmpR op_eq (pv 3) pe_int (nomark _)) (pss_one (ps_ret (pe_lst (pa_cons (pe_gint (T.gi ("ALREADY_SO", (-17)) (by decide +kernel))) pa_nil)))) pss_nil)
      (pss_cons (ps_fld (pv 2) (pe_fld (pv 2) rfl) rfl)
      (pss_cons (ps_fld (pv 2) (pe_gint (T.gi ("MINUTES_TO_REFUEL", 10) (by decide +kernel))) rfl)
      (pss_one (ps_ret (pe_lst (pa_cons (pv 3) pa_nil))))))))))), ?_⟩
    have tw := T.cw
    have th := T.ch
    have tp := T.cp
    obtain ⟨dw, hw⟩ := W.w
    walk_at "r"
    refine ⟨A, s, h, rfl, W, ?_⟩
    walk_at "r"
    refine ite2 (fun q => ?_) (fun q => ?_)
    · have q : s.helis[h]? = none := get_none (by simpa using q)
      exact k.no (by simp [one, Km446.act, q]) W (Keep.same (Same.refl _))
    · obtain ⟨x, hx⟩ := get_some (l := s.helis) (i := h) (by simpa using q)
      obtain ⟨a, ha, dh, hh⟩ := W.heli hx
      have hk := ok.hl h x hx
      obtain ⟨ap, hap, dp, hpl⟩ := W.place hk.pl
      have hop := ok.op _ _ (get_place hk.pl)
      walk_at "r"
      refine ⟨_, _, _, _, rfl, rfl, SqL.of W.lh, at_ref ha, ?_⟩
      walk_at "r"
      refine ite2 (fun q => ?_) (fun q => ?_)
      · have q : x.busy ≠ 0 := by simp at q; omega
        exact k.no (by simp [one, Km446.act, hx, q]) W (Keep.same (Same.refl _))
      · have q : x.busy = 0 := by simp at q; omega
        walk_at "r"
        refine ⟨_, _, _, _, rfl, rfl, SqL.of W.lp, at_ref hap, ?_⟩
        walk_at "r"
        refine ite2 (fun r => ?_) (fun r => ?_)
        · have r : (s.place x.place).open_ = false := by simpa using r
          exact k.no (by simp [one, Km446.act, hx, q, r]) W (Keep.same (Same.refl _))
        · have r : (s.place x.place).open_ = true := by simpa using r
          have r' := hop r
          have hft := hk.ft
          have et : (x.tank : Int) - (x.fuel : Int) = ((x.tank - x.fuel : Nat) : Int) := by omega
          walk_at "r"
          refine ite2 (fun z => ?_) (fun z => ?_)
          · have z : x.fuel = x.tank := by simp at z; omega
            exact k.no (by simp [one, Km446.act, hx, q, r, r', z]) W (Keep.same (Same.refl _))
          · have z : x.fuel ≠ x.tank := by simp at z; omega
            walk_at "r"
            refine ⟨a, C.h, dh, hf x, rfl, hh, th, T.nh _ (by decide +kernel), (by show 9 < 1000; decide), ?_⟩
            refine ⟨_, rfl, a, C.h, dh, hf { x with fuel := x.tank }, rfl, upd_same, th, T.nh _ (by decide +kernel), (by show 9 < 1000; decide), ?_⟩
            have W2 := W.heliSet T.dist ha (dx := dh) { x with fuel := x.tank, busy := 10 }
            rw [← upd_upd (o := .ins C.h dh (hf { x with fuel := x.tank }))] at W2
            walk_at "r"
            exact k.end_ (s' := s.setHeli h { x with fuel := x.tank, busy := 10 }) (a := Km446.only ((x.tank - x.fuel : Nat) : Int)) (by simp [nxt, one, Km446.act, hx, q, r, r', z, Km446.Desk.become, Km446.REFUEL]) (by simp [ans, one, Km446.act, hx, q, r, r', z]) W2 (((Keep.same (Same.refl _)).upd (mem_h ha)).upd (mem_h ha)) (by rw [← et] <;> rfl) (by simp)
abbrev s_go : Stmt := top 54
theorem sc_go : FnScope ["world", "h", "p", "heli"] ["world", "h", "p"] (defScope s_go) := ⟨rfl, rfl, rfl, by decide +kernel, rfl, by decide +kernel, by decide +kernel⟩
def sp_go (C : Cs) : Sp := fun vs H Q _ => ∃ (A : Adr) (s : Sea) (h p : Nat), vs = [.ref A.w, .int h, .int p] ∧ WorldAt C H A s ∧ SeaOk s ∧ Chg C H A Q s (.go h p)
theorem may_some {s : Sea} {x : Heli} {p : Nat} (h : s.may x p = true) (n : x.place ≠ p) : s.way x.place p = some (s.ways x.place p) ∧ x.burn * s.ways x.place p ≤ x.fuel := by
  unfold Km446.Sea.may at h
  have hw := way_ne (s := s) n
  by_cases z : s.ways x.place p = 0
  · rw [if_pos z] at hw
    rw [hw] at h
    cases h
  · rw [if_neg z] at hw
    rw [hw] at h
    have h : (decide (x.burn * s.ways x.place p ≤ x.fuel) && _) = true := h
    rw [Bool.and_eq_true, decide_eq_true_eq] at h
    exact ⟨hw, h.1⟩
theorem ok_go (T : Txt K mg C) (F : Has K mg "go" s_go ["world", "h", "p"]) (c_has_helicopter : cHas P w K mg base C) (c_has_place : cPl P w K mg base C) (c_may_go : cMayGo P w K mg base C) (c_way_minutes : cWay P w K mg base C) : Can P w K mg base 7 "go" ["world", "h", "p"] (sp_go C) := by
  refine can_of F sc_go (fun vs H Q E h => ?_) (fun f cdv A0 outer s0 H vs Q E hr h => ?_)
  · obtain ⟨A, s, h, p, rfl, _⟩ := h
    rfl
  · obtain ⟨A, s, h, p, rfl, W, ok, k⟩ := h
    refine ⟨_, (pss_cons (ps_if (PW.pt (pw_or (pt_not (pt_val (pe_can c_has_helicopter hr (by decide) (pa_cons (pv 0) (pa_cons (pv 1) pa_nil))))) (pw_or1 (pt_not (pt_val (pe_can c_has_place hr (by decide) (pa_cons (pv 0) (pa_cons (pv 2) pa_nil)))))))) (pss_one (ps_ret (pe_lst (pa_cons (pe_gint (T.gi ("NOT_THERE", (-2)) (by decide +kernel))) pa_nil)))) pss_nil)
      (pss_cons (ps_set (i := 3) sc_go.nd rfl (Or.inl rfl) (pe_ix ix_list (pe_fld (pv 0) rfl) (pv 1) (fun _ _ => rfl)))
      (pss_cons (ps_if (pt_cmpR op_gt (pe_fld (pv 3) rfl) pe_int (nomark _)) (pss_one (ps_ret (pe_lst (pa_cons (pe_gint (T.gi ("NOT_NOW", (-16)) (by decide +kernel))) pa_nil)))) pss_nil)
      (pss_cons (ps_if (pt_cmpR op_eq (pe_fld (pv 3) rfl) (pv 2) (nomark _)) (pss_one (ps_ret (pe_lst (pa_cons (pe_gint (T.gi ("ALREADY_SO", (-17)) (by decide +kernel))) pa_nil)))) pss_nil)
      (pss_cons (ps_if (pt_not (pt_val (pe_can c_may_go hr (by decide) (pa_cons (pv 0) (pa_cons (pv 3) (pa_cons (pv 2) pa_nil)))))) (pss_one (ps_ret (pe_lst (pa_cons (pe_gint (T.gi ("MAY_NOT", (-33)) (by decide +kernel))) pa_nil)))) pss_nil)
      (pss_cons (ps_fld (pv 3) (pe_can c_way_minutes hr (by decide) (pa_cons (pv 0) (pa_cons (pe_fld (pv 3) rfl) (pa_cons (pv 2) pa_nil)))) rfl)
      (pss_cons (ps_fldaug (pv 3) (pe_op op_mul (pe_fld (pv 3) rfl) (pe_fld (pv 3) rfl)) in_sub)
      (pss_cons (ps_fld (pv 3) (pv 2) rfl)
      (pss_one (ps_ret (pe_lst (pa_cons (pe_op op_add (pe_fld (pv 0) rfl) (pe_fld (pv 3) rfl)) (pa_cons (pe_fld (pv 3) rfl) pa_nil))))))))))))), ?_⟩
    have tw := T.cw
    have th := T.ch
    obtain ⟨dw, hw⟩ := W.w
    walk_at "r"
    refine ⟨A, s, h, rfl, W, ?_⟩
    walk_at "r"
    refine ite2 (fun q => ?_) (fun q => ?_)
    · have q : s.helis[h]? = none := get_none (by simpa using q)
      exact k.no (by simp [one, Km446.act, q]) W (Keep.same (Same.refl _))
    · obtain ⟨x, hx⟩ := get_some (l := s.helis) (i := h) (by simpa using q)
      obtain ⟨a, ha, dh, hh⟩ := W.heli hx
      have hk := ok.hl h x hx
      have hb := hk.b2
      walk_at "r"
      refine ⟨A, s, p, rfl, W, ?_⟩
      walk_at "r"
      refine ite2 (fun q0 => ?_) (fun q0 => ?_)
      · have q0 : s.places.length ≤ p := by simpa using q0
        exact k.no (by simp [one, Km446.act, hx, q0]) W (Keep.same (Same.refl _))
      · have q0 : ¬ s.places.length ≤ p := by simpa using q0
        walk_at "r"
        refine ⟨_, _, _, _, rfl, rfl, SqL.of W.lh, at_ref ha, ?_⟩
        walk_at "r"
        refine ite2 (fun q => ?_) (fun q => ?_)
        · have q : x.busy ≠ 0 := by simp at q; omega
          exact k.no (by simp [one, Km446.act, hx, q0, q]) W (Keep.same (Same.refl _))
        · have q : x.busy = 0 := by simp at q; omega
          walk_at "r"
          refine ite2 (fun r => ?_) (fun r => ?_)
          · have r : x.place = p := by simp at r; omega
            exact k.no (by simp [one, Km446.act, hx, q0, q, r]) W (Keep.same (Same.refl _))
          · have r : x.place ≠ p := by simp at r; omega
            walk_at "r"
            refine ⟨A, s, a, x, p, rfl, W, ok.weak, ⟨dh, hh⟩, hb, fun H1 e1 => ?_⟩
            have W1 := W.same e1
            have hh1 := e1 _ _ hh
            walk_at "r"
            refine ite2 (fun z => ?_) (fun z => ?_)
            · have z : s.may x p = false := by simpa using z
              exact k.no (by simp [one, Km446.act, hx, q0, q, r, z]) W1 (Keep.same e1)
            · have z : s.may x p = true := by simpa using z
              obtain ⟨hwy, hfu⟩ := may_some z r
              walk_at "r"
              refine ⟨A, s, x.place, p, rfl, W1, ok.sym, fun H2 e2 => ?_⟩
              rw [hwy]
              have W2 := W1.same e2
              have hh2 := e2 _ _ hh1
              have hw2 := (e1.trans e2) _ _ hw
              generalize hn : s.ways x.place p = n at *
              walk_at "r"
              refine ⟨a, C.h, dh, hf x, rfl, hh2, th, T.nh _ (by decide +kernel), (by show 9 < 1000; decide), ?_⟩
              have hh3 : (upd H2 a (.ins C.h dh (hf { x with busy := n }))) a = some (.ins C.h dh (hf { x with busy := n })) := upd_same
              have W3 := W2.heliSet T.dist ha (dx := dh) { x with busy := n }
              refine ⟨_, rfl, a, C.h, dh, hf { x with busy := n }, _, rfl, upd_same, th, T.nh _ (by decide +kernel), rfl, ?_⟩
              refine ⟨_, rfl, a, C.h, dh, hf { x with busy := n }, _, rfl, upd_same, th, T.nh _ (by decide +kernel), rfl, ?_⟩
              refine ⟨_, rfl, a, C.h, dh, hf { x with busy := n }, _, rfl, upd_same, th, T.nh _ (by decide +kernel), rfl, ?_⟩
              refine ⟨_, _, rfl, rfl, .inr ⟨show (-(2 ^ 64) : Int) < (x.burn : Int) by omega, show (x.burn : Int) < 2 ^ 64 by omega⟩, _, _, rfl, rfl, dh, hf { x with busy := n }, upd_same, (by show 9 < 1000; decide), ?_⟩
              have ef : (x.fuel : Int) - (n : Int) * (x.burn : Int) = ((x.fuel - x.burn * n : Nat) : Int) := by rw [Int.ofNat_sub hfu, Int.mul_comm]; simp
              have e4 : (putF "fuel" (V.int ((x.fuel : Int) - (n : Int) * (x.burn : Int))) (hf { x with busy := n })) = hf { x with busy := n, fuel := x.fuel - x.burn * n } := by rw [ef]; rfl
              refine swapH (R := tSeq _ _ _ _) (show upd (upd H2 a (HO.ins C.h dh (putF "busy" (nv (some n)) (hf x)))) a (HO.ins C.h dh (putF "fuel" (V.int ((x.fuel : Int) - (n : Int) * (x.burn : Int))) (hf { x with busy := n }))) = upd H2 a (HO.ins C.h dh (hf { x with busy := n, fuel := x.fuel - x.burn * n })) from by rw [upd_upd, e4]) ?_
              refine ⟨_, rfl, _, rfl, a, C.h, dh, hf { x with busy := n, fuel := x.fuel - x.burn * n }, rfl, upd_same, th, T.nh _ (by decide +kernel), (by show 9 < 1000; decide), ?_⟩
              have W5 := W2.heliSet T.dist ha (dx := dh) { x with place := p, busy := n, fuel := x.fuel - x.burn * n }
              rw [← upd_upd (o := .ins C.h dh (hf { x with busy := n, fuel := x.fuel - x.burn * n }))] at W5
              have hh5 : (upd (upd H2 a (HO.ins C.h dh (hf { x with busy := n, fuel := x.fuel - x.burn * n }))) a (HO.ins C.h dh (hf { x with place := p, busy := n, fuel := x.fuel - x.burn * n }))) a = some (HO.ins C.h dh (hf { x with place := p, busy := n, fuel := x.fuel - x.burn * n })) := upd_same
              obtain ⟨dw5, hw5⟩ := W5.w
              walk_at "r"
              exact k.end_ (s' := s.setHeli h { x with place := p, busy := n, fuel := x.fuel - x.burn * n }) (a := ⟨((s.time + n : Nat) : Int), [x.fuel - x.burn * n]⟩) (by simp [nxt, one, Km446.act, hx, q0, q, r, z, Km446.Desk.become, hn]) (by simp [ans, one, Km446.act, hx, q0, q, r, z, hn]) W5 (((Keep.same (e1.trans e2)).upd (mem_h ha)).upd (mem_h ha)) rfl (by simp)
abbrev s_winch_up : Stmt := top 55
theorem sc_winch_up : FnScope ["world", "h", "n", "heli", "place"] ["world", "h", "n"] (defScope s_winch_up) := ⟨rfl, rfl, rfl, by decide +kernel, rfl, by decide +kernel, by decide +kernel⟩
def sp_winch_up (C : Cs) : Sp := fun vs H Q _ => ∃ (A : Adr) (s : Sea) (h n : Nat), vs = [.ref A.w, .int h, .int n] ∧ WorldAt C H A s ∧ SeaOk s ∧ Chg C H A Q s (.winch h n)
theorem ok_winch_up (T : Txt K mg C) (F : Has K mg "winch_up" s_winch_up ["world", "h", "n"]) (c_has_helicopter : cHas P w K mg base C) (c_seats_left : Can P w K mg base 1 "seats_left" ["heli"] (sp_seats_left C)) (c_winched_in_time : Can P w K mg base 6 "winched_in_time" ["world", "heli"] (sp_winched_in_time C)) : Can P w K mg base 7 "winch_up" ["world", "h", "n"] (sp_winch_up C) := by
  refine can_of F sc_winch_up (fun vs H Q E h => ?_) (fun f cdv A0 outer s0 H vs Q E hr h => ?_)
  · obtain ⟨A, s, h, p, rfl, _⟩ := h
    rfl
  · obtain ⟨A, s, h, n, rfl, W, ok, k⟩ := h
    refine ⟨_, (pss_cons (ps_if (pt_not (pt_val (pe_can c_has_helicopter hr (by decide) (pa_cons (pv 0) (pa_cons (pv 1) pa_nil))))) (pss_one (ps_ret (pe_lst (pa_cons (pe_gint (T.gi ("NOT_THERE", (-2)) (by decide +kernel))) pa_nil)))) pss_nil)
      (pss_cons (ps_if (pt_cmpR op_eq (pv 2) pe_int (nomark _)) (pss_one (ps_ret (pe_lst (pa_cons (pe_gint (T.gi ("WRONG_NUMBER", (-22)) (by decide +kernel))) pa_nil)))) pss_nil)
      (pss_cons (ps_set (i := 3) sc_winch_up.nd rfl (Or.inl rfl) (pe_ix ix_list (pe_fld (pv 0) rfl) (pv 1) (fun _ _ => rfl)))
      (pss_cons (ps_if (pt_cmpR op_gt (pe_fld (pv 3) rfl) pe_int (nomark _)) (pss_one (ps_ret (pe_lst (pa_cons (pe_gint (T.gi ("NOT_NOW", (-16)) (by decide +kernel))) pa_nil)))) pss_nil)
      (pss_cons (ps_set (i := 4) sc_winch_up.nd rfl (Or.inl rfl) (pe_ix ix_list (pe_fld (pv 0) rfl) (pe_fld (pv 3) rfl) (fun _ _ => rfl)))
      (pss_cons (ps_if (pt_cmpR op_lt (pe_fld (pv 4) rfl) (pv 2) (nomark _)) (pss_one (ps_ret (pe_lst (pa_cons (pe_gint (T.gi ("TOO_FEW_WAIT", (-12)) (by decide +kernel))) pa_nil)))) pss_nil)
      (pss_cons (ps_if (pt_cmpR op_lt (pe_can c_seats_left hr (by decide) (pa_cons (pv 3) pa_nil)) (pv 2) (nomark _)) (pss_one (ps_ret (pe_lst (pa_cons (pe_gint (T.gi ("NO_SEATS", (-62)) (by decide +kernel))) pa_nil)))) pss_nil)
      (pss_cons (ps_if (pt_cmpR op_lt (pe_can c_winched_in_time hr (by decide) (pa_cons (pv 0) (pa_cons (pv 3) pa_nil))) (pv 2) (nomark _)) (pss_one (ps_ret (pe_lst (pa_cons (pe_gint (T.gi ("MAY_NOT", (-33)) (by decide +kernel))) pa_nil)))) pss_nil)
      (pss_cons (ps_fldaug (pv 4) (pv 2) in_sub)
      (pss_cons (ps_fldaug (pv 3) (pv 2) in_add)
      (pss_cons (ps_fld (pv 3) (pe_op op_mul (pv 2) (pe_fld (pv 3) rfl)) rfl)
      (pss_cons (ps_fldaug (pv 3) (pe_op op_mul (pe_fld (pv 3) rfl) (pe_fld (pv 3) rfl)) in_sub)
      (pss_one (ps_ret (pe_lst (pa_cons (pe_op op_add (pe_fld (pv 0) rfl) (pe_fld (pv 3) rfl)) (pa_cons (pe_fld (pv 3) rfl) pa_nil))))))))))))))))), ?_⟩
    have tw := T.cw
    have th := T.ch
    have tp := T.cp
    obtain ⟨dw, hw⟩ := W.w
    walk_at "r"
    refine ⟨A, s, h, rfl, W, ?_⟩
    walk_at "r"
    refine ite2 (fun q => ?_) (fun q => ?_)
    · have q : s.helis[h]? = none := get_none (by simpa using q)
      exact k.no (by simp [one, Km446.act, q]) W (Keep.same (Same.refl _))
    · obtain ⟨x, hx⟩ := get_some (l := s.helis) (i := h) (by simpa using q)
      obtain ⟨a, ha, dh, hh⟩ := W.heli hx
      have hk := ok.hl h x hx
      obtain ⟨ap, hap, dp, hpl⟩ := W.place hk.pl
      walk_at "r"
      refine ite2 (fun q0 => ?_) (fun q0 => ?_)
      · have q0 : n = 0 := by simp at q0; omega
        exact k.no (by simp [one, Km446.act, hx, q0]) W (Keep.same (Same.refl _))
      · have q0 : n ≠ 0 := by simp at q0; omega
        walk_at "r"
        refine ⟨_, _, _, _, rfl, rfl, SqL.of W.lh, at_ref ha, ?_⟩
        walk_at "r"
        refine ite2 (fun q => ?_) (fun q => ?_)
        · have q : x.busy ≠ 0 := by simp at q; omega
          exact k.no (by simp [one, Km446.act, hx, q0, q]) W (Keep.same (Same.refl _))
        · have q : x.busy = 0 := by simp at q; omega
          walk_at "r"
          refine ⟨_, _, _, _, rfl, rfl, SqL.of W.lp, at_ref hap, ?_⟩
          walk_at "r"
          refine ite2 (fun r => ?_) (fun r => ?_)
          · have r : (s.place x.place).persons < n := by simp at r; omega
            exact k.no (by simp [one, Km446.act, hx, q0, q, r]) W (Keep.same (Same.refl _))
          · have r : ¬ (s.place x.place).persons < n := by simp at r; omega
            walk_at "r"
            refine ⟨a, x, rfl, ⟨dh, hh⟩, hk.is, ?_⟩
            have his := hk.is
            walk_at "r"
            refine ite2 (fun z => ?_) (fun z => ?_)
            · have z : x.seats < x.in_ + n := by simp at z; omega
              exact k.no (by simp [one, Km446.act, hx, q0, q, r, z]) W (Keep.same (Same.refl _))
            · have z : ¬ x.seats < x.in_ + n := by simp at z; omega
              walk_at "r"
              refine ⟨A, s, a, x, rfl, W, ok, ⟨dh, hh⟩, hk, fun H1 e1 => ?_⟩
              have W1 := W.same e1
              have hh1 := e1 _ _ hh
              have hp1 := e1 _ _ hpl
              walk_at "r"
              refine ite2 (fun y => ?_) (fun y => ?_)
              · have y : s.lift x < n := by
                  unfold Km446.Sea.lift
                  simp at y
                  omega
                exact k.no (by simp [one, Km446.act, hx, q0, q, r, z, y]) W1 (Keep.same e1)
              · have y' : n ≤ s.stay x / x.winch := by simp at y; omega
                have y : ¬ s.lift x < n := by
                  unfold Km446.Sea.lift
                  omega
                obtain ⟨_, hfu⟩ := stay_le hk y'
                refine ⟨_, rfl, ap, C.p, dp, pf (s.place x.place), _, rfl, hp1, tp, T.np _ (by decide +kernel), rfl, _, rfl, _, _, rfl, rfl, dp, pf (s.place x.place), hp1, (by show 3 < 1000; decide), ?_⟩
                have ep : (putF "waiting" (V.int (((s.place x.place).persons : Int) - (n : Int))) (pf (s.place x.place))) = pf { s.place x.place with persons := (s.place x.place).persons - n } := by
                  rw [show ((s.place x.place).persons : Int) - (n : Int) = (((s.place x.place).persons - n : Nat) : Int) by omega]
                  rfl
                refine swapH (R := tSeq _ _ _ _) (show upd H1 ap (HO.ins C.p dp (putF "waiting" (V.int (((s.place x.place).persons : Int) - (n : Int))) (pf (s.place x.place)))) = upd H1 ap (HO.ins C.p dp (pf { s.place x.place with persons := (s.place x.place).persons - n })) from by rw [ep]) ?_
                have W2 := W1.placeSet T.dist hap (dx := dp) { s.place x.place with persons := (s.place x.place).persons - n }
                have hh2 : (upd H1 ap (HO.ins C.p dp (pf { s.place x.place with persons := (s.place x.place).persons - n }))) a = some (.ins C.h dh (hf x)) := by rw [upd_ne (ins_ne hh1 hp1 T.hp)]; exact hh1
                have k2 : Keep A A H (upd H1 ap (HO.ins C.p dp (pf { s.place x.place with persons := (s.place x.place).persons - n }))) := (Keep.same e1).upd (mem_p hap)
                generalize upd H1 ap (HO.ins C.p dp (pf { s.place x.place with persons := (s.place x.place).persons - n })) = H2 at *
                refine ⟨_, rfl, a, C.h, dh, hf x, _, rfl, hh2, th, T.nh _ (by decide +kernel), rfl, _, rfl, _, _, rfl, rfl, dh, hf x, hh2, (by show 9 < 1000; decide), ?_⟩
                have hh3 : (upd H2 a (HO.ins C.h dh (hf { x with in_ := x.in_ + n }))) a = some (HO.ins C.h dh (hf { x with in_ := x.in_ + n })) := upd_same
                refine ⟨_, rfl, _, rfl, a, C.h, dh, hf { x with in_ := x.in_ + n }, _, rfl, hh3, th, T.nh _ (by decide +kernel), rfl, _, _, rfl, rfl, .inr ⟨show (-(2 ^ 64) : Int) < (x.winch : Int) by omega, show (x.winch : Int) < 2 ^ 64 by have := hk.w2; omega⟩, ?_⟩
                refine ⟨_, rfl, a, C.h, dh, hf { x with in_ := x.in_ + n }, rfl, hh3, th, T.nh _ (by decide +kernel), (by show 9 < 1000; decide), ?_⟩
                refine swapH (R := tSeq _ _ _ _) (show upd (upd H2 a (HO.ins C.h dh (hf { x with in_ := x.in_ + n }))) a (HO.ins C.h dh (hf { x with in_ := x.in_ + n, busy := n * x.winch })) = upd H2 a (HO.ins C.h dh (hf { x with in_ := x.in_ + n, busy := n * x.winch })) from upd_upd) ?_
                have hh4 : (upd H2 a (HO.ins C.h dh (hf { x with in_ := x.in_ + n, busy := n * x.winch }))) a = some (HO.ins C.h dh (hf { x with in_ := x.in_ + n, busy := n * x.winch })) := upd_same
                refine ⟨_, rfl, a, C.h, dh, hf { x with in_ := x.in_ + n, busy := n * x.winch }, _, rfl, hh4, th, T.nh _ (by decide +kernel), rfl, ?_⟩
                refine ⟨_, rfl, a, C.h, dh, hf { x with in_ := x.in_ + n, busy := n * x.winch }, _, rfl, hh4, th, T.nh _ (by decide +kernel), rfl, ?_⟩
                refine ⟨_, rfl, a, C.h, dh, hf { x with in_ := x.in_ + n, busy := n * x.winch }, _, rfl, hh4, th, T.nh _ (by decide +kernel), rfl, ?_⟩
                refine ⟨_, _, rfl, rfl, .inr ⟨show (-(2 ^ 64) : Int) < (x.hover : Int) by omega, show (x.hover : Int) < 2 ^ 64 by have := hk.o2; omega⟩, _, _, rfl, rfl, dh, hf { x with in_ := x.in_ + n, busy := n * x.winch }, hh4, (by show 9 < 1000; decide), ?_⟩
                have W5 := W2.heliSet T.dist ha (dx := dh) { x with in_ := x.in_ + n, busy := n * x.winch, fuel := x.fuel - n * x.winch * x.hover }
                have ef : (x.fuel : Int) - ((n * x.winch : Nat) : Int) * (x.hover : Int) = ((x.fuel - n * x.winch * x.hover : Nat) : Int) := by rw [Int.ofNat_sub hfu]; simp
                have e5 : putF "fuel" (V.int ((x.fuel : Int) - ((n * x.winch : Nat) : Int) * (x.hover : Int))) (hf { x with in_ := x.in_ + n, busy := n * x.winch }) = hf { x with in_ := x.in_ + n, busy := n * x.winch, fuel := x.fuel - n * x.winch * x.hover } := by rw [ef]; rfl
                rw [← upd_upd (o := .ins C.h dh (hf { x with in_ := x.in_ + n, busy := n * x.winch })), ← e5] at W5
                have hh5 : (upd (upd H2 a (HO.ins C.h dh (hf { x with in_ := x.in_ + n, busy := n * x.winch }))) a (HO.ins C.h dh (putF "fuel" (V.int ((x.fuel : Int) - ((n * x.winch : Nat) : Int) * (x.hover : Int))) (hf { x with in_ := x.in_ + n, busy := n * x.winch })))) a = some (HO.ins C.h dh (putF "fuel" (V.int ((x.fuel : Int) - ((n * x.winch : Nat) : Int) * (x.hover : Int))) (hf { x with in_ := x.in_ + n, busy := n * x.winch }))) := upd_same
                obtain ⟨dw5, hw5⟩ := W5.w
                walk_at "r"
                refine k.end_ (s' := (s.setPlace x.place { s.place x.place with persons := (s.place x.place).persons - n }).setHeli h { x with in_ := x.in_ + n, busy := n * x.winch, fuel := x.fuel - n * x.winch * x.hover }) (a := ⟨((s.time + n * x.winch : Nat) : Int), [x.fuel - n * x.winch * x.hover]⟩) ?_ ?_ W5 ((k2.upd (mem_h ha)).upd (mem_h ha)) ?_ (by simp)
                · simp [nxt, one, Km446.act, hx, q0, q, r, z, y, Km446.Desk.become]
                · simp [ans, one, Km446.act, hx, q0, q, r, z, y]
                · rw [show told ⟨((s.time + n * x.winch : Nat) : Int), [x.fuel - n * x.winch * x.hover]⟩ = [((s.time + n * x.winch : Nat) : Int), ((x.fuel - n * x.winch * x.hover : Nat) : Int)] from rfl, ← ef]
                  rfl
end
end Hf
end
section
set_option Elab.async false
set_option linter.all false
set_option maxRecDepth 100000
set_option maxHeartbeats 2000000
namespace Hf
open PySem PySem.Spec PyProof.Rows L2
open Km446 (Sea Heli Desk Ans)
section
variable {P : Program} {w : World} {K : PySem.W.Frag} {mg : Str → Option Value} {base : Heap} {C : Cs}
local macro_rules | `(tactic| walk_at "f") => `(tactic| refine ⟨_, _, _, _, _, rfl, by assumption, by assumption, (by first | exact Txt.nw (by assumption) _ (by decide +kernel) | exact Txt.nh (by assumption) _ (by decide +kernel) | exact Txt.np (by assumption) _ (by decide +kernel)), by rfl, ?_⟩)
local macro_rules | `(tactic| walk_at "r") => `(tactic| repeat (first | refine ⟨_, rfl, ?_⟩ | walk_at "f" | refine ⟨_, _, rfl, rfl, ?_⟩ | refine ⟨rfl, ?_⟩))
abbrev cBases (P : Program) (w : World) (K : PySem.W.Frag) (mg : Str → Option Value) (base : Heap) (C : Cs) := Can P w K mg base 1 "open_bases" ["world"] (sp_open_bases C)
/-! ## numbers that are as told -/
def fit (n m : Nat) : Bool := decide (1 ≤ n ∧ n ≤ m)
abbrev s_is_from_one_to : Stmt := top 77
theorem sc_is_from_one_to : FnScope ["n", "most"] ["n", "most"] (defScope s_is_from_one_to) := ⟨rfl, rfl, rfl, by decide +kernel, rfl, by decide +kernel, by decide +kernel⟩
def sp_is_from_one_to : Sp := fun vs H Q _ => ∃ (n m : Nat), vs = [.int n, .int m] ∧ Q (.bl (fit n m)) H
theorem ok_is_from_one_to (T : Txt K mg C) (F : Has K mg "is_from_one_to" s_is_from_one_to ["n", "most"]) : Can P w K mg base 1 "is_from_one_to" ["n", "most"] sp_is_from_one_to := by
  refine can_of F sc_is_from_one_to (fun vs H Q E h => ?_) (fun f cdv A0 outer s0 H vs Q E hr h => ?_)
  · obtain ⟨n, m, rfl, _⟩ := h
    rfl
  · obtain ⟨n, m, rfl, k⟩ := h
    refine ⟨_, (pss_one (ps_ret (pe_and (pe_cmpR op_ge (pv 0) pe_int (nomark _)) (pe_one (pe_cmpR op_le (pv 0) (pv 1) (nomark _)))))), ?_⟩
    walk_at "r"
    refine ite2 (fun q => ?_) (fun q => ?_)
    · have q : 1 ≤ n := by simp at q; omega
      walk_at "r"
      have e : fit n m = decide ((n : Int) ≤ (m : Int)) := by
        unfold fit
        rw [Bool.eq_iff_iff]
        simp only [decide_eq_true_eq]
        omega
      rw [e] at k
      exact k
    · have q : ¬ 1 ≤ n := by simp at q; omega
      have e : fit n m = false := by unfold fit; simp; omega
      rw [e] at k
      exact k
abbrev s_is_as_told : Stmt := top 78
theorem sc_is_as_told : FnScope ["tank", "burn", "hover", "seats", "winch"] ["tank", "burn", "hover", "seats", "winch"] (defScope s_is_as_told) := ⟨rfl, rfl, rfl, by decide +kernel, rfl, by decide +kernel, by decide +kernel⟩
def asTold (t b o c w : Nat) : Bool := fit t 10000 && (fit b 100 && (fit o 100 && (fit c 30 && fit w 60)))
def sp_is_as_told : Sp := fun vs H Q _ => ∃ (t b o c w : Nat), vs = [.int t, .int b, .int o, .int c, .int w] ∧ Q (.bl (asTold t b o c w)) H
theorem ok_is_as_told (T : Txt K mg C) (F : Has K mg "is_as_told" s_is_as_told ["tank", "burn", "hover", "seats", "winch"]) (c_is_from_one_to : Can P w K mg base 1 "is_from_one_to" ["n", "most"] sp_is_from_one_to) : Can P w K mg base 2 "is_as_told" ["tank", "burn", "hover", "seats", "winch"] sp_is_as_told := by
  refine can_of F sc_is_as_told (fun vs H Q E h => ?_) (fun f cdv A0 outer s0 H vs Q E hr h => ?_)
  · obtain ⟨t, b, o, c, w, rfl, _⟩ := h
    rfl
  · obtain ⟨t, b, o, c, wi, rfl, k⟩ := h
    refine ⟨_, (pss_one (ps_ret (pe_and (pe_can c_is_from_one_to hr (by decide) (pa_cons (pv 0) (pa_cons (pe_gint (T.gi ("LARGEST_TANK", 10000) (by decide +kernel))) pa_nil))) (pe_and (pe_can c_is_from_one_to hr (by decide) (pa_cons (pv 1) (pa_cons (pe_gint (T.gi ("MOST_BURNT", 100) (by decide +kernel))) pa_nil))) (pe_and (pe_can c_is_from_one_to hr (by decide) (pa_cons (pv 2) (pa_cons (pe_gint (T.gi ("MOST_BURNT", 100) (by decide +kernel))) pa_nil))) (pe_and (pe_can c_is_from_one_to hr (by decide) (pa_cons (pv 3) (pa_cons (pe_gint (T.gi ("MOST_SEATS", 30) (by decide +kernel))) pa_nil))) (pe_one (pe_can c_is_from_one_to hr (by decide) (pa_cons (pv 4) (pa_cons (pe_gint (T.gi ("SLOWEST_WINCH", 60) (by decide +kernel))) pa_nil)))))))))), ?_⟩
    unfold asTold at k
    walk_at "r"
    refine ⟨t, 10000, rfl, ?_⟩
    cases h1 : fit t 10000 with
    | false => rw [h1] at k; exact ⟨_, rfl, iteF k⟩
    | true =>
      rw [h1, Bool.true_and] at k
      refine ⟨_, rfl, iteT ?_⟩
      walk_at "r"
      refine ⟨b, 100, rfl, ?_⟩
      cases h2 : fit b 100 with
      | false => rw [h2] at k; exact ⟨_, rfl, iteF k⟩
      | true =>
        rw [h2, Bool.true_and] at k
        refine ⟨_, rfl, iteT ?_⟩
        walk_at "r"
        refine ⟨o, 100, rfl, ?_⟩
        cases h3 : fit o 100 with
        | false => rw [h3] at k; exact ⟨_, rfl, iteF k⟩
        | true =>
          rw [h3, Bool.true_and] at k
          refine ⟨_, rfl, iteT ?_⟩
          walk_at "r"
          refine ⟨c, 30, rfl, ?_⟩
          cases h4 : fit c 30 with
          | false => rw [h4] at k; exact ⟨_, rfl, iteF k⟩
          | true =>
            rw [h4, Bool.true_and] at k
            refine ⟨_, rfl, iteT ?_⟩
            walk_at "r"
            exact ⟨wi, 60, rfl, k⟩
/-! ## places that change -/
abbrev s_add_persons : Stmt := top 80
theorem sc_add_persons : FnScope ["world", "p", "n", "place"] ["world", "p", "n"] (defScope s_add_persons) := ⟨rfl, rfl, rfl, by decide +kernel, rfl, by decide +kernel, by decide +kernel⟩
def sp_add_persons (C : Cs) : Sp := fun vs H Q _ => ∃ (A : Adr) (s : Sea) (p n : Nat), vs = [.ref A.w, .int p, .int n] ∧ WorldAt C H A s ∧ SeaOk s ∧ Chg C H A Q s (.more p n)
theorem ok_add_persons (T : Txt K mg C) (F : Has K mg "add_persons" s_add_persons ["world", "p", "n"]) (c_has_place : cPl P w K mg base C) : Can P w K mg base 2 "add_persons" ["world", "p", "n"] (sp_add_persons C) := by
  refine can_of F sc_add_persons (fun vs H Q E h => ?_) (fun f cdv A0 outer s0 H vs Q E hr h => ?_)
  · obtain ⟨A, s, p, n, rfl, _⟩ := h
    rfl
  · obtain ⟨A, s, p, n, rfl, W, ok, k⟩ := h
    refine ⟨_, (pss_cons (ps_if (PW.pt (pw_or (pt_not (pt_val (pe_can c_has_place hr (by decide) (pa_cons (pv 0) (pa_cons (pv 1) pa_nil))))) (pw_or1 (pt_val (pe_fld (pe_ix ix_list (pe_fld (pv 0) rfl) (pv 1) (fun _ _ => rfl)) rfl))))) (pss_one (ps_ret (pe_lst (pa_cons (pe_gint (T.gi ("NOT_THERE", (-2)) (by decide +kernel))) pa_nil)))) pss_nil)
      (pss_cons (ps_set (i := 3) sc_add_persons.nd rfl (Or.inl rfl) (pe_ix ix_list (pe_fld (pv 0) rfl) (pv 1) (fun _ _ => rfl)))
      (pss_cons (ps_if (PW.pt (pw_or (pt_cmpR op_eq (pv 2) pe_int (nomark _)) (pw_or1 (pt_cmpR op_gt (pe_op op_add (pe_fld (pv 3) rfl) (pv 2)) (pe_gint (T.gi ("MOST_WAITING", 1000) (by decide +kernel))) (nomark _))))) (pss_one (ps_ret (pe_lst (pa_cons (pe_gint (T.gi ("WRONG_NUMBER", (-22)) (by decide +kernel))) pa_nil)))) pss_nil)
      (pss_cons (ps_if (pt_cmpR op_gt (pe_op op_add (pe_fld (pv 0) rfl) (pv 2)) (pe_gint (T.gi ("MOST_SAVED", 100000) (by decide +kernel))) (nomark _)) (pss_one (ps_ret (pe_lst (pa_cons (pe_gint (T.gi ("TOO_MANY", (-28)) (by decide +kernel))) pa_nil)))) pss_nil)
      (pss_cons (ps_fldaug (pv 3) (pv 2) in_add)
      (pss_one (ps_ret (pe_lst (pa_cons (pe_fld (pv 3) rfl) pa_nil))))))))), ?_⟩
    have tw := T.cw
    have tp := T.cp
    obtain ⟨dw, hw⟩ := W.w
    have K0 : Keep A A H H := Keep.same (Same.refl _)
    walk_at "r"
    refine ⟨A, s, p, rfl, W, ?_⟩
    walk_at "r"
    refine ite2 (fun q => ?_) (fun q => ?_)
    · have q : s.places.length ≤ p := by simpa using q
      exact k.no (by simp [one, Km446.act, q]) W K0
    · have q : ¬ s.places.length ≤ p := by simpa using q
      obtain ⟨ap, hap, dp, hpl⟩ := W.place (p := p) (by omega)
      walk_at "r"
      refine ⟨_, _, _, _, rfl, rfl, SqL.of W.lp, at_ref hap, ?_⟩
      walk_at "r"
      refine ite2 (fun r => ?_) (fun r => ?_)
      · have r : (s.place p).base = true := r
        exact k.no (by simp [one, Km446.act, q, r]) W K0
      · have r : ¬ (s.place p).base = true := r
        walk_at "r"
        refine ⟨_, _, _, _, rfl, rfl, SqL.of W.lp, at_ref hap, ?_⟩
        walk_at "r"
        refine ite2 (fun z => ?_) (fun z => ?_)
        · have z : n = 0 := by simp at z; omega
          exact k.no (by simp [one, Km446.act, q, r, z]) W K0
        · have z : n ≠ 0 := by simp at z; omega
          walk_at "r"
          refine ite2 (fun y => ?_) (fun y => ?_)
          · have y : 1000 < (s.place p).persons + n := by simp at y; omega
            exact k.no (by simp [one, Km446.act, q, r, z, y]) W K0
          · have y : ¬ 1000 < (s.place p).persons + n := by simp at y; omega
            walk_at "r"
            refine ite2 (fun v => ?_) (fun v => ?_)
            · have v : 100000 < s.saved + n := by simp at v; omega
              exact k.no (by simp [one, Km446.act, q, r, z, y, v]) W K0
            · have v : ¬ 100000 < s.saved + n := by simp at v; omega
              refine ⟨_, rfl, ap, C.p, dp, pf (s.place p), _, rfl, hpl, tp, T.np _ (by decide +kernel), rfl, _, rfl, _, _, rfl, rfl, dp, pf (s.place p), hpl, (by show 3 < 1000; decide), ?_⟩
              have W2 := W.placeSet T.dist hap (dx := dp) { s.place p with persons := (s.place p).persons + n }
              have hp2 : (upd H ap (HO.ins C.p dp (pf { s.place p with persons := (s.place p).persons + n }))) ap = some (HO.ins C.p dp (pf { s.place p with persons := (s.place p).persons + n })) := upd_same
              refine ⟨_, rfl, ap, C.p, dp, pf { s.place p with persons := (s.place p).persons + n }, _, rfl, hp2, tp, T.np _ (by decide +kernel), rfl, ?_⟩
              exact k.end_ (s' := s.setPlace p { s.place p with persons := (s.place p).persons + n }) (a := Km446.only (((s.place p).persons + n : Nat) : Int)) (by simp [nxt, one, Km446.act, q, r, z, y, v, Km446.Desk.become]) (by simp [ans, one, Km446.act, q, r, z, y, v]) W2 (K0.upd (mem_p hap)) rfl (by simp)
abbrev s_reopen_base : Stmt := top 96
theorem sc_reopen_base : FnScope ["world", "b", "base"] ["world", "b"] (defScope s_reopen_base) := ⟨rfl, rfl, rfl, by decide +kernel, rfl, by decide +kernel, by decide +kernel⟩
def sp_reopen_base (C : Cs) : Sp := fun vs H Q _ => ∃ (A : Adr) (s : Sea) (b : Nat), vs = [.ref A.w, .int b] ∧ WorldAt C H A s ∧ SeaOk s ∧ Chg C H A Q s (.open_ b)
theorem ok_reopen_base (T : Txt K mg C) (F : Has K mg "reopen_base" s_reopen_base ["world", "b"]) (c_has_place : cPl P w K mg base C) (c_open_bases : cBases P w K mg base C) : Can P w K mg base 2 "reopen_base" ["world", "b"] (sp_reopen_base C) := by
  refine can_of F sc_reopen_base (fun vs H Q E h => ?_) (fun f cdv A0 outer s0 H vs Q E hr h => ?_)
  · obtain ⟨A, s, b, rfl, _⟩ := h
    rfl
  · obtain ⟨A, s, b, rfl, W, ok, k⟩ := h
    refine ⟨_, (pss_cons (ps_if (PW.pt (pw_or (pt_not (pt_val (pe_can c_has_place hr (by decide) (pa_cons (pv 0) (pa_cons (pv 1) pa_nil))))) (pw_or1 (pt_not (pt_val (pe_fld (pe_ix ix_list (pe_fld (pv 0) rfl) (pv 1) (fun _ _ => rfl)) rfl)))))) (pss_one (ps_ret (pe_lst (pa_cons (pe_gint (T.gi ("NOT_THERE", (-2)) (by decide +kernel))) pa_nil)))) pss_nil)
      (pss_cons (ps_set (i := 2) sc_reopen_base.nd rfl (Or.inl rfl) (pe_ix ix_list (pe_fld (pv 0) rfl) (pv 1) (fun _ _ => rfl)))
      (pss_cons (ps_if (pt_val (pe_fld (pv 2) rfl)) (pss_one (ps_ret (pe_lst (pa_cons (pe_gint (T.gi ("ALREADY_SO", (-17)) (by decide +kernel))) pa_nil)))) pss_nil)
      (pss_cons (ps_fld (pv 2) pe_bl rfl)
      (pss_one (ps_ret (pe_lst (pa_cons (pe_callB call_len_seq (by rfl) T.len PySem.boot_len (pa_cons (pe_can c_open_bases hr (by decide) (pa_cons (pv 0) pa_nil)) pa_nil)) pa_nil)))))))), ?_⟩
    have tw := T.cw
    have tp := T.cp
    obtain ⟨dw, hw⟩ := W.w
    have K0 : Keep A A H H := Keep.same (Same.refl _)
    walk_at "r"
    refine ⟨A, s, b, rfl, W, ?_⟩
    walk_at "r"
    refine ite2 (fun q => ?_) (fun q => ?_)
    · have q : s.places.length ≤ b := by simpa using q
      exact k.no (by simp [one, Km446.act, q]) W K0
    · have q : ¬ s.places.length ≤ b := by simpa using q
      obtain ⟨ap, hap, dp, hpl⟩ := W.place (p := b) (by omega)
      walk_at "r"
      refine ⟨_, _, _, _, rfl, rfl, SqL.of W.lp, at_ref hap, ?_⟩
      walk_at "r"
      refine ite2 (fun r => ?_) (fun r => ?_)
      · have r : (s.place b).base = false := by simpa using r
        exact k.no (by simp [one, Km446.act, q, r]) W K0
      · have r : (s.place b).base = true := by simpa using r
        walk_at "r"
        refine ⟨_, _, _, _, rfl, rfl, SqL.of W.lp, at_ref hap, ?_⟩
        walk_at "r"
        refine ite2 (fun z => ?_) (fun z => ?_)
        · have z : (s.place b).open_ = true := z
          exact k.no (by simp [one, Km446.act, q, r, z]) W K0
        · have z : ¬ (s.place b).open_ = true := z
          refine ⟨_, rfl, ap, C.p, dp, pf (s.place b), rfl, hpl, tp, T.np _ (by decide +kernel), (by show 3 < 1000; decide), ?_⟩
          have W2 := W.placeSet T.dist hap (dx := dp) { s.place b with open_ := true }
          have ok2 := ok_open ok (b := b) (by omega) r
          refine ⟨_, rfl, A, _, rfl, W2, ok2.weak, fun H3 l e3 hl h3 => ?_⟩
          refine ⟨_, _, rfl, .inl (SqL.of h3), ?_⟩
          exact k.end_ (s' := s.setPlace b { s.place b with open_ := true }) (a := Km446.only (((s.setPlace b { s.place b with open_ := true }).bases.length : Nat) : Int)) (by simp [nxt, one, Km446.act, q, r, z, Km446.Desk.become]) (by simp [ans, one, Km446.act, q, r, z]) (W2.same e3) ((K0.upd (mem_p hap)).more e3) (by rw [List.length_map]; rfl) (by simp)
abbrev s_close_base : Stmt := top 95
theorem sc_close_base : FnScope ["world", "b", "base", "heli"] ["world", "b"] (defScope s_close_base) := ⟨rfl, rfl, rfl, by decide +kernel, rfl, by decide +kernel, by decide +kernel⟩
def sp_close_base (C : Cs) : Sp := fun vs H Q _ => ∃ (A : Adr) (s : Sea) (b : Nat), vs = [.ref A.w, .int b] ∧ WorldAt C H A s ∧ SeaOk s ∧ Chg C H A Q s (.close b)
theorem setPlace_back {s : Sea} {b : Nat} {y : KPlace} (hb : b < s.places.length) : (s.setPlace b y).setPlace b (s.place b) = s := by
  have e : (s.places.set b y).set b (s.place b) = s.places := by
    rw [List.set_set]
    have h := get_place hb
    obtain ⟨h1, h2⟩ := List.getElem?_eq_some_iff.mp h
    rw [← h2, List.set_getElem_self]
  unfold Km446.Sea.setPlace
  simp only [e]
theorem weak_close {s : Sea} (ok : SeaOk s) {b : Nat} : SeaW (s.setPlace b { s.place b with open_ := false }) := by
  refine ⟨by show (s.places.set b _).length ≤ 6; rw [List.length_set]; exact ok.np, ok.sym, fun p x h => ?_⟩
  have h : (s.places.set b { s.place b with open_ := false })[p]? = some x := h
  rw [List.getElem?_set] at h
  split at h
  · split at h
    · cases h
      intro z
      cases z
    · cases h
  · exact ok.op p x h
theorem ok_close_base (T : Txt K mg C) (F : Has K mg "close_base" s_close_base ["world", "b"]) (c_has_place : cPl P w K mg base C) (c_open_bases : cBases P w K mg base C) (c_can_come_back : Can P w K mg base 6 "can_come_back" ["world", "heli"] (sp_can_come_back C)) : Can P w K mg base 7 "close_base" ["world", "b"] (sp_close_base C) := by
  refine can_of F sc_close_base (fun vs H Q E h => ?_) (fun f cdv A0 outer s0 H vs Q E hr h => ?_)
  · obtain ⟨A, s, b, rfl, _⟩ := h
    rfl
  · obtain ⟨A, s, b, rfl, W, ok, k⟩ := h
    refine ⟨_, (pss_cons (ps_if (pt_not (pt_val (pe_can c_has_place hr (by decide) (pa_cons (pv 0) (pa_cons (pv 1) pa_nil))))) (pss_one (ps_ret (pe_lst (pa_cons (pe_gint (T.gi ("NOT_THERE", (-2)) (by decide +kernel))) pa_nil)))) pss_nil)
      (pss_cons (ps_set (i := 2) sc_close_base.nd rfl (Or.inl rfl) (pe_ix ix_list (pe_fld (pv 0) rfl) (pv 1) (fun _ _ => rfl)))
      (pss_cons (ps_if (pt_not (pt_val (pe_fld (pv 2) rfl))) (pss_one (ps_ret (pe_lst (pa_cons (pe_gint (T.gi ("ALREADY_SO", (-17)) (by decide +kernel))) pa_nil)))) pss_nil)
      (pss_cons (ps_fld (pv 2) pe_bl rfl)
      (pss_cons (ps_for PassesOwn.never rfl (pi_list (pe_fld (pv 0) rfl)) (pg_name (i := 3) sc_close_base.nd rfl (Or.inl rfl)) (pss_one (ps_if (pt_not (pt_val (pe_can c_can_come_back hr (by decide) (pa_cons (pv 0) (pa_cons (pv 3) pa_nil))))) (pss_cons (ps_fld (pv 2) pe_bl rfl)
      (pss_one (ps_ret (pe_lst (pa_cons (pe_gint (T.gi ("MAY_NOT", (-33)) (by decide +kernel))) pa_nil))))) pss_nil)))
      (pss_one (ps_ret (pe_lst (pa_cons (pe_callB call_len_seq (by rfl) T.len PySem.boot_len (pa_cons (pe_can c_open_bases hr (by decide) (pa_cons (pv 0) pa_nil)) pa_nil)) pa_nil))))))))), ?_⟩
    have tw := T.cw
    have tp := T.cp
    obtain ⟨dw, hw⟩ := W.w
    have K0 : Keep A A H H := Keep.same (Same.refl _)
    walk_at "r"
    refine ⟨A, s, b, rfl, W, ?_⟩
    walk_at "r"
    refine ite2 (fun q => ?_) (fun q => ?_)
    · have q : s.places.length ≤ b := by simpa using q
      exact k.no (by simp [one, Km446.act, q]) W K0
    · have q : ¬ s.places.length ≤ b := by simpa using q
      obtain ⟨ap, hap, dp, hpl⟩ := W.place (p := b) (by omega)
      walk_at "r"
      refine ⟨_, _, _, _, rfl, rfl, SqL.of W.lp, at_ref hap, ?_⟩
      walk_at "r"
      refine ite2 (fun r => ?_) (fun r => ?_)
      · have r : (s.place b).open_ = false := by simpa using r
        exact k.no (by simp [one, Km446.act, q, r]) W K0
      · have r : (s.place b).open_ = true := by simpa using r
        refine ⟨_, rfl, ap, C.p, dp, pf (s.place b), rfl, hpl, tp, T.np _ (by decide +kernel), (by show 3 < 1000; decide), ?_⟩
        have W2 := W.placeSet T.dist hap (dx := dp) { s.place b with open_ := false }
        have K2 : Keep A A H (upd H ap (HO.ins C.p dp (pf { s.place b with open_ := false }))) := K0.upd (mem_p hap)
        have hp2 : (upd H ap (HO.ins C.p dp (pf { s.place b with open_ := false }))) ap = some (HO.ins C.p dp (pf { s.place b with open_ := false })) := upd_same
        have wk := weak_close ok (b := b)
        refine swapH (R := tSeq _ _ _ _) (show upd H ap (HO.ins C.p dp (putF "is_open" (V.bl false) (pf (s.place b)))) = upd H ap (HO.ins C.p dp (pf { s.place b with open_ := false })) from rfl) ?_
        generalize upd H ap (HO.ins C.p dp (pf { s.place b with open_ := false })) = H2 at *
        obtain ⟨dw2, hw2⟩ := W2.w
        refine ⟨_, rfl, A.w, C.w, dw2, _, _, rfl, hw2, tw, T.nw _ (by decide +kernel), rfl, A.lh, rfl, ⟨_, SqL.of W2.lh⟩, ?_⟩
        refine for_list (K := K) (a := A.lh) (xs := A.hs.map V.ref) (fun i σ H' => ∃ v : Option V, σ = [some (.ref A.w), some (.int b), some (.ref ap), v] ∧ Same H2 H' ∧ ∀ (j : Nat) (x : Heli), j < i → s.helis[j]? = some x → (s.setPlace b { s.place b with open_ := false }).back x = true)
          ⟨none, rfl, Same.refl _, fun j x hj => by omega⟩ (fun i σ H' _ ⟨_, _, e, _⟩ => SqL.of (e _ _ W2.lh)) ?_ ?_
        · rintro i y σ H' hi ⟨v, rfl, e, hall⟩
          rw [List.getElem?_map] at hi
          cases ea : A.hs[i]? with
          | none => rw [ea] at hi; cases hi
          | some a =>
            rw [ea] at hi
            cases hi
            obtain ⟨x, hx, hh⟩ := W2.hat i a ea
            have hk := ok.hl i x hx
            walk_at "r"
            refine ⟨A, _, a, x, rfl, W2.same e, wk, hh.same e, hk.b2, fun H3 e3 => ?_⟩
            walk_at "r"
            refine ite2 (fun z => ?_) (fun z => ?_)
            · have z : (s.setPlace b { s.place b with open_ := false }).back x = false := by simpa using z
              have W3 := W2.same (e.trans e3)
              have hp3 := (e.trans e3) _ _ hp2
              refine ⟨_, rfl, ap, C.p, dp, pf { s.place b with open_ := false }, rfl, hp3, tp, T.np _ (by decide +kernel), (by show 3 < 1000; decide), ?_⟩
              have W4 := W3.placeSet T.dist hap (dx := dp) (s.place b)
              rw [setPlace_back (by omega)] at W4
              have r2 : pf (s.place b) = putF "is_open" (V.bl true) (pf { s.place b with open_ := false }) := by
                have e : ∀ y : KPlace, y.open_ = true → pf y = putF "is_open" (V.bl true) (pf { y with open_ := false }) := fun y hy => by
                  cases y
                  cases hy
                  rfl
                exact e _ r
              rw [r2] at W4
              have any_ : ((s.setPlace b { s.place b with open_ := false }).helis.any fun x => !(s.setPlace b { s.place b with open_ := false }).back x) = true := List.any_eq_true.mpr ⟨x, List.mem_of_getElem? hx, by rw [z]; rfl⟩
              refine k.no ?_ W4 ((K2.more (e.trans e3)).upd (mem_p hap))
              show (if _ then _ else _) = _
              rw [if_neg q, if_neg (by show ¬ (s.place b).open_ = false; rw [r]; decide)]
              exact if_pos any_
            · have z : (s.setPlace b { s.place b with open_ := false }).back x = true := by simpa using z
              refine ⟨_, rfl, e.trans e3, fun j y hj hy => ?_⟩
              by_cases ej : j = i
              · subst ej
                have hx : s.helis[j]? = some x := hx
                rw [hx] at hy
                cases hy
                exact z
              · exact hall j y (by omega) hy
        · rintro σ H' ⟨v, rfl, e, hall⟩
          walk_at "r"
          refine ⟨A, _, rfl, W2.same e, wk, fun H3 l e3 hl h3 => ?_⟩
          refine ⟨_, _, rfl, .inl (SqL.of h3), ?_⟩
          have any_ : ¬ ((s.setPlace b { s.place b with open_ := false }).helis.any fun x => !(s.setPlace b { s.place b with open_ := false }).back x) = true := fun h => by
            obtain ⟨x, hx, hz⟩ := List.any_eq_true.mp h
            obtain ⟨j, hj⟩ := List.mem_iff_getElem?.mp hx
            have hj : s.helis[j]? = some x := hj
            rw [hall j x (by rw [List.length_map, W2.nh]; exact (List.getElem?_eq_some_iff.mp hj).1) hj] at hz
            cases hz
          have e9 : one s (.close b) = (Km446.Desk.become ⟨s, [], []⟩ (s.setPlace b { s.place b with open_ := false }), Km446.only (((s.setPlace b { s.place b with open_ := false }).bases.length : Nat) : Int)) := by
            show (if _ then _ else _) = _
            rw [if_neg q, if_neg (by show ¬ (s.place b).open_ = false; rw [r]; decide)]
            exact if_neg any_
          exact k.end_ (s' := s.setPlace b { s.place b with open_ := false }) (a := Km446.only (((s.setPlace b { s.place b with open_ := false }).bases.length : Nat) : Int)) (by show (one _ _).1.now = _; rw [e9]; rfl) (by show (one _ _).2 = _; rw [e9]) ((W2.same e).same e3) ((K2.more e).more e3) (by rw [List.length_map]; rfl) (by simp)
end
end Hf
end
section
set_option Elab.async false
set_option linter.all false
set_option maxRecDepth 100000
set_option maxHeartbeats 2000000
namespace Hf
open PySem PySem.Spec PyProof.Rows L2
open Km446 (Sea Heli Desk Ans)
section
variable {P : Program} {w : World} {K : PySem.W.Frag} {mg : Str → Option Value} {base : Heap} {C : Cs}
local macro_rules | `(tactic| walk_at "f") => `(tactic| refine ⟨_, _, _, _, _, rfl, by assumption, by assumption, (by first | exact Txt.nw (by assumption) _ (by decide +kernel) | exact Txt.nh (by assumption) _ (by decide +kernel) | exact Txt.np (by assumption) _ (by decide +kernel)), by rfl, ?_⟩)
local macro_rules | `(tactic| walk_at "r") => `(tactic| repeat (first | refine ⟨_, rfl, ?_⟩ | walk_at "f" | refine ⟨_, _, rfl, rfl, ?_⟩ | refine ⟨rfl, ?_⟩))
/-! ## new objects -/
/-- a class whose instances can be made: its __init__ keeps the promise sp -/
def Makes (P : Program) (w : World) (K : PySem.W.Frag) (mg : Str → Option Value) (base : Heap) (k : Nat) (x : Str) (c : Addr) (ps : List Str) (sp : Sp) : Prop :=
  ∃ f fd, Mk K c f ∧ FnOk P w K mg base CX0 k f fd ps sp ∧ mg x = some (.ref c) ∧ Binds K fd ps []
def HasI (K : PySem.W.Frag) (mg : Str → Option Value) (x qual : Str) (st : Stmt) (c : Addr) (ps : List Str) : Prop := ∃ f fd, Mk K c f ∧ Fun K "__init__" qual st f fd ∧ mg x = some (.ref c) ∧ Binds K fd ps []
theorem pe_makes {X : Cx} {k j : Nat} {x : Str} {c : Addr} {ps : List Str} {sp : Sp} {e : Expr} {es : List Expr} {t : TA} {p pos : Pos} (M : Makes X.prog X.w X.K X.mg X.base k x c ps sp) (hr : Room j X.A) (hj : k + 1 ≤ j) (ha : PA X (e :: es) t) (hg : Gl X x := by rfl)
    (hdb : (x == ("__debug__" : Str)) = false := by decide) (he : starEach (e :: es) X.env = (false, eval e X.env) :: starEach es X.env := by rfl) (hpl : (backTo pos (starEach es X.env)).any (·.1) = false := by rfl) :
    PE X (.Call (.Name x p) (e :: es) [] pos) (tMake c sp [] E0 t) := by
  obtain ⟨f, fd, M, F, hm, hb⟩ := M
  exact pe_make M F (hr.mono hj) hg hm hb .nil pass0 ha hdb he hpl
theorem pe_makes0 {X : Cx} {k j : Nat} {x : Str} {c : Addr} {ps : List Str} {sp : Sp} {p pos : Pos} (M : Makes X.prog X.w X.K X.mg X.base k x c ps sp) (hr : Room j X.A) (hj : k + 1 ≤ j) (hg : Gl X x := by rfl)
    (hdb : (x == ("__debug__" : Str)) = false := by decide) : PE X (.Call (.Name x p) [] [] pos) (tMake c sp [] E0 tNil) := by
  obtain ⟨f, fd, M, F, hm, hb⟩ := M
  exact pe_make0 M F (hr.mono hj) hg hm hb .nil pass0 hdb
theorem makes_of {x qual : Str} {st : Stmt} {c : Addr} {N ps : List Str} {k : Nat} {sp : Sp} (F : HasI K mg x qual st c ps) (S : FnScope N ps (defScope st)) (len : ∀ vs H Q E, sp vs H Q E → vs.length = ps.length)
    (hbody : ∀ (f : Addr) (cdv : Value) (A : Around) (outer : List Env) (s : Shared) (H : Hp) (vs : List V) (Q : VK) (E : XK), Room k (A.deeper (envOfC qual (defScope st) s.heap.objs.size f cdv)) → sp vs H Q E →
      ∃ t, PSs (cxOf CX0 P w K mg base N qual (defScope st) f cdv A outer s H E).nox (defBody st) t ∧ t { nx := fun _ H' => Q .non H', rt := Q } (L2.start N vs) H) : Makes P w K mg base (k + 1) x c ps sp := by
  obtain ⟨f, fd, M, F, hm, hb⟩ := F
  exact ⟨f, fd, M, F.ok S len fun cdv A outer s H vs Q E hr h => hbody f cdv A outer s H vs Q E hr h, hm, hb⟩
abbrev s_Place : Stmt := inClass (top 15) 0
theorem sc_Place___init__ : FnScope ["self", "is_base", "waiting"] ["self", "is_base", "waiting"] (defScope s_Place) := ⟨rfl, rfl, rfl, by decide +kernel, rfl, by decide +kernel, by decide +kernel⟩
def sp_Place (C : Cs) : Sp := fun vs H Q _ => ∃ (p dx : Addr) (b : Bool) (n : Nat), vs = [.ref p, .bl b, .int n] ∧ H p = some (.ins C.p dx []) ∧ Q .non (upd H p (.ins C.p dx (pf ⟨b, b, n⟩)))
theorem ok_Place (T : Txt K mg C) (F : HasI K mg "Place" "Place.__init__" s_Place C.p ["self", "is_base", "waiting"]) : Makes P w K mg base 1 "Place" C.p ["self", "is_base", "waiting"] (sp_Place C) := by
  refine makes_of F sc_Place___init__ (fun vs H Q E h => ?_) (fun f cdv A0 outer s0 H vs Q E hr h => ?_)
  · obtain ⟨p, dx, b, n, rfl, _⟩ := h
    rfl
  · obtain ⟨p, dx, b, n, rfl, hp, k⟩ := h
    refine ⟨_, (pss_cons (ps_fld (pv 0) (pv 1) rfl)
      (pss_cons (ps_fld (pv 0) (pv 1) rfl)
      (pss_one (ps_fld (pv 0) (pv 2) rfl)))), ?_⟩
    have tp := T.cp
    refine ⟨_, rfl, _, rfl, p, C.p, dx, [], rfl, hp, tp, T.np _ (by decide +kernel), (by show 0 < 1000; decide), ?_⟩
    refine ⟨_, rfl, _, rfl, p, C.p, dx, _, rfl, upd_same, tp, T.np _ (by decide +kernel), (by show 1 < 1000; decide), ?_⟩
    refine ⟨_, rfl, _, rfl, p, C.p, dx, _, rfl, upd_same, tp, T.np _ (by decide +kernel), (by show 2 < 1000; decide), ?_⟩
    refine swapH (R := Q .non) (show _ = upd H p (.ins C.p dx (pf ⟨b, b, n⟩)) from ?_) k
    rw [upd_upd, upd_upd]
    rfl
abbrev s_Helicopter : Stmt := inClass (top 16) 0
theorem sc_Helicopter___init__ : FnScope ["self", "place", "tank", "burn", "hover", "seats", "winch"] ["self", "place", "tank", "burn", "hover", "seats", "winch"] (defScope s_Helicopter) := ⟨rfl, rfl, rfl, by decide +kernel, rfl, by decide +kernel, by decide +kernel⟩
def sp_Helicopter (C : Cs) : Sp := fun vs H Q _ => ∃ (p dx : Addr) (pl t b o c wi : Nat), vs = [.ref p, .int pl, .int t, .int b, .int o, .int c, .int wi] ∧ H p = some (.ins C.h dx []) ∧ Q .non (upd H p (.ins C.h dx (hf ⟨pl, 0, t, t, b, o, c, 0, wi⟩)))
theorem ok_Helicopter (T : Txt K mg C) (F : HasI K mg "Helicopter" "Helicopter.__init__" s_Helicopter C.h ["self", "place", "tank", "burn", "hover", "seats", "winch"]) : Makes P w K mg base 1 "Helicopter" C.h ["self", "place", "tank", "burn", "hover", "seats", "winch"] (sp_Helicopter C) := by
  refine makes_of F sc_Helicopter___init__ (fun vs H Q E h => ?_) (fun f cdv A0 outer s0 H vs Q E hr h => ?_)
  · obtain ⟨p, dx, pl, t, b, o, c, wi, rfl, _⟩ := h
    rfl
  · obtain ⟨p, dx, pl, t, b, o, c, wi, rfl, hp, k⟩ := h
    refine ⟨_, (pss_cons (ps_fld (pv 0) (pv 1) rfl)
      (pss_cons (ps_fld (pv 0) (pv 2) rfl)
      (pss_cons (ps_fld (pv 0) pe_int rfl)
      (pss_cons (ps_fld (pv 0) pe_int rfl)
      (pss_cons (ps_fld (pv 0) (pv 2) rfl)
      (pss_cons (ps_fld (pv 0) (pv 3) rfl)
      (pss_cons (ps_fld (pv 0) (pv 4) rfl)
      (pss_cons (ps_fld (pv 0) (pv 5) rfl)
      (pss_one (ps_fld (pv 0) (pv 6) rfl)))))))))), ?_⟩
    have th := T.ch
    refine ⟨_, rfl, _, rfl, p, C.h, dx, [], rfl, hp, th, T.nh _ (by decide +kernel), (by show 0 < 1000; decide), ?_⟩
    refine ⟨_, rfl, _, rfl, p, C.h, dx, _, rfl, upd_same, th, T.nh _ (by decide +kernel), (by show 1 < 1000; decide), ?_⟩
    refine ⟨_, rfl, p, C.h, dx, _, rfl, upd_same, th, T.nh _ (by decide +kernel), (by show 2 < 1000; decide), ?_⟩
    refine ⟨_, rfl, p, C.h, dx, _, rfl, upd_same, th, T.nh _ (by decide +kernel), (by show 3 < 1000; decide), ?_⟩
    refine ⟨_, rfl, _, rfl, p, C.h, dx, _, rfl, upd_same, th, T.nh _ (by decide +kernel), (by show 4 < 1000; decide), ?_⟩
    refine ⟨_, rfl, _, rfl, p, C.h, dx, _, rfl, upd_same, th, T.nh _ (by decide +kernel), (by show 5 < 1000; decide), ?_⟩
    refine ⟨_, rfl, _, rfl, p, C.h, dx, _, rfl, upd_same, th, T.nh _ (by decide +kernel), (by show 6 < 1000; decide), ?_⟩
    refine ⟨_, rfl, _, rfl, p, C.h, dx, _, rfl, upd_same, th, T.nh _ (by decide +kernel), (by show 7 < 1000; decide), ?_⟩
    refine ⟨_, rfl, _, rfl, p, C.h, dx, _, rfl, upd_same, th, T.nh _ (by decide +kernel), (by show 8 < 1000; decide), ?_⟩
    refine swapH (R := Q .non) (show _ = upd H p (.ins C.h dx (hf ⟨pl, 0, t, t, b, o, c, 0, wi⟩)) from ?_) k
    rw [upd_upd, upd_upd, upd_upd, upd_upd, upd_upd, upd_upd, upd_upd, upd_upd]
    rfl
theorem upd_none {H : Hp} {a b : Addr} {o : HO} (h : (upd H a o) b = Option.none) : b ≠ a ∧ H b = Option.none := by
  by_cases e : b = a
  · rw [e, upd_same] at h
    cases h
  · rw [upd_ne e] at h
    exact ⟨e, h⟩
theorem ways_nil : WaysIn [] (fun _ _ => 0) := ⟨fun a b _ => by rw [if_pos rfl]; rfl, List.nodup_nil, fun k hk => by cases hk⟩
abbrev s_World : Stmt := inClass (top 17) 0
theorem sc_World___init__ : FnScope ["self", "reserve"] ["self", "reserve"] (defScope s_World) := ⟨rfl, rfl, rfl, by decide +kernel, rfl, by decide +kernel, by decide +kernel⟩
/-- a new world with nothing in it, reserve r -/
def sp_World (C : Cs) : Sp := fun vs H Q _ => ∃ (p dx : Addr) (r : Nat), vs = [.ref p, .int r] ∧ H p = some (.ins C.w dx []) ∧ ∀ (H' : Hp) (A : Adr), A.w = p → WorldAt C H' A (Km446.opened r) → (∀ b o, H b = some o → b ≠ p → H' b = some o) → (∀ b ∈ A.all, b = p ∨ H b = none) → Q .non H'
theorem ok_World (T : Txt K mg C) (F : HasI K mg "World" "World.__init__" s_World C.w ["self", "reserve"]) : Makes P w K mg base 1 "World" C.w ["self", "reserve"] (sp_World C) := by
  refine makes_of F sc_World___init__ (fun vs H Q E h => ?_) (fun f cdv A0 outer s0 H vs Q E hr h => ?_)
  · obtain ⟨p, dx, r, rfl, _⟩ := h
    rfl
  · obtain ⟨p, dx, r, rfl, hp, k⟩ := h
    refine ⟨_, (pss_cons (ps_fld (pv 0) (pv 1) rfl)
      (pss_cons (ps_fld (pv 0) pe_int rfl)
      (pss_cons (ps_fld (pv 0) pe_int rfl)
      (pss_cons (ps_fld (pv 0) (pe_lst pa_nil) rfl)
      (pss_cons (ps_fld (pv 0) pe_dnewT rfl)
      (pss_one (ps_fld (pv 0) (pe_lst pa_nil) rfl))))))), ?_⟩
    have tw := T.cw
    refine ⟨_, rfl, _, rfl, p, C.w, dx, [], rfl, hp, tw, T.nw _ (by decide +kernel), (by show 0 < 1000; decide), ?_⟩
    refine ⟨_, rfl, p, C.w, dx, _, rfl, upd_same, tw, T.nw _ (by decide +kernel), (by show 1 < 1000; decide), ?_⟩
    refine ⟨_, rfl, p, C.w, dx, _, rfl, upd_same, tw, T.nw _ (by decide +kernel), (by show 2 < 1000; decide), ?_⟩
    refine swapH (R := tSeq _ _ _ _) (show _ = upd H p (.ins C.w dx [("reserve", .int r), ("minute", .int 0), ("saved", .int 0)]) from by rw [upd_upd, upd_upd]; rfl) ?_
    refine ⟨(by show 0 ≤ sizeLine; decide), fun lp hlp => ?_⟩
    obtain ⟨n1, z1⟩ := upd_none hlp
    refine ⟨_, rfl, p, C.w, dx, _, rfl, (by rw [upd_ne (Ne.symm n1)]; exact upd_same), tw, T.nw _ (by decide +kernel), (by show 3 < 1000; decide), ?_⟩
    intro d hd
    obtain ⟨n2, z2⟩ := upd_none hd
    obtain ⟨n3, z3⟩ := upd_none z2
    obtain ⟨n4, z4⟩ := upd_none z3
    refine ⟨_, rfl, p, C.w, dx, _, rfl, (by rw [upd_ne (Ne.symm n2)]; exact upd_same), tw, T.nw _ (by decide +kernel), (by show 4 < 1000; decide), ?_⟩
    refine ⟨(by show 0 ≤ sizeLine; decide), fun lh hlh => ?_⟩
    obtain ⟨m1, y1⟩ := upd_none hlh
    obtain ⟨m2, y2⟩ := upd_none y1
    obtain ⟨m3, y3⟩ := upd_none y2
    obtain ⟨m4, y4⟩ := upd_none y3
    obtain ⟨m5, y5⟩ := upd_none y4
    refine ⟨_, rfl, p, C.w, dx, _, rfl, (by rw [upd_ne (Ne.symm m1)]; exact upd_same), tw, T.nw _ (by decide +kernel), (by show 5 < 1000; decide), ?_⟩
    refine k _ ⟨p, lp, d, lh, [], []⟩ rfl ⟨⟨dx, upd_same⟩, ?_, ?_, ⟨[], ?_, ways_nil⟩, rfl, rfl, fun j a h => by simp at h, fun j a h => by simp at h, List.nodup_nil, List.nodup_nil, Ne.symm m4⟩ (fun b o hb nb => ?_) (fun b hb => ?_)
    · show upd _ _ _ lp = some (.lst [])
      rw [upd_ne n1, upd_ne (Ne.symm m4), upd_ne n1, upd_ne (Ne.symm n3), upd_ne n1, upd_same]
    · show upd _ _ _ lh = some (.lst [])
      rw [upd_ne m1, upd_same]
    · show upd _ _ _ d = some (.dT [])
      rw [upd_ne n2, upd_ne (Ne.symm m2), upd_ne n2, upd_same]
    · have b1 : b ≠ lp := ne_of_none hb z1
      have b2 : b ≠ d := ne_of_none hb z4
      have b3 : b ≠ lh := ne_of_none hb y5
      rw [upd_ne nb, upd_ne b3, upd_ne nb, upd_ne b2, upd_ne nb, upd_ne b1, upd_ne nb]
      exact hb
    · have hb : b = p ∨ b = lp ∨ b = d ∨ b = lh := by simpa [Adr.all] using hb
      rcases hb with e | e | e | e
      · exact .inl e
      · exact .inr (by rw [e]; exact z1)
      · exact .inr (by rw [e]; exact z4)
      · exact .inr (by rw [e]; exact y5)
/-! ## more places, more helicopters -/
theorem WorldAt.addP {H : Hp} {A : Adr} {s : Sea} (W : WorldAt C H A s) {a : Addr} {y : KPlace} (ha : PlaceAt C H a y) (hn : a ∉ A.ps) : WorldAt C (upd H A.lp (.lst ((A.ps ++ [a]).map V.ref))) { A with ps := A.ps ++ [a] } { s with places := s.places ++ [y] } := by
  obtain ⟨dw, hw⟩ := W.w
  obtain ⟨kvs, hd, hk⟩ := W.dw
  refine ⟨⟨dw, ?_⟩, upd_same, ?_, ⟨kvs, ?_, hk⟩, ?_, W.nh, fun j b hb => ?_, fun j b hb => ?_, ?_, W.ndh, W.ne⟩
  · show upd _ _ _ A.w = _
    rw [upd_ne (ne_of hw W.lp (by intro z; cases z))]; exact hw
  · show upd _ _ _ A.lh = _
    rw [upd_ne (Ne.symm W.ne)]; exact W.lh
  · show upd _ _ _ A.dw = _
    rw [upd_ne (ne_of hd W.lp (by intro z; cases z))]; exact hd
  · show (A.ps ++ [a]).length = (s.places ++ [y]).length
    rw [List.length_append, List.length_append, W.np]; rfl
  · have hb : (A.ps ++ [a])[j]? = some b := hb
    by_cases hj : j < A.ps.length
    · rw [List.getElem?_append_left hj] at hb
      obtain ⟨z, hz, dz, hz'⟩ := W.pat j b hb
      refine ⟨z, ?_, dz, by rw [upd_ne (ne_of hz' W.lp (by intro z; cases z))]; exact hz'⟩
      show (s.places ++ [y])[j]? = some z
      rw [List.getElem?_append_left (by rw [← W.np]; exact hj)]; exact hz
    · rw [List.getElem?_append_right (by omega)] at hb
      cases hz : j - A.ps.length with
      | succ n => rw [hz] at hb; simp at hb
      | zero =>
        rw [hz] at hb
        cases hb
        obtain ⟨da, ha'⟩ := ha
        refine ⟨y, ?_, da, by rw [upd_ne (ne_of ha' W.lp (by intro z; cases z))]; exact ha'⟩
        show (s.places ++ [y])[j]? = some y
        rw [List.getElem?_append_right (by rw [← W.np]; omega), ← W.np, hz]
        rfl
  · obtain ⟨z, hz, dz, hz'⟩ := W.hat j b hb
    exact ⟨z, hz, dz, by rw [upd_ne (ne_of hz' W.lp (by intro z; cases z))]; exact hz'⟩
  · exact nd_snoc W.ndp hn
theorem WorldAt.addH {H : Hp} {A : Adr} {s : Sea} (W : WorldAt C H A s) {a : Addr} {y : Heli} (ha : HeliAt C H a y) (hn : a ∉ A.hs) : WorldAt C (upd H A.lh (.lst ((A.hs ++ [a]).map V.ref))) { A with hs := A.hs ++ [a] } { s with helis := s.helis ++ [y] } := by
  obtain ⟨dw, hw⟩ := W.w
  obtain ⟨kvs, hd, hk⟩ := W.dw
  refine ⟨⟨dw, ?_⟩, ?_, upd_same, ⟨kvs, ?_, hk⟩, W.np, ?_, fun j b hb => ?_, fun j b hb => ?_, W.ndp, ?_, W.ne⟩
  · show upd _ _ _ A.w = _
    rw [upd_ne (ne_of hw W.lh (by intro z; cases z))]; exact hw
  · show upd _ _ _ A.lp = _
    rw [upd_ne W.ne]; exact W.lp
  · show upd _ _ _ A.dw = _
    rw [upd_ne (ne_of hd W.lh (by intro z; cases z))]; exact hd
  · show (A.hs ++ [a]).length = (s.helis ++ [y]).length
    rw [List.length_append, List.length_append, W.nh]; rfl
  · obtain ⟨z, hz, dz, hz'⟩ := W.pat j b hb
    exact ⟨z, hz, dz, by rw [upd_ne (ne_of hz' W.lh (by intro z; cases z))]; exact hz'⟩
  · have hb : (A.hs ++ [a])[j]? = some b := hb
    by_cases hj : j < A.hs.length
    · rw [List.getElem?_append_left hj] at hb
      obtain ⟨z, hz, dz, hz'⟩ := W.hat j b hb
      refine ⟨z, ?_, dz, by rw [upd_ne (ne_of hz' W.lh (by intro z; cases z))]; exact hz'⟩
      show (s.helis ++ [y])[j]? = some z
      rw [List.getElem?_append_left (by rw [← W.nh]; exact hj)]; exact hz
    · rw [List.getElem?_append_right (by omega)] at hb
      cases hz : j - A.hs.length with
      | succ n => rw [hz] at hb; simp at hb
      | zero =>
        rw [hz] at hb
        cases hb
        obtain ⟨da, ha'⟩ := ha
        refine ⟨y, ?_, da, by rw [upd_ne (ne_of ha' W.lh (by intro z; cases z))]; exact ha'⟩
        show (s.helis ++ [y])[j]? = some y
        rw [List.getElem?_append_right (by rw [← W.nh]; omega), ← W.nh, hz]
        rfl
  · exact nd_snoc W.ndh hn
theorem not_there {H : Hp} {A : Adr} {s : Sea} (W : WorldAt C H A s) {a : Addr} (h : H a = none) : a ∉ A.all := fun m => by
  obtain ⟨o, e⟩ := W.there a m
  rw [h] at e
  cases e
theorem Keep.addP {A : Adr} {H H' : Hp} {a : Addr} (na : H a = none) (out : ∀ b o, H b = some o → b ∉ A.all → H' b = some o) : Keep A { A with ps := A.ps ++ [a] } H H' := by
  refine ⟨rfl, out, fun b hb => ?_, fun b hb => ?_⟩
  · have hb : b = A.w ∨ b = A.lp ∨ b = A.dw ∨ b = A.lh ∨ (b ∈ A.ps ∨ b = a) ∨ b ∈ A.hs := by simpa [Adr.all, or_assoc] using hb
    rcases hb with e | e | e | e | (e | e) | e
    · left; simp [Adr.all, e]
    · left; simp [Adr.all, e]
    · left; simp [Adr.all, e]
    · left; simp [Adr.all, e]
    · left; simp [Adr.all, e]
    · right; rw [e]; exact na
    · left; simp [Adr.all, e]
  · have hb : b = A.w ∨ b = A.lp ∨ b = A.dw ∨ b = A.lh ∨ b ∈ A.ps ∨ b ∈ A.hs := by simpa [Adr.all] using hb
    rcases hb with e | e | e | e | e | e <;> simp [Adr.all, e]
theorem Keep.addH {A : Adr} {H H' : Hp} {a : Addr} (na : H a = none) (out : ∀ b o, H b = some o → b ∉ A.all → H' b = some o) : Keep A { A with hs := A.hs ++ [a] } H H' := by
  refine ⟨rfl, out, fun b hb => ?_, fun b hb => ?_⟩
  · have hb : b = A.w ∨ b = A.lp ∨ b = A.dw ∨ b = A.lh ∨ b ∈ A.ps ∨ (b ∈ A.hs ∨ b = a) := by simpa [Adr.all, or_assoc] using hb
    rcases hb with e | e | e | e | e | (e | e)
    · left; simp [Adr.all, e]
    · left; simp [Adr.all, e]
    · left; simp [Adr.all, e]
    · left; simp [Adr.all, e]
    · left; simp [Adr.all, e]
    · left; simp [Adr.all, e]
    · right; rw [e]; exact na
  · have hb : b = A.w ∨ b = A.lp ∨ b = A.dw ∨ b = A.lh ∨ b ∈ A.ps ∨ b ∈ A.hs := by simpa [Adr.all] using hb
    rcases hb with e | e | e | e | e | e <;> simp [Adr.all, e]
theorem seq_if {c : TT} {t u v : TS} {D : Ends} {σ : L2.St} {H : Hp} (b : Bool) (hc : ∀ Q : Bool → Hp → Prop, Q b H → c σ H Q) (h : if b = true then t { D with nx := v D } σ H else u { D with nx := v D } σ H) : tSeq (tIfS c t u) v D σ H := hc _ h
abbrev s_add_place : Stmt := top 75
theorem sc_add_place : FnScope ["world", "base", "persons"] ["world", "base", "persons"] (defScope s_add_place) := ⟨rfl, rfl, rfl, by decide +kernel, rfl, by decide +kernel, by decide +kernel⟩
def sp_add_place (C : Cs) : Sp := fun vs H Q _ => ∃ (A : Adr) (s : Sea) (b n : Nat), vs = [.ref A.w, .int b, .int n] ∧ WorldAt C H A s ∧ SeaOk s ∧ Chg C H A Q s (.place b n)
theorem ok_add_place (T : Txt K mg C) (F : Has K mg "add_place" s_add_place ["world", "base", "persons"]) (c_Place : Makes P w K mg base 1 "Place" C.p ["self", "is_base", "waiting"] (sp_Place C)) : Can P w K mg base 3 "add_place" ["world", "base", "persons"] (sp_add_place C) := by
  refine can_of F sc_add_place (fun vs H Q E h => ?_) (fun f cdv A0 outer s0 H vs Q E hr h => ?_)
  · obtain ⟨A, s, b, n, rfl, _⟩ := h
    rfl
  · obtain ⟨A, s, b, n, rfl, W, ok, k⟩ := h
    refine ⟨_, (pss_cons (ps_if (PW.pt (pw_or (pt_cmpR op_gt (pv 1) pe_int (nomark _)) (pw_or (pt_cmpR op_gt (pv 2) (pe_gint (T.gi ("MOST_WAITING", 1000) (by decide +kernel))) (nomark _)) (pw_or1 (PW.pt (pw_and (pt_cmpR op_eq (pv 1) pe_int (nomark _)) (pw_and1 (pt_cmpR op_gt (pv 2) pe_int (nomark _))))))))) (pss_one (ps_ret (pe_lst (pa_cons (pe_gint (T.gi ("WRONG_NUMBER", (-22)) (by decide +kernel))) pa_nil)))) pss_nil)
      (pss_cons (ps_if (pt_cmpR op_eq (pe_callB call_len_seq (by rfl) T.len PySem.boot_len (pa_cons (pe_fld (pv 0) rfl) pa_nil)) (pe_gint (T.gi ("MOST_PLACES", 6) (by decide +kernel))) (nomark _)) (pss_one (ps_ret (pe_lst (pa_cons (pe_gint (T.gi ("TOO_MANY", (-28)) (by decide +kernel))) pa_nil)))) pss_nil)
      (pss_cons (ps_expr (pe_bm PySem.F.plainAttrs_list PySem.F.slot_list_append PySem.F.type_list_append mt_append (pe_fld (pv 0) rfl) (pa_cons (pe_makes c_Place hr (by decide) (pa_cons (pe_cmpR op_eq (pv 1) pe_int (nomark _)) (pa_cons (pv 2) pa_nil))) pa_nil)))
      (pss_one (ps_ret (pe_lst (pa_cons (pe_op op_sub (pe_callB call_len_seq (by rfl) T.len PySem.boot_len (pa_cons (pe_fld (pv 0) rfl) pa_nil)) pe_int) pa_nil))))))), ?_⟩
    have tw := T.cw
    obtain ⟨dw, hw⟩ := W.w
    have K0 : Keep A A H H := Keep.same (Same.refl _)
    have hnp := W.np
    refine seq_if (decide (1 < b ∨ 1000 < n ∨ (b = 1 ∧ n ≠ 0))) (fun Q' k' => ?_) ?_
    · walk_at "r"
      refine ite2 (fun q => ?_) (fun q => ?_)
      · rw [decide_eq_true (by simp at q; omega)] at k'; exact k'
      walk_at "r"
      refine ite2 (fun q2 => ?_) (fun q2 => ?_)
      · rw [decide_eq_true (by simp at q2; omega)] at k'; exact k'
      walk_at "r"
      refine ite2 (fun q3 => ?_) (fun q3 => ?_)
      · walk_at "r"
        have e : decide (1 < b ∨ 1000 < n ∨ (b = 1 ∧ n ≠ 0)) = decide ((0 : Int) < (n : Int)) := by
          rw [Bool.eq_iff_iff]
          simp at q q2 q3 ⊢
          omega
        rw [e] at k'
        exact k'
      · rw [decide_eq_false (by simp at q q2 q3; omega)] at k'; exact k'
    · refine ite2 (fun q => ?_) (fun q => ?_)
      · have q : 1 < b ∨ 1000 < n ∨ (b = 1 ∧ n ≠ 0) := by simpa using q
        exact k.no (if_pos q) W K0
      · have q : ¬ (1 < b ∨ 1000 < n ∨ (b = 1 ∧ n ≠ 0)) := by simpa using q
        walk_at "r"
        refine ⟨_, _, rfl, .inl (SqL.of W.lp), ?_⟩
        rw [List.length_map, hnp]
        walk_at "r"
        refine ite2 (fun r => ?_) (fun r => ?_)
        · have r : 6 ≤ s.places.length := by simp at r; omega
          exact k.no ((if_neg q).trans (if_pos r)) W K0
        · have r : ¬ 6 ≤ s.places.length := by
            have := ok.np
            simp at r
            omega
          walk_at "r"
          refine ⟨.inl ⟨rfl, _, SqL.of W.lp⟩, ?_⟩
          walk_at "r"
          intro x dx nx nd ne
          have S1 : Same H (upd (upd H dx (.own x)) x (.ins C.p dx (pf ⟨decide (b = 1), decide (b = 1), n⟩))) := fun b' o e => by rw [upd_ne (ne_of_none e nx), upd_ne (ne_of_none e nd)]; exact e
          have eb : decide (V.int (b : Int) = V.int 1) = decide (b = 1) := by
            rw [Bool.eq_iff_iff]
            simp
            omega
          refine ⟨x, dx, _, n, rfl, upd_same, rfl, ?_⟩
          rw [eb]
          refine ⟨A.lp, A.ps.map V.ref, .ref x, rfl, rfl, ?_, ?_, ?_⟩
          · rw [upd_upd]; exact S1 _ _ W.lp
          · rw [List.length_map, hnp]; exact Nat.lt_of_le_of_lt ok.np (by decide)
          · have W1 := (W.same S1).addP (a := x) ⟨dx, upd_same⟩ (fun m => not_there W nx (by simp [Adr.all, m]))
            rw [List.map_append] at W1
            rw [upd_upd]
            obtain ⟨dw1, hw1⟩ := W1.w
            have hx : one s (.place b n) = (Km446.Desk.become ⟨s, [], []⟩ { s with places := s.places ++ [⟨b == 1, b == 1, n⟩] }, Km446.only ((s.places.length : Nat) : Int)) := (if_neg q).trans (if_neg r)
            have eb2 : (b == 1) = decide (b = 1) := rfl
            rw [eb2] at hx
            refine ⟨_, rfl, A.w, C.w, dw1, _, _, rfl, hw1, tw, T.nw _ (by decide +kernel), rfl, ?_⟩
            refine ⟨_, _, rfl, .inl (SqL.of W1.lp), _, _, rfl, rfl, ?_⟩
            refine k.end_ (s' := { s with places := s.places ++ [⟨decide (b = 1), decide (b = 1), n⟩] }) (a := Km446.only ((s.places.length : Nat) : Int)) (by show (one _ _).1.now = _; rw [hx]; rfl) (by show (one _ _).2 = _; rw [hx]) W1 (Keep.addP nx fun b' o e nb => ?_) ?_ (by simp)
            · rw [upd_ne (fun e' => nb (by rw [e']; exact mem_lp A))]; exact S1 _ _ e
            · show [V.int (((A.ps ++ [x]).map V.ref).length - 1)] = [V.int (s.places.length : Nat)]
              rw [List.length_map, List.length_append, hnp]
              simp
abbrev s_add_helicopter : Stmt := top 79
theorem sc_add_helicopter : FnScope ["world", "p", "tank", "burn", "hover", "seats", "winch"] ["world", "p", "tank", "burn", "hover", "seats", "winch"] (defScope s_add_helicopter) := ⟨rfl, rfl, rfl, by decide +kernel, rfl, by decide +kernel, by decide +kernel⟩
def sp_add_helicopter (C : Cs) : Sp := fun vs H Q _ => ∃ (A : Adr) (s : Sea) (p t b o c wi : Nat), vs = [.ref A.w, .int p, .int t, .int b, .int o, .int c, .int wi] ∧ WorldAt C H A s ∧ SeaOk s ∧ Chg C H A Q s (.heli p t b o c wi)
theorem ok_add_helicopter (T : Txt K mg C) (F : Has K mg "add_helicopter" s_add_helicopter ["world", "p", "tank", "burn", "hover", "seats", "winch"]) (c_has_place : cPl P w K mg base C) (c_is_as_told : Can P w K mg base 2 "is_as_told" ["tank", "burn", "hover", "seats", "winch"] sp_is_as_told) (c_Helicopter : Makes P w K mg base 1 "Helicopter" C.h ["self", "place", "tank", "burn", "hover", "seats", "winch"] (sp_Helicopter C)) : Can P w K mg base 3 "add_helicopter" ["world", "p", "tank", "burn", "hover", "seats", "winch"] (sp_add_helicopter C) := by
  refine can_of F sc_add_helicopter (fun vs H Q E h => ?_) (fun f cdv A0 outer s0 H vs Q E hr h => ?_)
  · obtain ⟨A, s, p, t, b, o, c, wi, rfl, _⟩ := h
    rfl
  · obtain ⟨A, s, p, t, b, o, c, wi, rfl, W, ok, k⟩ := h
    refine ⟨_, (pss_cons (ps_if (pt_not (pt_val (pe_can c_has_place hr (by decide) (pa_cons (pv 0) (pa_cons (pv 1) pa_nil))))) (pss_one (ps_ret (pe_lst (pa_cons (pe_gint (T.gi ("NOT_THERE", (-2)) (by decide +kernel))) pa_nil)))) pss_nil)
      (pss_cons (ps_if (PW.pt (pw_or (pt_not (pt_val (pe_can c_is_as_told hr (by decide) (pa_cons (pv 2) (pa_cons (pv 3) (pa_cons (pv 4) (pa_cons (pv 5) (pa_cons (pv 6) pa_nil)))))))) (pw_or1 (pt_cmpR op_lt (pv 2) (pe_op op_mul (pe_fld (pv 0) rfl) (pv 3)) (nomark _))))) (pss_one (ps_ret (pe_lst (pa_cons (pe_gint (T.gi ("WRONG_NUMBER", (-22)) (by decide +kernel))) pa_nil)))) pss_nil)
      (pss_cons (ps_if (pt_not (pt_val (pe_fld (pe_ix ix_list (pe_fld (pv 0) rfl) (pv 1) (fun _ _ => rfl)) rfl))) (pss_one (ps_ret (pe_lst (pa_cons (pe_gint (T.gi ("NOT_NOW", (-16)) (by decide +kernel))) pa_nil)))) pss_nil)
      (pss_cons (ps_if (pt_cmpR op_eq (pe_callB call_len_seq (by rfl) T.len PySem.boot_len (pa_cons (pe_fld (pv 0) rfl) pa_nil)) (pe_gint (T.gi ("MOST_HELICOPTERS", 3) (by decide +kernel))) (nomark _)) (pss_one (ps_ret (pe_lst (pa_cons (pe_gint (T.gi ("TOO_MANY", (-28)) (by decide +kernel))) pa_nil)))) pss_nil)
      (pss_cons (ps_expr (pe_bm PySem.F.plainAttrs_list PySem.F.slot_list_append PySem.F.type_list_append mt_append (pe_fld (pv 0) rfl) (pa_cons (pe_makes c_Helicopter hr (by decide) (pa_cons (pv 1) (pa_cons (pv 2) (pa_cons (pv 3) (pa_cons (pv 4) (pa_cons (pv 5) (pa_cons (pv 6) pa_nil))))))) pa_nil)))
      (pss_one (ps_ret (pe_lst (pa_cons (pe_op op_sub (pe_callB call_len_seq (by rfl) T.len PySem.boot_len (pa_cons (pe_fld (pv 0) rfl) pa_nil)) pe_int) pa_nil))))))))), ?_⟩
    have tw := T.cw
    have tp := T.cp
    obtain ⟨dw, hw⟩ := W.w
    have K0 : Keep A A H H := Keep.same (Same.refl _)
    have hnh := W.nh
    have hrs := ok.rs
    walk_at "r"
    refine ⟨A, s, p, rfl, W, ?_⟩
    walk_at "r"
    refine ite2 (fun q => ?_) (fun q => ?_)
    · have q : s.places.length ≤ p := by simpa using q
      exact k.no (if_pos q) W K0
    · have q : ¬ s.places.length ≤ p := by simpa using q
      have at_ : asTold t b o c wi = true ↔ ¬ (t = 0 ∨ 10000 < t ∨ b = 0 ∨ 100 < b ∨ o = 0 ∨ 100 < o ∨ c = 0 ∨ 30 < c ∨ wi = 0 ∨ 60 < wi) := by
        unfold asTold fit
        simp only [Bool.and_eq_true, decide_eq_true_eq]
        omega
      walk_at "r"
      refine ⟨t, b, o, c, wi, rfl, ?_⟩
      walk_at "r"
      refine ite2 (fun r => ?_) (fun r => ?_)
      · have r : ¬ asTold t b o c wi = true := by simpa using r
        rw [at_] at r
        refine k.no ((if_neg q).trans (if_pos ?_)) W K0
        show t = 0 ∨ 10000 < t ∨ b = 0 ∨ 100 < b ∨ o = 0 ∨ 100 < o ∨ c = 0 ∨ 30 < c ∨ wi = 0 ∨ 60 < wi ∨ t < b * s.reserve
        omega
      · have r : asTold t b o c wi = true := by simpa using r
        rw [at_] at r
        walk_at "r"
        refine ⟨.inl ⟨by omega, by omega⟩, ?_⟩
        walk_at "r"
        have em : (s.reserve : Int) * (b : Int) = ((b * s.reserve : Nat) : Int) := by rw [Int.mul_comm]; simp
        refine ite2 (fun z => ?_) (fun z => ?_)
        · have z : t < b * s.reserve := by
            have z := of_decide_eq_true z
            have z : (t : Int) < (s.reserve : Int) * (b : Int) := z
            rw [em] at z
            omega
          refine k.no ((if_neg q).trans (if_pos ?_)) W K0
          show t = 0 ∨ 10000 < t ∨ b = 0 ∨ 100 < b ∨ o = 0 ∨ 100 < o ∨ c = 0 ∨ 30 < c ∨ wi = 0 ∨ 60 < wi ∨ t < b * s.reserve
          omega
        · have z : ¬ t < b * s.reserve := fun h => z (decide_eq_true (show (t : Int) < (s.reserve : Int) * (b : Int) by rw [em]; omega))
          have q2 : ¬ (t = 0 ∨ 10000 < t ∨ b = 0 ∨ 100 < b ∨ o = 0 ∨ 100 < o ∨ c = 0 ∨ 30 < c ∨ wi = 0 ∨ 60 < wi ∨ t < b * s.reserve) := by omega
          obtain ⟨ap, hap, dp, hpl⟩ := W.place (p := p) (by omega)
          have hop := ok.op _ _ (get_place (s := s) (p := p) (by omega))
          walk_at "r"
          refine ⟨_, _, _, _, rfl, rfl, SqL.of W.lp, at_ref hap, ?_⟩
          walk_at "r"
          refine ite2 (fun y => ?_) (fun y => ?_)
          · have y : (s.place p).open_ = false := by simpa using y
            exact k.no ((if_neg q).trans ((if_neg q2).trans (if_pos (by show ((s.place p).base && (s.place p).open_) = false; rw [y, Bool.and_false])))) W K0
          · have y : (s.place p).open_ = true := by simpa using y
            have q3 : ¬ ((s.place p).base && (s.place p).open_) = false := by rw [y, hop y]; decide
            walk_at "r"
            refine ⟨_, _, rfl, .inl (SqL.of W.lh), ?_⟩
            rw [List.length_map, hnh]
            walk_at "r"
            refine ite2 (fun v => ?_) (fun v => ?_)
            · have v : 3 ≤ s.helis.length := by simp at v; omega
              exact k.no ((if_neg q).trans ((if_neg q2).trans ((if_neg q3).trans (if_pos v)))) W K0
            · have v : ¬ 3 ≤ s.helis.length := by
                have := ok.nh
                simp at v
                omega
              walk_at "r"
              refine ⟨.inl ⟨rfl, _, SqL.of W.lh⟩, ?_⟩
              walk_at "r"
              intro x dx nx nd ne
              have S1 : Same H (upd (upd H dx (.own x)) x (.ins C.h dx (hf ⟨p, 0, t, t, b, o, c, 0, wi⟩))) := fun b' o e => by rw [upd_ne (ne_of_none e nx), upd_ne (ne_of_none e nd)]; exact e
              refine ⟨x, dx, p, t, b, o, c, wi, rfl, upd_same, rfl, ?_⟩
              refine ⟨A.lh, A.hs.map V.ref, .ref x, rfl, rfl, ?_, ?_, ?_⟩
              · rw [upd_upd]; exact S1 _ _ W.lh
              · rw [List.length_map, hnh]; exact Nat.lt_of_le_of_lt ok.nh (by decide)
              · have W1 := (W.same S1).addH (a := x) ⟨dx, upd_same⟩ (fun m => not_there W nx (by simp [Adr.all, m]))
                rw [List.map_append] at W1
                rw [upd_upd]
                obtain ⟨dw1, hw1⟩ := W1.w
                have hx : one s (.heli p t b o c wi) = (Km446.Desk.become ⟨s, [], []⟩ { s with helis := s.helis ++ [⟨p, 0, t, t, b, o, c, 0, wi⟩] }, Km446.only ((s.helis.length : Nat) : Int)) := (if_neg q).trans ((if_neg q2).trans ((if_neg q3).trans (if_neg v)))
                refine ⟨_, rfl, A.w, C.w, dw1, _, _, rfl, hw1, tw, T.nw _ (by decide +kernel), rfl, ?_⟩
                refine ⟨_, _, rfl, .inl (SqL.of W1.lh), _, _, rfl, rfl, ?_⟩
                refine k.end_ (s' := { s with helis := s.helis ++ [⟨p, 0, t, t, b, o, c, 0, wi⟩] }) (a := Km446.only ((s.helis.length : Nat) : Int)) (by show (one _ _).1.now = _; rw [hx]; rfl) (by show (one _ _).2 = _; rw [hx]) W1 (Keep.addH nx fun b' o e nb => ?_) ?_ (by simp)
                · rw [upd_ne (fun e' => nb (by rw [e']; exact mem_lh A))]; exact S1 _ _ e
                · show [V.int (((A.hs ++ [x]).map V.ref).length - 1)] = [V.int (s.helis.length : Nat)]
                  rw [List.length_map, List.length_append, hnh]
                  simp
end
end Hf
end
section
set_option Elab.async false
set_option linter.all false
set_option maxRecDepth 100000
set_option maxHeartbeats 2000000
namespace Hf
open PySem PySem.Spec PyProof.Rows L2
open Km446 (Sea Heli Desk Ans)
section
variable {P : Program} {w : World} {K : PySem.W.Frag} {mg : Str → Option Value} {base : Heap} {C : Cs}
local macro_rules | `(tactic| walk_at "f") => `(tactic| refine ⟨_, _, _, _, _, rfl, by assumption, by assumption, (by first | exact Txt.nw (by assumption) _ (by decide +kernel) | exact Txt.nh (by assumption) _ (by decide +kernel) | exact Txt.np (by assumption) _ (by decide +kernel)), by rfl, ?_⟩)
local macro_rules | `(tactic| walk_at "r") => `(tactic| repeat (first | refine ⟨_, rfl, ?_⟩ | walk_at "f" | refine ⟨_, _, rfl, rfl, ?_⟩ | refine ⟨rfl, ?_⟩))
/-! ## ways -/
theorem nodup_le {α : Type} [DecidableEq α] : ∀ (l m : List α), l.Nodup → (∀ x ∈ l, x ∈ m) → l.length ≤ m.length
  | [], m, _, _ => Nat.zero_le _
  | a :: l, m, hn, hm => by
    obtain ⟨h1, h2⟩ := List.nodup_cons.mp hn
    have ha : a ∈ m := hm a (List.mem_cons_self ..)
    have ih := nodup_le l (m.erase a) h2 fun x hx => (List.mem_erase_of_ne (fun e => h1 (by rw [← e]; exact hx))).mpr (hm x (List.mem_cons_of_mem _ hx))
    rw [List.length_erase_of_mem ha] at ih
    have : 0 < m.length := List.length_pos_of_mem ha
    show l.length + 1 ≤ m.length
    omega
def allKeys : List (List Key) := (List.range 6).flatMap fun a => (List.range 6).map fun b => wkey a b
theorem WaysIn.few {kvs : List (List Key × V)} {ways : Nat → Nat → Nat} (h : WaysIn kvs ways) : kvs.length ≤ 36 := by
  have q := nodup_le (kvs.map (·.1)) allKeys h.nd fun k hk => by
    obtain ⟨a, b, ha, hb, e⟩ := h.ks k hk
    rw [e]
    exact List.mem_flatMap.mpr ⟨a, List.mem_range.mpr ha, List.mem_map.mpr ⟨b, List.mem_range.mpr hb, rfl⟩⟩
  rw [List.length_map] at q
  exact q
theorem wkey_inj {a b c d : Nat} : wkey a b = wkey c d ↔ a = c ∧ b = d := by
  unfold wkey
  constructor
  · intro h
    injection h with h1 h2
    injection h2 with h2 _
    injection h1 with h1
    injection h2 with h2
    omega
  · rintro ⟨rfl, rfl⟩
    rfl
theorem keys_put (kvs : List (List Key × V)) (k : List Key) (v : V) : (putK kvs k v).map (·.1) = if (valV kvs k).isSome = true then kvs.map (·.1) else kvs.map (·.1) ++ [k] := by
  by_cases h : (valV kvs k).isSome = true
  · rw [if_pos h]
    unfold putK
    rw [if_pos (by rw [valV_any]; exact h), List.map_map]
    refine List.map_congr_left fun kv _ => ?_
    show (if kv.1 = k then (kv.1, v) else kv).1 = kv.1
    split <;> rfl
  · rw [if_neg h]
    have e : valV kvs k = none := by
      cases q : valV kvs k with
      | none => rfl
      | some x => rw [q] at h; exact absurd rfl h
    rw [putK_new v e, List.map_append]
    rfl
theorem WaysIn.put {kvs : List (List Key × V)} {s : Sea} (h : WaysIn kvs s.ways) {a b n : Nat} (ha : a < 6) (hb : b < 6) (hne : a ≠ b) (hn : n ≠ 0) :
    WaysIn (putK kvs (wkey (min a b) (max a b)) (V.int n)) (fun x y => if (x = a ∧ y = b) ∨ (x = b ∧ y = a) then n else s.ways x y) := by
  refine ⟨fun x y hxy => ?_, ?_, fun k hk => ?_⟩
  · rw [valV_put]
    show _ = if (if (x = a ∧ y = b) ∨ (x = b ∧ y = a) then n else s.ways x y) = 0 then none else some (V.int ((if (x = a ∧ y = b) ∨ (x = b ∧ y = a) then n else s.ways x y : Nat) : Int))
    by_cases e : (x = a ∧ y = b) ∨ (x = b ∧ y = a)
    · rw [if_pos (wkey_inj.mpr (by omega)), if_pos e, if_neg hn]
    · rw [if_neg (fun z => by have := wkey_inj.mp z; omega), if_neg e]
      exact h.val x y hxy
  · rw [keys_put]
    split
    · exact h.nd
    · rename_i z
      refine nd_snoc h.nd (valV_not ?_)
      cases q : valV kvs (wkey (min a b) (max a b)) with
      | none => rfl
      | some x => rw [q] at z; exact absurd rfl z
  · rw [keys_put] at hk
    split at hk
    · exact h.ks k hk
    · rcases List.mem_append.mp hk with hk | hk
      · exact h.ks k hk
      · exact ⟨min a b, max a b, by omega, by omega, List.mem_singleton.mp hk⟩
theorem WorldAt.waySet {H : Hp} {A : Adr} {s : Sea} (W : WorldAt C H A s) {kvs : List (List Key × V)} {ways : Nat → Nat → Nat} (hk : WaysIn kvs ways) : WorldAt C (upd H A.dw (.dT kvs)) A { s with ways := ways } := by
  obtain ⟨dw, hw⟩ := W.w
  obtain ⟨kv0, hd, _⟩ := W.dw
  refine ⟨⟨dw, ?_⟩, ?_, ?_, ⟨kvs, upd_same, hk⟩, W.np, W.nh, fun j b hb => ?_, fun j b hb => ?_, W.ndp, W.ndh, W.ne⟩
  · rw [upd_ne (ne_of hw hd (by intro z; cases z))]; exact hw
  · rw [upd_ne (ne_of W.lp hd (by intro z; cases z))]; exact W.lp
  · rw [upd_ne (ne_of W.lh hd (by intro z; cases z))]; exact W.lh
  · obtain ⟨z, hz, dz, hz'⟩ := W.pat j b hb
    exact ⟨z, hz, dz, by rw [upd_ne (ne_of hz' hd (by intro z; cases z))]; exact hz'⟩
  · obtain ⟨z, hz, dz, hz'⟩ := W.hat j b hb
    exact ⟨z, hz, dz, by rw [upd_ne (ne_of hz' hd (by intro z; cases z))]; exact hz'⟩
theorem way_val0 {s : Sea} {kvs : List (List Key × V)} (hk : WaysIn kvs s.ways) (hs : ∀ x y, s.ways x y = s.ways y x) {a b : Nat} (hne : a ≠ b) : (valV kvs (wkey (min a b) (max a b))).getD (.int 0) = V.int (s.ways a b) := by
  rw [hk.val _ _ (by omega)]
  have e : s.ways (min a b) (max a b) = s.ways a b := by
    by_cases q : a < b
    · rw [Nat.min_eq_left (by omega), Nat.max_eq_right (by omega)]
    · rw [Nat.min_eq_right (by omega), Nat.max_eq_left (by omega), hs]
  rw [e]
  split
  · rename_i z
    rw [z]; rfl
  · rfl
abbrev s_set_way : Stmt := top 76
theorem sc_set_way : FnScope ["world", "a", "b", "n", "before"] ["world", "a", "b", "n"] (defScope s_set_way) := ⟨rfl, rfl, rfl, by decide +kernel, rfl, by decide +kernel, by decide +kernel⟩
def sp_set_way (C : Cs) : Sp := fun vs H Q _ => ∃ (A : Adr) (s : Sea) (a b n : Nat), vs = [.ref A.w, .int a, .int b, .int n] ∧ WorldAt C H A s ∧ SeaOk s ∧ Chg C H A Q s (.way a b n)
theorem ok_set_way (T : Txt K mg C) (F : Has K mg "set_way" s_set_way ["world", "a", "b", "n"]) (c_has_place : cPl P w K mg base C) (c_is_from_one_to : Can P w K mg base 1 "is_from_one_to" ["n", "most"] sp_is_from_one_to) (c_way_key : Can P w K mg base 1 "way_key" ["a", "b"] sp_way_key) : Can P w K mg base 2 "set_way" ["world", "a", "b", "n"] (sp_set_way C) := by
  refine can_of F sc_set_way (fun vs H Q E h => ?_) (fun f cdv A0 outer s0 H vs Q E hr h => ?_)
  · obtain ⟨A, s, a, b, n, rfl, _⟩ := h
    rfl
  · obtain ⟨A, s, a, b, n, rfl, W, ok, k⟩ := h
    refine ⟨_, (pss_cons (ps_if (PW.pt (pw_or (pt_not (pt_val (pe_can c_has_place hr (by decide) (pa_cons (pv 0) (pa_cons (pv 1) pa_nil))))) (pw_or1 (pt_not (pt_val (pe_can c_has_place hr (by decide) (pa_cons (pv 0) (pa_cons (pv 2) pa_nil)))))))) (pss_one (ps_ret (pe_lst (pa_cons (pe_gint (T.gi ("NOT_THERE", (-2)) (by decide +kernel))) pa_nil)))) pss_nil)
      (pss_cons (ps_if (PW.pt (pw_or (pt_cmpR op_eq (pv 1) (pv 2) (nomark _)) (pw_or1 (pt_not (pt_val (pe_can c_is_from_one_to hr (by decide) (pa_cons (pv 3) (pa_cons (pe_gint (T.gi ("LONGEST_WAY", 300) (by decide +kernel))) pa_nil)))))))) (pss_one (ps_ret (pe_lst (pa_cons (pe_gint (T.gi ("WRONG_NUMBER", (-22)) (by decide +kernel))) pa_nil)))) pss_nil)
      (pss_cons (ps_if (pt_cmpR op_gt (pe_callB call_len_seq (by rfl) T.len PySem.boot_len (pa_cons (pe_fld (pv 0) rfl) pa_nil)) pe_int (nomark _)) (pss_one (ps_ret (pe_lst (pa_cons (pe_gint (T.gi ("NOT_NOW", (-16)) (by decide +kernel))) pa_nil)))) pss_nil)
      (pss_cons (ps_set (i := 4) sc_set_way.nd rfl (Or.inl rfl) (pe_dget2 (hu_of hr) (pe_fld (pv 0) rfl) (pe_can c_way_key hr (by decide) (pa_cons (pv 1) (pa_cons (pv 2) pa_nil))) pe_int ⟨rfl, rfl, rfl, rfl⟩))
      (pss_cons (ps_dput (hu_of hr) (pe_fld (pv 0) rfl) (pe_can c_way_key hr (by decide) (pa_cons (pv 1) (pa_cons (pv 2) pa_nil))) (pv 3) rfl)
      (pss_one (ps_ret (pe_lst (pa_cons (pv 4) pa_nil))))))))), ?_⟩
    have tw := T.cw
    obtain ⟨dw, hw⟩ := W.w
    have K0 : Keep A A H H := Keep.same (Same.refl _)
    have hnp := ok.np
    walk_at "r"
    refine ⟨A, s, a, rfl, W, ?_⟩
    walk_at "r"
    refine ite2 (fun q => ?_) (fun q => ?_)
    · have q : s.places.length ≤ a := by simpa using q
      exact k.no (if_pos (.inl q)) W K0
    · have q : ¬ s.places.length ≤ a := by simpa using q
      walk_at "r"
      refine ⟨A, s, b, rfl, W, ?_⟩
      walk_at "r"
      refine ite2 (fun q1 => ?_) (fun q1 => ?_)
      · have q1 : s.places.length ≤ b := by simpa using q1
        exact k.no (if_pos (.inr q1)) W K0
      · have q1 : ¬ s.places.length ≤ b := by simpa using q1
        have p1 : ¬ (s.places.length ≤ a ∨ s.places.length ≤ b) := by omega
        walk_at "r"
        refine ite2 (fun r => ?_) (fun r => ?_)
        · have r : a = b := by simp at r; omega
          exact k.no ((if_neg p1).trans (if_pos (.inl r))) W K0
        · have r : a ≠ b := by simp at r; omega
          walk_at "r"
          refine ⟨n, 300, rfl, ?_⟩
          walk_at "r"
          refine ite2 (fun z => ?_) (fun z => ?_)
          · have z : n = 0 ∨ 300 < n := by
              have z : fit n 300 = false := by simpa using z
              unfold fit at z
              have z := of_decide_eq_false z
              omega
            exact k.no ((if_neg p1).trans (if_pos (.inr z))) W K0
          · have z : 1 ≤ n ∧ n ≤ 300 := by
              have z : fit n 300 = true := by simpa using z
              unfold fit at z
              exact of_decide_eq_true z
            have p2 : ¬ (a = b ∨ n = 0 ∨ 300 < n) := by omega
            walk_at "r"
            refine ⟨_, _, rfl, .inl (SqL.of W.lh), ?_⟩
            rw [List.length_map, W.nh]
            walk_at "r"
            refine ite2 (fun y => ?_) (fun y => ?_)
            · have y : s.helis ≠ [] := fun e => by rw [e] at y; simp at y
              exact k.no ((if_neg p1).trans ((if_neg p2).trans (if_pos y))) W K0
            · have y : s.helis = [] := by
                cases e : s.helis with
                | nil => rfl
                | cons h t =>
                  rw [e] at y
                  exact (y (decide_eq_true (show (0 : Int) < ((h :: t).length : Int) by rw [List.length_cons]; omega))).elim
              have p3 : ¬ s.helis ≠ [] := fun h => h y
              obtain ⟨kvs, hd, hk⟩ := W.dw
              walk_at "r"
              refine ⟨.inr ⟨kvs, .inl hd⟩, ?_⟩
              walk_at "r"
              refine ⟨a, b, rfl, fun p hp => ?_⟩
              refine ⟨_, DGet.t (same_new hp _ _ hd) upd_same, ?_⟩
              rw [way_val0 hk ok.sym r]
              have W1 := W.same (same_new (o := .tup ((wkey (min a b) (max a b)).map kV)) hp)
              have hd1 := (same_new (o := .tup ((wkey (min a b) (max a b)).map kV)) hp) _ _ hd
              have S1 := same_new (o := .tup ((wkey (min a b) (max a b)).map kV)) hp
              generalize upd H p (.tup ((wkey (min a b) (max a b)).map kV)) = H1 at *
              obtain ⟨dw1, hw1⟩ := W1.w
              refine ⟨_, rfl, _, rfl, A.w, C.w, dw1, _, _, rfl, hw1, tw, T.nw _ (by decide +kernel), rfl, _, rfl, _, rfl, a, b, rfl, fun p9 hp2 => ?_⟩
              have S2 := same_new (o := .tup ((wkey (min a b) (max a b)).map kV)) hp2
              refine ⟨A.dw, _, rfl, DPut.t (same_new hp2 _ _ hd1) upd_same (Nat.lt_of_le_of_lt hk.few (by decide)), ?_⟩
              have W2 := (W1.same S2).waySet (hk.put (s := s) (a := a) (b := b) (n := n) (by omega) (by omega) r (by omega))
              walk_at "r"
              have hx : one s (.way a b n) = (Km446.Desk.become ⟨s, [], []⟩ { s with ways := fun x y => if (x = a ∧ y = b) ∨ (x = b ∧ y = a) then n else s.ways x y }, Km446.only ((s.ways a b : Nat) : Int)) := (if_neg p1).trans ((if_neg p2).trans (if_neg p3))
              exact k.end_ (s' := { s with ways := fun x y => if (x = a ∧ y = b) ∨ (x = b ∧ y = a) then n else s.ways x y }) (a := Km446.only ((s.ways a b : Nat) : Int)) (by show (one _ _).1.now = _; rw [hx]; rfl) (by show (one _ _).2 = _; rw [hx]) W2 (((K0.more S1).more S2).upd (mem_dw A)) rfl (by simp)
/-! ## minutes go by -/
def later (n : Nat) (x : Heli) : Heli := { x with busy := x.busy - n }
/-- the first i helicopters have had the minutes -/
def part (s : Sea) (n i : Nat) : Sea := { s with time := s.time + n, helis := (s.helis.take i).map (later n) ++ s.helis.drop i }
theorem part_step {s : Sea} {n i : Nat} {x : Heli} (h : s.helis[i]? = some x) : (part s n i).setHeli i (later n x) = part s n (i + 1) := by
  have hi : i < s.helis.length := (List.getElem?_eq_some_iff.mp h).1
  have e : ((s.helis.take i).map (later n) ++ s.helis.drop i).set i (later n x) = (s.helis.take (i + 1)).map (later n) ++ s.helis.drop (i + 1) := by
    have l : ((s.helis.take i).map (later n)).length = i := by rw [List.length_map, List.length_take]; omega
    rw [List.set_append_right _ _ (by omega), l, Nat.sub_self, take_succ_of h, List.map_append, List.append_assoc]
    congr 1
    rw [List.drop_eq_getElem_cons hi, (List.getElem?_eq_some_iff.mp h).2]
    rfl
  unfold part Km446.Sea.setHeli
  simp only [e]
theorem part_get {s : Sea} {n i : Nat} {x : Heli} (h : s.helis[i]? = some x) : (part s n i).helis[i]? = some x := by
  have hi : i < s.helis.length := (List.getElem?_eq_some_iff.mp h).1
  show ((s.helis.take i).map (later n) ++ s.helis.drop i)[i]? = some x
  have l : ((s.helis.take i).map (later n)).length = i := by rw [List.length_map, List.length_take]; omega
  rw [List.getElem?_append_right (by omega), l, Nat.sub_self, List.getElem?_drop]
  simpa using h
abbrev s_pass_minutes : Stmt := top 94
theorem sc_pass_minutes : FnScope ["world", "n", "heli"] ["world", "n"] (defScope s_pass_minutes) := ⟨rfl, rfl, rfl, by decide +kernel, rfl, by decide +kernel, by decide +kernel⟩
def sp_pass_minutes (C : Cs) : Sp := fun vs H Q _ => ∃ (A : Adr) (s : Sea) (n : Nat), vs = [.ref A.w, .int n] ∧ WorldAt C H A s ∧ SeaOk s ∧ Chg C H A Q s (.minutes n)
theorem ok_pass_minutes (T : Txt K mg C) (F : Has K mg "pass_minutes" s_pass_minutes ["world", "n"]) : Can P w K mg base 1 "pass_minutes" ["world", "n"] (sp_pass_minutes C) := by
  refine can_of F sc_pass_minutes (fun vs H Q E h => ?_) (fun f cdv A0 outer s0 H vs Q E hr h => ?_)
  · obtain ⟨A, s, n, rfl, _⟩ := h
    rfl
  · obtain ⟨A, s, n, rfl, W, ok, k⟩ := h
    refine ⟨_, (pss_cons (ps_if (PW.pt (pw_or (pt_cmpR op_eq (pv 1) pe_int (nomark _)) (pw_or1 (pt_cmpR op_gt (pv 1) (pe_gint (T.gi ("MOST_MINUTES", 1440) (by decide +kernel))) (nomark _))))) (pss_one (ps_ret (pe_lst (pa_cons (pe_gint (T.gi ("WRONG_NUMBER", (-22)) (by decide +kernel))) pa_nil)))) pss_nil)
      (pss_cons (ps_if (pt_cmpR op_gt (pe_op op_add (pe_fld (pv 0) rfl) (pv 1)) (pe_gint (T.gi ("LAST_MINUTE", 10000) (by decide +kernel))) (nomark _)) (pss_one (ps_ret (pe_lst (pa_cons (pe_gint (T.gi ("TOO_LATE", (-75)) (by decide +kernel))) pa_nil)))) pss_nil)
      (pss_cons (ps_fldaug (pv 0) (pv 1) in_add)
      (pss_cons (ps_for PassesOwn.never rfl (pi_list (pe_fld (pv 0) rfl)) (pg_name (i := 2) sc_pass_minutes.nd rfl (Or.inl rfl)) (pss_one (ps_fld (pv 2) (pe_callB (call_max2 rfl) (by rfl) T.max PyProof.Rows.boot_max (pa_cons pe_int (pa_cons (pe_op op_sub (pe_fld (pv 2) rfl) (pv 1)) pa_nil))) rfl)))
      (pss_one (ps_ret (pe_lst (pa_cons (pe_fld (pv 0) rfl) (pa_cons (pe_callB call_len_seq (by rfl) T.len PySem.boot_len (pa_cons (pe_lc (g := (gName 2)) (tt := (tTest (tOp rEq (tFld K (tVar 2) "busy") (tC (.int 0))))) (te := (tVar 2)) rfl sc_pass_minutes.nd (pi_list (pe_fld (pv 0) rfl)) (blkOk_by (own := [("heli", 2)]) (by show blkC ["world", "n", "heli"] (defScope s_pass_minutes) _ [("heli", 2)] = true; decide +kernel)) (by intro _ _ _ _ _; exact (pg_name (i := 2) sc_pass_minutes.nd rfl (Or.inl rfl))) (by intro _ _ _ _ _; exact (pts_one (pt_cmpR op_eq (pe_fld (pv 2) rfl) pe_int (nomark _)))) (by intro _ _ _ _ _; exact (pv 2))) pa_nil)) pa_nil))))))))), ?_⟩
    have tw := T.cw
    have th := T.ch
    obtain ⟨dw, hw⟩ := W.w
    have K0 : Keep A A H H := Keep.same (Same.refl _)
    walk_at "r"
    refine ite2 (fun q => ?_) (fun q => ?_)
    · have q : n = 0 := by simp at q; omega
      exact k.no (if_pos (.inl q)) W K0
    · have q : n ≠ 0 := by simp at q; omega
      walk_at "r"
      refine ite2 (fun q1 => ?_) (fun q1 => ?_)
      · have q1 : 1440 < n := by simp at q1; omega
        exact k.no (if_pos (.inr q1)) W K0
      · have q1 : ¬ 1440 < n := by simp at q1; omega
        have p1 : ¬ (n = 0 ∨ 1440 < n) := by omega
        walk_at "r"
        refine ite2 (fun r => ?_) (fun r => ?_)
        · have r : 10000 < s.time + n := by simp at r; omega
          exact k.no ((if_neg p1).trans (if_pos r)) W K0
        · have r : ¬ 10000 < s.time + n := by simp at r; omega
          refine ⟨_, rfl, A.w, C.w, dw, wf s A, _, rfl, hw, tw, T.nw _ (by decide +kernel), rfl, _, rfl, _, _, rfl, rfl, dw, wf s A, hw, (by show 6 < 1000; decide), ?_⟩
          have W1 : WorldAt C (upd H A.w (.ins C.w dw (wf (part s n 0) A))) A (part s n 0) := W.worldSet T.dist rfl rfl rfl
          have K1 : Keep A A H (upd H A.w (.ins C.w dw (wf (part s n 0) A))) := K0.upd (mem_w A)
          have hw1 : (upd H A.w (.ins C.w dw (wf (part s n 0) A))) A.w = some (.ins C.w dw (wf (part s n 0) A)) := upd_same
          refine swapH (R := tSeq _ _ _ _) (show _ = upd H A.w (.ins C.w dw (wf (part s n 0) A)) from rfl) ?_
          generalize upd H A.w (.ins C.w dw (wf (part s n 0) A)) = H1 at *
          refine ⟨_, rfl, A.w, C.w, dw, _, _, rfl, hw1, tw, T.nw _ (by decide +kernel), rfl, A.lh, rfl, ⟨_, SqL.of W1.lh⟩, ?_⟩
          refine for_list (K := K) (a := A.lh) (xs := A.hs.map V.ref) (fun i σ H' => ∃ v : Option V, σ = [some (.ref A.w), some (.int n), v] ∧ WorldAt C H' A (part s n i) ∧ Keep A A H H')
            ⟨none, rfl, W1, K1⟩ (fun i σ H' _ ⟨_, _, W', _⟩ => SqL.of W'.lh) ?_ ?_
          · rintro i y σ H' hi ⟨v, rfl, W', K'⟩
            rw [List.getElem?_map] at hi
            cases ea : A.hs[i]? with
            | none => rw [ea] at hi; cases hi
            | some a =>
              rw [ea] at hi
              cases hi
              obtain ⟨x, hx⟩ := get_some (l := s.helis) (i := i) (by rw [← W.nh]; exact (List.getElem?_eq_some_iff.mp ea).1)
              obtain ⟨a', ha', dh, hh⟩ := W'.heli (part_get hx)
              rw [ea] at ha'
              cases ha'
              walk_at "r"
              refine ⟨_, _, rfl, ?_⟩
              refine ⟨_, rfl, a, C.h, dh, hf x, rfl, hh, th, T.nh _ (by decide +kernel), (by show 9 < 1000; decide), ?_⟩
              have em : (if ((x.busy : Int) - (n : Int)) > 0 then ((x.busy : Int) - (n : Int)) else 0) = ((x.busy - n : Nat) : Int) := by split <;> omega
              have W2 := W'.heliSet T.dist ea (dx := dh) (later n x)
              rw [part_step hx] at W2
              have eh : putF "busy" (V.int (if ((x.busy : Int) - (n : Int)) > 0 then ((x.busy : Int) - (n : Int)) else 0)) (hf x) = hf (later n x) := by rw [em]; rfl
              rw [← eh] at W2
              exact ⟨_, rfl, W2, K'.upd (mem_h ea)⟩
          · rintro σ H2 ⟨v, rfl, W2, K2⟩
            rw [List.length_map, W.nh] at W2
            have eS : part s n s.helis.length = { s with time := s.time + n, helis := s.helis.map (later n) } := by
              unfold part
              rw [List.take_length, List.drop_length, List.append_nil]
            rw [eS] at W2
            obtain ⟨dw2, hw2⟩ := W2.w
            walk_at "r"
            refine ⟨⟨_, SqL.of W2.lh⟩, fun D hD => ?_⟩
            refine lc_list (K := K) (a := A.lh) (xs := A.hs.map V.ref) (fun i H' => Same H2 H' ∧ ∃ acc, H' D = some (.lst acc) ∧ acc.length = (((s.helis.map (later n)).take i).filter fun x => x.busy == 0).length) ⟨same_new hD, [], upd_same, rfl⟩ (fun i H' _ h => SqL.of (h.1 _ _ W2.lh)) ?_ ?_
            · rintro i y H' hi ⟨S', acc, hacc, hlen⟩
              rw [List.getElem?_map] at hi
              cases ea : A.hs[i]? with
              | none => rw [ea] at hi; cases hi
              | some a =>
                rw [ea] at hi
                cases hi
                obtain ⟨x, hx, dh, hh⟩ := W2.hat i a ea
                have hx : (s.helis.map (later n))[i]? = some x := hx
                have hh' := S' _ _ hh
                have el : (((s.helis.map (later n)).take (i + 1)).filter fun x => x.busy == 0).length = (((s.helis.map (later n)).take i).filter fun x => x.busy == 0).length + (if (x.busy == 0) = true then 1 else 0) := by
                  rw [take_succ_of hx, List.filter_append, List.length_append, List.filter_cons]
                  split <;> rfl
                refine ⟨rfl, ?_⟩
                walk_at "r"
                refine ite2 (fun z => ?_) (fun z => ?_)
                · have z : x.busy = 0 := by simp at z; omega
                  refine ⟨_, rfl, acc, hacc, ?_, ?_, _, upd_same, ?_⟩
                  · rw [hlen]
                    refine Nat.lt_of_le_of_lt (List.length_filter_le _ _) ?_
                    rw [List.length_take, List.length_map]
                    have := ok.nh
                    exact Nat.lt_of_le_of_lt (show min i s.helis.length ≤ 3 by omega) (by decide)
                  · intro b o e'
                    rw [upd_ne (ne_of_none e' hD)]
                    exact S' _ _ e'
                  · rw [List.length_append, hlen, el, if_pos (by rw [z]; rfl)]
                    rfl
                · have z : x.busy ≠ 0 := by simp at z; omega
                  refine ⟨S', acc, hacc, ?_⟩
                  rw [hlen, el, if_neg (by simp [z])]
                  rfl
            · rintro H' ⟨S', acc, hacc, hlen⟩
              refine ⟨_, _, rfl, .inl (SqL.of hacc), ?_⟩
              have el : (s.helis.map (later n)).take (A.hs.map V.ref).length = s.helis.map (later n) := by
                rw [List.length_map, W.nh]
                exact List.take_of_length_le (by rw [List.length_map]; exact Nat.le_refl _)
              rw [el] at hlen
              have hx : one s (.minutes n) = (Km446.Desk.become ⟨s, [], []⟩ { s with time := s.time + n, helis := s.helis.map (later n) }, ⟨((s.time + n : Nat) : Int), [((s.helis.map (later n)).filter fun x => x.busy == 0).length]⟩) := (if_neg p1).trans (if_neg r)
              exact k.end_ (s' := { s with time := s.time + n, helis := s.helis.map (later n) }) (a := ⟨((s.time + n : Nat) : Int), [((s.helis.map (later n)).filter fun x => x.busy == 0).length]⟩) (by show (one _ _).1.now = _; rw [hx]; rfl) (by show (one _ _).2 = _; rw [hx]) (W2.same S') (K2.more S') (by rw [hlen]; rfl) (by simp)
end
end Hf
end
section
set_option Elab.async false
set_option linter.all false
set_option maxRecDepth 100000
set_option maxHeartbeats 2000000
namespace Hf
open PySem PySem.Spec PyProof.Rows L2
section
variable {K : PySem.W.Frag} {h : Heap} {mg : Str → Option Value}
theorem has_mk {x : Str} {st : Stmt} {ps : List Str} {f : Addr} {oc kV dc pm cd ct : Value} {od an : Option Addr} {sl : Array (Option Value)} (X : K.In h) (G : h.Ns mainGlobals mg) (a : PySem.W.nsIn K mainGlobals x = some (some (.ref f)))
    (l : K.lookup f = some ⟨oc, od, .func (PySem.W.fnOf x x (defArgs st) (defBody st) (defScope st) .none kV dc pm an cd ct), sl⟩) (c : PySem.W.codeIn K cd x = true) (k : PySem.W.keepIn K (.ref f) = true)
    (b : ∀ (kV doc pm : Value) (an : Option Addr) (cdv ct : Value) (us : List Value), us.length = ps.length → bindArgs (PySem.W.fnOf x x (defArgs st) (defBody st) (defScope st) .none kV doc pm an cdv ct) ⟨us, []⟩ = pure (ps.zip us)) : Has K mg x st ps :=
  ⟨f, _, fun_mk l c k, PySem.W.mg_of X G a, (fun_mk l c k).binds b⟩
theorem hasI_mk {x qual : Str} {st : Stmt} {ps : List Str} {f C : Addr} {oc kV dc pm cd ct : Value} {od an : Option Addr} {sl : Array (Option Value)} (X : K.In h) (G : h.Ns mainGlobals mg) (aC : PySem.W.nsIn K mainGlobals x = some (some (.ref C)))
    (mk : PySem.W.makesIn K C = true) (a : PySem.W.findIn K (.ref C) "__init__" = some (some (.ref f))) (i : PySem.W.isFn K (.ref f) = true) (kc : PySem.W.keepIn K (.ref C) = true)
    (l : K.lookup f = some ⟨oc, od, .func (PySem.W.fnOf "__init__" qual (defArgs st) (defBody st) (defScope st) .none kV dc pm an cd ct), sl⟩) (c : PySem.W.codeIn K cd qual = true) (k : PySem.W.keepIn K (.ref f) = true)
    (b : ∀ (kV doc pm : Value) (an : Option Addr) (cdv ct : Value) (us : List Value), us.length = ps.length → bindArgs (PySem.W.fnOf "__init__" qual (defArgs st) (defBody st) (defScope st) .none kV doc pm an cdv ct) ⟨us, []⟩ = pure (ps.zip us)) : HasI K mg x qual st C ps :=
  ⟨f, _, ⟨mk, a, i, kc⟩, fun_mk l c k, PySem.W.mg_of X G aC, (fun_mk l c k).binds b⟩
theorem gi_mk {x : Str} {i : Int} {t : Tok} (X : K.In h) (G : h.Ns mainGlobals mg) (a : PySem.W.nsIn K mainGlobals x = some (some (.int i t))) : GI mg x i := ⟨t, PySem.W.mg_of X G a⟩
end
end Hf
end
section
set_option Elab.async false
set_option linter.all false
set_option maxRecDepth 100000
set_option maxHeartbeats 2000000
namespace Hf
open PySem PySem.Spec PyProof.Rows L2
open Km446 (Sea Heli Desk Ans)
section
variable {P : Program} {w : World} {K : PySem.W.Frag} {mg : Str → Option Value} {base : Heap} {C : Cs}
local macro_rules | `(tactic| walk_at "f") => `(tactic| refine ⟨_, _, _, _, _, rfl, by assumption, by assumption, (by first | exact Txt.nw (by assumption) _ (by decide +kernel) | exact Txt.nh (by assumption) _ (by decide +kernel) | exact Txt.np (by assumption) _ (by decide +kernel)), by rfl, ?_⟩)
local macro_rules | `(tactic| walk_at "r") => `(tactic| repeat (first | refine ⟨_, rfl, ?_⟩ | walk_at "f" | refine ⟨_, _, rfl, rfl, ?_⟩ | refine ⟨rfl, ?_⟩))
/-! ## the line of calls -/
def codeOf : KCall → Nat
  | .start .. => 0
  | .place .. => 1
  | .way .. => 2
  | .heli .. => 3
  | .go .. => 4
  | .winch .. => 5
  | .land .. => 6
  | .refuel .. => 7
  | .minutes .. => 8
  | .close .. => 9
  | .open_ .. => 10
  | .more .. => 11
  | .may .. => 12
  | .stay .. => 13
  | .lift .. => 14
  | .nearest .. => 15
  | .must .. => 16
  | .range_ .. => 17
  | .brings .. => 18
  | .least .. => 19
  | .where_ .. => 20
  | .look .. => 21
  | .see .. => 22
  | .far .. => 23
  | .next => 24
  | .sums => 25
  | .back => 26
  | .again => 27
  | .state => 28
def argsOf (x : KCall) : List Int := (flat x).tail
theorem flat_eq (x : KCall) : flat x = ((codeOf x : Nat) : Int) :: argsOf x := by cases x <;> rfl
/-- how the flights stand in the heap: FA H a L d: the object at a, all of it at L, holds the desk d -/
structure FAx (FA : Hp → Addr → List Addr → Desk → Prop) : Prop where
  loc : ∀ {H H' : Hp} {a : Addr} {L : List Addr} {d : Desk}, FA H a L d → (∀ b ∈ L, ∀ o, H b = some o → H' b = some o) → FA H' a L d
  there : ∀ {H : Hp} {a : Addr} {L : List Addr} {d : Desk}, FA H a L d → ∀ b ∈ L, ∃ o, H b = some o
theorem FAx.same {FA : Hp → Addr → List Addr → Desk → Prop} (X : FAx FA) {H H' : Hp} {a : Addr} {L : List Addr} {d : Desk} (h : FA H a L d) (e : Same H H') : FA H' a L d := X.loc h fun b _ o z => e b o z
theorem FAx.not {FA : Hp → Addr → List Addr → Desk → Prop} (X : FAx FA) {H : Hp} {a b : Addr} {L : List Addr} {d : Desk} (h : FA H a L d) (n : H b = none) : b ∉ L := fun m => by
  obtain ⟨o, e⟩ := X.there h b m
  rw [n] at e
  cases e
theorem Can.mono {x : Str} {ps : List Str} {sp : Sp} {i j : Nat} (c : Can P w K mg base i x ps sp) (h : i ≤ j) : Can P w K mg base j x ps sp := by
  obtain ⟨f, fd, F, r⟩ := c
  exact ⟨f, fd, F.mono h, r⟩
def sp_answer_call (FA : Hp → Addr → List Addr → Desk → Prop) : Sp := fun vs H Q _ => ∃ (a l : Addr) (L : List Addr) (d : Desk) (x : KCall), vs = [.ref a, .int (codeOf x : Nat), .ref l] ∧ FA H a L d ∧ DeskOk d ∧ Small x ∧ l ∉ L ∧ H l = some (.lst ((argsOf x).map V.int)) ∧
  ∀ (H' : Hp) (L' : List Addr) (r : Addr), FA H' a L' (Km446.act d x).1 → (∀ b o, H b = some o → b ∉ L → H' b = some o) → (∀ b ∈ L', b ∈ L ∨ H b = none) → H' r = some (.lst ((told (Km446.act d x).2).map V.int)) → H r = none → r ∉ L' → Q (.ref r) H'
def sp_Flights (FA : Hp → Addr → List Addr → Desk → Prop) (cF : Addr) : Sp := fun vs H Q _ => ∃ (p dx : Addr), vs = [.ref p] ∧ H p = some (.ins cF dx []) ∧ ∀ (H' : Hp) (L : List Addr), FA H' p L (Km446.fresh 0) → (∀ b o, H b = some o → b ≠ p → H' b = some o) → (∀ b ∈ L, b = p ∨ H b = none) → Q .non H'
def spAns (K : PySem.W.Frag) : Sp := fun vs H Q _ => ∃ (a : Addr) (ns : List Int), vs = [.ref a] ∧ SqL K H a (ns.map V.int) ∧ ns.length ≤ 7100 ∧ PyKm446.answers_asked ns = true ∧ ∀ (H' : Hp) (p : Addr), H' p = some (.lst ((PyKm446.answers ns).map V.int)) → Q (.ref p) H'
theorem at_nat {ns : List Int} {i : Nat} {z : Int} (h : ns[i]? = some z) : atI (ns.map V.int) (i : Int) = some (V.int z) := atI_nat (by rw [List.getElem?_map, h]; rfl)
theorem cut_mid (p q r : List Int) : cutV ((p ++ q ++ r).map V.int) (some ((p.length : Nat) : Int)) (some (((p.length + q.length : Nat)) : Int)) = q.map V.int := by
  unfold cutV
  rw [HT.sIx_nat, HT.sIx_nat, List.length_map, List.length_append, List.length_append]
  rw [Nat.min_eq_left (by omega), Nat.min_eq_left (by omega), ← List.map_drop, ← List.map_take]
  congr 1
  rw [List.append_assoc, List.drop_left, Nat.add_sub_cancel_left, List.take_left]
theorem fn_of {x : Str} {st : Stmt} {N ps : List Str} {k : Nat} {sp : Sp} {fA : Addr} {fdA : FuncData} (F : Fun K x x st fA fdA) (S : FnScope N ps (defScope st)) (len : ∀ vs H Q E, sp vs H Q E → vs.length = ps.length)
    (hbody : ∀ (f : Addr) (cdv : Value) (A : Around) (outer : List Env) (s : Shared) (H : Hp) (vs : List V) (Q : VK) (E : XK), Room k (A.deeper (envOfC x (defScope st) s.heap.objs.size f cdv)) → sp vs H Q E →
      ∃ t, PSs (cxOf CX0 P w K mg base N x (defScope st) f cdv A outer s H E).nox (defBody st) t ∧ t { nx := fun _ H' => Q .non H', rt := Q } (L2.start N vs) H) : FnOk P w K mg base CX0 (k + 1) fA fdA ps sp :=
  F.ok S len fun cdv A outer s H vs Q E hr h => hbody fA cdv A outer s H vs Q E hr h
abbrev s_answers : Stmt := top 132
theorem sc_answers : FnScope ["calls", "flights", "given", "at", "code", "behind", "answer"] ["calls"] (defScope s_answers) := ⟨rfl, rfl, rfl, by decide +kernel, rfl, by decide +kernel, by decide +kernel⟩
theorem ok_answers {FA : Hp → Addr → List Addr → Desk → Prop} (XF : FAx FA) {cF a_NUMBERS_BEHIND : Addr} {nb : List Int} (T : Txt K mg C) {fA : Addr} {fdA : FuncData} (F : Fun K "answers" "answers" s_answers fA fdA)
    (hm_NUMBERS_BEHIND : mg "NUMBERS_BEHIND" = some (.ref a_NUMBERS_BEHIND)) (hT : ∀ H, SqT K H a_NUMBERS_BEHIND (nb.map V.int)) (hnb : ∀ x : KCall, nb[codeOf x]? = some (((argsOf x).length : Nat) : Int))
    (c_Flights : Makes P w K mg base 3 "Flights" cF ["self"] (sp_Flights FA cF)) (c_answer_call : Can P w K mg base 20 "answer_call" ["flights", "code", "numbers"] (sp_answer_call FA))   : FnOk P w K mg base CX0 21 fA fdA ["calls"] (spAns K) := by
  refine fn_of F sc_answers (fun vs H Q E h => ?_) (fun f cdv A0 outer s0 H vs Q E hr h => ?_)
  · obtain ⟨a, ns, rfl, _⟩ := h
    rfl
  · obtain ⟨a, ns, rfl, hS, hlen, hask, k⟩ := h
    obtain ⟨xs, ens, hxs, hsm, eans⟩ := asked_calls hask
    rw [eans] at k
    refine ⟨_, (pss_cons (ps_set (i := 1) sc_answers.nd rfl (Or.inl rfl) (pe_makes0 c_Flights hr (by decide)))
      (pss_cons (ps_set (i := 2) sc_answers.nd rfl (Or.inl rfl) (pe_lst pa_nil))
      (pss_cons (ps_set (i := 3) sc_answers.nd rfl (Or.inl rfl) pe_int)
      (pss_cons (ps_while PassesOwn.never (pt_cmpR op_lt (pv 3) (pe_callB call_len_seq (by rfl) T.len PySem.boot_len (pa_cons (pv 0) pa_nil)) (nomark _)) (pss_cons (ps_set (i := 4) sc_answers.nd rfl (Or.inl rfl) (pe_ix ix_list (pv 0) (pv 3) (fun _ _ => rfl)))
      (pss_cons (ps_set (i := 5) sc_answers.nd rfl (Or.inl rfl) (pe_op op_add (pe_op op_add (pv 3) pe_int) (pe_ix ix_tup (pe_glob (v := .ref a_NUMBERS_BEHIND) rfl hm_NUMBERS_BEHIND rfl) (pv 4) (fun _ _ => rfl))))
      (pss_cons (ps_set (i := 6) sc_answers.nd rfl (Or.inl rfl) (pe_can c_answer_call hr (by decide) (pa_cons (pv 1) (pa_cons (pv 4) (pa_cons (pe_slice sl_list (pv 0) (po_some (pe_op op_add (pv 3) pe_int)) (po_some (pv 5))) pa_nil)))))
      (pss_cons (ps_expr (pe_bm PySem.F.plainAttrs_list PySem.F.slot_list_append PySem.F.type_list_append mt_append (pv 2) (pa_cons (pe_callB call_len_seq (by rfl) T.len PySem.boot_len (pa_cons (pv 6) pa_nil)) pa_nil)))
      (pss_cons (ps_expr (pe_bm PySem.F.plainAttrs_list PySem.F.slot_list_extend PySem.F.type_list_extend mt_extend (pv 2) (pa_cons (pv 6) pa_nil)))
      (pss_one (ps_set (i := 3) sc_answers.nd rfl (Or.inl rfl) (pv 5)))))))))
      (pss_one (ps_ret (pv 2))))))), ?_⟩
    intro fa dxa nx nd ne
    have Sx : ∀ b o, H b = some o → (upd (upd H dxa (.own fa)) fa (.ins cF dxa [])) b = some o := fun b o e => by rw [upd_ne (ne_of_none e nx), upd_ne (ne_of_none e nd)]; exact e
    refine ⟨fa, dxa, rfl, upd_same, fun H1 L0 hF0 hout hL0 => ⟨rfl, ?_⟩⟩
    have S1 : Same H H1 := fun b o e => hout b o (Sx b o e) (ne_of_none e nx)
    have n0 : ∀ b ∈ L0, H b = none := fun b hb => by
      rcases hL0 b hb with e | e
      · rw [e]; exact nx
      · cases q : H b with
        | none => rfl
        | some o => rw [Sx b o q] at e; cases e
    refine ⟨(by show 0 ≤ sizeLine; decide), fun g hg => ?_⟩
    have S2 : Same H (upd H1 g (.lst [])) := S1.trans (same_new hg)
    refine ⟨fun m σ H' => ∃ (done rest : List KCall) (L : List Addr) (v4 v5 v6 : Option V), xs = done ++ rest ∧ m = rest.length ∧ σ = [some (.ref a), some (.ref fa), some (.ref g), some (.int (((done.flatMap flat).length : Nat) : Int)), v4, v5, v6] ∧ FA H' fa L (deskOf (Km446.fresh 0) done) ∧ g ∉ L ∧
      H' g = some (.lst ((PyFlat.told (runD (Km446.fresh 0) done)).map V.int)) ∧ Same H H' ∧ (∀ b ∈ L, H b = none), ⟨xs.length, [], xs, L0, none, none, none, rfl, rfl, rfl, XF.same hF0 (same_new hg), XF.not hF0 hg, upd_same, S2, n0⟩, ?_⟩
    have hgn : H g = none := S1.free hg
    rintro m σ H' ⟨done, rest, L, v4, v5, v6, exs, rfl, rfl, hF, hgL, hgv, S', nL⟩
    have hSq : SqL K H' a (ns.map V.int) := S'.seq hS
    walk_at "r"
    refine ⟨_, _, rfl, .inl hSq, ?_⟩
    walk_at "r"
    have elen : ns.length = (done.flatMap flat).length + (rest.flatMap flat).length := by rw [ens, exs, List.flatMap_append, List.length_append]
    rw [List.length_map]
    refine ite2 (fun q => ?_) (fun q => ?_)
    · have q : (((done.flatMap flat).length : Nat) : Int) < ((ns.length : Nat) : Int) := of_decide_eq_true q
      have q : (done.flatMap flat).length < ns.length := by omega
      cases rest with
      | nil => rw [elen] at q; simp at q
      | cons x rest' =>
        have ens2 : ns = (done.flatMap flat) ++ (flat x ++ rest'.flatMap flat) := by rw [ens, exs, List.flatMap_append, List.flatMap_cons]
        have eget : ns[(done.flatMap flat).length]? = some ((codeOf x : Nat) : Int) := by
          rw [ens2, List.getElem?_append_right (Nat.le_refl _), Nat.sub_self, flat_eq]
          rfl
        have ens3 : ns = (done.flatMap flat ++ [((codeOf x : Nat) : Int)]) ++ argsOf x ++ rest'.flatMap flat := by rw [ens2, flat_eq]; simp
        refine ⟨fun σ' H9 => ∃ (L : List Addr) (v4 v5 v6 : Option V), σ' = [some (.ref a), some (.ref fa), some (.ref g), some (.int ((((done ++ [x]).flatMap flat).length : Nat) : Int)), v4, v5, v6] ∧ FA H9 fa L (deskOf (Km446.fresh 0) (done ++ [x])) ∧ g ∉ L ∧
          H9 g = some (.lst ((PyFlat.told (runD (Km446.fresh 0) (done ++ [x]))).map V.int)) ∧ Same H H9 ∧ (∀ b ∈ L, H b = none), ?_, ?_⟩
        · rintro σ' H9 ⟨L9, u4, u5, u6, rfl, h1, h2, h3, h4, h5⟩
          exact ⟨rest'.length, by show rest'.length < rest'.length + 1; omega, done ++ [x], rest', L9, u4, u5, u6, by rw [exs]; simp, rfl, rfl, h1, h2, h3, h4, h5⟩
        · walk_at "r"
          refine ⟨_, _, _, _, rfl, rfl, hSq, at_nat eget, ?_⟩
          walk_at "r"
          refine ⟨_, _, _, _, rfl, rfl, hT _, at_nat (hnb x), ?_⟩
          walk_at "r"
          refine ⟨_, _, rfl, hSq, fun p hp => ?_⟩
          have ecut : cutV (ns.map V.int) (some ((((done.flatMap flat).length : Nat) : Int) + 1)) (some ((((done.flatMap flat).length : Nat) : Int) + 1 + (((argsOf x).length : Nat) : Int))) = (argsOf x).map V.int := by
            have z := cut_mid (done.flatMap flat ++ [((codeOf x : Nat) : Int)]) (argsOf x) (rest'.flatMap flat)
            rw [← ens3, List.length_append] at z
            exact z
          have Sp : Same H' (upd H' p (.lst ((argsOf x).map V.int))) := same_new hp
          have hxm : x ∈ xs := by rw [exs]; simp
          refine ⟨fa, p, L, deskOf (Km446.fresh 0) done, x, rfl, XF.same hF (same_new hp), desk_run _ _ desk_fresh, hsm x hxm, XF.not hF hp, (by rw [upd_same, ecut]), ?_⟩
          intro H2 L2 r hF2 out2 new2 hr2 hrn hrL
          have hpg : g ≠ p := ne_of_none hgv hp
          have hg1 : (upd H' p (.lst (cutV (ns.map V.int) (some ((((done.flatMap flat).length : Nat) : Int) + 1)) (some ((((done.flatMap flat).length : Nat) : Int) + 1 + (((argsOf x).length : Nat) : Int)))))) g = some (.lst ((PyFlat.told (runD (Km446.fresh 0) done)).map V.int)) := by rw [upd_ne hpg]; exact hgv
          have hg2 := out2 g _ hg1 hgL
          have S3 : Same H H2 := fun b o e => out2 b o (same_new hp b o (S' b o e)) (fun m => by rw [nL b m] at e; cases e)
          have hgL2 : g ∉ L2 := fun m => by
            rcases new2 g m with z | z
            · exact hgL z
            · rw [hg1] at z; cases z
          have nL2 : ∀ b ∈ L2, H b = none := fun b m => by
            rcases new2 b m with z | z
            · exact nL b z
            · cases q : H b with
              | none => rfl
              | some o => rw [same_new hp b o (S' b o q)] at z; cases z
          have hrg : r ≠ g := fun e => by rw [e, hg1] at hrn; cases hrn
          have hlen1 : (PyFlat.told (runD (Km446.fresh 0) done)).length ≤ 7000 := by
            have h1 := run_len done (Km446.fresh 0)
            have h2 : done.length ≤ 1000 := by rw [exs, List.length_append] at hxs; omega
            omega
          have hlen2 := told_few (deskOf (Km446.fresh 0) done) x
          have big : sizeLine = 16777216 := sizeLine_eq
          walk_at "r"
          refine ⟨.inl ⟨rfl, _, SqL.of hg2⟩, ?_⟩
          walk_at "r"
          refine ⟨_, _, rfl, .inl (SqL.of hr2), ?_⟩
          refine ⟨g, _, _, rfl, rfl, hg2, (by rw [List.length_map]; omega), ?_⟩
          have hg3 : (upd H2 g (.lst ((PyFlat.told (runD (Km446.fresh 0) done)).map V.int ++ [V.int (((told (Km446.act (deskOf (Km446.fresh 0) done) x).2).map V.int).length : Nat)]))) g = _ := upd_same
          refine ⟨_, rfl, .inl ⟨rfl, _, SqL.of hg3⟩, ?_⟩
          walk_at "r"
          refine ⟨g, r, _, _, rfl, rfl, hg3, (by rw [upd_ne hrg]; exact hr2), (by rw [List.length_append, List.length_map, List.length_map]; simp; omega), ?_⟩
          have hF3 : FA H2 fa L2 (deskOf (Km446.fresh 0) (done ++ [x])) := by rw [deskOf_snoc]; exact hF2
          walk_at "r"
          refine ⟨L2, some (.int (codeOf x : Nat)), some (.int ((((done.flatMap flat).length : Nat) : Int) + 1 + (((argsOf x).length : Nat) : Int))), some (.ref r), ?_, XF.loc hF3 (fun b hb o e => ?_), hgL2, ?_, fun b o e => ?_, nL2⟩
          · have ez : (((done.flatMap flat).length : Nat) : Int) + 1 + (((argsOf x).length : Nat) : Int) = (((((done ++ [x]).flatMap flat).length : Nat)) : Int) := by
              rw [List.flatMap_append, List.length_append]
              simp [flat_eq]
              omega
            rw [← ez]
            rfl
          · have nb : b ≠ g := fun z => hgL2 (by rw [← z]; exact hb)
            rw [upd_ne nb, upd_ne nb]
            exact e
          · rw [upd_same, runD_snoc, told_snoc, List.map_append, List.append_assoc]
            congr 2
            congr 1
            rw [List.length_map]
            rfl
          · have nb : b ≠ g := ne_of_none e hgn
            rw [upd_ne nb, upd_ne nb]
            exact S3 b o e
    · have q : ¬ (done.flatMap flat).length < ns.length := fun z => q (decide_eq_true (show (((done.flatMap flat).length : Nat) : Int) < ((ns.length : Nat) : Int) by omega))
      have er : rest = [] := by
        cases rest with
        | nil => rfl
        | cons x r =>
          rw [elen, List.flatMap_cons, flat_eq] at q
          simp at q
      subst er
      rw [List.append_nil] at exs
      subst exs
      walk_at "r"
      exact k H' g hgv
end
end Hf
end
section
set_option Elab.async false
set_option linter.all false
set_option maxRecDepth 100000
set_option maxHeartbeats 2000000
namespace Hf
open PySem PySem.Spec PyProof.Rows L2
/-! ## dict(d) of a dict whose keys are tuples -/
theorem few_filter {α : Type} (f : α → Int) (c : Int) : ∀ (l : List α), (l.map f).Nodup → (l.filter (fun x => f x == c)).length ≤ 1
  | [], _ => Nat.zero_le _
  | x :: l, h => by
    rw [List.map_cons, List.nodup_cons] at h
    rw [List.filter_cons]
    split
    · rename_i hx
      have hx : f x = c := by simpa using hx
      have e : l.filter (fun y => f y == c) = [] := by
        rw [List.filter_eq_nil_iff]
        intro y hy hc
        have hc : f y = c := by simpa using hc
        exact h.1 (by rw [hx, ← hc]; exact List.mem_map.mpr ⟨y, hy, rfl⟩)
      rw [e]
      simp
    · exact few_filter f c l h.2
section
variable {prog : Program} {w : World} {A : Around} {E : Value → Shared → Prop} {s : Shared}
/-- the entries are copied as they stand: no two keys have one hash -/
theorem entries_tuples {nm : String} {d : Addr} {o : Obj} {es : Array DictEntry} {ep : Nat} {Q : Array DictEntry → Shared → Prop} (ho : s.heap.get? d = some o) (hd : o.data = .dict es ep)
    (ht : ∀ e ∈ es.toList, ∃ b, e.key = .ref b ∧ s.TypeIs (.ref b) "tuple") (hn : (es.toList.map (·.hash)).Nodup) (h : Q es s) : wpAny (model prog w) A (Builtin.Dict.entriesForEmpty nm d) Q E s := by
  unfold Builtin.Dict.entriesForEmpty
  refine wpAny_bind (wpAny_dictEntries ho hd ?_)
  have few : ∀ c : Int, ¬ (es.filter (fun e => e.hash == c)).size > 1 := fun c => by
    have q := few_filter (fun e : DictEntry => e.hash) c es.toList hn
    have e : (es.filter (fun e => e.hash == c)).size = (es.toList.filter (fun e => e.hash == c)).length := by
      rw [← Array.toList_filter, Array.length_toList]
    omega
  refine wpAny_bind ?_
  rw [← Array.forIn_toList]
  refine wpAny_forIn_list _ (fun rest _ s' => s' = s ∧ ∀ e ∈ rest, ∃ b, e.key = .ref b ∧ s.TypeIs (.ref b) "tuple") (fun _ s' => wpAny _ _ _ _ _ s') ?_ ?_ _ _ ⟨rfl, ht⟩
  · rintro e rest b s' ⟨rfl, hall⟩
    obtain ⟨b, hk, hT⟩ := hall e List.mem_cons_self
    refine wpAny_bind ?_
    have hq : wpAny (model prog w) A (Builtin.Dict.quietEq e.key) (fun q s'' => q = false ∧ s'' = s') E s' := by
      rw [hk]
      unfold Builtin.Dict.quietEq
      refine wpAny_bind (wpAny_specialOf hT PySem.F.slot_tuple_eq.lookup (wpAny_pure ⟨?_, rfl⟩))
      decide
    refine wpAny_mono hq (fun q s'' hh => ?_) fun _ _ z => z
    obtain ⟨rfl, rfl⟩ := hh
    rw [if_pos (by decide), if_neg (few _)]
    exact wpAny_pure ⟨rfl, fun e' he' => hall e' (List.mem_cons_of_mem _ he')⟩
  · rintro b s' ⟨rfl, _⟩
    exact wpAny_pure h
/-- dict(a): the same keys and values in a new dict -/
theorem call_dict_tuples {a : Addr} {o : Obj} {es : Array DictEntry} {ep : Nat} {Q : Value → Shared → Prop} (ho : s.heap.get? a = some o) (hx : o.ExactDict) (hd : o.data = .dict es ep) (hS : (a == sysModules) = false) (hz : es.size ≤ sizeLine)
    (ht : ∀ e ∈ es.toList, ∃ b, e.key = .ref b ∧ s.TypeIs (.ref b) "tuple") (hn : (es.toList.map (·.hash)).Nodup)
    (h : ∀ (h' : Heap) (o' : Obj) (ep' : Nat), h'.get? s.heap.objs.size = some o' → o'.ExactDict → o'.data = .dict es ep' → (∀ b u, s.heap.get? b = some u → h'.get? b = some u) → Q (.ref s.heap.objs.size) { s with heap := h' }) :
    wpAny (model prog w) A (call (.type "dict") [.ref a]) Q E s := by
  refine callType_codes (Q₁ := fun obj s₁ => obj = .ref s.heap.objs.size ∧ s₁ = { s with heap := s.heap.push { cls := .type "dict", data := .dict #[] } }) PySem.F.kt_called_dict (PySem.F.kt_typeCall_dict_1 _) PySem.F.entry_dict_init (kt_code_dict_new _ ⟨rfl, rfl⟩) ?_
  rintro obj s1 ⟨rfl, rfl⟩
  have k0 : ∀ b u, s.heap.get? b = some u → (s.heap.push { cls := .type "dict", data := .dict #[] }).get? b = some u := fun b u e => Heap.get?_push_of_some _ e
  have hnew : (s.heap.push { cls := .type "dict", data := .dict #[] }).get? s.heap.objs.size = some { cls := .type "dict", data := .dict #[] } := Heap.get?_push_size _ rfl
  have tnew : Shared.TypeIs { s with heap := s.heap.push { cls := .type "dict", data := .dict #[] } } (.ref s.heap.objs.size) "dict" := ⟨_, hnew, rfl⟩
  have told : Shared.TypeIs { s with heap := s.heap.push { cls := .type "dict", data := .dict #[] } } (.ref a) "dict" := ⟨o, k0 _ _ ho, hx.1⟩
  refine ⟨tnew, PySem.F.args_dict_init_2 _ _, ?_⟩
  unfold Builtin.«dict.__init__»
  refine wpAny_bind ?_
  unfold Builtin.Dict.selfAndRest
  refine wpAny_bind (wpAny_notOrdered_dict tnew ?_)
  show wpAny _ _ (pure (s.heap.objs.size, [Value.ref a])) _ _ _
  refine wpAny_pure ?_
  show wpAny _ _ (Builtin.Dict.updateFrom "dict.__init__" s.heap.objs.size (.ref a) [] .none) _ _ _
  unfold Builtin.Dict.updateFrom
  refine wpAny_bind (wpAny_typeOf told ?_)
  rw [if_neg (by decide)]
  refine wpAny_bind ?_
  unfold Builtin.Dict.merge
  refine wpAny_bind ?_
  unfold Builtin.Dict.readDirectly
  refine wpAny_bind (wpAny_isInstance told isSubtype_dict_dict ?_)
  rw [if_neg (by decide)]
  refine wpAny_bind (wpAny_specialOf told PySem.F.slot_dict_iter.lookup (wpAny_pure ?_))
  rw [if_pos (by decide)]
  refine wpAny_bind (wpAny_pure ?_)
  unfold Builtin.Dict.mergeDict
  have hne : s.heap.objs.size ≠ a := Ne.symm (Nat.ne_of_lt (Heap.lt_size ho))
  rw [if_neg (by simpa using hne)]
  unfold Builtin.Dict.showsAll
  rw [if_neg (by rw [hS]; exact Bool.false_ne_true)]
  refine wpAny_bind (wpAny_pure ?_)
  refine wpAny_bind (wpAny_dictEntries (k0 _ _ ho) hd ?_)
  dsimp only
  cases hes : es.toList with
  | nil =>
    have e0 : es = #[] := by
      cases es
      exact congrArg List.toArray hes
    subst e0
    rw [if_neg (by simp)]
    refine wpAny_bind (wpAny_dictEpoch (k0 _ _ ho) hd ?_)
    refine wpAny_bind (wpAny_dictEntries (k0 _ _ ho) hd ?_)
    refine wpAny_bind ?_
    rw [Std.Legacy.Range.forIn_eq_forIn_range']
    refine wpAny_pure (wpAny_pure ?_)
    show wpAny _ _ (Builtin.Dict.addKeywords s.heap.objs.size [] >>= _) _ _ _
    exact wpAny_bind (wpAny_pure (wpAny_pure ⟨rfl, h _ _ 0 hnew ⟨rfl, rfl, rfl⟩ rfl k0⟩))
  | cons e1 es1 =>
    have hm1 : e1 ∈ es.toList := by rw [hes]; exact List.mem_cons_self
    obtain ⟨b1, hk1, _⟩ := ht e1 hm1
    have nall : (es.all fun e => (keyPart e.key).isSome) = false := by
      cases q : (es.all fun e => (keyPart e.key).isSome) with
      | false => rfl
      | true =>
        have q := Array.all_eq_true'.mp q e1 (Array.mem_toList_iff.mp hm1)
        rw [hk1] at q
        exact absurd q Bool.false_ne_true
    have nemp : es.isEmpty = false := by
      cases q : es.isEmpty with
      | false => rfl
      | true =>
        have q := Array.isEmpty_iff.mp q
        rw [q] at hes
        cases hes
    rw [nall, Bool.and_false, if_pos (by decide)]
    refine wpAny_bind (wpAny_dictEntries hnew rfl ?_)
    rw [if_pos (by decide)]
    refine wpAny_bind (entries_tuples (k0 _ _ ho) hd (fun e he => ?_) hn ?_)
    · obtain ⟨b, e2, o2, e3, e4⟩ := ht e he
      exact ⟨b, e2, o2, k0 _ _ e3, e4⟩
    · rw [nemp, if_pos (by decide)]
      refine wpAny_bind (wpAny_updateDictKeysTo hnew rfl (wpAny_pure ?_) (Nat.le_succ_of_le hz))
      show wpAny _ _ (Builtin.Dict.addKeywords s.heap.objs.size [] >>= _) _ _ _
      refine wpAny_bind (wpAny_pure (wpAny_pure ⟨rfl, h _ _ 1 (Heap.get?_update_self _ hnew rfl) ⟨rfl, rfl, rfl⟩ rfl fun b u e => ?_⟩))
      exact (Heap.get?_update_other _ _ (fun z : s.heap.objs.size = b => absurd (Heap.lt_size e) (by rw [z]; exact Nat.lt_irrefl _))).trans (k0 b u e)
end
section
variable {X : Cx}
theorem new_iter {h : Heap} {a : Addr} {o : Obj} (hlt : a < h.objs.size) : ∀ b ∈ [h.objs.size, a], b < (h.push o).objs.size := by
  intro b hb
  have e : (h.push o).objs.size = h.objs.size + 1 := Heap.size_push ..
  rw [e]
  rcases List.mem_cons.mp hb with z | hb
  · rw [z]; exact Nat.lt_succ_self _
  · rcases List.mem_cons.mp hb with z | hb
    · rw [z]; exact Nat.lt_succ_of_lt hlt
    · cases hb
/-- dict(d), the hashes of its keys all different -/
theorem call_dictT : CallR X (.type "dict") (fun xs H Q => ∃ (a : Addr) (kvs : List (List Key × V)), xs = [.ref a] ∧ H a = some (.dT kvs) ∧ (kvs.map fun p => (tupleKind (mixKind X.prog X.w)).hash p.1).Nodup ∧
    ∀ p, H p = none → Q (.ref p) (upd H p (.dT kvs))) := by
  intro pins s σ H xs us Q I r q
  obtain ⟨a, kvs, rfl, ha, hn, q⟩ := q
  obtain ⟨u, rfl, rx⟩ := vals1 r
  cases rx
  obtain ⟨hz, hS, ys, hp, o, es, ep, ho, hx, hd, he, hnd⟩ := (show ObjOk X.prog X.w H s.heap a (.dT kvs) from I.hok a _ ha)
  have hlen : ∀ {l : List (List Key × V)} {m : List (List Key × Addr × Value)} {R : (List Key × V) → (List Key × Addr × Value) → Prop}, Paired R l m → l.length = m.length := by
    intro l m R h
    induction h with
    | nil => rfl
    | cons _ _ ih => simp [ih]
  have hhash : ∀ {l : List (List Key × V)} {m : List (List Key × Addr × Value)}, Paired (fun (p : List Key × V) (q : List Key × Addr × Value) => p.1 = q.1 ∧ H q.2.1 = some (.tup (p.1.map kV)) ∧ RelV p.2 q.2.2) l m →
      (l.map fun p => (tupleKind (mixKind X.prog X.w)).hash p.1) = (m.map fun p => (tupleKind (mixKind X.prog X.w)).hash p.1) := by
    intro l m h
    induction h with
    | nil => rfl
    | cons r _ ih => rw [List.map_cons, List.map_cons, ih, r.1]
  have htup : ∀ {l : List (List Key × V)} {m : List (List Key × Addr × Value)}, Paired (fun (p : List Key × V) (q : List Key × Addr × Value) => p.1 = q.1 ∧ H q.2.1 = some (.tup (p.1.map kV)) ∧ RelV p.2 q.2.2) l m →
      ∀ x ∈ m, s.TypeIs (.ref x.2.1) "tuple" := by
    intro l m h
    induction h with
    | nil => intro x hx; cases hx
    | cons r _ ih =>
      intro x hx
      rcases List.mem_cons.mp hx with e | e
      · subst e
        obtain ⟨_, its, _, o, h1, h2, _⟩ := (show ObjOk X.prog X.w H s.heap _ (.tup _) from I.hok _ _ r.2.1)
        exact ⟨o, h1, h2⟩
      · exact ih x e
  have hsz : es.size = kvs.length := by
    rw [← Array.length_toList, he, List.length_map, hlen hp]
  refine call_dict_tuples ho hx hd hS (by omega) (fun e hm => ?_) ?_ fun h' o' ep' h1 h2 h3 h4 => ?_
  · rw [he] at hm
    obtain ⟨x, hx, rfl⟩ := List.mem_map.mp hm
    exact ⟨_, rfl, htup hp x hx⟩
  · rw [he, List.map_map]
    rw [hhash hp] at hn
    exact hn
  · have hm : (s.heap.objs.size == sysModules) = false := beq_eq_false_iff_ne.mpr (Nat.ne_of_gt I.big)
    have hfr := I.hok.fresh (Nat.le_refl s.heap.objs.size)
    refine ⟨.ref s.heap.objs.size, upd H s.heap.objs.size (.dT kvs), I.laid (t' := s.toks) h4 (Nat.le_refl _) ?_, rfl, q _ hfr⟩
    refine ⟨hz, hm, ys, Paired.mapP hp fun p x z => ⟨z.1, ?_, z.2.2⟩, o', es, ep', h1, h2, h3, he, hnd⟩
    rw [upd_ne (ne_of_none z.2.1 hfr)]
    exact z.2.1
/-- sum(xs) of a list of ints -/
theorem call_sumL (hc : X.calm = true) : CallR X (.builtin "sum") (fun xs H Q => ∃ (a : Addr) (ns : List Int), xs = [.ref a] ∧ SqL X.K H a (ns.map V.int) ∧ Q (.int (preSum (fun i => ns.getD i 0) ns.length)) H) := by
  intro pins s σ H xs us Q I r q
  obtain ⟨a, ns, rfl, ha, q⟩ := q
  obtain ⟨u, rfl, rx⟩ := vals1 r
  cases rx
  obtain ⟨its, rv, ⟨o, n, ho, hcl, hd, hdat⟩, hz⟩ := I.list ha
  have hl : s.heap.IsList a its.toArray := ⟨o, ho, hcl, n, hdat⟩
  have hlt : a < s.heap.objs.size := Heap.lt_size ho
  have hlen : its.toArray.size = ns.length := by
    have e := rv.length
    rw [List.length_map] at e
    rw [List.size_toArray]
    exact e.symm
  refine call_sum_walkG (wpAny_pyIter_list hl ?_)
  refine ⟨_, _, _, _, _, _, fun i => ns.getD i 0, rfl, Walks.list (A := X.A.in1) (I.ok.hd hc) _ a (Nat.ne_of_lt hlt) its.toArray, ⟨⟨_, Heap.get?_push_size _ rfl, rfl, rfl⟩, hl.push _⟩, fun b hb => ?_, fun i v hv => ?_, fun h' tk t' hk => ?_⟩
  · exact new_iter hlt b hb
  · have hv : its.toArray[i]? = some v := hv
    have hv : its[i]? = some v := by rw [← Array.getElem?_toList] at hv; exact hv
    have hi : i < ns.length := by
      have := (List.getElem?_eq_some_iff.mp hv).1
      rw [List.size_toArray] at hlen
      omega
    have hx : (ns.map V.int)[i]? = some (V.int ns[i]) := by rw [List.getElem?_map, List.getElem?_eq_getElem hi]; rfl
    obtain ⟨u, hu, ru⟩ := rv.get hx
    rw [hv] at hu
    cases hu
    obtain ⟨t, rfl⟩ := ru
    refine ⟨t, ?_⟩
    show Value.int ns[i] t = Value.int (ns.getD i 0) t
    rw [List.getD_eq_getElem?_getD, List.getElem?_eq_getElem hi]
    rfl
  · rw [hlen]
    refine ⟨.int _, H, I.kept (t' := tk) fun b u e => ?_, ⟨_, rfl⟩, q⟩
    refine hk b u (fun hm => ?_) (Heap.get?_push_of_some _ e)
    rcases List.mem_cons.mp hm with z | z
    · exact absurd (Heap.lt_size e) (by rw [z]; exact Nat.lt_irrefl _)
    · cases z
end
/-! ## min(xs) of a list of tuples of ints -/
/-- the heap's old objects stand -/
def Old (h0 h : Heap) : Prop := ∀ b o, h0.get? b = some o → h.get? b = some o
section
variable {prog : Program} {w : World} {A : Around} {R : Result → Shared → Prop} {I S : Addr} {fp wr : List Addr} {n : Nat} {P : Nat → Value → Prop} {St : Nat → Heap → Prop} {h0 : Heap} {bt : Nat → Nat → Bool}
/-- v < u, wherever the old objects stand -/
def LtOld (prog : Program) (w : World) (A : Around) (h0 : Heap) (P : Nat → Value → Prop) (bt : Nat → Nat → Bool) : Prop :=
  ∀ (i j : Nat) (v u : Value) (z : Shared) (Q : Value → Shared → Prop) (E : Value → Shared → Prop), Old h0 z.heap → P i v → P j u → Q (.bool (bt i j)) z → wpAny (model prog w) A (richCompare .Lt v u) Q E z
def bestCell (v : Value) (c : Nat) : Obj := { cls := .type "list", dict := none, data := .seq #[v, v] c, slots := #[] }
theorem min_rest (W : Walks prog w A.in1 I fp wr n P St) (lt : LtOld prog w A.in1 h0 P bt) (nS : S ∉ fp) (hS0 : h0.get? S = none) (hw0 : ∀ b ∈ wr, h0.get? b = none) : ∀ (k j : Nat) (z : Shared) (v : Value) (c : Nat), n - (j + 1) = k → j + 1 ≤ n →
    St (j + 1) z.heap → P (argBest bt j) v → z.heap.get? S = some (bestCell v c) → Old h0 z.heap → (∀ v' h' tk, P (argBest bt (n - 1)) v' → Old h0 h' → (∀ b o, b ∉ wr → b ≠ S → z.heap.get? b = some o → h'.get? b = some o) → R (.ok (.ret v')) { z with heap := h', toks := tk }) →
    codeAny (model prog w) A (.builtin "min.loop" ⟨[.ref I, .none, .ref S], []⟩) R z
  | k, j, z, v, c, hk, hj, hst, hP, hS, hold, hR => by
    have nSw : S ∉ wr := fun m => nS (W.sub _ m)
    have same : (toString "min" ++ toString ".loop" : String) = "min.loop" := by decide
    refine codeAny_builtin PySem.F.entry_min_loop ?_
    rw [Around.under_plainId PySem.F.plain_min_loop _]
    show wpAny _ A.in1 (seqItems? (.ref S) >>= _) _ _ z
    refine wpAny_bind (wpAny_seqItems hS rfl ?_)
    show wpAny _ A.in1 (tryCatch (pyNext (.ref I)) _ >>= _) _ _ z
    cases k with
    | zero =>
      have e : j + 1 = n := by omega
      refine wpAny_bind (wpAny_tryCatch (W.done z _ _ (by rw [← e]; exact hst) fun h1 tk kp => ?_))
      have hS1 := kp S _ nSw hS
      show wpAny _ A.in1 (updateSeq S (fun _ => #[]) >>= _) _ _ _
      refine wpAny_bind (wpAny_updateSeq hS1 rfl (wpAny_bind (wpAny_letGo (wpAny_pure ?_))))
      have up : ∀ b o, b ≠ S → h1.get? b = some o → (h1.update S (Obj.mapSeq fun _ => #[])).get? b = some o := fun b o nb q => (Heap.get?_update_other _ _ (Ne.symm nb)).trans q
      refine hR v _ tk (by rw [← e]; exact hP) (fun b o q => ?_) fun b o n1 n2 q => up b o n2 (kp b o n1 q)
      refine up b o (fun x => by rw [x, hS0] at q; cases q) (kp b o (fun x => by rw [hw0 b x] at q; cases q) (hold b o q))
    | succ k =>
      have hlt : j + 1 < n := by omega
      refine wpAny_bind (wpAny_tryCatch (W.item (j + 1) z _ _ hlt hst fun u h1 tk hu hst1 kp => ?_))
      have hS1 := kp S _ nSw hS
      have hold1 : Old h0 h1 := fun b o q => kp b o (fun x => by rw [hw0 b x] at q; cases q) (hold b o q)
      show wpAny _ A.in1 (tryCatch (holding [u, u] (richCompare .Lt u v >>= _)) _ >>= _) _ _ _
      refine wpAny_bind (wpAny_tryCatch (wpAny_holding (wpAny_bind (lt (j + 1) (argBest bt j) u v _ _ _ hold1 hu hP ?_))))
      refine wpAny_bind (wpAny_holding (wpAny_truthy_bool ?_))
      refine wpAny_bind (wpAny_letGo (wpAny_pure ?_))
      cases hb : bt (j + 1) (argBest bt j) with
      | true =>
        rw [if_pos rfl]
        refine wpAny_bind (wpAny_updateSeq hS1 rfl (wpAny_bind (wpAny_letGo ?_)))
        rw [same]
        have up : ∀ b o, b ≠ S → h1.get? b = some o → (h1.update S (Obj.mapSeq fun _ => #[u, u])).get? b = some o := fun b o nb q => (Heap.get?_update_other _ _ (Ne.symm nb)).trans q
        refine wpAny_pure ⟨plainId_quiet PySem.F.plain_min_loop _, min_rest W lt nS hS0 hw0 k (j + 1) _ u _ (by omega) hlt (W.frame _ _ _ hst1 fun b m o q => up b o (fun x => nS (by rw [← x]; exact m)) q) (by rw [argBest, if_pos hb]; exact hu)
          (Heap.get?_update_self _ hS1 rfl) (fun b o q => up b o (fun x => by rw [x, hS0] at q; cases q) (hold1 b o q)) fun v' h2 tk2 hP2 old2 kp2 => ?_⟩
        exact hR v' h2 tk2 hP2 old2 fun b o n1 n2 q => kp2 b o n1 n2 (up b o n2 (kp b o n1 q))
      | false =>
        rw [if_neg Bool.false_ne_true]
        refine wpAny_bind (wpAny_letGo ?_)
        rw [same]
        refine wpAny_pure ⟨plainId_quiet PySem.F.plain_min_loop _, min_rest W lt nS hS0 hw0 k (j + 1) _ v c (by omega) hlt hst1 (by rw [argBest, hb, if_neg Bool.false_ne_true]; exact hP) hS1 hold1 fun v' h2 tk2 hP2 old2 kp2 => ?_⟩
        exact hR v' h2 tk2 hP2 old2 fun b o n1 n2 q => kp2 b o n1 n2 (kp b o n1 q)
theorem min_start (W : Walks prog w A.in1 I fp wr n P St) (lt : LtOld prog w A.in1 h0 P bt) (nS : S ∉ fp) (hS0 : h0.get? S = none) (hw0 : ∀ b ∈ wr, h0.get? b = none) (hn : 0 < n) {z : Shared} {c : Nat} (hst : St 0 z.heap)
    (hS : z.heap.get? S = some { cls := .type "list", dict := none, data := .seq #[] c, slots := #[] }) (hold : Old h0 z.heap) (hR : ∀ v' h' tk, P (argBest bt (n - 1)) v' → Old h0 h' → R (.ok (.ret v')) { z with heap := h', toks := tk }) :
    codeAny (model prog w) A (.builtin "min.loop" ⟨[.ref I, .none, .ref S], []⟩) R z := by
  have nSw : S ∉ wr := fun m => nS (W.sub _ m)
  have same : (toString "min" ++ toString ".loop" : String) = "min.loop" := by decide
  refine codeAny_builtin PySem.F.entry_min_loop ?_
  rw [Around.under_plainId PySem.F.plain_min_loop _]
  show wpAny _ A.in1 (seqItems? (.ref S) >>= _) _ _ z
  refine wpAny_bind (wpAny_seqItems hS rfl ?_)
  show wpAny _ A.in1 (tryCatch (pyNext (.ref I)) _ >>= _) _ _ z
  refine wpAny_bind (wpAny_tryCatch (W.item 0 z _ _ hn hst fun u h1 tk hu hst1 kp => ?_))
  have hS1 := kp S _ nSw hS
  have up : ∀ b o, b ≠ S → h1.get? b = some o → (h1.update S (Obj.mapSeq fun _ => #[u, u])).get? b = some o := fun b o nb q => (Heap.get?_update_other _ _ (Ne.symm nb)).trans q
  show wpAny _ A.in1 (updateSeq S (fun _ => #[u, u]) >>= _) _ _ _
  refine wpAny_bind (wpAny_updateSeq hS1 rfl ?_)
  rw [same]
  refine wpAny_pure ⟨plainId_quiet PySem.F.plain_min_loop _, min_rest W lt nS hS0 hw0 _ 0 _ u _ rfl hn (W.frame _ _ _ hst1 fun b m o q => up b o (fun x => nS (by rw [← x]; exact m)) q) hu (Heap.get?_update_self _ hS1 rfl)
    (fun b o q => up b o (fun x => by rw [x, hS0] at q; cases q) (kp b o (fun x => by rw [hw0 b x] at q; cases q) (hold b o q))) fun v' h2 tk2 hP2 old2 _ => hR v' h2 tk2 hP2 old2⟩
end
section
variable {prog : Program} {w : World} {A : Around} {E : Value → Shared → Prop} {s : Shared}
theorem call_min_tups {a : Addr} {its : Array Value} {bt : Nat → Nat → Bool} {Q : Value → Shared → Prop} (hh : A.handled = none) (hl : s.heap.IsList a its) (hne : 0 < its.size) (lt : LtOld prog w A.in1 s.heap (fun i v => its[i]? = some v) bt)
    (h : ∀ v h' tk, its[argBest bt (its.size - 1)]? = some v → Old s.heap h' → Q v { s with heap := h', toks := tk }) : wpAny (model prog w) A (call (.builtin "min") [.ref a]) Q E s := by
  have same : (toString "min" ++ toString ".loop" : String) = "min.loop" := by decide
  have hlt : a < s.heap.objs.size := by
    obtain ⟨o, e, _⟩ := hl
    exact Heap.lt_size e
  have nw : ∀ b, s.heap.objs.size ≤ b → s.heap.get? b = none := fun b hb => by
    cases q : s.heap.get? b with
    | none => rfl
    | some o => exact absurd (Heap.lt_size q) (Nat.not_lt.mpr hb)
  refine call_function_tree PySem.F.kind_min PySem.F.plain_min PySem.F.entry_min (PySem.F.args_min1 _) ?_
  show wpAny _ A.in1 (Builtin.Builtins.bindParams "min" ["key", "default"] 0 ⟨[], []⟩ >>= _) _ _ s
  refine wpAny_bind (wpAny_of_eq (show Builtin.Builtins.bindParams "min" ["key", "default"] 0 ⟨[], []⟩ = pure [none, none] from rfl) ?_)
  refine wpAny_bind (wpAny_pure ?_)
  refine wpAny_bind (wpAny_pyIter_list hl ?_)
  refine wpAny_bind (wpAny_newObj_type ?_)
  rw [same]
  have W := Walks.list (prog := prog) (w := w) (A := A.in1) hh s.heap.objs.size a (Nat.ne_of_lt hlt) its
  have sz : (s.heap.push { cls := .type "list_iterator", data := .fields #[.ref a, .int 0 0] }).objs.size = s.heap.objs.size + 1 := Heap.size_push ..
  refine wpAny_pure ⟨plainId_quiet PySem.F.plain_min_loop _, min_start W lt (fun hm => absurd (new_iter hlt _ hm) (Nat.lt_irrefl _)) (nw _ (by rw [sz]; exact Nat.le_succ _)) (fun b hb => ?_) hne ⟨⟨_, Heap.get?_push_of_some _ (Heap.get?_push_size _ rfl), rfl, rfl⟩, (hl.push _).push _⟩
    (Heap.get?_push_size _ rfl) (fun b o q => Heap.get?_push_of_some _ (Heap.get?_push_of_some _ q)) fun v' h' tk hP old => h v' h' tk hP old⟩
  rcases List.mem_cons.mp hb with z | z
  · exact nw _ (by rw [z]; exact Nat.le_refl _)
  · cases z
end
section
variable {X : Cx}
/-- min(xs) of a list of tuples of ints: the first of the least -/
theorem call_min1 (hc : X.calm = true) (hu : X.A.units + 1 < cLine) : CallR X (.builtin "min") (fun xs H Q => ∃ (a : Addr) (ps : List Addr) (ks : List (List Int)), xs = [.ref a] ∧ SqL X.K H a (ps.map V.ref) ∧ ps.length = ks.length ∧ 0 < ks.length ∧
    (∀ (i : Nat) (p : Addr) (k : List Int), ps[i]? = some p → ks[i]? = some k → SqT X.K H p (k.map V.int)) ∧
    ∀ p, ps[argBest (fun i j => HT.lexLt (ks.getD i []) (ks.getD j [])) (ks.length - 1)]? = some p → Q (.ref p) H) := by
  intro pins s σ H xs us Q I r q
  obtain ⟨a, ps, ks, rfl, ha, hlen, hpos, hk, q⟩ := q
  obtain ⟨u, rfl, rx⟩ := vals1 r
  cases rx
  obtain ⟨its, rv, ⟨o, n, ho, hcl, hd, hdat⟩, hz⟩ := I.list ha
  have hl : s.heap.IsList a its.toArray := ⟨o, ho, hcl, n, hdat⟩
  have ei := refs_at rv
  subst ei
  have hsz : (ps.map Value.ref).toArray.size = ks.length := by rw [List.size_toArray, List.length_map, hlen]
  have get : ∀ (i : Nat) (v : Value), (ps.map Value.ref).toArray[i]? = some v → ∃ p, ps[i]? = some p ∧ v = .ref p := fun i v hv => by
    rw [← Array.getElem?_toList] at hv
    have hv : (ps.map Value.ref)[i]? = some v := hv
    rw [List.getElem?_map] at hv
    cases e : ps[i]? with
    | none => rw [e] at hv; cases hv
    | some p => rw [e] at hv; cases hv; exact ⟨p, rfl, rfl⟩
  have tup : ∀ (i : Nat) (p : Addr), ps[i]? = some p → ∃ its : List Value, IsTup s.heap p its.toArray ∧ IntsAre its.toArray.toList (ks.getD i []) := fun i p e => by
    have hi : i < ks.length := by rw [← hlen]; exact (List.getElem?_eq_some_iff.mp e).1
    have ek : ks[i]? = some (ks.getD i []) := by rw [List.getD_eq_getElem?_getD, List.getElem?_eq_getElem hi]; rfl
    obtain ⟨its, r1, p1, _⟩ := I.tuple (hk i p _ e ek)
    exact ⟨its, p1, intsAre_of r1⟩
  refine call_min_tups (bt := fun i j => HT.lexLt (ks.getD i []) (ks.getD j [])) (I.ok.hd hc) hl (by rw [hsz]; exact hpos) (fun i j v u z Q E old hv hu' hQ => ?_) fun v h' tk hv old => ?_
  · obtain ⟨p1, e1, rfl⟩ := get i v hv
    obtain ⟨p2, e2, rfl⟩ := get j u hu'
    obtain ⟨t1, w1, i1⟩ := tup i p1 e1
    obtain ⟨t2, w2, i2⟩ := tup j p2 e2
    exact HT.lt_tupInts (w1.keeps old) (w2.keeps old) i1 i2 hu hQ
  · rw [hsz] at hv
    obtain ⟨p, e, rfl⟩ := get _ v hv
    exact ⟨.ref p, H, I.kept (t' := tk) old, rfl, q p e⟩
end
end Hf
end
section
set_option Elab.async false
set_option linter.all false
set_option maxRecDepth 100000
set_option maxHeartbeats 2000000
namespace Hf
open PySem PySem.Spec PyProof.Rows L2
open Km446 (Sea Heli Desk Ans)
section
variable {P : Program} {w : World} {K : PySem.W.Frag} {mg : Str → Option Value} {base : Heap} {C : Cs}
local macro_rules | `(tactic| walk_at "f") => `(tactic| refine ⟨_, _, _, _, _, rfl, by assumption, by assumption, (by first | exact Txt.nw (by assumption) _ (by decide +kernel) | exact Txt.nh (by assumption) _ (by decide +kernel) | exact Txt.np (by assumption) _ (by decide +kernel)), by rfl, ?_⟩)
local macro_rules | `(tactic| walk_at "r") => `(tactic| repeat (first | refine ⟨_, rfl, ?_⟩ | walk_at "f" | refine ⟨_, _, rfl, rfl, ?_⟩ | refine ⟨rfl, ?_⟩))
abbrev cNear (P : Program) (w : World) (K : PySem.W.Frag) (mg : Str → Option Value) (base : Heap) (C : Cs) := Can P w K mg base 3 "nearest_base" ["world", "p"] (sp_nearest_base C)
abbrev cWayM (P : Program) (w : World) (K : PySem.W.Frag) (mg : Str → Option Value) (base : Heap) (C : Cs) := Can P w K mg base 2 "way_minutes" ["world", "a", "b"] (sp_way_minutes C)
/-! ## more calls that ask -/
abbrev s_ask_nearest : Stmt := top 40
theorem sc_ask_nearest : FnScope ["world", "p", "base"] ["world", "p"] (defScope s_ask_nearest) := ⟨rfl, rfl, rfl, by decide +kernel, rfl, by decide +kernel, by decide +kernel⟩
def sp_ask_nearest (C : Cs) : Sp := fun vs H Q _ => ∃ (A : Adr) (s : Sea) (p : Nat), vs = [.ref A.w, .int p] ∧ WorldAt C H A s ∧ SeaOk s ∧ Told H Q s (.nearest p)
theorem ok_ask_nearest (T : Txt K mg C) (F : Has K mg "ask_nearest" s_ask_nearest ["world", "p"]) (c_has_place : cPl P w K mg base C) (c_nearest_base : cNear P w K mg base C) (c_way_minutes : cWayM P w K mg base C) : Can P w K mg base 4 "ask_nearest" ["world", "p"] (sp_ask_nearest C) := by
  refine can_of F sc_ask_nearest (fun vs H Q E h => ?_) (fun f cdv A0 outer s0 H vs Q E hr h => ?_)
  · obtain ⟨A, s, p, rfl, _⟩ := h
    rfl
  · obtain ⟨A, s, p, rfl, W, ok, k⟩ := h
    refine ⟨_, (pss_cons (ps_if (pt_not (pt_val (pe_can c_has_place hr (by decide) (pa_cons (pv 0) (pa_cons (pv 1) pa_nil))))) (pss_one (ps_ret (pe_lst (pa_cons (pe_gint (T.gi ("NOT_THERE", (-2)) (by decide +kernel))) pa_nil)))) pss_nil)
      (pss_cons (ps_set (i := 2) sc_ask_nearest.nd rfl (Or.inl rfl) (pe_can c_nearest_base hr (by decide) (pa_cons (pv 0) (pa_cons (pv 1) pa_nil))))
      (pss_cons (ps_if (pt_cmpR op_isN (pv 2) pe_non (nomark _)) (pss_one (ps_ret (pe_lst (pa_cons (pe_gint (T.gi ("NO_BASE", (-6)) (by decide +kernel))) pa_nil)))) pss_nil)
      (pss_one (ps_ret (pe_lst (pa_cons (pv 2) (pa_cons (pe_can c_way_minutes hr (by decide) (pa_cons (pv 0) (pa_cons (pv 1) (pa_cons (pv 2) pa_nil)))) pa_nil)))))))), ?_⟩
    walk_at "r"
    refine ⟨A, s, p, rfl, W, ?_⟩
    walk_at "r"
    refine ite2 (fun q => ?_) (fun q => ?_)
    · have q : s.places.length ≤ p := by simpa using q
      exact k.end_ (Same.refl _) (by simp [ans, one, Km446.act, q, told, Km446.only]) (by simp)
    · have q : ¬ s.places.length ≤ p := by simpa using q
      walk_at "r"
      refine ⟨A, s, p, rfl, W, ok.weak, fun H1 e1 => ?_⟩
      cases hn : s.nearest p with
      | none =>
        walk_at "r"
        exact k.end_ e1 (by simp [ans, one, Km446.act, q, hn, told, Km446.only]) (by simp)
      | some ce =>
        obtain ⟨c, e⟩ := ce
        walk_at "r"
        refine ⟨A, s, p, c, rfl, W.same e1, ok.sym, fun H2 e2 => ?_⟩
        rw [(nearest_mem hn).2]
        exact k.end_ (e1.trans e2) (by simp [ans, one, Km446.act, q, hn, told, nv]) (by simp)
abbrev s_ask_must : Stmt := top 41
theorem sc_ask_must : FnScope ["world", "h", "p", "least"] ["world", "h", "p"] (defScope s_ask_must) := ⟨rfl, rfl, rfl, by decide +kernel, rfl, by decide +kernel, by decide +kernel⟩
def sp_ask_must (C : Cs) : Sp := fun vs H Q _ => ∃ (A : Adr) (s : Sea) (h p : Nat), vs = [.ref A.w, .int h, .int p] ∧ WorldAt C H A s ∧ SeaOk s ∧ Told H Q s (.must h p)
theorem ok_ask_must (T : Txt K mg C) (F : Has K mg "ask_must" s_ask_must ["world", "h", "p"]) (c_has_helicopter : cHas P w K mg base C) (c_has_place : cPl P w K mg base C) (c_must_be_left : Can P w K mg base 4 "must_be_left" ["world", "heli", "p"] (sp_must_be_left C)) : Can P w K mg base 5 "ask_must" ["world", "h", "p"] (sp_ask_must C) := by
  refine can_of F sc_ask_must (fun vs H Q E h => ?_) (fun f cdv A0 outer s0 H vs Q E hr h => ?_)
  · obtain ⟨A, s, h, p, rfl, _⟩ := h
    rfl
  · obtain ⟨A, s, h, p, rfl, W, ok, k⟩ := h
    refine ⟨_, (pss_cons (ps_if (PW.pt (pw_or (pt_not (pt_val (pe_can c_has_helicopter hr (by decide) (pa_cons (pv 0) (pa_cons (pv 1) pa_nil))))) (pw_or1 (pt_not (pt_val (pe_can c_has_place hr (by decide) (pa_cons (pv 0) (pa_cons (pv 2) pa_nil)))))))) (pss_one (ps_ret (pe_lst (pa_cons (pe_gint (T.gi ("NOT_THERE", (-2)) (by decide +kernel))) pa_nil)))) pss_nil)
      (pss_cons (ps_set (i := 3) sc_ask_must.nd rfl (Or.inl rfl) (pe_can c_must_be_left hr (by decide) (pa_cons (pv 0) (pa_cons (pe_ix ix_list (pe_fld (pv 0) rfl) (pv 1) (fun _ _ => rfl)) (pa_cons (pv 2) pa_nil)))))
      (pss_cons (ps_if (pt_cmpR op_isN (pv 3) pe_non (nomark _)) (pss_one (ps_ret (pe_lst (pa_cons (pe_gint (T.gi ("NO_BASE", (-6)) (by decide +kernel))) pa_nil)))) pss_nil)
      (pss_one (ps_ret (pe_lst (pa_cons (pv 3) pa_nil))))))), ?_⟩
    have tw := T.cw
    have th := T.ch
    obtain ⟨dw, hw⟩ := W.w
    walk_at "r"
    refine ⟨A, s, h, rfl, W, ?_⟩
    walk_at "r"
    refine ite2 (fun q => ?_) (fun q => ?_)
    · have q : s.helis[h]? = none := get_none (by simpa using q)
      exact k.end_ (Same.refl _) (by simp [ans, one, Km446.act, q, told, Km446.only]) (by simp)
    · obtain ⟨x, hx⟩ := get_some (l := s.helis) (i := h) (by simpa using q)
      obtain ⟨a, ha, dh, hh⟩ := W.heli hx
      have hk := ok.hl h x hx
      walk_at "r"
      refine ⟨A, s, p, rfl, W, ?_⟩
      walk_at "r"
      refine ite2 (fun q => ?_) (fun q => ?_)
      · have q : s.places.length ≤ p := by simpa using q
        exact k.end_ (Same.refl _) (by simp [ans, one, Km446.act, hx, q, told, Km446.only]) (by simp)
      · have q : ¬ s.places.length ≤ p := by simpa using q
        walk_at "r"
        refine ⟨_, _, _, _, rfl, rfl, SqL.of W.lh, at_ref ha, ?_⟩
        walk_at "r"
        refine ⟨A, s, a, x, p, rfl, W, ok.weak, ⟨dh, hh⟩, hk.b2, fun H1 e1 => ?_⟩
        cases hm : s.must x p with
        | none =>
          walk_at "r"
          exact k.end_ e1 (by simp [ans, one, Km446.act, hx, q, hm, told, Km446.only]) (by simp)
        | some n =>
          walk_at "r"
          exact k.end_ e1 (by simp [ans, one, Km446.act, hx, q, hm, told, nv, Km446.only]) (by simp)
theorem range_eq (f b r : Nat) (hb : 1 ≤ b) : (if ((f : Int) / (b : Int) - (r : Int)) > 0 then ((f : Int) / (b : Int) - (r : Int)) else 0) / 2 = (((f / b - r) / 2 : Nat) : Int) := by
  have e : (f : Int) / (b : Int) = ((f / b : Nat) : Int) := rfl
  rw [e]
  generalize f / b = m
  split <;> omega
abbrev s_ask_range : Stmt := top 42
theorem sc_ask_range : FnScope ["world", "h", "heli", "minutes"] ["world", "h"] (defScope s_ask_range) := ⟨rfl, rfl, rfl, by decide +kernel, rfl, by decide +kernel, by decide +kernel⟩
def sp_ask_range (C : Cs) : Sp := fun vs H Q _ => ∃ (A : Adr) (s : Sea) (h : Nat), vs = [.ref A.w, .int h] ∧ WorldAt C H A s ∧ SeaOk s ∧ Told H Q s (.range_ h)
theorem ok_ask_range (T : Txt K mg C) (F : Has K mg "ask_range" s_ask_range ["world", "h"]) (c_has_helicopter : cHas P w K mg base C) : Can P w K mg base 2 "ask_range" ["world", "h"] (sp_ask_range C) := by
  refine can_of F sc_ask_range (fun vs H Q E h => ?_) (fun f cdv A0 outer s0 H vs Q E hr h => ?_)
  · obtain ⟨A, s, h, rfl, _⟩ := h
    rfl
  · obtain ⟨A, s, h, rfl, W, ok, k⟩ := h
    refine ⟨_, (pss_cons (ps_if (pt_not (pt_val (pe_can c_has_helicopter hr (by decide) (pa_cons (pv 0) (pa_cons (pv 1) pa_nil))))) (pss_one (ps_ret (pe_lst (pa_cons (pe_gint (T.gi ("NOT_THERE", (-2)) (by decide +kernel))) pa_nil)))) pss_nil)
      (pss_cons (ps_set (i := 2) sc_ask_range.nd rfl (Or.inl rfl) (pe_ix ix_list (pe_fld (pv 0) rfl) (pv 1) (fun _ _ => rfl)))
      (pss_cons (ps_set (i := 3) sc_ask_range.nd rfl (Or.inl rfl) (pe_op op_fdiv (pe_fld (pv 2) rfl) (pe_fld (pv 2) rfl)))
      (pss_one (ps_ret (pe_lst (pa_cons (pe_op op_fdiv (pe_callB (call_max2 rfl) (by rfl) T.max PyProof.Rows.boot_max (pa_cons pe_int (pa_cons (pe_op op_sub (pv 3) (pe_fld (pv 0) rfl)) pa_nil))) pe_int) (pa_cons (pv 3) pa_nil)))))))), ?_⟩
    have tw := T.cw
    have th := T.ch
    obtain ⟨dw, hw⟩ := W.w
    walk_at "r"
    refine ⟨A, s, h, rfl, W, ?_⟩
    walk_at "r"
    refine ite2 (fun q => ?_) (fun q => ?_)
    · have q : s.helis[h]? = none := get_none (by simpa using q)
      exact k.end_ (Same.refl _) (by simp [ans, one, Km446.act, q, told, Km446.only]) (by simp)
    · obtain ⟨x, hx⟩ := get_some (l := s.helis) (i := h) (by simpa using q)
      obtain ⟨a, ha, dh, hh⟩ := W.heli hx
      have hk := ok.hl h x hx
      walk_at "r"
      refine ⟨_, _, _, _, rfl, rfl, SqL.of W.lh, at_ref ha, ?_⟩
      walk_at "r"
      refine ⟨⟨by have := hk.b1; omega, by have := hk.b2; omega⟩, ?_⟩
      walk_at "r"
      refine ⟨_, _, rfl, ?_⟩
      walk_at "r"
      refine ⟨⟨by decide, by decide⟩, ?_⟩
      walk_at "r"
      refine k.end_ (Same.refl _) ?_ (by simp)
      have e := range_eq x.fuel x.burn s.reserve hk.b1
      show [V.int ((if ((x.fuel : Int) / (x.burn : Int) - (s.reserve : Int)) > 0 then ((x.fuel : Int) / (x.burn : Int) - (s.reserve : Int)) else 0) / 2), V.int ((x.fuel : Int) / (x.burn : Int))] = _
      rw [e]
      simp [ans, one, Km446.act, hx, told]
end
end Hf
end
section
set_option Elab.async false
set_option linter.all false
set_option maxRecDepth 100000
set_option maxHeartbeats 2000000
namespace Hf
open PySem PySem.Spec PyProof.Rows L2
open Km446 (Sea Heli Desk Ans)
section
variable {P : Program} {w : World} {K : PySem.W.Frag} {mg : Str → Option Value} {base : Heap} {C : Cs}
local macro_rules | `(tactic| walk_at "f") => `(tactic| refine ⟨_, _, _, _, _, rfl, by assumption, by assumption, (by first | exact Txt.nw (by assumption) _ (by decide +kernel) | exact Txt.nh (by assumption) _ (by decide +kernel) | exact Txt.np (by assumption) _ (by decide +kernel)), by rfl, ?_⟩)
local macro_rules | `(tactic| walk_at "r") => `(tactic| repeat (first | refine ⟨_, rfl, ?_⟩ | walk_at "f" | refine ⟨_, _, rfl, rfl, ?_⟩ | refine ⟨rfl, ?_⟩))
/-! ## loads, one behind another: the numbers -/
theorem neg_div {a b : Int} (ha : a < 0) (hb : 0 < b) : a / b < 0 := Int.ediv_lt_of_lt_mul hb (by rw [Int.zero_mul]; exact ha)
theorem load_eq {s : Sea} {x : Heli} {d : Nat} (ho : 1 ≤ x.hover) (hw : 1 ≤ x.winch) :
    (if (if ((x.tank : Int) - (((2 * d : Nat) : Int) + (s.reserve : Int)) * (x.burn : Int)) / ((x.hover : Int) * (x.winch : Int)) < (x.seats : Int) then ((x.tank : Int) - (((2 * d : Nat) : Int) + (s.reserve : Int)) * (x.burn : Int)) / ((x.hover : Int) * (x.winch : Int)) else (x.seats : Int)) > 0
      then (if ((x.tank : Int) - (((2 * d : Nat) : Int) + (s.reserve : Int)) * (x.burn : Int)) / ((x.hover : Int) * (x.winch : Int)) < (x.seats : Int) then ((x.tank : Int) - (((2 * d : Nat) : Int) + (s.reserve : Int)) * (x.burn : Int)) / ((x.hover : Int) * (x.winch : Int)) else (x.seats : Int)) else 0)
      = ((s.load x d : Nat) : Int) := by
  have e1 : (((2 * d : Nat) : Int) + (s.reserve : Int)) * (x.burn : Int) = ((x.burn * (2 * d + s.reserve) : Nat) : Int) := by rw [Int.mul_comm]; simp
  have e2 : (x.hover : Int) * (x.winch : Int) = ((x.hover * x.winch : Nat) : Int) := by simp
  rw [e1, e2]
  unfold Km446.Sea.load
  have hm : 0 < x.hover * x.winch := Nat.mul_pos ho hw
  generalize x.hover * x.winch = m at *
  generalize x.burn * (2 * d + s.reserve) = b at *
  by_cases h : b ≤ x.tank
  · have e3 : ((x.tank : Int) - (b : Int)) / (m : Int) = (((x.tank - b) / m : Nat) : Int) := by rw [← Int.ofNat_sub h]; rfl
    rw [e3]
    generalize (x.tank - b) / m = q
    split <;> split <;> omega
  · have e4 : x.tank - b = 0 := by omega
    have e5 : ((x.tank : Int) - (b : Int)) / (m : Int) < 0 := neg_div (by omega) (by omega)
    rw [e4, Nat.zero_div]
    generalize ((x.tank : Int) - (b : Int)) / (m : Int) = q at *
    split <;> split <;> omega
/-- what is left of the time, whole ones -/
theorem rest_eq {t fc d wi : Nat} (hw : 0 < wi) : (if ((t : Int) - (fc : Int) - ((2 * d : Nat) : Int)) / (wi : Int) > 0 then ((t : Int) - (fc : Int) - ((2 * d : Nat) : Int)) / (wi : Int) else 0)
    = (((if t - fc < 2 * d then 0 else (t - fc - 2 * d) / wi) : Nat) : Int) := by
  by_cases h : fc + 2 * d ≤ t
  · have e : ((t : Int) - (fc : Int) - ((2 * d : Nat) : Int)) / (wi : Int) = (((t - fc - 2 * d) / wi : Nat) : Int) := by
      have : ((t : Int) - (fc : Int) - ((2 * d : Nat) : Int)) = ((t - fc - 2 * d : Nat) : Int) := by omega
      rw [this]; rfl
    rw [e, if_neg (by omega : ¬ t - fc < 2 * d)]
    generalize (t - fc - 2 * d) / wi = q
    split <;> omega
  · have e : ((t : Int) - (fc : Int) - ((2 * d : Nat) : Int)) / (wi : Int) < 0 := neg_div (by omega) (by omega)
    have e0 : (if t - fc < 2 * d then 0 else (t - fc - 2 * d) / wi) = 0 := by
      split
      · rfl
      · have : t - fc - 2 * d = 0 := by omega
        rw [this, Nat.zero_div]
    rw [e0]
    generalize ((t : Int) - (fc : Int) - ((2 * d : Nat) : Int)) / (wi : Int) = q at *
    split <;> omega
theorem most_eq {d wi load t : Nat} (hw : 0 < wi) (ht : t ≤ 10000) :
    (t + 10) / (2 * d + load * wi + 10) * load + (if t - (t + 10) / (2 * d + load * wi + 10) * (2 * d + load * wi + 10) < 2 * d then 0 else (t - (t + 10) / (2 * d + load * wi + 10) * (2 * d + load * wi + 10) - 2 * d) / wi) = Km446.mostGo d wi load 1000 t := by
  by_cases hl : load = 0
  · subst hl
    rw [brings_zero hw, Nat.zero_mul, Nat.mul_zero, Nat.zero_add, Nat.add_zero]
    have h1 := Nat.div_add_mod (t + 10) (2 * d + 10)
    have h2 := Nat.mod_lt (t + 10) (show 2 * d + 10 > 0 by omega)
    rw [Nat.mul_comm] at h1
    generalize (t + 10) / (2 * d + 10) * (2 * d + 10) = m at *
    generalize (t + 10) % (2 * d + 10) = r at *
    split
    · rfl
    · have : t - m - 2 * d = 0 := by omega
      rw [this, Nat.zero_div]
  · rw [brings_closed hw (by omega) rfl ht]
abbrev s_minutes_out_and_back : Stmt := top 85
theorem sc_minutes_out_and_back : FnScope ["world", "p", "base"] ["world", "p", "base"] (defScope s_minutes_out_and_back) := ⟨rfl, rfl, rfl, by decide +kernel, rfl, by decide +kernel, by decide +kernel⟩
def sp_minutes_out_and_back (C : Cs) : Sp := fun vs H Q _ => ∃ (A : Adr) (s : Sea) (p b d : Nat), vs = [.ref A.w, .int p, .int b] ∧ WorldAt C H A s ∧ (∀ x y, s.ways x y = s.ways y x) ∧ s.way p b = some d ∧ ∀ H', Same H H' → Q (.int ((2 * d : Nat) : Int)) H'
theorem ok_minutes_out_and_back (T : Txt K mg C) (F : Has K mg "minutes_out_and_back" s_minutes_out_and_back ["world", "p", "base"]) (c_way_minutes : cWayM P w K mg base C) : Can P w K mg base 3 "minutes_out_and_back" ["world", "p", "base"] (sp_minutes_out_and_back C) := by
  refine can_of F sc_minutes_out_and_back (fun vs H Q E h => ?_) (fun f cdv A0 outer s0 H vs Q E hr h => ?_)
  · obtain ⟨A, s, p, b, d, rfl, _⟩ := h
    rfl
  · obtain ⟨A, s, p, b, d, rfl, W, sy, hd, k⟩ := h
    refine ⟨_, (pss_one (ps_ret (pe_op op_mul pe_int (pe_can c_way_minutes hr (by decide) (pa_cons (pv 0) (pa_cons (pv 1) (pa_cons (pv 2) pa_nil))))))), ?_⟩
    walk_at "r"
    refine ⟨A, s, p, b, rfl, W, sy, fun H1 e1 => ?_⟩
    rw [hd]
    walk_at "r"
    refine ⟨.inl ⟨by decide, by decide⟩, ?_⟩
    have q := k H1 e1
    have e : ((2 * d : Nat) : Int) = 2 * (d : Int) := by simp
    rw [e] at q
    exact q
abbrev s_most_in_load : Stmt := top 86
theorem sc_most_in_load : FnScope ["world", "heli", "p", "base", "beyond"] ["world", "heli", "p", "base"] (defScope s_most_in_load) := ⟨rfl, rfl, rfl, by decide +kernel, rfl, by decide +kernel, by decide +kernel⟩
def sp_most_in_load (C : Cs) : Sp := fun vs H Q _ => ∃ (A : Adr) (s : Sea) (a : Addr) (x : Heli) (p b d : Nat), vs = [.ref A.w, .ref a, .int p, .int b] ∧ WorldAt C H A s ∧ (∀ x y, s.ways x y = s.ways y x) ∧ HeliAt C H a x ∧ HeliOk s x ∧ s.way p b = some d ∧ ∀ H', Same H H' → Q (.int ((s.load x d : Nat) : Int)) H'
theorem ok_most_in_load (T : Txt K mg C) (F : Has K mg "most_in_load" s_most_in_load ["world", "heli", "p", "base"]) (c_minutes_out_and_back : Can P w K mg base 3 "minutes_out_and_back" ["world", "p", "base"] (sp_minutes_out_and_back C)) : Can P w K mg base 4 "most_in_load" ["world", "heli", "p", "base"] (sp_most_in_load C) := by
  refine can_of F sc_most_in_load (fun vs H Q E h => ?_) (fun f cdv A0 outer s0 H vs Q E hr h => ?_)
  · obtain ⟨A, s, a, x, p, b, d, rfl, _⟩ := h
    rfl
  · obtain ⟨A, s, a, x, p, b, d, rfl, W, sy, hx, hk, hd, k⟩ := h
    refine ⟨_, (pss_cons (ps_set (i := 4) sc_most_in_load.nd rfl (Or.inl rfl) (pe_op op_sub (pe_fld (pv 1) rfl) (pe_op op_mul (pe_op op_add (pe_can c_minutes_out_and_back hr (by decide) (pa_cons (pv 0) (pa_cons (pv 2) (pa_cons (pv 3) pa_nil)))) (pe_fld (pv 0) rfl)) (pe_fld (pv 1) rfl))))
      (pss_one (ps_ret (pe_callB (call_max2 rfl) (by rfl) T.max PyProof.Rows.boot_max (pa_cons pe_int (pa_cons (pe_callB (call_min2 rfl) (by rfl) T.min PyProof.Rows.boot_min (pa_cons (pe_fld (pv 1) rfl) (pa_cons (pe_op op_fdiv (pv 4) (pe_op op_mul (pe_fld (pv 1) rfl) (pe_fld (pv 1) rfl))) pa_nil))) pa_nil)))))), ?_⟩
    have tw := T.cw
    have th := T.ch
    obtain ⟨dw, hw⟩ := W.w
    obtain ⟨dh, hh⟩ := hx
    walk_at "r"
    refine ⟨A, s, p, b, d, rfl, W, sy, hd, fun H1 e1 => ?_⟩
    have hh1 := e1 _ _ hh
    have hw1 := e1 _ _ hw
    have b1 := hk.b1
    have b2 := hk.b2
    have o1 := hk.o1
    have o2 := hk.o2
    have w1 := hk.w1
    have w2 := hk.w2
    walk_at "r"
    refine ⟨.inr ⟨by omega, by omega⟩, ?_⟩
    walk_at "r"
    refine ⟨.inr ⟨by omega, by omega⟩, ?_⟩
    have hm : x.hover * x.winch ≤ 100 * 60 := Nat.mul_le_mul o2 w2
    have hm0 : 0 < x.hover * x.winch := Nat.mul_pos o1 w1
    have em : (x.hover : Int) * (x.winch : Int) = ((x.hover * x.winch : Nat) : Int) := by simp
    walk_at "r"
    refine ⟨⟨by rw [em]; omega, by rw [em]; omega⟩, ?_⟩
    refine ⟨_, _, rfl, ?_⟩
    refine ⟨_, _, rfl, ?_⟩
    have q := k H1 e1
    rw [← load_eq o1 w1] at q
    exact q
abbrev s_most_brought : Stmt := top 87
theorem sc_most_brought : FnScope ["load", "trip", "winch", "t", "turn", "full", "rest"] ["load", "trip", "winch", "t"] (defScope s_most_brought) := ⟨rfl, rfl, rfl, by decide +kernel, rfl, by decide +kernel, by decide +kernel⟩
def sp_most_brought : Sp := fun vs H Q _ => ∃ (load d wi t : Nat), vs = [.int load, .int ((2 * d : Nat) : Int), .int wi, .int t] ∧ load ≤ 30 ∧ d ≤ 300 ∧ 1 ≤ wi ∧ wi ≤ 60 ∧ t ≤ 10000 ∧ Q (.int ((Km446.mostGo d wi load 1000 t : Nat) : Int)) H
theorem ok_most_brought (T : Txt K mg C) (F : Has K mg "most_brought" s_most_brought ["load", "trip", "winch", "t"]) : Can P w K mg base 1 "most_brought" ["load", "trip", "winch", "t"] sp_most_brought := by
  refine can_of F sc_most_brought (fun vs H Q E h => ?_) (fun f cdv A0 outer s0 H vs Q E hr h => ?_)
  · obtain ⟨load, d, wi, t, rfl, _⟩ := h
    rfl
  · obtain ⟨load, d, wi, t, rfl, hl, hd, w1, w2, ht, k⟩ := h
    refine ⟨_, (pss_cons (ps_set (i := 4) sc_most_brought.nd rfl (Or.inl rfl) (pe_op op_add (pe_op op_add (pv 1) (pe_op op_mul (pv 0) (pv 2))) (pe_gint (T.gi ("MINUTES_BETWEEN_LOADS", 10) (by decide +kernel)))))
      (pss_cons (ps_set (i := 5) sc_most_brought.nd rfl (Or.inl rfl) (pe_op op_fdiv (pe_op op_add (pv 3) (pe_gint (T.gi ("MINUTES_BETWEEN_LOADS", 10) (by decide +kernel)))) (pv 4)))
      (pss_cons (ps_set (i := 6) sc_most_brought.nd rfl (Or.inl rfl) (pe_op op_sub (pe_op op_sub (pv 3) (pe_op op_mul (pv 5) (pv 4))) (pv 1)))
      (pss_one (ps_ret (pe_op op_add (pe_op op_mul (pv 5) (pv 0)) (pe_callB (call_max2 rfl) (by rfl) T.max PyProof.Rows.boot_max (pa_cons pe_int (pa_cons (pe_op op_fdiv (pv 6) (pv 2)) pa_nil))))))))), ?_⟩
    rw [← most_eq w1 ht] at k
    have hlw : load * wi ≤ 30 * 60 := Nat.mul_le_mul hl w2
    have elw : (load : Int) * (wi : Int) = ((load * wi : Nat) : Int) := by simp
    walk_at "r"
    refine ⟨.inr ⟨by omega, by omega⟩, ?_⟩
    walk_at "r"
    have et : ((2 * d : Nat) : Int) + (load : Int) * (wi : Int) + 10 = ((2 * d + load * wi + 10 : Nat) : Int) := by rw [elw]; omega
    have ef : ((t : Int) + 10) / (((2 * d : Nat) : Int) + (load : Int) * (wi : Int) + 10) = (((t + 10) / (2 * d + load * wi + 10) : Nat) : Int) := by rw [et]; rfl
    refine ⟨⟨by rw [et]; omega, by rw [et]; omega⟩, ?_⟩
    have hq : (t + 10) / (2 * d + load * wi + 10) ≤ 10010 := Nat.le_trans (Nat.div_le_self _ _) (by omega)
    walk_at "r"
    refine ⟨.inr ⟨by rw [et]; omega, by rw [et]; omega⟩, ?_⟩
    walk_at "r"
    refine ⟨.inr ⟨by omega, by omega⟩, ?_⟩
    walk_at "r"
    refine ⟨⟨by omega, by omega⟩, ?_⟩
    refine ⟨_, _, rfl, ?_⟩
    walk_at "r"
    have er := rest_eq (t := t) (fc := (t + 10) / (2 * d + load * wi + 10) * (2 * d + load * wi + 10)) (d := d) (wi := wi) w1
    have em : ((t : Int) + 10) / (((2 * d : Nat) : Int) + (load : Int) * (wi : Int) + 10) * (((2 * d : Nat) : Int) + (load : Int) * (wi : Int) + 10) = (((t + 10) / (2 * d + load * wi + 10) * (2 * d + load * wi + 10) : Nat) : Int) := by rw [ef, et]; exact (Int.natCast_mul _ _).symm
    have el : ((t : Int) + 10) / (((2 * d : Nat) : Int) + (load : Int) * (wi : Int) + 10) * (load : Int) = (((t + 10) / (2 * d + load * wi + 10) * load : Nat) : Int) := by rw [ef]; exact (Int.natCast_mul _ _).symm
    have k2 := k
    rw [Int.natCast_add, ← er, ← em, ← el] at k2
    exact k2
abbrev s_least_minutes : Stmt := top 88
theorem sc_least_minutes : FnScope ["load", "trip", "winch", "n", "loads"] ["load", "trip", "winch", "n"] (defScope s_least_minutes) := ⟨rfl, rfl, rfl, by decide +kernel, rfl, by decide +kernel, by decide +kernel⟩
def sp_least_minutes : Sp := fun vs H Q _ => ∃ (load d wi n : Nat), vs = [.int load, .int ((2 * d : Nat) : Int), .int wi, .int n] ∧ load ≤ 30 ∧ d ≤ 300 ∧ 1 ≤ wi ∧ wi ≤ 60 ∧ n ≤ 1000 ∧ (n ≠ 0 → 1 ≤ load) ∧
  Q (.int (((if n = 0 then 0 else (n + load - 1) / load * (2 * d) + n * wi + ((n + load - 1) / load - 1) * 10) : Nat) : Int)) H
theorem ok_least_minutes (T : Txt K mg C) (F : Has K mg "least_minutes" s_least_minutes ["load", "trip", "winch", "n"]) : Can P w K mg base 1 "least_minutes" ["load", "trip", "winch", "n"] sp_least_minutes := by
  refine can_of F sc_least_minutes (fun vs H Q E h => ?_) (fun f cdv A0 outer s0 H vs Q E hr h => ?_)
  · obtain ⟨load, d, wi, n, rfl, _⟩ := h
    rfl
  · obtain ⟨load, d, wi, n, rfl, hl, hd, w1, w2, hn, h1, k⟩ := h
    refine ⟨_, (pss_cons (ps_if (pt_cmpR op_eq (pv 3) pe_int (nomark _)) (pss_one (ps_ret pe_int)) pss_nil)
      (pss_cons (ps_set (i := 4) sc_least_minutes.nd rfl (Or.inl rfl) (pe_op op_fdiv (pe_op op_sub (pe_op op_add (pv 3) (pv 0)) pe_int) (pv 0)))
      (pss_one (ps_ret (pe_op op_add (pe_op op_add (pe_op op_mul (pv 4) (pv 1)) (pe_op op_mul (pv 3) (pv 2))) (pe_op op_mul (pe_op op_sub (pv 4) pe_int) (pe_gint (T.gi ("MINUTES_BETWEEN_LOADS", 10) (by decide +kernel))))))))), ?_⟩
    walk_at "r"
    refine ite2 (fun q => ?_) (fun q => ?_)
    · have q : n = 0 := by simp at q; omega
      rw [if_pos q] at k
      exact k
    · have q : n ≠ 0 := by simp at q; omega
      have hl1 := h1 q
      rw [if_neg q] at k
      walk_at "r"
      refine ⟨⟨by omega, by omega⟩, ?_⟩
      have ef : ((n : Int) + (load : Int) - 1) / (load : Int) = (((n + load - 1) / load : Nat) : Int) := by
        have : (n : Int) + (load : Int) - 1 = ((n + load - 1 : Nat) : Int) := by omega
        rw [this]; rfl
      have hk1 : 1 ≤ (n + load - 1) / load := (Nat.le_div_iff_mul_le (by omega)).mpr (by omega)
      walk_at "r"
      refine ⟨.inr ⟨by omega, by omega⟩, ?_⟩
      walk_at "r"
      refine ⟨.inr ⟨by omega, by omega⟩, ?_⟩
      walk_at "r"
      refine ⟨.inr ⟨by decide, by decide⟩, ?_⟩
      have ee : ((n : Int) + (load : Int) - 1) / (load : Int) * ((2 * d : Nat) : Int) + (n : Int) * (wi : Int) + (((n : Int) + (load : Int) - 1) / (load : Int) - 1) * 10 = (((n + load - 1) / load * (2 * d) + n * wi + ((n + load - 1) / load - 1) * 10 : Nat) : Int) := by
        rw [ef]
        generalize (n + load - 1) / load = m at *
        have e1 : ((m - 1 : Nat) : Int) = (m : Int) - 1 := by omega
        simp only [Int.natCast_add, Int.natCast_mul, e1]
        rfl
      rw [← ee] at k
      walk_at "r"
      exact k
end
end Hf
end
section
set_option Elab.async false
set_option linter.all false
set_option maxRecDepth 100000
set_option maxHeartbeats 2000000
namespace Hf
open PySem PySem.Spec PyProof.Rows L2
open Km446 (Sea Heli Desk Ans)
section
variable {P : Program} {w : World} {K : PySem.W.Frag} {mg : Str → Option Value} {base : Heap} {C : Cs}
local macro_rules | `(tactic| walk_at "f") => `(tactic| refine ⟨_, _, _, _, _, rfl, by assumption, by assumption, (by first | exact Txt.nw (by assumption) _ (by decide +kernel) | exact Txt.nh (by assumption) _ (by decide +kernel) | exact Txt.np (by assumption) _ (by decide +kernel)), by rfl, ?_⟩)
local macro_rules | `(tactic| walk_at "r") => `(tactic| repeat (first | refine ⟨_, rfl, ?_⟩ | walk_at "f" | refine ⟨_, _, rfl, rfl, ?_⟩ | refine ⟨rfl, ?_⟩))
theorem way_le {s : Sea} (ok : SeaOk s) {a b d : Nat} (h : s.way a b = some d) : d ≤ 300 := by
  unfold Km446.Sea.way at h
  split at h
  · cases h; omega
  · split at h
    · cases h
    · cases h
      exact ok.wb a b
theorem load_le {s : Sea} {x : Heli} (hk : HeliOk s x) (d : Nat) : s.load x d ≤ 30 := by
  unfold Km446.Sea.load
  have := hk.s2
  omega
abbrev cOut (P : Program) (w : World) (K : PySem.W.Frag) (mg : Str → Option Value) (base : Heap) (C : Cs) := Can P w K mg base 3 "minutes_out_and_back" ["world", "p", "base"] (sp_minutes_out_and_back C)
abbrev cLoad (P : Program) (w : World) (K : PySem.W.Frag) (mg : Str → Option Value) (base : Heap) (C : Cs) := Can P w K mg base 4 "most_in_load" ["world", "heli", "p", "base"] (sp_most_in_load C)
abbrev s_ask_brings : Stmt := top 89
theorem sc_ask_brings : FnScope ["world", "h", "p", "t", "base", "heli", "load", "brought"] ["world", "h", "p", "t"] (defScope s_ask_brings) := ⟨rfl, rfl, rfl, by decide +kernel, rfl, by decide +kernel, by decide +kernel⟩
def sp_ask_brings (C : Cs) : Sp := fun vs H Q _ => ∃ (A : Adr) (s : Sea) (h p t : Nat), vs = [.ref A.w, .int h, .int p, .int t] ∧ WorldAt C H A s ∧ SeaOk s ∧ Told H Q s (.brings h p t)
theorem ok_ask_brings (T : Txt K mg C) (F : Has K mg "ask_brings" s_ask_brings ["world", "h", "p", "t"]) (c_has_helicopter : cHas P w K mg base C) (c_has_place : cPl P w K mg base C) (c_nearest_base : cNear P w K mg base C) (c_most_in_load : cLoad P w K mg base C) (c_minutes_out_and_back : cOut P w K mg base C)
    (c_most_brought : Can P w K mg base 1 "most_brought" ["load", "trip", "winch", "t"] sp_most_brought) : Can P w K mg base 5 "ask_brings" ["world", "h", "p", "t"] (sp_ask_brings C) := by
  refine can_of F sc_ask_brings (fun vs H Q E h => ?_) (fun f cdv A0 outer s0 H vs Q E hr h => ?_)
  · obtain ⟨A, s, h, p, t, rfl, _⟩ := h
    rfl
  · obtain ⟨A, s, h, p, t, rfl, W, ok, k⟩ := h
    refine ⟨_, (pss_cons (ps_if (PW.pt (pw_or (pt_not (pt_val (pe_can c_has_helicopter hr (by decide) (pa_cons (pv 0) (pa_cons (pv 1) pa_nil))))) (pw_or1 (pt_not (pt_val (pe_can c_has_place hr (by decide) (pa_cons (pv 0) (pa_cons (pv 2) pa_nil)))))))) (pss_one (ps_ret (pe_lst (pa_cons (pe_gint (T.gi ("NOT_THERE", (-2)) (by decide +kernel))) pa_nil)))) pss_nil)
      (pss_cons (ps_if (pt_cmpR op_gt (pv 3) (pe_gint (T.gi ("MOST_MINUTES_TO_BRING", 10000) (by decide +kernel))) (nomark _)) (pss_one (ps_ret (pe_lst (pa_cons (pe_gint (T.gi ("WRONG_NUMBER", (-22)) (by decide +kernel))) pa_nil)))) pss_nil)
      (pss_cons (ps_set (i := 4) sc_ask_brings.nd rfl (Or.inl rfl) (pe_can c_nearest_base hr (by decide) (pa_cons (pv 0) (pa_cons (pv 2) pa_nil))))
      (pss_cons (ps_if (pt_cmpR op_isN (pv 4) pe_non (nomark _)) (pss_one (ps_ret (pe_lst (pa_cons (pe_gint (T.gi ("NO_BASE", (-6)) (by decide +kernel))) pa_nil)))) pss_nil)
      (pss_cons (ps_set (i := 5) sc_ask_brings.nd rfl (Or.inl rfl) (pe_ix ix_list (pe_fld (pv 0) rfl) (pv 1) (fun _ _ => rfl)))
      (pss_cons (ps_set (i := 6) sc_ask_brings.nd rfl (Or.inl rfl) (pe_can c_most_in_load hr (by decide) (pa_cons (pv 0) (pa_cons (pv 5) (pa_cons (pv 2) (pa_cons (pv 4) pa_nil))))))
      (pss_cons (ps_set (i := 7) sc_ask_brings.nd rfl (Or.inl rfl) (pe_can c_most_brought hr (by decide) (pa_cons (pv 6) (pa_cons (pe_can c_minutes_out_and_back hr (by decide) (pa_cons (pv 0) (pa_cons (pv 2) (pa_cons (pv 4) pa_nil)))) (pa_cons (pe_fld (pv 5) rfl) (pa_cons (pv 3) pa_nil))))))
      (pss_one (ps_ret (pe_lst (pa_cons (pv 7) (pa_cons (pv 6) (pa_cons (pv 4) pa_nil))))))))))))), ?_⟩
    have tw := T.cw
    have th := T.ch
    obtain ⟨dw, hw⟩ := W.w
    walk_at "r"
    refine ⟨A, s, h, rfl, W, ?_⟩
    walk_at "r"
    refine ite2 (fun q => ?_) (fun q => ?_)
    · have q : s.helis[h]? = none := get_none (by simpa using q)
      exact k.end_ (Same.refl _) (by simp [ans, one, Km446.act, q, told, Km446.only]) (by simp)
    · obtain ⟨x, hx⟩ := get_some (l := s.helis) (i := h) (by simpa using q)
      obtain ⟨a, ha, dh, hh⟩ := W.heli hx
      have hk := ok.hl h x hx
      walk_at "r"
      refine ⟨A, s, p, rfl, W, ?_⟩
      walk_at "r"
      refine ite2 (fun q => ?_) (fun q => ?_)
      · have q : s.places.length ≤ p := by simpa using q
        exact k.end_ (Same.refl _) (by simp [ans, one, Km446.act, hx, q, told, Km446.only]) (by simp)
      · have q : ¬ s.places.length ≤ p := by simpa using q
        walk_at "r"
        refine ite2 (fun z => ?_) (fun z => ?_)
        · have z : Km446.LATEST < t := by simp at z; show 10000 < t; omega
          exact k.end_ (Same.refl _) (by simp [ans, one, Km446.act, hx, q, z, told, Km446.only]) (by simp)
        · have z' : t ≤ 10000 := by simp at z; omega
          have z : ¬ Km446.LATEST < t := by show ¬ 10000 < t; omega
          walk_at "r"
          refine ⟨A, s, p, rfl, W, ok.weak, fun H1 e1 => ?_⟩
          have W1 := W.same e1
          obtain ⟨dw1, hw1⟩ := W1.w
          have hh1 := e1 _ _ hh
          cases hn : s.nearest p with
          | none =>
            walk_at "r"
            exact k.end_ e1 (by simp [ans, one, Km446.act, hx, q, z, hn, told, Km446.only]) (by simp)
          | some ce =>
            obtain ⟨c, d⟩ := ce
            have hd := (nearest_mem hn).2
            walk_at "r"
            refine ⟨_, _, _, _, rfl, rfl, SqL.of W1.lh, at_ref ha, ?_⟩
            walk_at "r"
            refine ⟨A, s, a, x, p, c, d, rfl, W1, ok.sym, ⟨dh, hh1⟩, hk, hd, fun H2 e2 => ?_⟩
            have hh2 := e2 _ _ hh1
            walk_at "r"
            refine ⟨A, s, p, c, d, rfl, W1.same e2, ok.sym, hd, fun H3 e3 => ?_⟩
            have hh3 := e3 _ _ hh2
            walk_at "r"
            refine ⟨s.load x d, d, x.winch, t, rfl, load_le hk d, way_le ok hd, hk.w1, hk.w2, z', ?_⟩
            walk_at "r"
            exact k.end_ ((e1.trans e2).trans e3) (by simp [ans, one, Km446.act, hx, q, z, hn, told, nv, Km446.Sea.brings]) (by simp)
abbrev s_ask_least : Stmt := top 90
theorem sc_ask_least : FnScope ["world", "h", "p", "n", "base", "heli", "load"] ["world", "h", "p", "n"] (defScope s_ask_least) := ⟨rfl, rfl, rfl, by decide +kernel, rfl, by decide +kernel, by decide +kernel⟩
def sp_ask_least (C : Cs) : Sp := fun vs H Q _ => ∃ (A : Adr) (s : Sea) (h p n : Nat), vs = [.ref A.w, .int h, .int p, .int n] ∧ WorldAt C H A s ∧ SeaOk s ∧ Told H Q s (.least h p n)
theorem ok_ask_least (T : Txt K mg C) (F : Has K mg "ask_least" s_ask_least ["world", "h", "p", "n"]) (c_has_helicopter : cHas P w K mg base C) (c_has_place : cPl P w K mg base C) (c_nearest_base : cNear P w K mg base C) (c_most_in_load : cLoad P w K mg base C) (c_minutes_out_and_back : cOut P w K mg base C)
    (c_least_minutes : Can P w K mg base 1 "least_minutes" ["load", "trip", "winch", "n"] sp_least_minutes) : Can P w K mg base 5 "ask_least" ["world", "h", "p", "n"] (sp_ask_least C) := by
  refine can_of F sc_ask_least (fun vs H Q E h => ?_) (fun f cdv A0 outer s0 H vs Q E hr h => ?_)
  · obtain ⟨A, s, h, p, n, rfl, _⟩ := h
    rfl
  · obtain ⟨A, s, h, p, n, rfl, W, ok, k⟩ := h
    refine ⟨_, (pss_cons (ps_if (PW.pt (pw_or (pt_not (pt_val (pe_can c_has_helicopter hr (by decide) (pa_cons (pv 0) (pa_cons (pv 1) pa_nil))))) (pw_or1 (pt_not (pt_val (pe_can c_has_place hr (by decide) (pa_cons (pv 0) (pa_cons (pv 2) pa_nil)))))))) (pss_one (ps_ret (pe_lst (pa_cons (pe_gint (T.gi ("NOT_THERE", (-2)) (by decide +kernel))) pa_nil)))) pss_nil)
      (pss_cons (ps_if (pt_cmpR op_gt (pv 3) (pe_gint (T.gi ("MOST_TO_BRING", 1000) (by decide +kernel))) (nomark _)) (pss_one (ps_ret (pe_lst (pa_cons (pe_gint (T.gi ("WRONG_NUMBER", (-22)) (by decide +kernel))) pa_nil)))) pss_nil)
      (pss_cons (ps_set (i := 4) sc_ask_least.nd rfl (Or.inl rfl) (pe_can c_nearest_base hr (by decide) (pa_cons (pv 0) (pa_cons (pv 2) pa_nil))))
      (pss_cons (ps_if (pt_cmpR op_isN (pv 4) pe_non (nomark _)) (pss_one (ps_ret (pe_lst (pa_cons (pe_gint (T.gi ("NO_BASE", (-6)) (by decide +kernel))) pa_nil)))) pss_nil)
      (pss_cons (ps_set (i := 5) sc_ask_least.nd rfl (Or.inl rfl) (pe_ix ix_list (pe_fld (pv 0) rfl) (pv 1) (fun _ _ => rfl)))
      (pss_cons (ps_set (i := 6) sc_ask_least.nd rfl (Or.inl rfl) (pe_can c_most_in_load hr (by decide) (pa_cons (pv 0) (pa_cons (pv 5) (pa_cons (pv 2) (pa_cons (pv 4) pa_nil))))))
      (pss_cons (ps_if (PW.pt (pw_and (pt_cmpR op_eq (pv 6) pe_int (nomark _)) (pw_and1 (pt_cmpR op_gt (pv 3) pe_int (nomark _))))) (pss_one (ps_ret (pe_lst (pa_cons (pe_gint (T.gi ("MAY_NOT", (-33)) (by decide +kernel))) pa_nil)))) pss_nil)
      (pss_one (ps_ret (pe_lst (pa_cons (pe_can c_least_minutes hr (by decide) (pa_cons (pv 6) (pa_cons (pe_can c_minutes_out_and_back hr (by decide) (pa_cons (pv 0) (pa_cons (pv 2) (pa_cons (pv 4) pa_nil)))) (pa_cons (pe_fld (pv 5) rfl) (pa_cons (pv 3) pa_nil))))) (pa_cons (pv 4) pa_nil)))))))))))), ?_⟩
    have tw := T.cw
    have th := T.ch
    obtain ⟨dw, hw⟩ := W.w
    walk_at "r"
    refine ⟨A, s, h, rfl, W, ?_⟩
    walk_at "r"
    refine ite2 (fun q => ?_) (fun q => ?_)
    · have q : s.helis[h]? = none := get_none (by simpa using q)
      exact k.end_ (Same.refl _) (by simp [ans, one, Km446.act, q, told, Km446.only]) (by simp)
    · obtain ⟨x, hx⟩ := get_some (l := s.helis) (i := h) (by simpa using q)
      obtain ⟨a, ha, dh, hh⟩ := W.heli hx
      have hk := ok.hl h x hx
      walk_at "r"
      refine ⟨A, s, p, rfl, W, ?_⟩
      walk_at "r"
      refine ite2 (fun q => ?_) (fun q => ?_)
      · have q : s.places.length ≤ p := by simpa using q
        exact k.end_ (Same.refl _) (by simp [ans, one, Km446.act, hx, q, told, Km446.only]) (by simp)
      · have q : ¬ s.places.length ≤ p := by simpa using q
        walk_at "r"
        refine ite2 (fun z => ?_) (fun z => ?_)
        · have z : 1000 < n := by simp at z; omega
          exact k.end_ (Same.refl _) (by simp [ans, one, Km446.act, hx, q, z, told, Km446.only]) (by simp)
        · have z' : n ≤ 1000 := by simp at z; omega
          have z : ¬ 1000 < n := by omega
          walk_at "r"
          refine ⟨A, s, p, rfl, W, ok.weak, fun H1 e1 => ?_⟩
          have W1 := W.same e1
          obtain ⟨dw1, hw1⟩ := W1.w
          have hh1 := e1 _ _ hh
          cases hn : s.nearest p with
          | none =>
            walk_at "r"
            exact k.end_ e1 (by simp [ans, one, Km446.act, hx, q, z, hn, told, Km446.only]) (by simp)
          | some ce =>
            obtain ⟨c, d⟩ := ce
            have hd := (nearest_mem hn).2
            walk_at "r"
            refine ⟨_, _, _, _, rfl, rfl, SqL.of W1.lh, at_ref ha, ?_⟩
            walk_at "r"
            refine ⟨A, s, a, x, p, c, d, rfl, W1, ok.sym, ⟨dh, hh1⟩, hk, hd, fun H2 e2 => ?_⟩
            have hh2 := e2 _ _ hh1
            walk_at "r"
            refine ite2 (fun y => ?_) (fun y => ?_)
            · have y : s.load x d = 0 := by simp at y; omega
              walk_at "r"
              refine ite2 (fun v => ?_) (fun v => ?_)
              · have v : n ≠ 0 := by simp at v; omega
                exact k.end_ (e1.trans e2) (by simp [ans, one, Km446.act, hx, q, z, hn, told, Km446.only, Km446.Sea.least, y, v]) (by simp)
              · have v : n = 0 := by simp at v; omega
                walk_at "r"
                refine ⟨A, s, p, c, d, rfl, W1.same e2, ok.sym, hd, fun H3 e3 => ?_⟩
                have hh3 := e3 _ _ hh2
                walk_at "r"
                refine ⟨s.load x d, d, x.winch, n, rfl, load_le hk d, way_le ok hd, hk.w1, hk.w2, z', (fun u => absurd v u), ?_⟩
                walk_at "r"
                exact k.end_ ((e1.trans e2).trans e3) (by simp [ans, one, Km446.act, hx, q, z, hn, told, nv, Km446.Sea.least, Km446.REFUEL, v]) (by simp)
            · have y : s.load x d ≠ 0 := by simp at y; omega
              by_cases v : n = 0
              · skip
                walk_at "r"
                refine ⟨A, s, p, c, d, rfl, W1.same e2, ok.sym, hd, fun H3 e3 => ?_⟩
                have hh3 := e3 _ _ hh2
                walk_at "r"
                refine ⟨s.load x d, d, x.winch, n, rfl, load_le hk d, way_le ok hd, hk.w1, hk.w2, z', (fun u => absurd v u), ?_⟩
                walk_at "r"
                exact k.end_ ((e1.trans e2).trans e3) (by simp [ans, one, Km446.act, hx, q, z, hn, told, nv, Km446.Sea.least, Km446.REFUEL, v]) (by simp)
              · skip
                walk_at "r"
                refine ⟨A, s, p, c, d, rfl, W1.same e2, ok.sym, hd, fun H3 e3 => ?_⟩
                have hh3 := e3 _ _ hh2
                walk_at "r"
                refine ⟨s.load x d, d, x.winch, n, rfl, load_le hk d, way_le ok hd, hk.w1, hk.w2, z', (fun _ => by omega), ?_⟩
                walk_at "r"
                exact k.end_ ((e1.trans e2).trans e3) (by simp [ans, one, Km446.act, hx, q, z, hn, told, nv, Km446.Sea.least, Km446.REFUEL, v, y]) (by simp)
/-! ## the calls that look -/
abbrev s_look_where : Stmt := top 59
theorem sc_look_where : FnScope ["world", "h", "heli"] ["world", "h"] (defScope s_look_where) := ⟨rfl, rfl, rfl, by decide +kernel, rfl, by decide +kernel, by decide +kernel⟩
def sp_look_where (C : Cs) : Sp := fun vs H Q _ => ∃ (A : Adr) (s : Sea) (h : Nat), vs = [.ref A.w, .int h] ∧ WorldAt C H A s ∧ SeaOk s ∧ Told H Q s (.where_ h)
theorem ok_look_where (T : Txt K mg C) (F : Has K mg "look_where" s_look_where ["world", "h"]) (c_has_helicopter : cHas P w K mg base C) : Can P w K mg base 2 "look_where" ["world", "h"] (sp_look_where C) := by
  refine can_of F sc_look_where (fun vs H Q E h => ?_) (fun f cdv A0 outer s0 H vs Q E hr h => ?_)
  · obtain ⟨A, s, h, rfl, _⟩ := h
    rfl
  · obtain ⟨A, s, h, rfl, W, ok, k⟩ := h
    refine ⟨_, (pss_cons (ps_if (pt_not (pt_val (pe_can c_has_helicopter hr (by decide) (pa_cons (pv 0) (pa_cons (pv 1) pa_nil))))) (pss_one (ps_ret (pe_lst (pa_cons (pe_gint (T.gi ("NOT_THERE", (-2)) (by decide +kernel))) pa_nil)))) pss_nil)
      (pss_cons (ps_set (i := 2) sc_look_where.nd rfl (Or.inl rfl) (pe_ix ix_list (pe_fld (pv 0) rfl) (pv 1) (fun _ _ => rfl)))
      (pss_one (ps_ret (pe_lst (pa_cons (pe_fld (pv 2) rfl) (pa_cons (pe_fld (pv 2) rfl) (pa_cons (pe_fld (pv 2) rfl) (pa_cons (pe_fld (pv 2) rfl) pa_nil))))))))), ?_⟩
    have tw := T.cw
    have th := T.ch
    obtain ⟨dw, hw⟩ := W.w
    walk_at "r"
    refine ⟨A, s, h, rfl, W, ?_⟩
    walk_at "r"
    refine ite2 (fun q => ?_) (fun q => ?_)
    · have q : s.helis[h]? = none := get_none (by simpa using q)
      exact k.end_ (Same.refl _) (by simp [ans, one, Km446.act, q, told, Km446.only]) (by simp)
    · obtain ⟨x, hx⟩ := get_some (l := s.helis) (i := h) (by simpa using q)
      obtain ⟨a, ha, dh, hh⟩ := W.heli hx
      walk_at "r"
      refine ⟨_, _, _, _, rfl, rfl, SqL.of W.lh, at_ref ha, ?_⟩
      walk_at "r"
      exact k.end_ (Same.refl _) (by simp [ans, one, Km446.act, hx, told]) (by simp)
abbrev s_look_at_helicopter : Stmt := top 60
theorem sc_look_at_helicopter : FnScope ["world", "h", "heli"] ["world", "h"] (defScope s_look_at_helicopter) := ⟨rfl, rfl, rfl, by decide +kernel, rfl, by decide +kernel, by decide +kernel⟩
def sp_look_at_helicopter (C : Cs) : Sp := fun vs H Q _ => ∃ (A : Adr) (s : Sea) (h : Nat), vs = [.ref A.w, .int h] ∧ WorldAt C H A s ∧ SeaOk s ∧ Told H Q s (.look h)
theorem ok_look_at_helicopter (T : Txt K mg C) (F : Has K mg "look_at_helicopter" s_look_at_helicopter ["world", "h"]) (c_has_helicopter : cHas P w K mg base C) : Can P w K mg base 2 "look_at_helicopter" ["world", "h"] (sp_look_at_helicopter C) := by
  refine can_of F sc_look_at_helicopter (fun vs H Q E h => ?_) (fun f cdv A0 outer s0 H vs Q E hr h => ?_)
  · obtain ⟨A, s, h, rfl, _⟩ := h
    rfl
  · obtain ⟨A, s, h, rfl, W, ok, k⟩ := h
    refine ⟨_, (pss_cons (ps_if (pt_not (pt_val (pe_can c_has_helicopter hr (by decide) (pa_cons (pv 0) (pa_cons (pv 1) pa_nil))))) (pss_one (ps_ret (pe_lst (pa_cons (pe_gint (T.gi ("NOT_THERE", (-2)) (by decide +kernel))) pa_nil)))) pss_nil)
      (pss_cons (ps_set (i := 2) sc_look_at_helicopter.nd rfl (Or.inl rfl) (pe_ix ix_list (pe_fld (pv 0) rfl) (pv 1) (fun _ _ => rfl)))
      (pss_one (ps_ret (pe_lst (pa_cons (pe_fld (pv 2) rfl) (pa_cons (pe_fld (pv 2) rfl) (pa_cons (pe_fld (pv 2) rfl) (pa_cons (pe_fld (pv 2) rfl) (pa_cons (pe_fld (pv 2) rfl) pa_nil)))))))))), ?_⟩
    have tw := T.cw
    have th := T.ch
    obtain ⟨dw, hw⟩ := W.w
    walk_at "r"
    refine ⟨A, s, h, rfl, W, ?_⟩
    walk_at "r"
    refine ite2 (fun q => ?_) (fun q => ?_)
    · have q : s.helis[h]? = none := get_none (by simpa using q)
      exact k.end_ (Same.refl _) (by simp [ans, one, Km446.act, q, told, Km446.only]) (by simp)
    · obtain ⟨x, hx⟩ := get_some (l := s.helis) (i := h) (by simpa using q)
      obtain ⟨a, ha, dh, hh⟩ := W.heli hx
      walk_at "r"
      refine ⟨_, _, _, _, rfl, rfl, SqL.of W.lh, at_ref ha, ?_⟩
      walk_at "r"
      exact k.end_ (Same.refl _) (by simp [ans, one, Km446.act, hx, told]) (by simp)
abbrev s_look_at_place : Stmt := top 61
theorem sc_look_at_place : FnScope ["world", "p", "place"] ["world", "p"] (defScope s_look_at_place) := ⟨rfl, rfl, rfl, by decide +kernel, rfl, by decide +kernel, by decide +kernel⟩
def sp_look_at_place (C : Cs) : Sp := fun vs H Q _ => ∃ (A : Adr) (s : Sea) (p : Nat), vs = [.ref A.w, .int p] ∧ WorldAt C H A s ∧ SeaOk s ∧ Told H Q s (.see p)
theorem ok_look_at_place (T : Txt K mg C) (F : Has K mg "look_at_place" s_look_at_place ["world", "p"]) (c_has_place : cPl P w K mg base C) : Can P w K mg base 2 "look_at_place" ["world", "p"] (sp_look_at_place C) := by
  refine can_of F sc_look_at_place (fun vs H Q E h => ?_) (fun f cdv A0 outer s0 H vs Q E hr h => ?_)
  · obtain ⟨A, s, p, rfl, _⟩ := h
    rfl
  · obtain ⟨A, s, p, rfl, W, ok, k⟩ := h
    refine ⟨_, (pss_cons (ps_if (pt_not (pt_val (pe_can c_has_place hr (by decide) (pa_cons (pv 0) (pa_cons (pv 1) pa_nil))))) (pss_one (ps_ret (pe_lst (pa_cons (pe_gint (T.gi ("NOT_THERE", (-2)) (by decide +kernel))) pa_nil)))) pss_nil)
      (pss_cons (ps_set (i := 2) sc_look_at_place.nd rfl (Or.inl rfl) (pe_ix ix_list (pe_fld (pv 0) rfl) (pv 1) (fun _ _ => rfl)))
      (pss_one (ps_ret (pe_lst (pa_cons (pe_fld (pv 2) rfl) (pa_cons (pe_ifExp (pt_val (pe_fld (pv 2) rfl)) pe_int pe_int) (pa_cons (pe_ifExp (pt_val (pe_fld (pv 2) rfl)) pe_int pe_int) pa_nil)))))))), ?_⟩
    have tw := T.cw
    have tp := T.cp
    obtain ⟨dw, hw⟩ := W.w
    walk_at "r"
    refine ⟨A, s, p, rfl, W, ?_⟩
    walk_at "r"
    refine ite2 (fun q => ?_) (fun q => ?_)
    · have q : s.places.length ≤ p := by simpa using q
      exact k.end_ (Same.refl _) (by simp [ans, one, Km446.act, q, told, Km446.only]) (by simp)
    · have q : ¬ s.places.length ≤ p := by simpa using q
      obtain ⟨ap, hap, dp, hpl⟩ := W.place (p := p) (by omega)
      walk_at "r"
      refine ⟨_, _, _, _, rfl, rfl, SqL.of W.lp, at_ref hap, ?_⟩
      walk_at "r"
      refine ite2 (fun r => ?_) (fun r => ?_) <;> walk_at "r" <;> refine ite2 (fun z => ?_) (fun z => ?_) <;> refine k.end_ (Same.refl _) ?_ (by simp) <;> simp [ans, one, Km446.act, q, told, Km446.bit, r, z]
abbrev s_look_how_far : Stmt := top 62
theorem sc_look_how_far : FnScope ["world", "a", "b", "minutes"] ["world", "a", "b"] (defScope s_look_how_far) := ⟨rfl, rfl, rfl, by decide +kernel, rfl, by decide +kernel, by decide +kernel⟩
def sp_look_how_far (C : Cs) : Sp := fun vs H Q _ => ∃ (A : Adr) (s : Sea) (a b : Nat), vs = [.ref A.w, .int a, .int b] ∧ WorldAt C H A s ∧ SeaOk s ∧ Told H Q s (.far a b)
theorem ok_look_how_far (T : Txt K mg C) (F : Has K mg "look_how_far" s_look_how_far ["world", "a", "b"]) (c_has_place : cPl P w K mg base C) (c_way_minutes : cWayM P w K mg base C) : Can P w K mg base 3 "look_how_far" ["world", "a", "b"] (sp_look_how_far C) := by
  refine can_of F sc_look_how_far (fun vs H Q E h => ?_) (fun f cdv A0 outer s0 H vs Q E hr h => ?_)
  · obtain ⟨A, s, a, b, rfl, _⟩ := h
    rfl
  · obtain ⟨A, s, a, b, rfl, W, ok, k⟩ := h
    refine ⟨_, (pss_cons (ps_if (PW.pt (pw_or (pt_not (pt_val (pe_can c_has_place hr (by decide) (pa_cons (pv 0) (pa_cons (pv 1) pa_nil))))) (pw_or1 (pt_not (pt_val (pe_can c_has_place hr (by decide) (pa_cons (pv 0) (pa_cons (pv 2) pa_nil)))))))) (pss_one (ps_ret (pe_lst (pa_cons (pe_gint (T.gi ("NOT_THERE", (-2)) (by decide +kernel))) pa_nil)))) pss_nil)
      (pss_cons (ps_set (i := 3) sc_look_how_far.nd rfl (Or.inl rfl) (pe_can c_way_minutes hr (by decide) (pa_cons (pv 0) (pa_cons (pv 1) (pa_cons (pv 2) pa_nil)))))
      (pss_cons (ps_if (pt_cmpR op_isN (pv 3) pe_non (nomark _)) (pss_one (ps_ret (pe_lst (pa_cons (pe_gint (T.gi ("NO_WAY", (-33)) (by decide +kernel))) pa_nil)))) pss_nil)
      (pss_one (ps_ret (pe_lst (pa_cons (pv 3) pa_nil))))))), ?_⟩
    walk_at "r"
    refine ⟨A, s, a, rfl, W, ?_⟩
    walk_at "r"
    refine ite2 (fun q => ?_) (fun q => ?_)
    · have q : s.places.length ≤ a := by simpa using q
      exact k.end_ (Same.refl _) (by simp [ans, one, Km446.act, q, told, Km446.only]) (by simp)
    · have q : ¬ s.places.length ≤ a := by simpa using q
      walk_at "r"
      refine ⟨A, s, b, rfl, W, ?_⟩
      walk_at "r"
      refine ite2 (fun r => ?_) (fun r => ?_)
      · have r : s.places.length ≤ b := by simpa using r
        exact k.end_ (Same.refl _) (by simp [ans, one, Km446.act, q, r, told, Km446.only]) (by simp)
      · have r : ¬ s.places.length ≤ b := by simpa using r
        walk_at "r"
        refine ⟨A, s, a, b, rfl, W, ok.sym, fun H1 e1 => ?_⟩
        cases hn : s.way a b with
        | none =>
          walk_at "r"
          exact k.end_ e1 (by simp [ans, one, Km446.act, q, r, hn, told, Km446.only]) (by simp)
        | some n =>
          walk_at "r"
          exact k.end_ e1 (by simp [ans, one, Km446.act, q, r, hn, told, nv, Km446.only]) (by simp)
end
end Hf
end
section
set_option Elab.async false
set_option linter.all false
set_option maxRecDepth 100000
set_option maxHeartbeats 2000000
namespace Hf
open PySem PySem.Spec PyProof.Rows L2
open Km446 (Sea Heli Desk Ans)
/-! ## sums, and who is done first: the numbers -/
theorem sum_take (l : List Nat) : ∀ n, n ≤ l.length → preSum (fun i => (l.map fun (x : Nat) => (x : Int)).getD i 0) n = ((Km446.sum (l.take n) : Nat) : Int)
  | 0, _ => rfl
  | n + 1, h => by
    have hn : n < l.length := h
    have e : l.take (n + 1) = l.take n ++ [l[n]] := by rw [List.take_add_one, List.getElem?_eq_getElem hn]; rfl
    have ih := sum_take l n (by omega)
    unfold Km446.sum at ih ⊢
    rw [e, List.foldl_append, preSum, ih]
    have g : (l.map fun (x : Nat) => (x : Int)).getD n 0 = ((l[n] : Nat) : Int) := by
      rw [List.getD_eq_getElem?_getD, List.getElem?_map, List.getElem?_eq_getElem hn]; rfl
    rw [g]
    simp
theorem sum_all (l : List Nat) : preSum (fun i => (l.map fun (x : Nat) => (x : Int)).getD i 0) (l.map fun (x : Nat) => (x : Int)).length = ((Km446.sum l : Nat) : Int) := by
  rw [List.length_map, sum_take l l.length (Nat.le_refl _), List.take_length]
def nx (s : Sea) (r : Option (Nat × Nat)) (h : Nat) : Option (Nat × Nat) := if (s.heli h).busy = 0 then r else match r with
  | none => some (h, (s.heli h).busy)
  | some (g, t) => if (s.heli h).busy < t then some (h, (s.heli h).busy) else some (g, t)
def st2 (r : Option (Nat × Nat)) (k : Nat × Nat) : Option (Nat × Nat) := match r with
  | none => some (k.2, k.1)
  | some (g, t) => if k.1 < t then some (k.2, k.1) else some (g, t)
def bl (s : Sea) : Nat → List (Nat × Nat)
  | 0 => []
  | i + 1 => bl s i ++ (if (s.heli i).busy = 0 then [] else [((s.heli i).busy, i)])
theorem nx_fold (s : Sea) : ∀ n, (List.range n).foldl (nx s) none = (bl s n).foldl st2 none
  | 0 => rfl
  | n + 1 => by
    rw [List.range_succ, List.foldl_append, nx_fold s n, bl, List.foldl_append]
    show nx s _ n = _
    unfold nx
    split
    · rfl
    · rfl
theorem bl_lt (s : Sea) : ∀ n, ∀ k ∈ bl s n, k.2 < n
  | 0, k, h => by cases h
  | n + 1, k, h => by
    rw [bl] at h
    rcases List.mem_append.mp h with h | h
    · have := bl_lt s n k h; omega
    · split at h
      · cases h
      · rw [List.mem_singleton] at h
        rw [h]
        exact Nat.lt_succ_self n
theorem bl_sorted (s : Sea) : ∀ n, (bl s n).Pairwise fun a b => a.2 < b.2
  | 0 => List.Pairwise.nil
  | n + 1 => by
    rw [bl, List.pairwise_append]
    refine ⟨bl_sorted s n, ?_, fun a ha b hb => ?_⟩
    · split
      · exact List.Pairwise.nil
      · exact List.pairwise_singleton _ _
    · split at hb
      · cases hb
      · rw [List.mem_singleton] at hb
        rw [hb]
        exact bl_lt s n a ha
theorem bl_len (s : Sea) : ∀ n, (bl s n).length ≤ n
  | 0 => Nat.le_refl _
  | n + 1 => by
    have := bl_len s n
    rw [bl, List.length_append]
    split <;> simp <;> omega
def keyOf (k : Nat × Nat) : List Int := [(k.1 : Int), (k.2 : Int)]
abbrev btOf (L : List (Nat × Nat)) (i j : Nat) : Bool := HT.lexLt ((L.map keyOf).getD i []) ((L.map keyOf).getD j [])
theorem bt_eq {L : List (Nat × Nat)} (hs : L.Pairwise fun a b => a.2 < b.2) {i j : Nat} {x y : Nat × Nat} (hij : j < i) (hx : L[i]? = some x) (hy : L[j]? = some y) : btOf L i j = decide (x.1 < y.1) := by
  have ex : (L.map keyOf).getD i [] = keyOf x := by rw [List.getD_eq_getElem?_getD, List.getElem?_map, hx]; rfl
  have ey : (L.map keyOf).getD j [] = keyOf y := by rw [List.getD_eq_getElem?_getD, List.getElem?_map, hy]; rfl
  have hlt : y.2 < x.2 := by
    obtain ⟨h1, e1⟩ := List.getElem?_eq_some_iff.mp hx
    obtain ⟨h2, e2⟩ := List.getElem?_eq_some_iff.mp hy
    rw [← e1, ← e2]
    exact List.pairwise_iff_getElem.mp hs j i h2 h1 hij
  unfold btOf
  rw [ex, ey]
  unfold keyOf
  rw [HT.lexLt_cons, HT.lexLt_cons, HT.lexLt_nil_nil]
  by_cases h : x.1 = y.1
  · rw [if_pos (by omega), if_neg (by omega)]
    rw [decide_eq_false (by omega), decide_eq_false (by omega)]
  · rw [if_neg (by omega)]
    rw [Bool.eq_iff_iff]
    simp only [decide_eq_true_eq]
    omega
theorem best {L : List (Nat × Nat)} (hs : L.Pairwise fun a b => a.2 < b.2) : ∀ k, k < L.length → ∃ x, L[argBest (btOf L) k]? = some x ∧ argBest (btOf L) k ≤ k ∧ (L.take (k + 1)).foldl st2 none = some (x.2, x.1)
  | 0, h => by
    refine ⟨L[0], List.getElem?_eq_getElem h, Nat.le_refl _, ?_⟩
    rw [List.take_add_one, List.getElem?_eq_getElem h]
    rfl
  | k + 1, h => by
    obtain ⟨y, hy, hle, ih⟩ := best hs k (by omega)
    have hx : L[k + 1]? = some L[k + 1] := List.getElem?_eq_getElem h
    have e : L.take (k + 1 + 1) = L.take (k + 1) ++ [L[k + 1]] := by rw [List.take_add_one, hx]; rfl
    have hb := bt_eq hs (i := k + 1) (j := argBest (btOf L) k) (by omega) hx hy
    rw [e, List.foldl_append, ih]
    show ∃ x, L[if btOf L (k + 1) (argBest (btOf L) k) = true then k + 1 else argBest (btOf L) k]? = some x ∧ (if btOf L (k + 1) (argBest (btOf L) k) = true then k + 1 else argBest (btOf L) k) ≤ k + 1 ∧ (if L[k + 1].1 < y.1 then some (L[k + 1].2, L[k + 1].1) else some (y.2, y.1)) = some (x.2, x.1)
    rw [hb]
    by_cases q : L[k + 1].1 < y.1
    · rw [if_pos (decide_eq_true q), if_pos q]
      exact ⟨_, hx, Nat.le_refl _, rfl⟩
    · rw [if_neg (by simpa using q), if_neg q]
      exact ⟨y, hy, by omega, rfl⟩
section
variable {P : Program} {w : World} {K : PySem.W.Frag} {mg : Str → Option Value} {base : Heap} {C : Cs}
local macro_rules | `(tactic| walk_at "f") => `(tactic| refine ⟨_, _, _, _, _, rfl, by assumption, by assumption, (by first | exact Txt.nw (by assumption) _ (by decide +kernel) | exact Txt.nh (by assumption) _ (by decide +kernel) | exact Txt.np (by assumption) _ (by decide +kernel)), by rfl, ?_⟩)
local macro_rules | `(tactic| walk_at "r") => `(tactic| repeat (first | refine ⟨_, rfl, ?_⟩ | walk_at "f" | refine ⟨_, _, rfl, rfl, ?_⟩ | refine ⟨rfl, ?_⟩))
abbrev s_look_at_sums : Stmt := top 64
theorem sc_look_at_sums : FnScope ["world", "aboard", "heli", "waiting", "place"] ["world"] (defScope s_look_at_sums) := ⟨rfl, rfl, rfl, by decide +kernel, rfl, by decide +kernel, by decide +kernel⟩
def sp_look_at_sums (C : Cs) : Sp := fun vs H Q _ => ∃ (A : Adr) (s : Sea), vs = [.ref A.w] ∧ WorldAt C H A s ∧ SeaOk s ∧ Told H Q s .sums
theorem ok_look_at_sums (T : Txt K mg C) (F : Has K mg "look_at_sums" s_look_at_sums ["world"]) : Can P w K mg base 1 "look_at_sums" ["world"] (sp_look_at_sums C) := by
  refine can_of F sc_look_at_sums (fun vs H Q E h => ?_) (fun f cdv A0 outer s0 H vs Q E hr h => ?_)
  · obtain ⟨A, s, rfl, _⟩ := h
    rfl
  · obtain ⟨A, s, rfl, W, ok, k⟩ := h
    refine ⟨_, (pss_cons (ps_set (i := 1) sc_look_at_sums.nd rfl (Or.inl rfl) (pe_callB (call_sumL rfl) (by rfl) T.sum PyProof.Rows.boot_sum (pa_cons (pe_lc (g := (gName 2)) (tt := tYes) (te := (tFld K (tVar 2) "aboard")) rfl sc_look_at_sums.nd (pi_list (pe_fld (pv 0) rfl)) (blkOk_by (own := [("heli", 2)]) (by show blkC ["world", "aboard", "heli", "waiting", "place"] (defScope s_look_at_sums) _ [("heli", 2)] = true; decide +kernel)) (by intro _ _ _ _ _; exact (pg_name (i := 2) sc_look_at_sums.nd rfl (Or.inl rfl))) (by intro _ _ _ _ _; exact pts_nil) (by intro _ _ _ _ _; exact (pe_fld (pv 2) rfl))) pa_nil)))
      (pss_cons (ps_set (i := 3) sc_look_at_sums.nd rfl (Or.inl rfl) (pe_callB (call_sumL rfl) (by rfl) T.sum PyProof.Rows.boot_sum (pa_cons (pe_lc (g := (gName 4)) (tt := tYes) (te := (tFld K (tVar 4) "waiting")) rfl sc_look_at_sums.nd (pi_list (pe_fld (pv 0) rfl)) (blkOk_by (own := [("place", 4)]) (by show blkC ["world", "aboard", "heli", "waiting", "place"] (defScope s_look_at_sums) _ [("place", 4)] = true; decide +kernel)) (by intro _ _ _ _ _; exact (pg_name (i := 4) sc_look_at_sums.nd rfl (Or.inl rfl))) (by intro _ _ _ _ _; exact pts_nil) (by intro _ _ _ _ _; exact (pe_fld (pv 4) rfl))) pa_nil)))
      (pss_one (ps_ret (pe_lst (pa_cons (pe_fld (pv 0) rfl) (pa_cons (pv 1) (pa_cons (pv 3) pa_nil)))))))), ?_⟩
    have tw := T.cw
    have th := T.ch
    have tp := T.cp
    obtain ⟨dw, hw⟩ := W.w
    walk_at "r"
    refine ⟨⟨_, SqL.of W.lh⟩, fun D hD => ?_⟩
    refine lc_list (K := K) (a := A.lh) (xs := A.hs.map V.ref) (fun i H' => Same H H' ∧ H' D = some (.lst ((s.helis.take i).map fun x => V.int (x.in_ : Nat)))) ⟨same_new hD, upd_same⟩ (fun i H' _ h => SqL.of (h.1 _ _ W.lh)) ?_ ?_
    · rintro i y H' hi ⟨S', hacc⟩
      rw [List.getElem?_map] at hi
      cases ea : A.hs[i]? with
      | none => rw [ea] at hi; cases hi
      | some a =>
        rw [ea] at hi
        cases hi
        obtain ⟨x, hx, dh, hh⟩ := W.hat i a ea
        have hh' := S' _ _ hh
        refine ⟨rfl, ?_⟩
        walk_at "r"
        refine ⟨_, hacc, ?_, ?_, ?_⟩
        · rw [List.length_map, List.length_take]
          have := ok.nh
          exact Nat.lt_of_le_of_lt (show min i s.helis.length ≤ 3 by omega) (by decide)
        · intro b o e'
          rw [upd_ne (ne_of_none e' hD)]
          exact S' _ _ e'
        · rw [upd_same, take_succ_of hx, List.map_append]
          rfl
    · rintro H1 ⟨S1, h1⟩
      rw [List.length_map, W.nh, List.take_length] at h1
      have hw1 := S1 _ _ hw
      refine ⟨D, (s.helis.map fun x => x.in_).map fun (n : Nat) => (n : Int), rfl, SqL.of (by rw [List.map_map, List.map_map]; exact h1), ?_⟩
      rw [sum_all]
      walk_at "r"
      refine ⟨⟨_, SqL.of (S1 _ _ W.lp)⟩, fun D2 hD2 => ?_⟩
      refine lc_list (K := K) (a := A.lp) (xs := A.ps.map V.ref) (fun i H' => Same H1 H' ∧ H' D2 = some (.lst ((s.places.take i).map fun x => V.int (x.persons : Nat)))) ⟨same_new hD2, upd_same⟩ (fun i H' _ h => SqL.of (h.1 _ _ (S1 _ _ W.lp))) ?_ ?_
      · rintro i y H' hi ⟨S', hacc⟩
        rw [List.getElem?_map] at hi
        cases ea : A.ps[i]? with
        | none => rw [ea] at hi; cases hi
        | some a =>
          rw [ea] at hi
          cases hi
          obtain ⟨x, hx, dh, hh⟩ := W.pat i a ea
          have hh' := S' _ _ (S1 _ _ hh)
          refine ⟨rfl, ?_⟩
          walk_at "r"
          refine ⟨_, hacc, ?_, ?_, ?_⟩
          · rw [List.length_map, List.length_take]
            have := ok.np
            exact Nat.lt_of_le_of_lt (show min i s.places.length ≤ 6 by omega) (by decide)
          · intro b o e'
            rw [upd_ne (ne_of_none e' hD2)]
            exact S' _ _ e'
          · rw [upd_same, take_succ_of hx, List.map_append]
            rfl
      · rintro H2 ⟨S2, h2⟩
        rw [List.length_map, W.np, List.take_length] at h2
        have hw2 := S2 _ _ hw1
        refine ⟨D2, (s.places.map fun x => x.persons).map fun (n : Nat) => (n : Int), rfl, SqL.of (by rw [List.map_map, List.map_map]; exact h2), ?_⟩
        rw [sum_all]
        walk_at "r"
        exact k.end_ (S1.trans S2) (by simp [ans, one, Km446.act, told]) (by simp)
theorem heli_get {s : Sea} {h : Nat} {x : Heli} (hx : s.helis[h]? = some x) : s.heli h = x := by
  unfold Km446.Sea.heli
  rw [List.getD_eq_getElem?_getD, hx]
  rfl
/-- the pairs of the busy ones, each a tuple of the heap -/
def Pairs (H : Hp) (ps : List Addr) (L : List (Nat × Nat)) : Prop := ps.length = L.length ∧ ∀ (j : Nat) (p : Addr) (k : Nat × Nat), ps[j]? = some p → L[j]? = some k → H p = some (.tup [.int k.1, .int k.2])
theorem Pairs.snoc {H H' : Hp} {ps : List Addr} {L : List (Nat × Nat)} {p : Addr} {k : Nat × Nat} (h : Pairs H ps L) (e : ∀ q xs, H q = some (.tup xs) → H' q = some (.tup xs)) (hp : H' p = some (.tup [.int k.1, .int k.2])) : Pairs H' (ps ++ [p]) (L ++ [k]) := by
  refine ⟨by rw [List.length_append, List.length_append, h.1]; rfl, fun j q x hq hx => ?_⟩
  by_cases hj : j < ps.length
  · rw [List.getElem?_append_left hj] at hq
    rw [List.getElem?_append_left (by rw [← h.1]; exact hj)] at hx
    exact e _ _ (h.2 j q x hq hx)
  · rw [List.getElem?_append_right (by omega)] at hq
    rw [List.getElem?_append_right (by rw [← h.1]; omega), ← h.1] at hx
    cases hz : j - ps.length with
    | succ n => rw [hz] at hq; simp at hq
    | zero =>
      rw [hz] at hq hx
      cases hq
      cases hx
      exact hp
theorem Pairs.keep {H H' : Hp} {ps : List Addr} {L : List (Nat × Nat)} (h : Pairs H ps L) (e : ∀ q xs, H q = some (.tup xs) → H' q = some (.tup xs)) : Pairs H' ps L := ⟨h.1, fun j p k hp hk => e _ _ (h.2 j p k hp hk)⟩
abbrev s_look_who_is_next : Stmt := top 63
theorem sc_look_who_is_next : FnScope ["world", "busy", "h", "heli", "first"] ["world"] (defScope s_look_who_is_next) := ⟨rfl, rfl, rfl, by decide +kernel, rfl, by decide +kernel, by decide +kernel⟩
def sp_look_who_is_next (C : Cs) : Sp := fun vs H Q _ => ∃ (A : Adr) (s : Sea), vs = [.ref A.w] ∧ WorldAt C H A s ∧ SeaOk s ∧ Told H Q s .next
theorem ok_look_who_is_next (T : Txt K mg C) (F : Has K mg "look_who_is_next" s_look_who_is_next ["world"]) : Can P w K mg base 1 "look_who_is_next" ["world"] (sp_look_who_is_next C) := by
  refine can_of F sc_look_who_is_next (fun vs H Q E h => ?_) (fun f cdv A0 outer s0 H vs Q E hr h => ?_)
  · obtain ⟨A, s, rfl, _⟩ := h
    rfl
  · obtain ⟨A, s, rfl, W, ok, k⟩ := h
    refine ⟨_, (pss_cons (ps_setLc (i := 1) (g := (gTup K 2 (gCons (gName 2) (gCons (gName 3) gNil)))) (tt := (tTest (tOp (rI0 fun i j => .bl (decide (j < i))) (tFld K (tVar 3) "busy") (tC (.int 0))))) (te := (tTup (tCons (tFld K (tVar 3) "busy") (tCons (tVar 2) tNil)))) rfl sc_look_who_is_next.nd rfl rfl (sw_true rfl rfl rfl rfl) (pi_enum (by rfl) T.enumerate (pa_cons (pe_fld (pv 0) rfl) pa_nil)) (blkOk_by (own := [("h", 2), ("heli", 3)]) (by show blkC ["world", "busy", "h", "heli", "first"] (defScope s_look_who_is_next) _ [("h", 2), ("heli", 3)] = true; decide +kernel)) (by intro _ _ _ _ _; exact (pg_tup rfl (pgs_cons (pg_name (i := 2) sc_look_who_is_next.nd rfl (Or.inl rfl)) (pgs_cons (pg_name (i := 3) sc_look_who_is_next.nd rfl (Or.inl rfl)) pgs_nil)))) (by intro _ _ _ _ _; exact (pts_one (pt_cmpR op_gt (pe_fld (pv 3) rfl) pe_int (nomark _)))) (by intro _ _ _ _ _; exact (pe_tup (pa_cons (pe_fld (pv 3) rfl) (pa_cons (pv 2) pa_nil)))))
      (pss_cons (ps_if (pt_cmpR op_eq (pe_callB call_len_seq (by rfl) T.len PySem.boot_len (pa_cons (pv 1) pa_nil)) pe_int (nomark _)) (pss_one (ps_ret (pe_lst (pa_cons (pe_gint (T.gi ("NONE_BUSY", (-6)) (by decide +kernel))) pa_nil)))) pss_nil)
      (pss_cons (ps_set (i := 4) sc_look_who_is_next.nd rfl (Or.inl rfl) (pe_callB (call_min1 rfl (hu_of hr)) (by rfl) T.min PyProof.Rows.boot_min (pa_cons (pv 1) pa_nil)))
      (pss_one (ps_ret (pe_lst (pa_cons (pe_ix ix_tup (pv 4) pe_int (fun _ _ => rfl)) (pa_cons (pe_ix ix_tup (pv 4) pe_int (fun _ _ => rfl)) pa_nil)))))))), ?_⟩
    have tw := T.cw
    have th := T.ch
    obtain ⟨dw, hw⟩ := W.w
    walk_at "r"
    refine ⟨_, _, rfl, SqL.of W.lh, fun D hD => ?_⟩
    refine lc_enum (K := K) (a := A.lh) (xs := A.hs.map V.ref) (fun i H' => Same H H' ∧ ∃ ps : List Addr, H' D = some (.lst (ps.map V.ref)) ∧ Pairs H' ps (bl s i)) ⟨same_new hD, [], upd_same, rfl, fun j p k' h => by simp at h⟩ (fun i H' _ h => SqL.of (h.1 _ _ W.lh)) ?_ ?_
    · rintro i x H' T0 hx ⟨h1, ps, h2, h3⟩ hT
      rw [List.getElem?_map] at hx
      cases ea : A.hs[i]? with
      | none => rw [ea] at hx; cases hx
      | some a =>
        rw [ea] at hx
        cases hx
        obtain ⟨y, hy, dy, hh⟩ := W.hat i a ea
        have eb : (s.heli i).busy = y.busy := by rw [heli_get hy]
        have hh' : (upd H' T0 (.tup [.int (i : Nat), .ref a])) a = some (.ins C.h dy (hf y)) := same_new hT _ _ (h1 _ _ hh)
        have hD' : (upd H' T0 (.tup [.int (i : Nat), .ref a])) D = _ := same_new hT _ _ h2
        have hi3 : i < 4 := by
          have := (List.getElem?_eq_some_iff.mp ea).1
          have := W.nh
          have := ok.nh
          omega
        refine ⟨_, _, rfl, SqT.of upd_same, rfl, _, _, rfl, _, _, rfl, rfl, rfl, ?_⟩
        walk_at "r"
        refine ite2 (fun e => ?_) (fun e => ?_)
        · have e : y.busy ≠ 0 := by simp at e; omega
          walk_at "r"
          refine ⟨(by show 2 ≤ sizeLine; decide), fun p hp => ?_⟩
          have hpD : D ≠ p := ne_of_none hD' hp
          refine ⟨ps.map V.ref, by rw [upd_ne hpD]; exact hD', ?_, ?_, ps ++ [p], ?_, ?_⟩
          · rw [List.length_map, h3.1]
            exact Nat.lt_of_le_of_lt (bl_len s i) (Nat.lt_of_lt_of_le hi3 (by decide))
          · intro b o e'
            rw [upd_ne (ne_of_none e' hD)]
            exact same_new hp _ _ (same_new hT _ _ (h1 _ _ e'))
          · rw [upd_same, List.map_append]
            rfl
          · rw [bl, eb, if_neg e]
            refine h3.snoc (fun q xs hq => ?_) ?_
            · have nq : q ≠ D := fun z => by rw [z, h2] at hq; cases hq
              rw [upd_ne nq]
              exact same_new hp _ _ (same_new hT _ _ hq)
            · rw [upd_ne (Ne.symm hpD), upd_same]
        · have e : y.busy = 0 := by simp at e; omega
          refine ⟨fun b o e' => same_new hT _ _ (h1 _ _ e'), ps, hD', ?_⟩
          rw [bl, eb, if_pos e, List.append_nil]
          exact h3.keep fun q xs hq => same_new hT _ _ hq
    · rintro H1 ⟨S1, ps, h2, h3⟩
      rw [List.length_map, W.nh] at h3
      have efold : (List.range s.helis.length).foldl (nx s) none = (bl s s.helis.length).foldl st2 none := nx_fold s _
      have eans : ans s .next = (match (bl s s.helis.length).foldl st2 none with | none => Km446.only (-6) | some x => ⟨((x.1 : Nat) : Int), [x.2]⟩) := by
        rw [← efold]
        rfl
      have hsrt := bl_sorted s s.helis.length
      generalize bl s s.helis.length = L at *
      walk_at "r"
      refine ⟨_, _, rfl, .inl (SqL.of h2), ?_⟩
      walk_at "r"
      refine ite2 (fun e => ?_) (fun e => ?_)
      · have e : L = [] := by
          rw [List.length_map, h3.1] at e
          cases L with
          | nil => rfl
          | cons a b => simp at e; omega
        subst e
        exact k.end_ S1 (by rw [eans]; rfl) (by simp)
      · have hpos : 0 < L.length := by
          cases L with
          | nil =>
            have h0 : ps = [] := List.eq_nil_of_length_eq_zero h3.1
            subst h0
            exact absurd rfl e
          | cons a b => simp
        obtain ⟨x, hx, hle, hf⟩ := best hsrt (L.length - 1) (by omega)
        rw [Nat.sub_add_cancel hpos, List.take_length] at hf
        walk_at "r"
        refine ⟨D, ps, L.map keyOf, rfl, SqL.of h2, by rw [List.length_map]; exact h3.1, by rw [List.length_map]; exact hpos, fun i p kk hp hk => ?_, fun p hp => ?_⟩
        · rw [List.getElem?_map] at hk
          cases el : L[i]? with
          | none => rw [el] at hk; cases hk
          | some z =>
            rw [el] at hk
            cases hk
            exact SqT.of (h3.2 i p z hp el)
        · rw [List.length_map] at hp
          have ht := h3.2 _ p x hp hx
          walk_at "r"
          refine ⟨_, _, _, _, rfl, rfl, SqT.of ht, (by rfl), ?_⟩
          walk_at "r"
          refine ⟨_, _, _, _, rfl, rfl, SqT.of ht, (by rfl), ?_⟩
          exact k.end_ S1 (by rw [eans, hf]; rfl) (by simp)
end
end Hf
end
section
set_option Elab.async false
set_option linter.all false
set_option maxRecDepth 100000
set_option maxHeartbeats 2000000
namespace Hf
open PySem PySem.Spec PyProof.Rows L2
open Km446 (Sea Heli Desk Ans)
/-! ## the hashes of the ways' keys -/
def h2 (a b : Nat) : Int := reduceHash (Builtin.Tuple.tupleHashOf [hashInt (a : Int), hashInt (b : Int)])
theorem h2_fin : ∀ a b c d : Fin 6, h2 a.val b.val = h2 c.val d.val → a = c ∧ b = d := by decide +kernel
theorem h2_inj (a : Nat) (ha : a < 6) (b : Nat) (hb : b < 6) (c : Nat) (hc : c < 6) (d : Nat) (hd : d < 6) (h : h2 a b = h2 c d) : a = c ∧ b = d := by
  obtain ⟨h1, h2⟩ := h2_fin ⟨a, ha⟩ ⟨b, hb⟩ ⟨c, hc⟩ ⟨d, hd⟩ h
  exact ⟨congrArg Fin.val h1, congrArg Fin.val h2⟩
theorem hash_key (P : Program) (w : World) (a b : Nat) : (tupleKind (mixKind P w)).hash (wkey a b) = h2 a b := rfl
theorem nodup_map_on {α β : Type} (f : α → β) : ∀ (l : List α), l.Nodup → (∀ x ∈ l, ∀ y ∈ l, f x = f y → x = y) → (l.map f).Nodup
  | [], _, _ => List.nodup_nil
  | x :: l, h, k => by
    rw [List.nodup_cons] at h
    rw [List.map_cons, List.nodup_cons]
    refine ⟨fun m => ?_, nodup_map_on f l h.2 fun a ha b hb => k a (List.mem_cons_of_mem _ ha) b (List.mem_cons_of_mem _ hb)⟩
    obtain ⟨y, hy, e⟩ := List.mem_map.mp m
    have := k y (List.mem_cons_of_mem _ hy) x List.mem_cons_self e
    rw [← this] at h
    exact h.1 hy
theorem WaysIn.hashes {kvs : List (List Key × V)} {ways : Nat → Nat → Nat} (h : WaysIn kvs ways) (P : Program) (w : World) : (kvs.map fun p => (tupleKind (mixKind P w)).hash p.1).Nodup := by
  have e : (kvs.map fun p => (tupleKind (mixKind P w)).hash p.1) = (kvs.map (·.1)).map (fun k => (tupleKind (mixKind P w)).hash k) := by rw [List.map_map]; rfl
  rw [e]
  refine nodup_map_on _ _ h.nd fun x hx y hy q => ?_
  obtain ⟨a, b, ha, hb, rfl⟩ := h.ks x hx
  obtain ⟨c, d, hc, hd, rfl⟩ := h.ks y hy
  rw [hash_key, hash_key] at q
  obtain ⟨rfl, rfl⟩ := h2_inj a ha b hb c hc d hd q
  rfl
/-! ## copies -/
structure Copies {α : Type} (c : Addr) (fl : α → List (Str × V)) (H0 H' : Hp) (D : Addr) (l : List α) (i : Nat) (qs : List Addr) : Prop where
  same : Same H0 H'
  lst : H' D = some (.lst (qs.map V.ref))
  len : qs.length = i
  nd : qs.Nodup
  at_ : ∀ (j : Nat) (a : Addr), qs[j]? = some a → ∃ x, l[j]? = some x ∧ ∃ dx, H' a = some (.ins c dx (fl x))
  new : ∀ a ∈ qs, H0 a = none
theorem Copies.none {α : Type} {c : Addr} {fl : α → List (Str × V)} {H0 : Hp} {D : Addr} {l : List α} (hD : H0 D = Option.none) : Copies c fl H0 (upd H0 D (.lst [])) D l 0 [] :=
  ⟨same_new hD, upd_same, rfl, List.nodup_nil, fun j a h => by simp at h, fun a h => by cases h⟩
theorem Copies.snoc {α : Type} {c : Addr} {fl : α → List (Str × V)} {H0 H' H2 : Hp} {D p : Addr} {l : List α} {i : Nat} {qs : List Addr} {x : α} (h : Copies c fl H0 H' D l i qs) (hD : H0 D = Option.none) (S2 : Same H' H2) (hp : H' p = Option.none) (hx : l[i]? = some x)
    (hpl : ∃ dx, H2 p = some (.ins c dx (fl x))) : Copies c fl H0 (upd H2 D (.lst (qs.map V.ref ++ [V.ref p]))) D l (i + 1) (qs ++ [p]) := by
  have hpD : p ≠ D := fun e => by rw [e, h.lst] at hp; cases hp
  refine ⟨fun b o e => ?_, ?_, ?_, ?_, fun j a ha => ?_, fun a ha => ?_⟩
  · rw [upd_ne (ne_of_none e hD)]
    exact S2 _ _ (h.same _ _ e)
  · rw [upd_same, List.map_append]; rfl
  · rw [List.length_append, h.len]; rfl
  · refine nd_snoc h.nd fun m => ?_
    obtain ⟨j, hj⟩ := List.mem_iff_getElem?.mp m
    obtain ⟨_, _, dx, e⟩ := h.at_ j p hj
    rw [hp] at e
    cases e
  · by_cases hj : j < qs.length
    · rw [List.getElem?_append_left hj] at ha
      obtain ⟨y, hy, dx, e⟩ := h.at_ j a ha
      refine ⟨y, hy, dx, ?_⟩
      have na : a ≠ D := fun z => by rw [z, h.lst] at e; cases e
      rw [upd_ne na]
      exact S2 _ _ e
    · rw [List.getElem?_append_right (by omega)] at ha
      cases hz : j - qs.length with
      | succ n => rw [hz] at ha; simp at ha
      | zero =>
        rw [hz] at ha
        cases ha
        obtain ⟨dx, e⟩ := hpl
        have ej : j = i := by rw [← h.len]; omega
        rw [ej]
        exact ⟨x, hx, dx, by rw [upd_ne hpD]; exact e⟩
  · rcases List.mem_append.mp ha with m | m
    · exact h.new a m
    · rw [List.mem_singleton] at m
      rw [m]
      exact h.same.free hp
/-- all but p stays -/
def SameBut (p : Addr) (H H' : Hp) : Prop := ∀ b o, b ≠ p → H b = some o → H' b = some o
theorem SameBut.upd {p : Addr} {H H' : Hp} (h : SameBut p H H') {o : HO} : SameBut p H (L2.upd H' p o) := fun b u n e => by rw [upd_ne n]; exact h b u n e
theorem SameBut.more {p : Addr} {H H' H2 : Hp} (h : SameBut p H H') (e : Same H' H2) : SameBut p H H2 := fun b u n q => e _ _ (h b u n q)
theorem SameBut.of {p : Addr} {H H' : Hp} (e : Same H H') : SameBut p H H' := fun b u _ q => e _ _ q
theorem SameBut.all {p : Addr} {H H' : Hp} (h : SameBut p H H') (n : H p = none) : Same H H' := fun b o e => h b o (ne_of_none e n) e
section
variable {P : Program} {w : World} {K : PySem.W.Frag} {mg : Str → Option Value} {base : Heap} {C : Cs}
local macro_rules | `(tactic| walk_at "f") => `(tactic| refine ⟨_, _, _, _, _, rfl, by assumption, by assumption, (by first | exact Txt.nw (by assumption) _ (by decide +kernel) | exact Txt.nh (by assumption) _ (by decide +kernel) | exact Txt.np (by assumption) _ (by decide +kernel)), by rfl, ?_⟩)
local macro_rules | `(tactic| walk_at "r") => `(tactic| repeat (first | refine ⟨_, rfl, ?_⟩ | walk_at "f" | refine ⟨_, _, rfl, rfl, ?_⟩ | refine ⟨rfl, ?_⟩))
abbrev s_copy_of_place : Stmt := top 23
theorem sc_copy_of_place : FnScope ["place", "copied"] ["place"] (defScope s_copy_of_place) := ⟨rfl, rfl, rfl, by decide +kernel, rfl, by decide +kernel, by decide +kernel⟩
def sp_copy_of_place (C : Cs) : Sp := fun vs H Q _ => ∃ (a : Addr) (x : KPlace), vs = [.ref a] ∧ PlaceAt C H a x ∧ ∀ H' p, Same H H' → H p = none → PlaceAt C H' p x → Q (.ref p) H'
theorem ok_copy_of_place (T : Txt K mg C) (F : Has K mg "copy_of_place" s_copy_of_place ["place"]) (c_Place : Makes P w K mg base 1 "Place" C.p ["self", "is_base", "waiting"] (sp_Place C)) : Can P w K mg base 3 "copy_of_place" ["place"] (sp_copy_of_place C) := by
  refine can_of F sc_copy_of_place (fun vs H Q E h => ?_) (fun f cdv A0 outer s0 H vs Q E hr h => ?_)
  · obtain ⟨a, x, rfl, _⟩ := h
    rfl
  · obtain ⟨a, x, rfl, ⟨dp, hpl⟩, k⟩ := h
    refine ⟨_, (pss_cons (ps_set (i := 1) sc_copy_of_place.nd rfl (Or.inl rfl) (pe_makes c_Place hr (by decide) (pa_cons (pe_fld (pv 0) rfl) (pa_cons (pe_fld (pv 0) rfl) pa_nil))))
      (pss_cons (ps_fld (pv 1) (pe_fld (pv 0) rfl) rfl)
      (pss_one (ps_ret (pv 1))))), ?_⟩
    have tp := T.cp
    walk_at "r"
    intro p dx np nd ne
    refine ⟨p, dx, x.base, x.persons, rfl, upd_same, rfl, ?_⟩
    have S1 : Same H (upd (upd H dx (.own p)) p (.ins C.p dx (pf ⟨x.base, x.base, x.persons⟩))) := fun b o e => by rw [upd_ne (ne_of_none e np), upd_ne (ne_of_none e nd)]; exact e
    refine swapH (R := tSeq _ _ _ _) (show _ = upd (upd H dx (.own p)) p (.ins C.p dx (pf ⟨x.base, x.base, x.persons⟩)) from upd_upd) ?_
    have hpl1 := S1 _ _ hpl
    have hp1 : (upd (upd H dx (.own p)) p (.ins C.p dx (pf ⟨x.base, x.base, x.persons⟩))) p = some (.ins C.p dx (pf ⟨x.base, x.base, x.persons⟩)) := upd_same
    generalize upd (upd H dx (.own p)) p (.ins C.p dx (pf ⟨x.base, x.base, x.persons⟩)) = H1 at *
    walk_at "r"
    refine ⟨p, C.p, dx, _, rfl, hp1, tp, T.np _ (by decide +kernel), (by show 3 < 1000; decide), ?_⟩
    walk_at "r"
    refine k _ p (fun b o e => ?_) np ⟨dx, upd_same⟩
    rw [upd_ne (ne_of_none e np)]
    exact S1 _ _ e
abbrev s_copy_of_helicopter : Stmt := top 24
theorem sc_copy_of_helicopter : FnScope ["heli", "copied"] ["heli"] (defScope s_copy_of_helicopter) := ⟨rfl, rfl, rfl, by decide +kernel, rfl, by decide +kernel, by decide +kernel⟩
def sp_copy_of_helicopter (C : Cs) : Sp := fun vs H Q _ => ∃ (a : Addr) (x : Heli), vs = [.ref a] ∧ HeliAt C H a x ∧ ∀ H' p, Same H H' → H p = none → HeliAt C H' p x → Q (.ref p) H'
theorem ok_copy_of_helicopter (T : Txt K mg C) (F : Has K mg "copy_of_helicopter" s_copy_of_helicopter ["heli"]) (c_Helicopter : Makes P w K mg base 1 "Helicopter" C.h ["self", "place", "tank", "burn", "hover", "seats", "winch"] (sp_Helicopter C)) : Can P w K mg base 3 "copy_of_helicopter" ["heli"] (sp_copy_of_helicopter C) := by
  refine can_of F sc_copy_of_helicopter (fun vs H Q E h => ?_) (fun f cdv A0 outer s0 H vs Q E hr h => ?_)
  · obtain ⟨a, x, rfl, _⟩ := h
    rfl
  · obtain ⟨a, x, rfl, ⟨dh, hh⟩, k⟩ := h
    refine ⟨_, (pss_cons (ps_set (i := 1) sc_copy_of_helicopter.nd rfl (Or.inl rfl) (pe_makes c_Helicopter hr (by decide) (pa_cons (pe_fld (pv 0) rfl) (pa_cons (pe_fld (pv 0) rfl) (pa_cons (pe_fld (pv 0) rfl) (pa_cons (pe_fld (pv 0) rfl) (pa_cons (pe_fld (pv 0) rfl) (pa_cons (pe_fld (pv 0) rfl) pa_nil))))))))
      (pss_cons (ps_fld (pv 1) (pe_fld (pv 0) rfl) rfl)
      (pss_cons (ps_fld (pv 1) (pe_fld (pv 0) rfl) rfl)
      (pss_cons (ps_fld (pv 1) (pe_fld (pv 0) rfl) rfl)
      (pss_one (ps_ret (pv 1))))))), ?_⟩
    have th := T.ch
    walk_at "r"
    intro p dx np nd ne
    refine ⟨p, dx, x.place, x.tank, x.burn, x.hover, x.seats, x.winch, rfl, upd_same, rfl, ?_⟩
    have S1 : Same H (upd (upd H dx (.own p)) p (.ins C.h dx (hf ⟨x.place, 0, x.tank, x.tank, x.burn, x.hover, x.seats, 0, x.winch⟩))) := fun b o e => by rw [upd_ne (ne_of_none e np), upd_ne (ne_of_none e nd)]; exact e
    refine swapH (R := tSeq _ _ _ _) (show _ = upd (upd H dx (.own p)) p (.ins C.h dx (hf ⟨x.place, 0, x.tank, x.tank, x.burn, x.hover, x.seats, 0, x.winch⟩)) from upd_upd) ?_
    have hh1 := S1 _ _ hh
    have hp1 : (upd (upd H dx (.own p)) p (.ins C.h dx (hf ⟨x.place, 0, x.tank, x.tank, x.burn, x.hover, x.seats, 0, x.winch⟩))) p = some (.ins C.h dx (hf ⟨x.place, 0, x.tank, x.tank, x.burn, x.hover, x.seats, 0, x.winch⟩)) := upd_same
    have nap : a ≠ p := ne_of_none hh np
    generalize upd (upd H dx (.own p)) p (.ins C.h dx (hf ⟨x.place, 0, x.tank, x.tank, x.burn, x.hover, x.seats, 0, x.winch⟩)) = H1 at *
    walk_at "r"
    refine ⟨p, C.h, dx, _, rfl, hp1, th, T.nh _ (by decide +kernel), (by show 9 < 1000; decide), ?_⟩
    refine swapH (R := tSeq _ _ _ _) (show _ = upd H1 p (.ins C.h dx (hf ⟨x.place, 0, x.fuel, x.tank, x.burn, x.hover, x.seats, 0, x.winch⟩)) from rfl) ?_
    have hh2 : (upd H1 p (.ins C.h dx (hf ⟨x.place, 0, x.fuel, x.tank, x.burn, x.hover, x.seats, 0, x.winch⟩))) a = some (.ins C.h dh (hf x)) := by rw [upd_ne nap]; exact hh1
    have hp2 : (upd H1 p (.ins C.h dx (hf ⟨x.place, 0, x.fuel, x.tank, x.burn, x.hover, x.seats, 0, x.winch⟩))) p = _ := upd_same
    walk_at "r"
    refine ⟨p, C.h, dx, _, rfl, hp2, th, T.nh _ (by decide +kernel), (by show 9 < 1000; decide), ?_⟩
    refine swapH (R := tSeq _ _ _ _) (show _ = upd H1 p (.ins C.h dx (hf ⟨x.place, x.busy, x.fuel, x.tank, x.burn, x.hover, x.seats, 0, x.winch⟩)) from upd_upd) ?_
    have hh3 : (upd H1 p (.ins C.h dx (hf ⟨x.place, x.busy, x.fuel, x.tank, x.burn, x.hover, x.seats, 0, x.winch⟩))) a = some (.ins C.h dh (hf x)) := by rw [upd_ne nap]; exact hh1
    have hp3 : (upd H1 p (.ins C.h dx (hf ⟨x.place, x.busy, x.fuel, x.tank, x.burn, x.hover, x.seats, 0, x.winch⟩))) p = _ := upd_same
    walk_at "r"
    refine ⟨p, C.h, dx, _, rfl, hp3, th, T.nh _ (by decide +kernel), (by show 9 < 1000; decide), ?_⟩
    walk_at "r"
    refine k _ p (fun b o e => ?_) np ⟨dx, upd_same⟩
    rw [upd_ne (ne_of_none e np), upd_ne (ne_of_none e np)]
    exact S1 _ _ e
abbrev s_copy_of_world : Stmt := top 25
theorem sc_copy_of_world : FnScope ["world", "copied", "place", "heli"] ["world"] (defScope s_copy_of_world) := ⟨rfl, rfl, rfl, by decide +kernel, rfl, by decide +kernel, by decide +kernel⟩
/-- all that the copy is, is new -/
def sp_copy_of_world (C : Cs) : Sp := fun vs H Q _ => ∃ (A : Adr) (s : Sea), vs = [.ref A.w] ∧ WorldAt C H A s ∧ SeaOk s ∧ ∀ H' A', Same H H' → (∀ b ∈ A'.all, H b = none) → WorldAt C H' A' s → Q (.ref A'.w) H'
theorem ok_copy_of_world (T : Txt K mg C) (F : Has K mg "copy_of_world" s_copy_of_world ["world"]) (c_World : Makes P w K mg base 1 "World" C.w ["self", "reserve"] (sp_World C))
    (c_copy_of_place : Can P w K mg base 3 "copy_of_place" ["place"] (sp_copy_of_place C)) (c_copy_of_helicopter : Can P w K mg base 3 "copy_of_helicopter" ["heli"] (sp_copy_of_helicopter C)) : Can P w K mg base 4 "copy_of_world" ["world"] (sp_copy_of_world C) := by
  refine can_of F sc_copy_of_world (fun vs H Q E h => ?_) (fun f cdv A0 outer s0 H vs Q E hr h => ?_)
  · obtain ⟨A, s, rfl, _⟩ := h
    rfl
  · obtain ⟨A, s, rfl, W, ok, k⟩ := h
    refine ⟨_, (pss_cons (ps_set (i := 1) sc_copy_of_world.nd rfl (Or.inl rfl) (pe_makes c_World hr (by decide) (pa_cons (pe_fld (pv 0) rfl) pa_nil)))
      (pss_cons (ps_fld (pv 1) (pe_fld (pv 0) rfl) rfl)
      (pss_cons (ps_fld (pv 1) (pe_fld (pv 0) rfl) rfl)
      (pss_cons (ps_fld (pv 1) (pe_lc (g := (gName 2)) (tt := tYes) (te := (tCall (sp_copy_of_place C) [] E0 (tCons (tVar 2) tNil))) rfl sc_copy_of_world.nd (pi_list (pe_fld (pv 0) rfl)) (blkOk_by (own := [("place", 2)]) (by show blkC ["world", "copied", "place", "heli"] (defScope s_copy_of_world) _ [("place", 2)] = true; decide +kernel)) (by intro _ _ _ _ _; exact (pg_name (i := 2) sc_copy_of_world.nd rfl (Or.inl rfl))) (by intro _ _ _ _ _; exact pts_nil) (by intro _ _ _ _ _; exact (pe_can c_copy_of_place hr (by decide) (pa_cons (pv 2) pa_nil)))) rfl)
      (pss_cons (ps_fld (pv 1) (pe_callTy call_dictT (by rfl) T.dict PyProof.Rows.boot_dict (pa_cons (pe_fld (pv 0) rfl) pa_nil)) rfl)
      (pss_cons (ps_fld (pv 1) (pe_lc (g := (gName 3)) (tt := tYes) (te := (tCall (sp_copy_of_helicopter C) [] E0 (tCons (tVar 3) tNil))) rfl sc_copy_of_world.nd (pi_list (pe_fld (pv 0) rfl)) (blkOk_by (own := [("heli", 3)]) (by show blkC ["world", "copied", "place", "heli"] (defScope s_copy_of_world) _ [("heli", 3)] = true; decide +kernel)) (by intro _ _ _ _ _; exact (pg_name (i := 3) sc_copy_of_world.nd rfl (Or.inl rfl))) (by intro _ _ _ _ _; exact pts_nil) (by intro _ _ _ _ _; exact (pe_can c_copy_of_helicopter hr (by decide) (pa_cons (pv 3) pa_nil)))) rfl)
      (pss_one (ps_ret (pv 1))))))))), ?_⟩
    have tw := T.cw
    have th := T.ch
    have tp := T.cp
    obtain ⟨dw, hw⟩ := W.w
    obtain ⟨kvs, hd, hk⟩ := W.dw
    walk_at "r"
    intro p dx np nd ne
    have Sx : Same H (upd (upd H dx (.own p)) p (.ins C.w dx [])) := fun b o e => by rw [upd_ne (ne_of_none e np), upd_ne (ne_of_none e nd)]; exact e
    refine ⟨p, dx, s.reserve, rfl, upd_same, fun H1 A1 e1 W1 out1 new1 => ⟨rfl, ?_⟩⟩
    have S1 : Same H H1 := fun b o e => out1 b o (Sx b o e) (ne_of_none e np)
    obtain ⟨dx1, hp1⟩ := W1.w
    rw [e1] at hp1
    have hw1 := S1 _ _ hw
    have nwp : A.w ≠ p := ne_of_none hw np
    walk_at "r"
    refine ⟨p, C.w, dx1, _, rfl, hp1, tw, T.nw _ (by decide +kernel), (by show 6 < 1000; decide), ?_⟩
    refine swapH (R := tSeq _ _ _ _) (show _ = upd H1 p (.ins C.w dx1 (wf { Km446.opened s.reserve with time := s.time } A1)) from rfl) ?_
    have hw2 : (upd H1 p (.ins C.w dx1 (wf { Km446.opened s.reserve with time := s.time } A1))) A.w = some (.ins C.w dw (wf s A)) := by rw [upd_ne nwp]; exact hw1
    have hp2 : (upd H1 p (.ins C.w dx1 (wf { Km446.opened s.reserve with time := s.time } A1))) p = _ := upd_same
    walk_at "r"
    refine ⟨p, C.w, dx1, _, rfl, hp2, tw, T.nw _ (by decide +kernel), (by show 6 < 1000; decide), ?_⟩
    refine swapH (R := tSeq _ _ _ _) (show _ = upd H1 p (.ins C.w dx1 (wf { Km446.opened s.reserve with time := s.time, saved := s.saved } A1)) from upd_upd) ?_
    have S3 : Same H (upd H1 p (.ins C.w dx1 (wf { Km446.opened s.reserve with time := s.time, saved := s.saved } A1))) := fun b o e => by rw [upd_ne (ne_of_none e np)]; exact S1 _ _ e
    have hp3 : (upd H1 p (.ins C.w dx1 (wf { Km446.opened s.reserve with time := s.time, saved := s.saved } A1))) p = some (.ins C.w dx1 (wf { Km446.opened s.reserve with time := s.time, saved := s.saved } A1)) := upd_same
    generalize upd H1 p (.ins C.w dx1 (wf { Km446.opened s.reserve with time := s.time, saved := s.saved } A1)) = H3 at *
    have hw3 := S3 _ _ hw
    have W3 := W.same S3
    walk_at "r"
    refine ⟨⟨_, SqL.of W3.lp⟩, fun D hD => ?_⟩
    refine lc_list (K := K) (a := A.lp) (xs := A.ps.map V.ref) (fun i H' => ∃ qs, Copies C.p pf H3 H' D s.places i qs) ⟨[], Copies.none hD⟩ (fun i H' _ ⟨qs, h⟩ => SqL.of (h.same _ _ W3.lp)) ?_ ?_
    · rintro i y H' hi ⟨qs, cq⟩
      rw [List.getElem?_map] at hi
      cases ea : A.ps[i]? with
      | none => rw [ea] at hi; cases hi
      | some a =>
        rw [ea] at hi
        cases hi
        obtain ⟨x, hx, hpl⟩ := W3.pat i a ea
        refine ⟨rfl, ?_⟩
        walk_at "r"
        refine ⟨a, x, rfl, hpl.same cq.same, fun H2 q S2 hq hqx => ?_⟩
        refine ⟨_, S2 _ _ cq.lst, ?_, _, cq.snoc hD S2 hq hx hqx⟩
        rw [List.length_map, cq.len]
        have := (List.getElem?_eq_some_iff.mp ea).1
        have := W.np
        have := ok.np
        exact Nat.lt_of_lt_of_le (show i < 7 by omega) (by decide)
    · rintro H4 ⟨qs, cq⟩
      have hlen : (A.ps.map V.ref).length = s.places.length := by rw [List.length_map, W.np]
      rw [hlen] at cq
      have S4 := S3.trans cq.same
      have hp4 := cq.same _ _ hp3
      have nDp : D ≠ p := ne_of cq.lst hp4 (by intro z; cases z)
      have nqp : ∀ a ∈ qs, a ≠ p := fun a ha z => by
        have e := cq.new a ha
        rw [z, hp3] at e
        cases e
      walk_at "r"
      refine ⟨p, C.w, dx1, _, rfl, hp4, tw, T.nw _ (by decide +kernel), (by show 6 < 1000; decide), ?_⟩
      refine swapH (R := tSeq _ _ _ _) (show _ = upd H4 p (.ins C.w dx1 (wf { Km446.opened s.reserve with time := s.time, saved := s.saved } { A1 with lp := D })) from rfl) ?_
      have B5 : SameBut p H4 (upd H4 p (.ins C.w dx1 (wf { Km446.opened s.reserve with time := s.time, saved := s.saved } { A1 with lp := D }))) := (SameBut.of (Same.refl _)).upd
      have hp5 : (upd H4 p (.ins C.w dx1 (wf { Km446.opened s.reserve with time := s.time, saved := s.saved } { A1 with lp := D }))) p = some (.ins C.w dx1 (wf { Km446.opened s.reserve with time := s.time, saved := s.saved } { A1 with lp := D })) := upd_same
      generalize upd H4 p (.ins C.w dx1 (wf { Km446.opened s.reserve with time := s.time, saved := s.saved } { A1 with lp := D })) = H5 at *
      have S5 : Same H H5 := fun b o e => B5 b o (ne_of_none e np) (S4 _ _ e)
      have hw5 := S5 _ _ hw
      walk_at "r"
      refine ⟨A.dw, kvs, rfl, S5 _ _ hd, hk.hashes _ _, fun pd hpd => ?_⟩
      have hpd0 : H pd = none := S5.free hpd
      have npp : pd ≠ p := fun z => by rw [z, hp5] at hpd; cases hpd
      walk_at "r"
      refine ⟨p, C.w, dx1, _, rfl, (by rw [upd_ne (Ne.symm npp)]; exact hp5), tw, T.nw _ (by decide +kernel), (by show 6 < 1000; decide), ?_⟩
      refine swapH (R := tSeq _ _ _ _) (show _ = upd (upd H5 pd (.dT kvs)) p (.ins C.w dx1 (wf { Km446.opened s.reserve with time := s.time, saved := s.saved } { A1 with lp := D, dw := pd })) from rfl) ?_
      have B7 : SameBut p H5 (upd (upd H5 pd (.dT kvs)) p (.ins C.w dx1 (wf { Km446.opened s.reserve with time := s.time, saved := s.saved } { A1 with lp := D, dw := pd }))) := (SameBut.of (same_new hpd)).upd
      have hp7 : (upd (upd H5 pd (.dT kvs)) p (.ins C.w dx1 (wf { Km446.opened s.reserve with time := s.time, saved := s.saved } { A1 with lp := D, dw := pd }))) p = some (.ins C.w dx1 (wf { Km446.opened s.reserve with time := s.time, saved := s.saved } { A1 with lp := D, dw := pd })) := upd_same
      have hd7 : (upd (upd H5 pd (.dT kvs)) p (.ins C.w dx1 (wf { Km446.opened s.reserve with time := s.time, saved := s.saved } { A1 with lp := D, dw := pd }))) pd = some (.dT kvs) := by rw [upd_ne npp]; exact upd_same
      generalize upd (upd H5 pd (.dT kvs)) p (.ins C.w dx1 (wf { Km446.opened s.reserve with time := s.time, saved := s.saved } { A1 with lp := D, dw := pd })) = H7 at *
      have S7 : Same H H7 := fun b o e => B7 b o (ne_of_none e np) (S5 _ _ e)
      have hw7 := S7 _ _ hw
      have W7 := W.same S7
      walk_at "r"
      refine ⟨⟨_, SqL.of W7.lh⟩, fun D2 hD2 => ?_⟩
      refine lc_list (K := K) (a := A.lh) (xs := A.hs.map V.ref) (fun i H' => ∃ hs, Copies C.h hf H7 H' D2 s.helis i hs) ⟨[], Copies.none hD2⟩ (fun i H' _ ⟨hs, h⟩ => SqL.of (h.same _ _ W7.lh)) ?_ ?_
      · rintro i y H' hi ⟨hs, ch⟩
        rw [List.getElem?_map] at hi
        cases ea : A.hs[i]? with
        | none => rw [ea] at hi; cases hi
        | some a =>
          rw [ea] at hi
          cases hi
          obtain ⟨x, hx, hpl⟩ := W7.hat i a ea
          refine ⟨rfl, ?_⟩
          walk_at "r"
          refine ⟨a, x, rfl, hpl.same ch.same, fun H2 q S2 hq hqx => ?_⟩
          refine ⟨_, S2 _ _ ch.lst, ?_, _, ch.snoc hD2 S2 hq hx hqx⟩
          rw [List.length_map, ch.len]
          have := (List.getElem?_eq_some_iff.mp ea).1
          have := W.nh
          have := ok.nh
          exact Nat.lt_of_lt_of_le (show i < 7 by omega) (by decide)
      · rintro H8 ⟨hs, ch⟩
        have hlen2 : (A.hs.map V.ref).length = s.helis.length := by rw [List.length_map, W.nh]
        rw [hlen2] at ch
        have S8 := S7.trans ch.same
        have hp8 := ch.same _ _ hp7
        have nD2p : D2 ≠ p := ne_of ch.lst hp8 (by intro z; cases z)
        have nhp : ∀ a ∈ hs, a ≠ p := fun a ha z => by
          have e := ch.new a ha
          rw [z, hp7] at e
          cases e
        walk_at "r"
        refine ⟨p, C.w, dx1, _, rfl, hp8, tw, T.nw _ (by decide +kernel), (by show 6 < 1000; decide), ?_⟩
        have B : SameBut p H4 H8 := fun b o n e => ch.same _ _ (B7 b o n (B5 b o n e))
        have eD : H8 D = some (.lst (qs.map V.ref)) := B _ _ nDp cq.lst
        have nDD : D ≠ D2 := ne_of_none (B7 _ _ nDp (B5 _ _ nDp cq.lst)) hD2
        walk_at "r"
        refine k _ ⟨p, D, pd, D2, qs, hs⟩ (fun b o e => ?_) (fun b hb => ?_) ⟨⟨dx1, upd_same⟩, ?_, ?_, ⟨kvs, ?_, hk⟩, cq.len, ch.len, fun j a ha => ?_, fun j a ha => ?_, cq.nd, ch.nd, nDD⟩
        · rw [upd_ne (ne_of_none e np)]; exact S8 _ _ e
        · have hb : b = p ∨ b = D ∨ b = pd ∨ b = D2 ∨ b ∈ qs ∨ b ∈ hs := by simpa [Adr.all] using hb
          rcases hb with e | e | e | e | e | e
          · rw [e]; exact np
          · rw [e]; exact S3.free hD
          · rw [e]; exact hpd0
          · rw [e]; exact S7.free hD2
          · exact S3.free (cq.new b e)
          · exact S7.free (ch.new b e)
        · show upd _ _ _ D = _
          rw [upd_ne nDp]; exact eD
        · show upd _ _ _ D2 = _
          rw [upd_ne nD2p]; exact ch.lst
        · show upd _ _ _ pd = _
          rw [upd_ne npp]; exact ch.same _ _ hd7
        · obtain ⟨x, hx, da, e⟩ := cq.at_ j a ha
          have na := nqp a (List.mem_of_getElem? ha)
          exact ⟨x, hx, da, by rw [upd_ne na]; exact B _ _ na e⟩
        · obtain ⟨x, hx, da, e⟩ := ch.at_ j a ha
          have na := nhp a (List.mem_of_getElem? ha)
          exact ⟨x, hx, da, by rw [upd_ne na]; exact e⟩
end
end Hf
end
section
set_option Elab.async false
set_option linter.all false
set_option maxRecDepth 100000
set_option maxHeartbeats 2000000
namespace Hf
open PySem PySem.Spec PyProof.Rows L2
open Km446 (Sea Heli Desk Ans)
/-! ## the one object: how it is now, what can be taken back, what can be done again -/
theorem WorldAt.loc {C : Cs} {H H' : Hp} {A : Adr} {s : Sea} (W : WorldAt C H A s) (e : ∀ b ∈ A.all, ∀ o, H b = some o → H' b = some o) : WorldAt C H' A s :=
  ⟨let ⟨dx, h⟩ := W.w; ⟨dx, e _ (mem_w A) _ h⟩, e _ (mem_lp A) _ W.lp, e _ (mem_lh A) _ W.lh, let ⟨k, h, q⟩ := W.dw; ⟨k, e _ (mem_dw A) _ h, q⟩, W.np, W.nh,
    fun j a ha => let ⟨x, h1, dx, h2⟩ := W.pat j a ha; ⟨x, h1, dx, e _ (mem_p ha) _ h2⟩, fun j a ha => let ⟨x, h1, dx, h2⟩ := W.hat j a ha; ⟨x, h1, dx, e _ (mem_h ha) _ h2⟩, W.ndp, W.ndh, W.ne⟩
/-- worlds, one for each sea -/
def Ws (C : Cs) (H : Hp) : List Adr → List Sea → Prop
  | [], [] => True
  | A :: As, s :: ss => WorldAt C H A s ∧ Ws C H As ss
  | _, _ => False
def alls (As : List Adr) : List Addr := As.flatMap Adr.all
theorem mem_alls {As : List Adr} {b : Addr} : b ∈ alls As ↔ ∃ A ∈ As, b ∈ A.all := List.mem_flatMap
theorem Ws.loc {C : Cs} {H H' : Hp} : ∀ {As : List Adr} {ss : List Sea}, Ws C H As ss → (∀ b ∈ alls As, ∀ o, H b = some o → H' b = some o) → Ws C H' As ss
  | [], [], _, _ => trivial
  | [], _ :: _, h, _ => h
  | _ :: _, [], h, _ => h
  | A :: As, s :: ss, h, e => ⟨h.1.loc fun b hb => e b (mem_alls.mpr ⟨A, List.mem_cons_self, hb⟩), h.2.loc fun b hb => by
      obtain ⟨B, hB, q⟩ := mem_alls.mp hb
      exact e b (mem_alls.mpr ⟨B, List.mem_cons_of_mem _ hB, q⟩)⟩
theorem Ws.same {C : Cs} {H H' : Hp} {As : List Adr} {ss : List Sea} (h : Ws C H As ss) (e : Same H H') : Ws C H' As ss := h.loc fun b _ o q => e b o q
theorem Ws.len {C : Cs} {H : Hp} : ∀ {As : List Adr} {ss : List Sea}, Ws C H As ss → As.length = ss.length
  | [], [], _ => rfl
  | [], _ :: _, h => h.elim
  | _ :: _, [], h => h.elim
  | A :: As, s :: ss, h => by rw [List.length_cons, List.length_cons, h.2.len]
theorem Ws.take {C : Cs} {H : Hp} : ∀ (n : Nat) {As : List Adr} {ss : List Sea}, Ws C H As ss → Ws C H (As.take n) (ss.take n)
  | 0, _, _, _ => by rw [List.take_zero, List.take_zero]; trivial
  | _ + 1, [], [], _ => trivial
  | _ + 1, [], _ :: _, h => h.elim
  | _ + 1, _ :: _, [], h => h.elim
  | n + 1, A :: As, s :: ss, h => ⟨h.1, h.2.take n⟩
theorem Ws.there {C : Cs} {H : Hp} : ∀ {As : List Adr} {ss : List Sea}, Ws C H As ss → ∀ b ∈ alls As, ∃ o, H b = some o
  | [], _, _, b, m => by cases m
  | _ :: _, [], h, _, _ => h.elim
  | A :: As, s :: ss, h, b, m => by
    obtain ⟨B, hB, q⟩ := mem_alls.mp m
    rcases List.mem_cons.mp hB with e | e
    · rw [e] at q
      exact h.1.there b q
    · exact h.2.there b (mem_alls.mpr ⟨B, e, q⟩)
def ff (w e l : Addr) : List (Str × V) := [("world", .ref w), ("earlier", .ref e), ("later", .ref l)]
def rv (As : List Adr) : List V := As.reverse.map fun B => V.ref B.w
theorem rv_cons (A : Adr) (As : List Adr) : rv (A :: As) = rv As ++ [V.ref A.w] := by unfold rv; rw [List.reverse_cons, List.map_append]; rfl
theorem rv_len (As : List Adr) : (rv As).length = As.length := by unfold rv; rw [List.length_map, List.length_reverse]
structure FAt (C : Cs) (H : Hp) (a le ll : Addr) (A : Adr) (As Bs : List Adr) (d : Desk) : Prop where
  f : ∃ dx, H a = some (.ins C.f dx (ff A.w le ll))
  e : H le = some (.lst (rv As))
  l : H ll = some (.lst (rv Bs))
  ne : le ≠ ll
  now : WorldAt C H A d.now
  past : Ws C H As d.past
  future : Ws C H Bs d.future
  sep : ∀ b, b ∈ A.all ∨ b ∈ alls As ∨ b ∈ alls Bs → b ≠ a ∧ b ≠ le ∧ b ≠ ll
def lay (a le ll : Addr) (A : Adr) (As Bs : List Adr) : List Addr := a :: le :: ll :: (A.all ++ (alls As ++ alls Bs))
theorem mem_lay {a le ll : Addr} {A : Adr} {As Bs : List Adr} {b : Addr} : b ∈ lay a le ll A As Bs ↔ b = a ∨ b = le ∨ b = ll ∨ b ∈ A.all ∨ b ∈ alls As ∨ b ∈ alls Bs := by
  unfold lay
  simp only [List.mem_cons, List.mem_append]
/-- the flights at a hold the desk d -/
def FA (C : Cs) (H : Hp) (a : Addr) (L : List Addr) (d : Desk) : Prop := ∃ le ll A As Bs, FAt C H a le ll A As Bs d ∧ L = lay a le ll A As Bs
theorem FAt.loc {C : Cs} {H H' : Hp} {a le ll : Addr} {A : Adr} {As Bs : List Adr} {d : Desk} (h : FAt C H a le ll A As Bs d) (e : ∀ b ∈ lay a le ll A As Bs, ∀ o, H b = some o → H' b = some o) : FAt C H' a le ll A As Bs d :=
  ⟨let ⟨dx, q⟩ := h.f; ⟨dx, e _ (mem_lay.mpr (.inl rfl)) _ q⟩, e _ (mem_lay.mpr (.inr (.inl rfl))) _ h.e, e _ (mem_lay.mpr (.inr (.inr (.inl rfl)))) _ h.l, h.ne, h.now.loc fun b m => e b (mem_lay.mpr (.inr (.inr (.inr (.inl m))))),
    h.past.loc fun b m => e b (mem_lay.mpr (.inr (.inr (.inr (.inr (.inl m)))))), h.future.loc fun b m => e b (mem_lay.mpr (.inr (.inr (.inr (.inr (.inr m)))))), h.sep⟩
theorem FAt.there {C : Cs} {H : Hp} {a le ll : Addr} {A : Adr} {As Bs : List Adr} {d : Desk} (h : FAt C H a le ll A As Bs d) : ∀ b ∈ lay a le ll A As Bs, ∃ o, H b = some o := fun b m => by
  rcases mem_lay.mp m with e | e | e | e | e | e
  · obtain ⟨dx, q⟩ := h.f
    exact ⟨_, by rw [e]; exact q⟩
  · exact ⟨_, by rw [e]; exact h.e⟩
  · exact ⟨_, by rw [e]; exact h.l⟩
  · exact h.now.there b e
  · exact h.past.there b e
  · exact h.future.there b e
theorem fax (C : Cs) : FAx (FA C) := by
  refine ⟨fun h e => ?_, fun h => ?_⟩
  · obtain ⟨le, ll, A, As, Bs, q, rfl⟩ := h
    exact ⟨le, ll, A, As, Bs, q.loc e, rfl⟩
  · obtain ⟨le, ll, A, As, Bs, q, rfl⟩ := h
    exact q.there
/-- the worlds stand, where only the object and its two lists change -/
theorem FAt.ws {C : Cs} {H H' : Hp} {a le ll : Addr} {A : Adr} {As Bs : List Adr} {d : Desk} (h : FAt C H a le ll A As Bs d) (e : ∀ b o, b ≠ a → b ≠ le → b ≠ ll → H b = some o → H' b = some o) : WorldAt C H' A d.now ∧ Ws C H' As d.past ∧ Ws C H' Bs d.future :=
  ⟨h.now.loc fun b m o q => let z := h.sep b (.inl m); e b o z.1 z.2.1 z.2.2 q, h.past.loc fun b m o q => let z := h.sep b (.inr (.inl m)); e b o z.1 z.2.1 z.2.2 q, h.future.loc fun b m o q => let z := h.sep b (.inr (.inr m)); e b o z.1 z.2.1 z.2.2 q⟩
theorem FAt.ale {C : Cs} {H : Hp} {a le ll : Addr} {A : Adr} {As Bs : List Adr} {d : Desk} (h : FAt C H a le ll A As Bs d) : a ≠ le := by
  obtain ⟨dx, q⟩ := h.f
  exact ne_of q h.e (by intro z; cases z)
theorem FAt.all {C : Cs} {H : Hp} {a le ll : Addr} {A : Adr} {As Bs : List Adr} {d : Desk} (h : FAt C H a le ll A As Bs d) : a ≠ ll := by
  obtain ⟨dx, q⟩ := h.f
  exact ne_of q h.l (by intro z; cases z)
/-- nothing goes -/
def Grow (H H' : Hp) : Prop := ∀ p, H' p = none → H p = none
theorem Grow.refl (H : Hp) : Grow H H := fun _ h => h
theorem Grow.upd {H H' : Hp} (g : Grow H H') {b : Addr} {o : HO} : Grow H (L2.upd H' b o) := fun p h => g p (upd_none h).2
theorem Grow.more {H H' H2 : Hp} (g : Grow H H') (e : Same H' H2) : Grow H H2 := fun p h => g p (e.free h)
theorem Grow.trans {H H' H2 : Hp} (g : Grow H H') (e : Grow H' H2) : Grow H H2 := fun p h => g p (e p h)
/-- what a call upon the object makes of it, its answer as a new list -/
def Fin_ (C : Cs) (H : Hp) (a : Addr) (L : List Addr) (d : Desk) (x : KCall) (Q : VK) : Prop := ∀ (H' : Hp) (L' : List Addr) (r : Addr), FA C H' a L' (Km446.act d x).1 → (∀ b o, H b = some o → b ∉ L → H' b = some o) → (∀ b ∈ L', b ∈ L ∨ H b = none) → H' r = some (.lst ((told (Km446.act d x).2).map V.int)) → H r = none → r ∉ L' → Q (.ref r) H'
theorem Fin_.end_ {C : Cs} {H H1 : Hp} {a le ll : Addr} {A : Adr} {As Bs : List Adr} {L : List Addr} {d d' : Desk} {x : KCall} {an : Ans} {Q : VK} {xs : List V} (k : Fin_ C H a L d x Q) (e : Km446.act d x = (d', an)) (h : FAt C H1 a le ll A As Bs d') (out : ∀ b o, H b = some o → b ∉ L → H1 b = some o)
    (new : ∀ b ∈ lay a le ll A As Bs, b ∈ L ∨ H b = none) (g : Grow H H1) (hx : xs = (told an).map V.int) (hl : xs.length ≤ 10) : xs.length ≤ sizeLine ∧ ∀ p, H1 p = none → Q (.ref p) (L2.upd H1 p (.lst xs)) := by
  refine ⟨Nat.le_trans hl (by decide), fun p hp => ?_⟩
  refine k _ (lay a le ll A As Bs) p ⟨le, ll, A, As, Bs, ?_, rfl⟩ (fun b o q n => same_new hp _ _ (out b o q n)) new (by rw [upd_same, hx, e]) (g p hp) (fun m => ?_)
  · rw [e]
    exact h.loc fun b _ o q => same_new hp _ _ q
  · obtain ⟨o, q⟩ := h.there p m
    rw [hp] at q
    cases q
section
variable {P : Program} {w : World} {K : PySem.W.Frag} {mg : Str → Option Value} {base : Heap} {C : Cs}
local macro_rules | `(tactic| walk_at "f") => `(tactic| refine ⟨_, _, _, _, _, rfl, by assumption, by assumption, (by first | exact Txt.nf (by assumption) _ (by decide +kernel) | exact Txt.nw (by assumption) _ (by decide +kernel) | exact Txt.nh (by assumption) _ (by decide +kernel) | exact Txt.np (by assumption) _ (by decide +kernel)), by rfl, ?_⟩)
local macro_rules | `(tactic| walk_at "r") => `(tactic| repeat (first | refine ⟨_, rfl, ?_⟩ | walk_at "f" | refine ⟨_, _, rfl, rfl, ?_⟩ | refine ⟨rfl, ?_⟩))
abbrev s_Flights : Stmt := inClass (top 46) 0
theorem sc_Flights___init__ : FnScope ["self"] ["self"] (defScope s_Flights) := ⟨rfl, rfl, rfl, by decide +kernel, rfl, by decide +kernel, by decide +kernel⟩
theorem ok_Flights (T : Txt K mg C) (F : HasI K mg "Flights" "Flights.__init__" s_Flights C.f ["self"]) (c_World : Makes P w K mg base 1 "World" C.w ["self", "reserve"] (sp_World C)) : Makes P w K mg base 3 "Flights" C.f ["self"] (sp_Flights (FA C) C.f) := by
  refine makes_of F sc_Flights___init__ (fun vs H Q E h => ?_) (fun f cdv A0 outer s0 H vs Q E hr h => ?_)
  · obtain ⟨p, dx, rfl, _⟩ := h
    rfl
  · obtain ⟨p, dx, rfl, hp, k⟩ := h
    refine ⟨_, (pss_cons (ps_fld (pv 0) (pe_makes c_World hr (by decide) (pa_cons pe_int pa_nil)) rfl)
      (pss_cons (ps_fld (pv 0) (pe_lst pa_nil) rfl)
      (pss_one (ps_fld (pv 0) (pe_lst pa_nil) rfl)))), ?_⟩
    have tf := T.cf
    intro q dq nq nd ne
    have Sx : Same H (upd (upd H dq (.own q)) q (.ins C.w dq [])) := fun b o e => by rw [upd_ne (ne_of_none e nq), upd_ne (ne_of_none e nd)]; exact e
    refine ⟨q, dq, 0, rfl, upd_same, fun H1 A1 e1 W1 out1 new1 => ⟨rfl, ?_⟩⟩
    have S1 : Same H H1 := fun b o e => out1 b o (Sx b o e) (ne_of_none e nq)
    have n1 : ∀ b ∈ A1.all, H b = none := fun b hb => by
      rcases new1 b hb with z | z
      · rw [z]; exact nq
      · exact Sx.free z
    have hp1 := S1 _ _ hp
    have npA : ∀ b ∈ A1.all, b ≠ p := fun b hb z => by have := n1 b hb; rw [z, hp] at this; cases this
    rw [← e1]
    refine ⟨_, rfl, p, C.f, dx, _, rfl, hp1, tf, T.nf _ (by decide +kernel), (by show 0 < 1000; decide), ?_⟩
    refine ⟨(by show 0 ≤ sizeLine; decide), fun g1 hg1 => ?_⟩
    obtain ⟨m1, z1⟩ := upd_none hg1
    refine ⟨_, rfl, p, C.f, dx, _, rfl, (by rw [upd_ne (Ne.symm m1)]; exact upd_same), tf, T.nf _ (by decide +kernel), (by show 1 < 1000; decide), ?_⟩
    refine ⟨(by show 0 ≤ sizeLine; decide), fun g2 hg2 => ?_⟩
    obtain ⟨m2, z2⟩ := upd_none hg2
    obtain ⟨m3, z3⟩ := upd_none z2
    obtain ⟨m4, z4⟩ := upd_none z3
    refine ⟨_, rfl, p, C.f, dx, _, rfl, (by rw [upd_ne (Ne.symm m2)]; exact upd_same), tf, T.nf _ (by decide +kernel), (by show 2 < 1000; decide), ?_⟩
    refine k _ (lay p g1 g2 A1 [] []) ⟨g1, g2, A1, [], [], ⟨⟨dx, upd_same⟩, ?_, ?_, Ne.symm m3, W1.loc fun b hb o q => ?_, trivial, trivial, fun b hb => ?_⟩, rfl⟩ (fun b o e nb => ?_) (fun b hb => ?_)
    · show upd _ _ _ g1 = some (.lst [])
      rw [upd_ne m1, upd_ne (Ne.symm m3), upd_ne m1, upd_same]
    · show upd _ _ _ g2 = some (.lst [])
      rw [upd_ne m2, upd_same]
    · rw [upd_ne (npA b hb), upd_ne (ne_of_none q z4), upd_ne (npA b hb), upd_ne (ne_of_none q z1), upd_ne (npA b hb)]
      exact q
    · rcases hb with m | m | m
      · obtain ⟨o, q⟩ := W1.there b m
        exact ⟨npA b m, ne_of_none q z1, ne_of_none q z4⟩
      · cases m
      · cases m
    · have q := S1 _ _ e
      rw [upd_ne nb, upd_ne (ne_of_none q z4), upd_ne nb, upd_ne (ne_of_none q z1), upd_ne nb]
      exact q
    · rcases mem_lay.mp hb with e | e | e | e | e | e
      · exact .inl e
      · exact .inr (by rw [e]; exact S1.free z1)
      · exact .inr (by rw [e]; exact S1.free z4)
      · exact .inr (n1 b e)
      · cases e
      · cases e
abbrev s_start : Stmt := top 47
theorem sc_start : FnScope ["flights", "reserve"] ["flights", "reserve"] (defScope s_start) := ⟨rfl, rfl, rfl, by decide +kernel, rfl, by decide +kernel, by decide +kernel⟩
def sp_start (C : Cs) : Sp := fun vs H Q _ => ∃ (a : Addr) (L : List Addr) (d : Desk) (r : Nat), vs = [.ref a, .int r] ∧ FA C H a L d ∧ Fin_ C H a L d (.start r) Q
theorem ok_start (T : Txt K mg C) (F : Has K mg "start" s_start ["flights", "reserve"]) (c_World : Makes P w K mg base 1 "World" C.w ["self", "reserve"] (sp_World C)) : Can P w K mg base 3 "start" ["flights", "reserve"] (sp_start C) := by
  refine can_of F sc_start (fun vs H Q E h => ?_) (fun f cdv A0 outer s0 H vs Q E hr h => ?_)
  · obtain ⟨a, L, d, r, rfl, _⟩ := h
    rfl
  · obtain ⟨a, L, d, r, rfl, ⟨le, ll, A, As, Bs, hF, rfl⟩, k⟩ := h
    refine ⟨_, (pss_cons (ps_if (pt_cmpR op_gt (pv 1) (pe_gint (T.gi ("LONGEST_RESERVE", 60) (by decide +kernel))) (nomark _)) (pss_one (ps_ret (pe_lst (pa_cons (pe_gint (T.gi ("WRONG_NUMBER", (-22)) (by decide +kernel))) pa_nil)))) pss_nil)
      (pss_cons (ps_fld (pv 0) (pe_makes c_World hr (by decide) (pa_cons (pv 1) pa_nil)) rfl)
      (pss_cons (ps_fld (pv 0) (pe_lst pa_nil) rfl)
      (pss_cons (ps_fld (pv 0) (pe_lst pa_nil) rfl)
      (pss_one (ps_ret (pe_lst (pa_cons pe_int pa_nil)))))))), ?_⟩
    have tf := T.cf
    obtain ⟨dx, ha⟩ := hF.f
    walk_at "r"
    refine ite2 (fun q => ?_) (fun q => ?_)
    · have q : 60 < r := by simp at q; omega
      exact k.end_ (if_pos q) hF (fun b o e _ => e) (fun b m => .inl m) (Grow.refl _) rfl (by simp)
    · have q : ¬ 60 < r := by simp at q; omega
      walk_at "r"
      intro p dq np nd ne
      have Sx : Same H (upd (upd H dq (.own p)) p (.ins C.w dq [])) := fun b o e => by rw [upd_ne (ne_of_none e np), upd_ne (ne_of_none e nd)]; exact e
      refine ⟨p, dq, r, rfl, upd_same, fun H1 A1 e1 W1 out1 new1 => ⟨rfl, ?_⟩⟩
      have S1 : Same H H1 := fun b o e => out1 b o (Sx b o e) (ne_of_none e np)
      have n1 : ∀ b ∈ A1.all, H b = none := fun b hb => by
        rcases new1 b hb with z | z
        · rw [z]; exact np
        · exact Sx.free z
      have ha1 := S1 _ _ ha
      have naA : ∀ b ∈ A1.all, b ≠ a := fun b hb z => by have := n1 b hb; rw [z, ha] at this; cases this
      rw [← e1]
      refine ⟨_, rfl, a, C.f, dx, _, rfl, ha1, tf, T.nf _ (by decide +kernel), (by show 3 < 1000; decide), ?_⟩
      refine ⟨(by show 0 ≤ sizeLine; decide), fun g1 hg1 => ?_⟩
      obtain ⟨m1, z1⟩ := upd_none hg1
      refine ⟨_, rfl, a, C.f, dx, _, rfl, (by rw [upd_ne (Ne.symm m1)]; exact upd_same), tf, T.nf _ (by decide +kernel), (by show 3 < 1000; decide), ?_⟩
      refine ⟨(by show 0 ≤ sizeLine; decide), fun g2 hg2 => ?_⟩
      obtain ⟨m2, z2⟩ := upd_none hg2
      obtain ⟨m3, z3⟩ := upd_none z2
      obtain ⟨m4, z4⟩ := upd_none z3
      refine ⟨_, rfl, a, C.f, dx, _, rfl, (by rw [upd_ne (Ne.symm m2)]; exact upd_same), tf, T.nf _ (by decide +kernel), (by show 3 < 1000; decide), ?_⟩
      walk_at "r"
      refine k.end_ (le := g1) (ll := g2) (A := A1) (As := []) (Bs := []) (d' := Km446.fresh r) (an := Km446.only 0) (if_neg q) ⟨⟨dx, upd_same⟩, ?_, ?_, Ne.symm m3, W1.loc fun b hb o q => ?_, trivial, trivial, fun b hb => ?_⟩ (fun b o e nb => ?_) (fun b hb => ?_) ((((((Grow.refl H).more S1).upd).upd).upd).upd).upd rfl (by simp)
      · show upd _ _ _ g1 = some (.lst [])
        rw [upd_ne m1, upd_ne (Ne.symm m3), upd_ne m1, upd_same]
      · show upd _ _ _ g2 = some (.lst [])
        rw [upd_ne m2, upd_same]
      · rw [upd_ne (naA b hb), upd_ne (ne_of_none q z4), upd_ne (naA b hb), upd_ne (ne_of_none q z1), upd_ne (naA b hb)]
        exact q
      · rcases hb with m | m | m
        · obtain ⟨o, q⟩ := W1.there b m
          exact ⟨naA b m, ne_of_none q z1, ne_of_none q z4⟩
        · cases m
        · cases m
      · have q := S1 _ _ e
        have nb : b ≠ a := fun z => nb (mem_lay.mpr (.inl z))
        rw [upd_ne nb, upd_ne (ne_of_none q z4), upd_ne nb, upd_ne (ne_of_none q z1), upd_ne nb]
        exact q
      · rcases mem_lay.mp hb with e | e | e | e | e | e
        · exact .inl (mem_lay.mpr (.inl e))
        · exact .inr (by rw [e]; exact S1.free z1)
        · exact .inr (by rw [e]; exact S1.free z4)
        · exact .inr (n1 b e)
        · cases e
        · cases e
abbrev s_keep_change : Stmt := top 48
theorem sc_keep_change : FnScope ["flights", "changed"] ["flights", "changed"] (defScope s_keep_change) := ⟨rfl, rfl, rfl, by decide +kernel, rfl, by decide +kernel, by decide +kernel⟩
theorem take_rv {l : List Adr} (h : l.length = 21) : (rv l).eraseIdx 0 = rv (l.take 20) := by
  unfold rv
  rw [List.eraseIdx_zero, ← List.map_tail, List.tail_reverse, List.dropLast_eq_take, h]
/-- the change is kept: the world of now goes to the earlier ones, the last 20 stay -/
def sp_keep_change (C : Cs) : Sp := fun vs H Q _ => ∃ (a le ll : Addr) (A A' : Adr) (As Bs : List Adr) (d : Desk) (s : Sea), vs = [.ref a, .ref A'.w] ∧ FAt C H a le ll A As Bs d ∧ WorldAt C H A' s ∧ As.length ≤ 20 ∧ (∀ b ∈ A'.all, b ≠ a ∧ b ≠ le ∧ b ≠ ll) ∧
  ∀ H' lw, FAt C H' a le lw A' ((A :: As).take 20) [] (d.become s) → H lw = none → (∀ b o, b ≠ a → b ≠ le → H b = some o → H' b = some o) → Grow H H' → Q .non H'
theorem ok_keep_change (T : Txt K mg C) (F : Has K mg "keep_change" s_keep_change ["flights", "changed"]) : Can P w K mg base 1 "keep_change" ["flights", "changed"] (sp_keep_change C) := by
  refine can_of F sc_keep_change (fun vs H Q E h => ?_) (fun f cdv A0 outer s0 H vs Q E hr h => ?_)
  · obtain ⟨a, le, ll, A, A', As, Bs, d, s, rfl, _⟩ := h
    rfl
  · obtain ⟨a, le, ll, A, A', As, Bs, d, s, rfl, hF, W', hlen, sep', k⟩ := h
    refine ⟨_, (pss_cons (ps_expr (pe_bm PySem.F.plainAttrs_list PySem.F.slot_list_append PySem.F.type_list_append mt_append (pe_fld (pv 0) rfl) (pa_cons (pe_fld (pv 0) rfl) pa_nil)))
      (pss_cons (ps_if (pt_cmpR op_gt (pe_callB call_len_seq (by rfl) T.len PySem.boot_len (pa_cons (pe_fld (pv 0) rfl) pa_nil)) (pe_gint (T.gi ("MOST_TAKEN_BACK", 20) (by decide +kernel))) (nomark _)) (pss_one (ps_expr (pe_bm PySem.F.plainAttrs_list PySem.F.slot_list_pop PySem.F.type_list_pop mt_popAt (pe_fld (pv 0) rfl) (pa_cons pe_int pa_nil)))) pss_nil)
      (pss_cons (ps_fld (pv 0) (pe_lst pa_nil) rfl)
      (pss_one (ps_fld (pv 0) (pv 1) rfl))))), ?_⟩
    have tf := T.cf
    have big : sizeLine = 16777216 := sizeLine_eq
    obtain ⟨dx, ha⟩ := hF.f
    have nal := hF.ale
    have tk := hF.past
    walk_at "r"
    refine ⟨.inl ⟨rfl, _, SqL.of hF.e⟩, ?_⟩
    walk_at "r"
    refine ⟨le, _, _, rfl, rfl, hF.e, (by rw [rv_len]; omega), ?_⟩
    refine swapH (R := tSeq _ _ _ _) (show _ = upd H le (.lst (rv (A :: As))) from by rw [rv_cons]) ?_
    have ha1 : (upd H le (.lst (rv (A :: As)))) a = some (.ins C.f dx (ff A.w le ll)) := by rw [upd_ne nal]; exact ha
    have he1 : (upd H le (.lst (rv (A :: As)))) le = some (.lst (rv (A :: As))) := upd_same
    have fin : ∀ (H2 : Hp), H2 a = some (.ins C.f dx (ff A.w le ll)) → H2 le = some (.lst (rv ((A :: As).take 20))) → (∀ b o, b ≠ a → b ≠ le → H b = some o → H2 b = some o) → Grow H H2 → ∀ lw, H2 lw = none →
        Q .non (upd (upd (upd H2 lw (.lst [])) a (.ins C.f dx (ff A.w le lw))) a (.ins C.f dx (ff A'.w le lw))) := by
      intro H2 h1 h2 h3 g2 lw hlw
      have n1 : lw ≠ a := fun z => by rw [z, h1] at hlw; cases hlw
      have n2 : lw ≠ le := fun z => by rw [z, h2] at hlw; cases hlw
      have e3 : ∀ b o, b ≠ a → b ≠ le → H b = some o → (upd (upd (upd H2 lw (.lst [])) a (.ins C.f dx (ff A.w le lw))) a (.ins C.f dx (ff A'.w le lw))) b = some o := fun b o m1 m2 q => by
        have z := h3 b o m1 m2 q
        rw [upd_ne m1, upd_ne m1, upd_ne (ne_of_none z hlw)]
        exact z
      obtain ⟨u1, u2, u3⟩ := hF.ws (fun b o m1 m2 _ q => e3 b o m1 m2 q)
      have hlw0 := g2 lw hlw
      have nlw : ∀ b, (∃ o, H b = some o) → b ≠ lw := fun b ⟨o, q⟩ => ne_of_none q hlw0
      refine k _ lw ⟨⟨dx, upd_same⟩, ?_, ?_, Ne.symm n2, W'.loc fun b m o q => ?_, ?_, trivial, fun b hb => ?_⟩ hlw0 e3 (((g2.upd).upd).upd)
      · rw [upd_ne (Ne.symm nal), upd_ne (Ne.symm nal), upd_ne (Ne.symm n2)]; exact h2
      · rw [upd_ne n1, upd_ne n1, upd_same]; rfl
      · exact e3 b o (sep' b m).1 (sep' b m).2.1 q
      · show Ws C _ ((A :: As).take 20) ((d.now :: d.past).take 20)
        exact Ws.take 20 (As := A :: As) (ss := d.now :: d.past) ⟨u1, u2⟩
      · rcases hb with m | m | m
        · exact ⟨(sep' b m).1, (sep' b m).2.1, nlw b (W'.there b m)⟩
        · obtain ⟨B, hB, q⟩ := mem_alls.mp m
          rcases List.mem_cons.mp (List.mem_of_mem_take hB) with z | z
          · rw [z] at q
            have y := hF.sep b (.inl q)
            exact ⟨y.1, y.2.1, nlw b (hF.now.there b q)⟩
          · have m2 := mem_alls.mpr ⟨B, z, q⟩
            have y := hF.sep b (.inr (.inl m2))
            exact ⟨y.1, y.2.1, nlw b (hF.past.there b m2)⟩
        · cases m
    walk_at "r"
    refine ⟨_, _, rfl, .inl (SqL.of he1), ?_⟩
    walk_at "r"
    refine ite2 (fun q => ?_) (fun q => ?_)
    · have q : As.length = 20 := by
        rw [rv_len, List.length_cons] at q
        simp at q
        omega
      walk_at "r"
      refine ⟨.inl ⟨rfl, _, SqL.of he1⟩, ?_⟩
      walk_at "r"
      obtain ⟨y, hy⟩ := get_some (l := rv (A :: As)) (i := 0) (by rw [rv_len, List.length_cons]; omega)
      refine ⟨le, _, 0, 0, y, rfl, rfl, he1, by decide, by decide, ?_, hy, ?_⟩
      · rw [rv_len, List.length_cons, q]; rfl
      · refine swapH (R := tSeq _ _ _ _) (show _ = upd H le (.lst (rv ((A :: As).take 20))) from by rw [upd_upd, take_rv (by rw [List.length_cons, q])]) ?_
        have ha2 : (upd H le (.lst (rv ((A :: As).take 20)))) a = some (.ins C.f dx (ff A.w le ll)) := by rw [upd_ne nal]; exact ha
        refine ⟨(by show 0 ≤ sizeLine; decide), fun lw hlw => ?_⟩
        have n1 : a ≠ lw := ne_of_none ha2 hlw
        refine ⟨_, rfl, a, C.f, dx, _, rfl, (by rw [upd_ne n1]; exact ha2), tf, T.nf _ (by decide +kernel), (by show 3 < 1000; decide), ?_⟩
        refine ⟨_, rfl, _, rfl, a, C.f, dx, _, rfl, upd_same, tf, T.nf _ (by decide +kernel), (by show 3 < 1000; decide), ?_⟩
        exact fin _ ha2 upd_same (fun b o m1 m2 z => by rw [upd_ne m2]; exact z) (Grow.refl H).upd lw hlw
    · have q : As.length ≤ 19 := by
        rw [rv_len, List.length_cons] at q
        simp at q
        omega
      have et : (A :: As).take 20 = A :: As := List.take_of_length_le (by rw [List.length_cons]; omega)
      refine ⟨(by show 0 ≤ sizeLine; decide), fun lw hlw => ?_⟩
      have n1 : a ≠ lw := ne_of_none ha1 hlw
      refine ⟨_, rfl, a, C.f, dx, _, rfl, (by rw [upd_ne n1]; exact ha1), tf, T.nf _ (by decide +kernel), (by show 3 < 1000; decide), ?_⟩
      refine ⟨_, rfl, _, rfl, a, C.f, dx, _, rfl, upd_same, tf, T.nf _ (by decide +kernel), (by show 3 < 1000; decide), ?_⟩
      exact fin _ ha1 (by rw [et]; exact upd_same) (fun b o m1 m2 z => by rw [upd_ne m2]; exact z) (Grow.refl H).upd lw hlw
end
end Hf
end
section
set_option Elab.async false
set_option linter.all false
set_option maxRecDepth 100000
set_option maxHeartbeats 2000000
namespace Hf
open PySem PySem.Spec PyProof.Rows L2
open Km446 (Sea Heli Desk Ans)
section
variable {P : Program} {w : World} {K : PySem.W.Frag} {mg : Str → Option Value} {base : Heap} {C : Cs}
local macro_rules | `(tactic| walk_at "f") => `(tactic| refine ⟨_, _, _, _, _, rfl, by assumption, by assumption, (by first | exact Txt.nf (by assumption) _ (by decide +kernel) | exact Txt.nw (by assumption) _ (by decide +kernel) | exact Txt.nh (by assumption) _ (by decide +kernel) | exact Txt.np (by assumption) _ (by decide +kernel)), by rfl, ?_⟩)
local macro_rules | `(tactic| walk_at "r") => `(tactic| repeat (first | refine ⟨_, rfl, ?_⟩ | walk_at "f" | refine ⟨_, _, rfl, rfl, ?_⟩ | refine ⟨rfl, ?_⟩))
theorem rv_last (A : Adr) (As : List Adr) : (rv (A :: As))[(rv (A :: As)).length - 1]? = some (V.ref A.w) := by
  rw [rv_cons, List.length_append]
  simp
theorem rv_drop (A : Adr) (As : List Adr) : (rv (A :: As)).dropLast = rv As := by rw [rv_cons, List.dropLast_concat]
theorem Ws.nil_iff {H : Hp} {As : List Adr} {ss : List Sea} (h : Ws C H As ss) : As.length = 0 → ss = [] := fun e => by
  have := h.len
  exact List.eq_nil_of_length_eq_zero (by omega)
theorem Ws.head {H : Hp} {As : List Adr} {ss : List Sea} (h : Ws C H As ss) (n : As.length ≠ 0) : ∃ A As' s ss', As = A :: As' ∧ ss = s :: ss' ∧ WorldAt C H A s ∧ Ws C H As' ss' := by
  cases As with
  | nil => exact absurd rfl n
  | cons A As =>
    cases ss with
    | nil => exact h.elim
    | cons s ss => exact ⟨A, As, s, ss, rfl, rfl, h.1, h.2⟩
theorem alls_cons {A : Adr} {As : List Adr} {b : Addr} : b ∈ alls (A :: As) ↔ b ∈ A.all ∨ b ∈ alls As := by
  unfold alls
  rw [List.flatMap_cons, List.mem_append]
abbrev s_take_back : Stmt := top 49
theorem sc_take_back : FnScope ["flights"] ["flights"] (defScope s_take_back) := ⟨rfl, rfl, rfl, by decide +kernel, rfl, by decide +kernel, by decide +kernel⟩
def sp_take_back (C : Cs) : Sp := fun vs H Q _ => ∃ (a : Addr) (L : List Addr) (d : Desk), vs = [.ref a] ∧ FA C H a L d ∧ DeskOk d ∧ Fin_ C H a L d .back Q
theorem ok_take_back (T : Txt K mg C) (F : Has K mg "take_back" s_take_back ["flights"]) : Can P w K mg base 1 "take_back" ["flights"] (sp_take_back C) := by
  refine can_of F sc_take_back (fun vs H Q E h => ?_) (fun f cdv A0 outer s0 H vs Q E hr h => ?_)
  · obtain ⟨a, L, d, rfl, _⟩ := h
    rfl
  · obtain ⟨a, L, d, rfl, ⟨le, ll, A, As, Bs, hF, rfl⟩, ok, k⟩ := h
    refine ⟨_, (pss_cons (ps_if (pt_cmpR op_eq (pe_callB call_len_seq (by rfl) T.len PySem.boot_len (pa_cons (pe_fld (pv 0) rfl) pa_nil)) pe_int (nomark _)) (pss_one (ps_ret (pe_lst (pa_cons (pe_gint (T.gi ("NO_CHANGE", (-2)) (by decide +kernel))) pa_nil)))) pss_nil)
      (pss_cons (ps_expr (pe_bm PySem.F.plainAttrs_list PySem.F.slot_list_append PySem.F.type_list_append mt_append (pe_fld (pv 0) rfl) (pa_cons (pe_fld (pv 0) rfl) pa_nil)))
      (pss_cons (ps_fld (pv 0) (pe_bm0 PySem.F.plainAttrs_list PySem.F.slot_list_pop PySem.F.type_list_pop mt_pop (pe_fld (pv 0) rfl)) rfl)
      (pss_one (ps_ret (pe_lst (pa_cons (pe_callB call_len_seq (by rfl) T.len PySem.boot_len (pa_cons (pe_fld (pv 0) rfl) pa_nil)) pa_nil))))))), ?_⟩
    have tf := T.cf
    have big : sizeLine = 16777216 := sizeLine_eq
    obtain ⟨dx, ha⟩ := hF.f
    have nae := hF.ale
    have nal := hF.all
    walk_at "r"
    refine ⟨_, _, rfl, .inl (SqL.of hF.e), ?_⟩
    walk_at "r"
    refine ite2 (fun q => ?_) (fun q => ?_)
    · have q : As.length = 0 := by
        rw [rv_len] at q
        simp at q
        simp [q]
      have e := hF.past.nil_iff q
      exact k.end_ (d' := d) (an := Km446.only (-2)) (by show (match d.past with | [] => _ | k :: r => _ : Desk × Ans) = _; rw [e]) hF (fun b o e _ => e) (fun b m => .inl m) (Grow.refl _) rfl (by simp)
    · have q : As.length ≠ 0 := fun z => q (by rw [rv_len, z]; rfl)
      obtain ⟨A1, As', s1, ss', eA, eS, W1, Ws1⟩ := hF.past.head q
      subst eA
      have hl2 := hF.future.len
      have hfew := ok.few
      walk_at "r"
      refine ⟨.inl ⟨rfl, _, SqL.of hF.l⟩, ?_⟩
      walk_at "r"
      refine ⟨ll, _, _, rfl, rfl, hF.l, (by rw [rv_len]; omega), ?_⟩
      refine swapH (R := tSeq _ _ _ _) (show _ = upd H ll (.lst (rv (A :: Bs))) from by rw [rv_cons]) ?_
      have ha1 : (upd H ll (.lst (rv (A :: Bs)))) a = some (.ins C.f dx (ff A.w le ll)) := by rw [upd_ne nal]; exact ha
      have he1 : (upd H ll (.lst (rv (A :: Bs)))) le = some (.lst (rv (A1 :: As'))) := by rw [upd_ne hF.ne]; exact hF.e
      walk_at "r"
      refine ⟨.inl ⟨rfl, _, SqL.of he1⟩, ?_⟩
      refine ⟨le, _, _, rfl, rfl, he1, rv_last A1 As', ?_⟩
      walk_at "r"
      refine ⟨a, C.f, dx, _, rfl, (by rw [upd_ne nae]; exact ha1), tf, T.nf _ (by decide +kernel), (by show 3 < 1000; decide), ?_⟩
      refine swapH (R := tSeq _ _ _ _) (show _ = upd (upd (upd H ll (.lst (rv (A :: Bs)))) le (.lst (rv As'))) a (.ins C.f dx (ff A1.w le ll)) from by rw [rv_drop]; rfl) ?_
      have e3 : ∀ b o, b ≠ a → b ≠ le → b ≠ ll → H b = some o → (upd (upd (upd H ll (.lst (rv (A :: Bs)))) le (.lst (rv As'))) a (.ins C.f dx (ff A1.w le ll))) b = some o := fun b o m1 m2 m3 z => by rw [upd_ne m1, upd_ne m2, upd_ne m3]; exact z
      have ha3 : (upd (upd (upd H ll (.lst (rv (A :: Bs)))) le (.lst (rv As'))) a (.ins C.f dx (ff A1.w le ll))) a = some (.ins C.f dx (ff A1.w le ll)) := upd_same
      have he3 : (upd (upd (upd H ll (.lst (rv (A :: Bs)))) le (.lst (rv As'))) a (.ins C.f dx (ff A1.w le ll))) le = some (.lst (rv As')) := by rw [upd_ne (Ne.symm nae), upd_same]
      have hl3 : (upd (upd (upd H ll (.lst (rv (A :: Bs)))) le (.lst (rv As'))) a (.ins C.f dx (ff A1.w le ll))) ll = some (.lst (rv (A :: Bs))) := by rw [upd_ne (Ne.symm nal), upd_ne (Ne.symm hF.ne), upd_same]
      have g3 : Grow H (upd (upd (upd H ll (.lst (rv (A :: Bs)))) le (.lst (rv As'))) a (.ins C.f dx (ff A1.w le ll))) := (((Grow.refl H).upd).upd).upd
      generalize upd (upd (upd H ll (.lst (rv (A :: Bs)))) le (.lst (rv As'))) a (.ins C.f dx (ff A1.w le ll)) = H3 at *
      obtain ⟨u1, u2, u3⟩ := hF.ws e3
      rw [eS] at u2
      have lle : As'.length = ss'.length := Ws1.len
      walk_at "r"
      refine ⟨_, _, rfl, .inl (SqL.of he3), ?_⟩
      refine k.end_ (le := le) (ll := ll) (A := A1) (As := As') (Bs := A :: Bs) (d' := ⟨s1, ss', d.now :: d.future⟩) (an := Km446.only ((ss'.length : Nat) : Int)) (by show (match d.past with | [] => _ | k :: r => _ : Desk × Ans) = _; rw [eS])
        ⟨⟨dx, ha3⟩, he3, hl3, hF.ne, u2.1, u2.2, ⟨u1, u3⟩, fun b hb => ?_⟩ (fun b o z nb => ?_) (fun b hb => ?_) g3 (by rw [rv_len, lle]; rfl) (by simp)
      · refine hF.sep b ?_
        rcases hb with m | m | m
        · exact .inr (.inl (alls_cons.mpr (.inl m)))
        · exact .inr (.inl (alls_cons.mpr (.inr m)))
        · rcases alls_cons.mp m with m | m
          · exact .inl m
          · exact .inr (.inr m)
      · exact e3 b o (fun y => nb (mem_lay.mpr (.inl y))) (fun y => nb (mem_lay.mpr (.inr (.inl y)))) (fun y => nb (mem_lay.mpr (.inr (.inr (.inl y))))) z
      · left
        rcases mem_lay.mp hb with m | m | m | m | m | m
        · exact mem_lay.mpr (.inl m)
        · exact mem_lay.mpr (.inr (.inl m))
        · exact mem_lay.mpr (.inr (.inr (.inl m)))
        · exact mem_lay.mpr (.inr (.inr (.inr (.inr (.inl (alls_cons.mpr (.inl m)))))))
        · exact mem_lay.mpr (.inr (.inr (.inr (.inr (.inl (alls_cons.mpr (.inr m)))))))
        · rcases alls_cons.mp m with m | m
          · exact mem_lay.mpr (.inr (.inr (.inr (.inl m))))
          · exact mem_lay.mpr (.inr (.inr (.inr (.inr (.inr m)))))
abbrev s_do_again : Stmt := top 50
theorem sc_do_again : FnScope ["flights"] ["flights"] (defScope s_do_again) := ⟨rfl, rfl, rfl, by decide +kernel, rfl, by decide +kernel, by decide +kernel⟩
def sp_do_again (C : Cs) : Sp := fun vs H Q _ => ∃ (a : Addr) (L : List Addr) (d : Desk), vs = [.ref a] ∧ FA C H a L d ∧ DeskOk d ∧ Fin_ C H a L d .again Q
theorem ok_do_again (T : Txt K mg C) (F : Has K mg "do_again" s_do_again ["flights"]) : Can P w K mg base 1 "do_again" ["flights"] (sp_do_again C) := by
  refine can_of F sc_do_again (fun vs H Q E h => ?_) (fun f cdv A0 outer s0 H vs Q E hr h => ?_)
  · obtain ⟨a, L, d, rfl, _⟩ := h
    rfl
  · obtain ⟨a, L, d, rfl, ⟨le, ll, A, As, Bs, hF, rfl⟩, ok, k⟩ := h
    refine ⟨_, (pss_cons (ps_if (pt_cmpR op_eq (pe_callB call_len_seq (by rfl) T.len PySem.boot_len (pa_cons (pe_fld (pv 0) rfl) pa_nil)) pe_int (nomark _)) (pss_one (ps_ret (pe_lst (pa_cons (pe_gint (T.gi ("NO_CHANGE", (-2)) (by decide +kernel))) pa_nil)))) pss_nil)
      (pss_cons (ps_expr (pe_bm PySem.F.plainAttrs_list PySem.F.slot_list_append PySem.F.type_list_append mt_append (pe_fld (pv 0) rfl) (pa_cons (pe_fld (pv 0) rfl) pa_nil)))
      (pss_cons (ps_fld (pv 0) (pe_bm0 PySem.F.plainAttrs_list PySem.F.slot_list_pop PySem.F.type_list_pop mt_pop (pe_fld (pv 0) rfl)) rfl)
      (pss_one (ps_ret (pe_lst (pa_cons (pe_callB call_len_seq (by rfl) T.len PySem.boot_len (pa_cons (pe_fld (pv 0) rfl) pa_nil)) pa_nil))))))), ?_⟩
    have tf := T.cf
    have big : sizeLine = 16777216 := sizeLine_eq
    obtain ⟨dx, ha⟩ := hF.f
    have nae := hF.ale
    have nal := hF.all
    walk_at "r"
    refine ⟨_, _, rfl, .inl (SqL.of hF.l), ?_⟩
    walk_at "r"
    refine ite2 (fun q => ?_) (fun q => ?_)
    · have q : Bs.length = 0 := by
        rw [rv_len] at q
        simp at q
        simp [q]
      have e := hF.future.nil_iff q
      exact k.end_ (d' := d) (an := Km446.only (-2)) (by show (match d.future with | [] => _ | k :: r => _ : Desk × Ans) = _; rw [e]) hF (fun b o e _ => e) (fun b m => .inl m) (Grow.refl _) rfl (by simp)
    · have q : Bs.length ≠ 0 := fun z => q (by rw [rv_len, z]; rfl)
      obtain ⟨B1, Bs', s1, ss', eB, eS, W1, Ws1⟩ := hF.future.head q
      subst eB
      have hl2 := hF.past.len
      have hfew := ok.few
      rw [eS, List.length_cons] at hfew
      have et : (d.now :: d.past).take Km446.PAST = d.now :: d.past := List.take_of_length_le (by show (d.now :: d.past).length ≤ 20; rw [List.length_cons]; omega)
      walk_at "r"
      refine ⟨.inl ⟨rfl, _, SqL.of hF.e⟩, ?_⟩
      walk_at "r"
      refine ⟨le, _, _, rfl, rfl, hF.e, (by rw [rv_len]; omega), ?_⟩
      refine swapH (R := tSeq _ _ _ _) (show _ = upd H le (.lst (rv (A :: As))) from by rw [rv_cons]) ?_
      have ha1 : (upd H le (.lst (rv (A :: As)))) a = some (.ins C.f dx (ff A.w le ll)) := by rw [upd_ne nae]; exact ha
      have hl1 : (upd H le (.lst (rv (A :: As)))) ll = some (.lst (rv (B1 :: Bs'))) := by rw [upd_ne (Ne.symm hF.ne)]; exact hF.l
      walk_at "r"
      refine ⟨.inl ⟨rfl, _, SqL.of hl1⟩, ?_⟩
      refine ⟨ll, _, _, rfl, rfl, hl1, rv_last B1 Bs', ?_⟩
      walk_at "r"
      refine ⟨a, C.f, dx, _, rfl, (by rw [upd_ne nal]; exact ha1), tf, T.nf _ (by decide +kernel), (by show 3 < 1000; decide), ?_⟩
      refine swapH (R := tSeq _ _ _ _) (show _ = upd (upd (upd H le (.lst (rv (A :: As)))) ll (.lst (rv Bs'))) a (.ins C.f dx (ff B1.w le ll)) from by rw [rv_drop]; rfl) ?_
      have e3 : ∀ b o, b ≠ a → b ≠ le → b ≠ ll → H b = some o → (upd (upd (upd H le (.lst (rv (A :: As)))) ll (.lst (rv Bs'))) a (.ins C.f dx (ff B1.w le ll))) b = some o := fun b o m1 m2 m3 z => by rw [upd_ne m1, upd_ne m3, upd_ne m2]; exact z
      have ha3 : (upd (upd (upd H le (.lst (rv (A :: As)))) ll (.lst (rv Bs'))) a (.ins C.f dx (ff B1.w le ll))) a = some (.ins C.f dx (ff B1.w le ll)) := upd_same
      have hl3 : (upd (upd (upd H le (.lst (rv (A :: As)))) ll (.lst (rv Bs'))) a (.ins C.f dx (ff B1.w le ll))) ll = some (.lst (rv Bs')) := by rw [upd_ne (Ne.symm nal), upd_same]
      have he3 : (upd (upd (upd H le (.lst (rv (A :: As)))) ll (.lst (rv Bs'))) a (.ins C.f dx (ff B1.w le ll))) le = some (.lst (rv (A :: As))) := by rw [upd_ne (Ne.symm nae), upd_ne hF.ne, upd_same]
      have g3 : Grow H (upd (upd (upd H le (.lst (rv (A :: As)))) ll (.lst (rv Bs'))) a (.ins C.f dx (ff B1.w le ll))) := (((Grow.refl H).upd).upd).upd
      generalize upd (upd (upd H le (.lst (rv (A :: As)))) ll (.lst (rv Bs'))) a (.ins C.f dx (ff B1.w le ll)) = H3 at *
      obtain ⟨u1, u2, u3⟩ := hF.ws e3
      rw [eS] at u3
      have lle : Bs'.length = ss'.length := Ws1.len
      walk_at "r"
      refine ⟨_, _, rfl, .inl (SqL.of hl3), ?_⟩
      refine k.end_ (le := le) (ll := ll) (A := B1) (As := A :: As) (Bs := Bs') (d' := ⟨s1, d.now :: d.past, ss'⟩) (an := Km446.only ((ss'.length : Nat) : Int)) (by show (match d.future with | [] => _ | k :: r => _ : Desk × Ans) = _; rw [eS, et])
        ⟨⟨dx, ha3⟩, he3, hl3, hF.ne, u3.1, ⟨u1, u2⟩, u3.2, fun b hb => ?_⟩ (fun b o z nb => ?_) (fun b hb => ?_) g3 (by rw [rv_len, lle]; rfl) (by simp)
      · refine hF.sep b ?_
        rcases hb with m | m | m
        · exact .inr (.inr (alls_cons.mpr (.inl m)))
        · rcases alls_cons.mp m with m | m
          · exact .inl m
          · exact .inr (.inl m)
        · exact .inr (.inr (alls_cons.mpr (.inr m)))
      · exact e3 b o (fun y => nb (mem_lay.mpr (.inl y))) (fun y => nb (mem_lay.mpr (.inr (.inl y)))) (fun y => nb (mem_lay.mpr (.inr (.inr (.inl y))))) z
      · left
        rcases mem_lay.mp hb with m | m | m | m | m | m
        · exact mem_lay.mpr (.inl m)
        · exact mem_lay.mpr (.inr (.inl m))
        · exact mem_lay.mpr (.inr (.inr (.inl m)))
        · exact mem_lay.mpr (.inr (.inr (.inr (.inr (.inr (alls_cons.mpr (.inl m)))))))
        · rcases alls_cons.mp m with m | m
          · exact mem_lay.mpr (.inr (.inr (.inr (.inl m))))
          · exact mem_lay.mpr (.inr (.inr (.inr (.inr (.inl m)))))
        · exact mem_lay.mpr (.inr (.inr (.inr (.inr (.inr (alls_cons.mpr (.inr m)))))))
abbrev s_look_at_state : Stmt := top 51
theorem sc_look_at_state : FnScope ["flights", "world"] ["flights"] (defScope s_look_at_state) := ⟨rfl, rfl, rfl, by decide +kernel, rfl, by decide +kernel, by decide +kernel⟩
def sp_look_at_state (C : Cs) : Sp := fun vs H Q _ => ∃ (a : Addr) (L : List Addr) (d : Desk), vs = [.ref a] ∧ FA C H a L d ∧ Fin_ C H a L d .state Q
theorem ok_look_at_state (T : Txt K mg C) (F : Has K mg "look_at_state" s_look_at_state ["flights"]) : Can P w K mg base 1 "look_at_state" ["flights"] (sp_look_at_state C) := by
  refine can_of F sc_look_at_state (fun vs H Q E h => ?_) (fun f cdv A0 outer s0 H vs Q E hr h => ?_)
  · obtain ⟨a, L, d, rfl, _⟩ := h
    rfl
  · obtain ⟨a, L, d, rfl, ⟨le, ll, A, As, Bs, hF, rfl⟩, k⟩ := h
    refine ⟨_, (pss_cons (ps_set (i := 1) sc_look_at_state.nd rfl (Or.inl rfl) (pe_fld (pv 0) rfl))
      (pss_one (ps_ret (pe_lst (pa_cons (pe_fld (pv 1) rfl) (pa_cons (pe_callB call_len_seq (by rfl) T.len PySem.boot_len (pa_cons (pe_fld (pv 1) rfl) pa_nil)) (pa_cons (pe_callB call_len_seq (by rfl) T.len PySem.boot_len (pa_cons (pe_fld (pv 1) rfl) pa_nil)) (pa_cons (pe_fld (pv 1) rfl) (pa_cons (pe_callB call_len_seq (by rfl) T.len PySem.boot_len (pa_cons (pe_fld (pv 0) rfl) pa_nil)) (pa_cons (pe_callB call_len_seq (by rfl) T.len PySem.boot_len (pa_cons (pe_fld (pv 0) rfl) pa_nil)) pa_nil)))))))))), ?_⟩
    have tf := T.cf
    have tw := T.cw
    obtain ⟨dx, ha⟩ := hF.f
    obtain ⟨dw, hw⟩ := hF.now.w
    have n1 := hF.now.np
    have n2 := hF.now.nh
    have n3 := hF.past.len
    have n4 := hF.future.len
    walk_at "r"
    refine ⟨_, _, rfl, .inl (SqL.of hF.now.lp), ?_⟩
    walk_at "r"
    refine ⟨_, _, rfl, .inl (SqL.of hF.now.lh), ?_⟩
    walk_at "r"
    refine ⟨_, _, rfl, .inl (SqL.of hF.e), ?_⟩
    walk_at "r"
    refine ⟨_, _, rfl, .inl (SqL.of hF.l), ?_⟩
    refine k.end_ (d' := d) (an := ⟨((d.now.time : Nat) : Int), [d.now.places.length, d.now.helis.length, d.now.reserve, d.past.length, d.future.length]⟩) rfl hF (fun b o e _ => e) (fun b m => .inl m) (Grow.refl _) ?_ (by simp)
    rw [List.length_map, List.length_map, n1, n2, rv_len, rv_len, n3, n4]
    rfl
end
end Hf
end
section
set_option Elab.async false
set_option linter.all false
set_option maxRecDepth 100000
set_option maxHeartbeats 2000000
namespace Hf
open PySem PySem.Spec PyProof.Rows L2
open Km446 (Sea Heli Desk Ans)
section
variable {P : Program} {w : World} {K : PySem.W.Frag} {mg : Str → Option Value} {base : Heap} {C : Cs}
local macro_rules | `(tactic| walk_at "f") => `(tactic| refine ⟨_, _, _, _, _, rfl, by assumption, by assumption, (by first | exact Txt.nf (by assumption) _ (by decide +kernel) | exact Txt.nw (by assumption) _ (by decide +kernel) | exact Txt.nh (by assumption) _ (by decide +kernel) | exact Txt.np (by assumption) _ (by decide +kernel)), by rfl, ?_⟩)
local macro_rules | `(tactic| walk_at "r") => `(tactic| repeat (first | refine ⟨_, rfl, ?_⟩ | walk_at "f" | refine ⟨_, _, rfl, rfl, ?_⟩ | refine ⟨rfl, ?_⟩))
local macro_rules | `(tactic| walk_at "n") => `(tactic| (walk_at "r"; refine ⟨_, _, _, _, rfl, rfl, SqL.of (by assumption), (by rfl), ?_⟩))
/-- the number of a call is another: the test fails -/
theorem no_eq {i j : Int} {A B : Prop} (n : i ≠ j) (h : B) : if decide (V.int i = V.int j) = true then A else B := by
  rw [decide_eq_false (fun e => n (by cases e; rfl)), if_neg Bool.false_ne_true]
  exact h
theorem yes_eq {i j : Int} {A B : Prop} (n : i = j) (h : A) : if decide (V.int i = V.int j) = true then A else B := by
  rw [n, decide_eq_true rfl, if_pos rfl]
  exact h
abbrev s_change : Stmt := top 127
theorem sc_change : FnScope ["world", "code", "numbers"] ["world", "code", "numbers"] (defScope s_change) := ⟨rfl, rfl, rfl, by decide +kernel, rfl, by decide +kernel, by decide +kernel⟩
def is_change : KCall → Bool
  | .place .. | .way .. | .heli .. | .go .. | .winch .. | .land .. | .refuel .. | .minutes .. | .close .. | .open_ .. | .more .. => true
  | _ => false
def sp_change (C : Cs) : Sp := fun vs H Q _ => ∃ (A : Adr) (s : Sea) (x : KCall) (l : Addr), vs = [.ref A.w, .int (codeOf x : Nat), .ref l] ∧ is_change x = true ∧ WorldAt C H A s ∧ SeaOk s ∧ H l = some (.lst ((argsOf x).map V.int)) ∧ Chg C H A Q s x
theorem ok_change (T : Txt K mg C) (F : Has K mg "change" s_change ["world", "code", "numbers"]) (c_add_place : Can P w K mg base 9 "add_place" ["world", "base", "persons"] (sp_add_place C)) (c_set_way : Can P w K mg base 9 "set_way" ["world", "a", "b", "n"] (sp_set_way C)) (c_add_helicopter : Can P w K mg base 9 "add_helicopter" ["world", "p", "tank", "burn", "hover", "seats", "winch"] (sp_add_helicopter C)) (c_go : Can P w K mg base 9 "go" ["world", "h", "p"] (sp_go C)) (c_winch_up : Can P w K mg base 9 "winch_up" ["world", "h", "n"] (sp_winch_up C)) (c_land : Can P w K mg base 9 "land" ["world", "h"] (sp_land C)) (c_refuel : Can P w K mg base 9 "refuel" ["world", "h"] (sp_refuel C)) (c_pass_minutes : Can P w K mg base 9 "pass_minutes" ["world", "n"] (sp_pass_minutes C)) (c_close_base : Can P w K mg base 9 "close_base" ["world", "b"] (sp_close_base C)) (c_reopen_base : Can P w K mg base 9 "reopen_base" ["world", "b"] (sp_reopen_base C)) (c_add_persons : Can P w K mg base 9 "add_persons" ["world", "p", "n"] (sp_add_persons C)) : Can P w K mg base 10 "change" ["world", "code", "numbers"] (sp_change C) := by
  refine can_of F sc_change (fun vs H Q E h => ?_) (fun f cdv A0 outer s0 H vs Q E hr h => ?_)
  · obtain ⟨A, s, x, l, rfl, _⟩ := h
    rfl
  · obtain ⟨A, s, x, l, rfl, hx, W, ok, hl, k⟩ := h
    refine ⟨_, (pss_cons (ps_if (pt_cmpR op_eq (pv 1) (pe_gint (T.gi ("HF_PLACE", 1) (by decide +kernel))) (nomark _)) (pss_one (ps_ret (pe_can c_add_place hr (by decide) (pa_cons (pv 0) (pa_cons (pe_ix ix_list (pv 2) pe_int (fun _ _ => rfl)) (pa_cons (pe_ix ix_list (pv 2) pe_int (fun _ _ => rfl)) pa_nil)))))) pss_nil)
      (pss_cons (ps_if (pt_cmpR op_eq (pv 1) (pe_gint (T.gi ("HF_WAY", 2) (by decide +kernel))) (nomark _)) (pss_one (ps_ret (pe_can c_set_way hr (by decide) (pa_cons (pv 0) (pa_cons (pe_ix ix_list (pv 2) pe_int (fun _ _ => rfl)) (pa_cons (pe_ix ix_list (pv 2) pe_int (fun _ _ => rfl)) (pa_cons (pe_ix ix_list (pv 2) pe_int (fun _ _ => rfl)) pa_nil))))))) pss_nil)
      (pss_cons (ps_if (pt_cmpR op_eq (pv 1) (pe_gint (T.gi ("HF_HELI", 3) (by decide +kernel))) (nomark _)) (pss_one (ps_ret (pe_can c_add_helicopter hr (by decide) (pa_cons (pv 0) (pa_cons (pe_ix ix_list (pv 2) pe_int (fun _ _ => rfl)) (pa_cons (pe_ix ix_list (pv 2) pe_int (fun _ _ => rfl)) (pa_cons (pe_ix ix_list (pv 2) pe_int (fun _ _ => rfl)) (pa_cons (pe_ix ix_list (pv 2) pe_int (fun _ _ => rfl)) (pa_cons (pe_ix ix_list (pv 2) pe_int (fun _ _ => rfl)) (pa_cons (pe_ix ix_list (pv 2) pe_int (fun _ _ => rfl)) pa_nil)))))))))) pss_nil)
      (pss_cons (ps_if (pt_cmpR op_eq (pv 1) (pe_gint (T.gi ("HF_GO", 4) (by decide +kernel))) (nomark _)) (pss_one (ps_ret (pe_can c_go hr (by decide) (pa_cons (pv 0) (pa_cons (pe_ix ix_list (pv 2) pe_int (fun _ _ => rfl)) (pa_cons (pe_ix ix_list (pv 2) pe_int (fun _ _ => rfl)) pa_nil)))))) pss_nil)
      (pss_cons (ps_if (pt_cmpR op_eq (pv 1) (pe_gint (T.gi ("HF_WINCH", 5) (by decide +kernel))) (nomark _)) (pss_one (ps_ret (pe_can c_winch_up hr (by decide) (pa_cons (pv 0) (pa_cons (pe_ix ix_list (pv 2) pe_int (fun _ _ => rfl)) (pa_cons (pe_ix ix_list (pv 2) pe_int (fun _ _ => rfl)) pa_nil)))))) pss_nil)
      (pss_cons (ps_if (pt_cmpR op_eq (pv 1) (pe_gint (T.gi ("HF_LAND", 6) (by decide +kernel))) (nomark _)) (pss_one (ps_ret (pe_can c_land hr (by decide) (pa_cons (pv 0) (pa_cons (pe_ix ix_list (pv 2) pe_int (fun _ _ => rfl)) pa_nil))))) pss_nil)
      (pss_cons (ps_if (pt_cmpR op_eq (pv 1) (pe_gint (T.gi ("HF_REFUEL", 7) (by decide +kernel))) (nomark _)) (pss_one (ps_ret (pe_can c_refuel hr (by decide) (pa_cons (pv 0) (pa_cons (pe_ix ix_list (pv 2) pe_int (fun _ _ => rfl)) pa_nil))))) pss_nil)
      (pss_cons (ps_if (pt_cmpR op_eq (pv 1) (pe_gint (T.gi ("HF_MINUTES", 8) (by decide +kernel))) (nomark _)) (pss_one (ps_ret (pe_can c_pass_minutes hr (by decide) (pa_cons (pv 0) (pa_cons (pe_ix ix_list (pv 2) pe_int (fun _ _ => rfl)) pa_nil))))) pss_nil)
      (pss_cons (ps_if (pt_cmpR op_eq (pv 1) (pe_gint (T.gi ("HF_CLOSE", 9) (by decide +kernel))) (nomark _)) (pss_one (ps_ret (pe_can c_close_base hr (by decide) (pa_cons (pv 0) (pa_cons (pe_ix ix_list (pv 2) pe_int (fun _ _ => rfl)) pa_nil))))) pss_nil)
      (pss_cons (ps_if (pt_cmpR op_eq (pv 1) (pe_gint (T.gi ("HF_OPEN", 10) (by decide +kernel))) (nomark _)) (pss_one (ps_ret (pe_can c_reopen_base hr (by decide) (pa_cons (pv 0) (pa_cons (pe_ix ix_list (pv 2) pe_int (fun _ _ => rfl)) pa_nil))))) pss_nil)
      (pss_one (ps_ret (pe_can c_add_persons hr (by decide) (pa_cons (pv 0) (pa_cons (pe_ix ix_list (pv 2) pe_int (fun _ _ => rfl)) (pa_cons (pe_ix ix_list (pv 2) pe_int (fun _ _ => rfl)) pa_nil)))))))))))))))), ?_⟩
    cases x with
    | place b n =>
      have hl : H l = some (.lst [.int (b : Nat), .int (n : Nat)]) := hl
      walk_at "n"
      walk_at "n"
      exact ⟨A, s, b, n, rfl, W, ok, k⟩
    | way a b n =>
      have hl : H l = some (.lst [.int (a : Nat), .int (b : Nat), .int (n : Nat)]) := hl
      walk_at "n"
      walk_at "n"
      walk_at "n"
      exact ⟨A, s, a, b, n, rfl, W, ok, k⟩
    | heli p t b o c wi =>
      have hl : H l = some (.lst [.int (p : Nat), .int (t : Nat), .int (b : Nat), .int (o : Nat), .int (c : Nat), .int (wi : Nat)]) := hl
      walk_at "n"
      walk_at "n"
      walk_at "n"
      walk_at "n"
      walk_at "n"
      walk_at "n"
      exact ⟨A, s, p, t, b, o, c, wi, rfl, W, ok, k⟩
    | go h p =>
      have hl : H l = some (.lst [.int (h : Nat), .int (p : Nat)]) := hl
      walk_at "n"
      walk_at "n"
      exact ⟨A, s, h, p, rfl, W, ok, k⟩
    | winch h n =>
      have hl : H l = some (.lst [.int (h : Nat), .int (n : Nat)]) := hl
      walk_at "n"
      walk_at "n"
      exact ⟨A, s, h, n, rfl, W, ok, k⟩
    | land h =>
      have hl : H l = some (.lst [.int (h : Nat)]) := hl
      walk_at "n"
      exact ⟨A, s, h, rfl, W, ok, k⟩
    | refuel h =>
      have hl : H l = some (.lst [.int (h : Nat)]) := hl
      walk_at "n"
      exact ⟨A, s, h, rfl, W, ok, k⟩
    | minutes n =>
      have hl : H l = some (.lst [.int (n : Nat)]) := hl
      walk_at "n"
      exact ⟨A, s, n, rfl, W, ok, k⟩
    | close b =>
      have hl : H l = some (.lst [.int (b : Nat)]) := hl
      walk_at "n"
      exact ⟨A, s, b, rfl, W, ok, k⟩
    | open_ b =>
      have hl : H l = some (.lst [.int (b : Nat)]) := hl
      walk_at "n"
      exact ⟨A, s, b, rfl, W, ok, k⟩
    | more p n =>
      have hl : H l = some (.lst [.int (p : Nat), .int (n : Nat)]) := hl
      walk_at "n"
      walk_at "n"
      exact ⟨A, s, p, n, rfl, W, ok, k⟩
    | _ => exact absurd hx (by intro z; cases z)
abbrev s_ask : Stmt := top 129
theorem sc_ask : FnScope ["world", "code", "numbers"] ["world", "code", "numbers"] (defScope s_ask) := ⟨rfl, rfl, rfl, by decide +kernel, rfl, by decide +kernel, by decide +kernel⟩
def is_ask : KCall → Bool
  | .may .. | .stay .. | .lift .. | .nearest .. | .must .. | .range_ .. | .brings .. | .least .. => true
  | _ => false
def sp_ask (C : Cs) : Sp := fun vs H Q _ => ∃ (A : Adr) (s : Sea) (x : KCall) (l : Addr), vs = [.ref A.w, .int (codeOf x : Nat), .ref l] ∧ is_ask x = true ∧ WorldAt C H A s ∧ SeaOk s ∧ H l = some (.lst ((argsOf x).map V.int)) ∧ Told H Q s x
theorem ok_ask (T : Txt K mg C) (F : Has K mg "ask" s_ask ["world", "code", "numbers"]) (c_ask_may : Can P w K mg base 9 "ask_may" ["world", "h", "p"] (sp_ask_may C)) (c_ask_stay : Can P w K mg base 9 "ask_stay" ["world", "h"] (sp_ask_stay C)) (c_ask_lift : Can P w K mg base 9 "ask_lift" ["world", "h"] (sp_ask_lift C)) (c_ask_nearest : Can P w K mg base 9 "ask_nearest" ["world", "p"] (sp_ask_nearest C)) (c_ask_must : Can P w K mg base 9 "ask_must" ["world", "h", "p"] (sp_ask_must C)) (c_ask_range : Can P w K mg base 9 "ask_range" ["world", "h"] (sp_ask_range C)) (c_ask_brings : Can P w K mg base 9 "ask_brings" ["world", "h", "p", "t"] (sp_ask_brings C)) (c_ask_least : Can P w K mg base 9 "ask_least" ["world", "h", "p", "n"] (sp_ask_least C)) : Can P w K mg base 10 "ask" ["world", "code", "numbers"] (sp_ask C) := by
  refine can_of F sc_ask (fun vs H Q E h => ?_) (fun f cdv A0 outer s0 H vs Q E hr h => ?_)
  · obtain ⟨A, s, x, l, rfl, _⟩ := h
    rfl
  · obtain ⟨A, s, x, l, rfl, hx, W, ok, hl, k⟩ := h
    refine ⟨_, (pss_cons (ps_if (pt_cmpR op_eq (pv 1) (pe_gint (T.gi ("HF_MAY", 12) (by decide +kernel))) (nomark _)) (pss_one (ps_ret (pe_can c_ask_may hr (by decide) (pa_cons (pv 0) (pa_cons (pe_ix ix_list (pv 2) pe_int (fun _ _ => rfl)) (pa_cons (pe_ix ix_list (pv 2) pe_int (fun _ _ => rfl)) pa_nil)))))) pss_nil)
      (pss_cons (ps_if (pt_cmpR op_eq (pv 1) (pe_gint (T.gi ("HF_STAY", 13) (by decide +kernel))) (nomark _)) (pss_one (ps_ret (pe_can c_ask_stay hr (by decide) (pa_cons (pv 0) (pa_cons (pe_ix ix_list (pv 2) pe_int (fun _ _ => rfl)) pa_nil))))) pss_nil)
      (pss_cons (ps_if (pt_cmpR op_eq (pv 1) (pe_gint (T.gi ("HF_LIFT", 14) (by decide +kernel))) (nomark _)) (pss_one (ps_ret (pe_can c_ask_lift hr (by decide) (pa_cons (pv 0) (pa_cons (pe_ix ix_list (pv 2) pe_int (fun _ _ => rfl)) pa_nil))))) pss_nil)
      (pss_cons (ps_if (pt_cmpR op_eq (pv 1) (pe_gint (T.gi ("HF_NEAREST", 15) (by decide +kernel))) (nomark _)) (pss_one (ps_ret (pe_can c_ask_nearest hr (by decide) (pa_cons (pv 0) (pa_cons (pe_ix ix_list (pv 2) pe_int (fun _ _ => rfl)) pa_nil))))) pss_nil)
      (pss_cons (ps_if (pt_cmpR op_eq (pv 1) (pe_gint (T.gi ("HF_MUST", 16) (by decide +kernel))) (nomark _)) (pss_one (ps_ret (pe_can c_ask_must hr (by decide) (pa_cons (pv 0) (pa_cons (pe_ix ix_list (pv 2) pe_int (fun _ _ => rfl)) (pa_cons (pe_ix ix_list (pv 2) pe_int (fun _ _ => rfl)) pa_nil)))))) pss_nil)
      (pss_cons (ps_if (pt_cmpR op_eq (pv 1) (pe_gint (T.gi ("HF_RANGE", 17) (by decide +kernel))) (nomark _)) (pss_one (ps_ret (pe_can c_ask_range hr (by decide) (pa_cons (pv 0) (pa_cons (pe_ix ix_list (pv 2) pe_int (fun _ _ => rfl)) pa_nil))))) pss_nil)
      (pss_cons (ps_if (pt_cmpR op_eq (pv 1) (pe_gint (T.gi ("HF_BRINGS", 18) (by decide +kernel))) (nomark _)) (pss_one (ps_ret (pe_can c_ask_brings hr (by decide) (pa_cons (pv 0) (pa_cons (pe_ix ix_list (pv 2) pe_int (fun _ _ => rfl)) (pa_cons (pe_ix ix_list (pv 2) pe_int (fun _ _ => rfl)) (pa_cons (pe_ix ix_list (pv 2) pe_int (fun _ _ => rfl)) pa_nil))))))) pss_nil)
      (pss_one (ps_ret (pe_can c_ask_least hr (by decide) (pa_cons (pv 0) (pa_cons (pe_ix ix_list (pv 2) pe_int (fun _ _ => rfl)) (pa_cons (pe_ix ix_list (pv 2) pe_int (fun _ _ => rfl)) (pa_cons (pe_ix ix_list (pv 2) pe_int (fun _ _ => rfl)) pa_nil)))))))))))))), ?_⟩
    cases x with
    | may h p =>
      have hl : H l = some (.lst [.int (h : Nat), .int (p : Nat)]) := hl
      walk_at "n"
      walk_at "n"
      exact ⟨A, s, h, p, rfl, W, ok, k⟩
    | stay h =>
      have hl : H l = some (.lst [.int (h : Nat)]) := hl
      walk_at "n"
      exact ⟨A, s, h, rfl, W, ok, k⟩
    | lift h =>
      have hl : H l = some (.lst [.int (h : Nat)]) := hl
      walk_at "n"
      exact ⟨A, s, h, rfl, W, ok, k⟩
    | nearest p =>
      have hl : H l = some (.lst [.int (p : Nat)]) := hl
      walk_at "n"
      exact ⟨A, s, p, rfl, W, ok, k⟩
    | must h p =>
      have hl : H l = some (.lst [.int (h : Nat), .int (p : Nat)]) := hl
      walk_at "n"
      walk_at "n"
      exact ⟨A, s, h, p, rfl, W, ok, k⟩
    | range_ h =>
      have hl : H l = some (.lst [.int (h : Nat)]) := hl
      walk_at "n"
      exact ⟨A, s, h, rfl, W, ok, k⟩
    | brings h p t =>
      have hl : H l = some (.lst [.int (h : Nat), .int (p : Nat), .int (t : Nat)]) := hl
      walk_at "n"
      walk_at "n"
      walk_at "n"
      exact ⟨A, s, h, p, t, rfl, W, ok, k⟩
    | least h p n =>
      have hl : H l = some (.lst [.int (h : Nat), .int (p : Nat), .int (n : Nat)]) := hl
      walk_at "n"
      walk_at "n"
      walk_at "n"
      exact ⟨A, s, h, p, n, rfl, W, ok, k⟩
    | _ => exact absurd hx (by intro z; cases z)
abbrev s_look : Stmt := top 130
theorem sc_look : FnScope ["world", "code", "numbers"] ["world", "code", "numbers"] (defScope s_look) := ⟨rfl, rfl, rfl, by decide +kernel, rfl, by decide +kernel, by decide +kernel⟩
def is_look : KCall → Bool
  | .where_ .. | .look .. | .see .. | .far .. | .next | .sums => true
  | _ => false
def sp_look (C : Cs) : Sp := fun vs H Q _ => ∃ (A : Adr) (s : Sea) (x : KCall) (l : Addr), vs = [.ref A.w, .int (codeOf x : Nat), .ref l] ∧ is_look x = true ∧ WorldAt C H A s ∧ SeaOk s ∧ H l = some (.lst ((argsOf x).map V.int)) ∧ Told H Q s x
theorem ok_look (T : Txt K mg C) (F : Has K mg "look" s_look ["world", "code", "numbers"]) (c_look_where : Can P w K mg base 9 "look_where" ["world", "h"] (sp_look_where C)) (c_look_at_helicopter : Can P w K mg base 9 "look_at_helicopter" ["world", "h"] (sp_look_at_helicopter C)) (c_look_at_place : Can P w K mg base 9 "look_at_place" ["world", "p"] (sp_look_at_place C)) (c_look_how_far : Can P w K mg base 9 "look_how_far" ["world", "a", "b"] (sp_look_how_far C)) (c_look_who_is_next : Can P w K mg base 9 "look_who_is_next" ["world"] (sp_look_who_is_next C)) (c_look_at_sums : Can P w K mg base 9 "look_at_sums" ["world"] (sp_look_at_sums C)) : Can P w K mg base 10 "look" ["world", "code", "numbers"] (sp_look C) := by
  refine can_of F sc_look (fun vs H Q E h => ?_) (fun f cdv A0 outer s0 H vs Q E hr h => ?_)
  · obtain ⟨A, s, x, l, rfl, _⟩ := h
    rfl
  · obtain ⟨A, s, x, l, rfl, hx, W, ok, hl, k⟩ := h
    refine ⟨_, (pss_cons (ps_if (pt_cmpR op_eq (pv 1) (pe_gint (T.gi ("HF_WHERE", 20) (by decide +kernel))) (nomark _)) (pss_one (ps_ret (pe_can c_look_where hr (by decide) (pa_cons (pv 0) (pa_cons (pe_ix ix_list (pv 2) pe_int (fun _ _ => rfl)) pa_nil))))) pss_nil)
      (pss_cons (ps_if (pt_cmpR op_eq (pv 1) (pe_gint (T.gi ("HF_LOOK", 21) (by decide +kernel))) (nomark _)) (pss_one (ps_ret (pe_can c_look_at_helicopter hr (by decide) (pa_cons (pv 0) (pa_cons (pe_ix ix_list (pv 2) pe_int (fun _ _ => rfl)) pa_nil))))) pss_nil)
      (pss_cons (ps_if (pt_cmpR op_eq (pv 1) (pe_gint (T.gi ("HF_SEE", 22) (by decide +kernel))) (nomark _)) (pss_one (ps_ret (pe_can c_look_at_place hr (by decide) (pa_cons (pv 0) (pa_cons (pe_ix ix_list (pv 2) pe_int (fun _ _ => rfl)) pa_nil))))) pss_nil)
      (pss_cons (ps_if (pt_cmpR op_eq (pv 1) (pe_gint (T.gi ("HF_FAR", 23) (by decide +kernel))) (nomark _)) (pss_one (ps_ret (pe_can c_look_how_far hr (by decide) (pa_cons (pv 0) (pa_cons (pe_ix ix_list (pv 2) pe_int (fun _ _ => rfl)) (pa_cons (pe_ix ix_list (pv 2) pe_int (fun _ _ => rfl)) pa_nil)))))) pss_nil)
      (pss_cons (ps_if (pt_cmpR op_eq (pv 1) (pe_gint (T.gi ("HF_NEXT", 24) (by decide +kernel))) (nomark _)) (pss_one (ps_ret (pe_can c_look_who_is_next hr (by decide) (pa_cons (pv 0) pa_nil)))) pss_nil)
      (pss_one (ps_ret (pe_can c_look_at_sums hr (by decide) (pa_cons (pv 0) pa_nil))))))))), ?_⟩
    cases x with
    | where_ h =>
      have hl : H l = some (.lst [.int (h : Nat)]) := hl
      walk_at "n"
      exact ⟨A, s, h, rfl, W, ok, k⟩
    | look h =>
      have hl : H l = some (.lst [.int (h : Nat)]) := hl
      walk_at "n"
      exact ⟨A, s, h, rfl, W, ok, k⟩
    | see p =>
      have hl : H l = some (.lst [.int (p : Nat)]) := hl
      walk_at "n"
      exact ⟨A, s, p, rfl, W, ok, k⟩
    | far a b =>
      have hl : H l = some (.lst [.int (a : Nat), .int (b : Nat)]) := hl
      walk_at "n"
      walk_at "n"
      exact ⟨A, s, a, b, rfl, W, ok, k⟩
    | next =>
      walk_at "r"
      exact ⟨A, s, rfl, W, ok, k⟩
    | sums =>
      walk_at "r"
      exact ⟨A, s, rfl, W, ok, k⟩
    | _ => exact absurd hx (by intro z; cases z)
end
end Hf
end
section
set_option Elab.async false
set_option linter.all false
set_option maxRecDepth 100000
set_option maxHeartbeats 2000000
namespace Hf
open PySem PySem.Spec PyProof.Rows L2
open Km446 (Sea Heli Desk Ans)
section
variable {P : Program} {w : World} {K : PySem.W.Frag} {mg : Str → Option Value} {base : Heap} {C : Cs}
local macro_rules | `(tactic| walk_at "f") => `(tactic| refine ⟨_, _, _, _, _, rfl, by assumption, by assumption, (by first | exact Txt.nf (by assumption) _ (by decide +kernel) | exact Txt.nw (by assumption) _ (by decide +kernel) | exact Txt.nh (by assumption) _ (by decide +kernel) | exact Txt.np (by assumption) _ (by decide +kernel)), by rfl, ?_⟩)
local macro_rules | `(tactic| walk_at "r") => `(tactic| repeat (first | refine ⟨_, rfl, ?_⟩ | walk_at "f" | refine ⟨_, _, rfl, rfl, ?_⟩ | refine ⟨rfl, ?_⟩))
local macro_rules | `(tactic| walk_at "n") => `(tactic| (walk_at "r"; refine ⟨_, _, _, _, rfl, rfl, SqL.of (by assumption), (by rfl), ?_⟩))
theorem chg_is {x : KCall} (h : is_change x = true) : isChg x = true := by
  cases x <;> first | rfl | exact absurd h (by intro z; cases z)
abbrev s_make_change : Stmt := top 128
theorem sc_make_change : FnScope ["flights", "code", "numbers", "changed", "answer"] ["flights", "code", "numbers"] (defScope s_make_change) := ⟨rfl, rfl, rfl, by decide +kernel, rfl, by decide +kernel, by decide +kernel⟩
def sp_make_change (C : Cs) : Sp := fun vs H Q _ => ∃ (a : Addr) (L : List Addr) (d : Desk) (x : KCall) (l : Addr), vs = [.ref a, .int (codeOf x : Nat), .ref l] ∧ is_change x = true ∧ FA C H a L d ∧ DeskOk d ∧ H l = some (.lst ((argsOf x).map V.int)) ∧ Fin_ C H a L d x Q
theorem ok_make_change (T : Txt K mg C) (F : Has K mg "make_change" s_make_change ["flights", "code", "numbers"]) (c_copy_of_world : Can P w K mg base 4 "copy_of_world" ["world"] (sp_copy_of_world C)) (c_change : Can P w K mg base 10 "change" ["world", "code", "numbers"] (sp_change C)) (c_keep_change : Can P w K mg base 1 "keep_change" ["flights", "changed"] (sp_keep_change C)) :
    Can P w K mg base 11 "make_change" ["flights", "code", "numbers"] (sp_make_change C) := by
  refine can_of F sc_make_change (fun vs H Q E h => ?_) (fun f cdv A0 outer s0 H vs Q E hr h => ?_)
  · obtain ⟨a, L, d, x, l, rfl, _⟩ := h
    rfl
  · obtain ⟨a, L, d, x, l, rfl, hx, ⟨le, ll, A, As, Bs, hF, rfl⟩, ok, hl, k⟩ := h
    refine ⟨_, (pss_cons (ps_set (i := 3) sc_make_change.nd rfl (Or.inl rfl) (pe_can c_copy_of_world hr (by decide) (pa_cons (pe_fld (pv 0) rfl) pa_nil)))
      (pss_cons (ps_set (i := 4) sc_make_change.nd rfl (Or.inl rfl) (pe_can c_change hr (by decide) (pa_cons (pv 3) (pa_cons (pv 1) (pa_cons (pv 2) pa_nil)))))
      (pss_cons (ps_if (pt_cmpR op_ge (pe_ix ix_list (pv 4) pe_int (fun _ _ => rfl)) pe_int (nomark _)) (pss_one (ps_expr (pe_can c_keep_change hr (by decide) (pa_cons (pv 0) (pa_cons (pv 3) pa_nil))))) pss_nil)
      (pss_one (ps_ret (pv 4)))))), ?_⟩
    have tf := T.cf
    obtain ⟨dx, ha⟩ := hF.f
    walk_at "r"
    refine ⟨A, d.now, rfl, hF.now, ok.now, fun H1 A1 S1 new1 W1 => ?_⟩
    walk_at "r"
    refine ⟨A1, d.now, x, l, rfl, hx, W1, ok.now, S1 _ _ hl, fun H2 A2 r W2 K2 hr1 hr2 hr3 => ?_⟩
    have S2 : Same H H2 := fun b o e => K2.out b o (S1 _ _ e) (fun m => by rw [new1 b m] at e; cases e)
    have hr0 : H r = none := S1.free hr2
    have n2 : ∀ b ∈ A2.all, H b = none := fun b m => by
      rcases K2.new b m with z | z
      · exact new1 b z
      · exact S1.free z
    have hF2 := hF.loc (H' := H2) fun b _ o e => S2 _ _ e
    have hlen : As.length ≤ 20 := by
      have h1 := hF.past.len
      have h2 := ok.few
      omega
    have nn : ∀ b, H b = none → ∀ c o, H c = some o → b ≠ c := fun b h1 c o h2 e => by rw [e, h2] at h1; cases h1
    walk_at "r"
    refine ⟨_, _, _, _, rfl, rfl, SqL.of hr1, (show atI _ ((0 : Nat) : Int) = some (V.int (ans d.now x).value) from atI_nat rfl), ?_⟩
    walk_at "r"
    refine ite2 (fun q => ?_) (fun q => ?_)
    · have q : 0 ≤ (ans d.now x).value := of_decide_eq_true q
      have ea : Km446.act d x = (d.become (nxt d.now x), ans d.now x) := by
        rcases lift_chg (chg_is hx) d with z | z
        · exact absurd z.1 (by omega)
        · exact z.2
      walk_at "r"
      refine ⟨a, le, ll, A, A2, As, Bs, d, nxt d.now x, (by rw [K2.w]; rfl), hF2, W2, hlen, fun b m => ⟨nn b (n2 b m) a _ ha, nn b (n2 b m) le _ hF.e, nn b (n2 b m) ll _ hF.l⟩, fun H3 lw F3 hlw e3 g3 => ?_⟩
      have hr3' : H3 r = _ := e3 r _ (nn r hr0 a _ ha) (nn r hr0 le _ hF.e) hr1
      have hlw0 : H lw = none := S2.free hlw
      walk_at "r"
      refine k H3 (lay a le lw A2 ((A :: As).take 20) []) r ⟨le, lw, A2, _, [], (by rw [ea]; exact F3), rfl⟩ (fun b o e nb => ?_) (fun b hb => ?_) (by rw [ea]; exact hr3') hr0 (fun m => ?_)
      · exact e3 b o (fun z => nb (mem_lay.mpr (.inl z))) (fun z => nb (mem_lay.mpr (.inr (.inl z)))) (S2 _ _ e)
      · rcases mem_lay.mp hb with m | m | m | m | m | m
        · exact .inl (mem_lay.mpr (.inl m))
        · exact .inl (mem_lay.mpr (.inr (.inl m)))
        · exact .inr (by rw [m]; exact hlw0)
        · exact .inr (n2 b m)
        · left
          obtain ⟨B, hB, z⟩ := mem_alls.mp m
          rcases List.mem_cons.mp (List.mem_of_mem_take hB) with y | y
          · rw [y] at z; exact mem_lay.mpr (.inr (.inr (.inr (.inl z))))
          · exact mem_lay.mpr (.inr (.inr (.inr (.inr (.inl (mem_alls.mpr ⟨B, y, z⟩))))))
        · cases m
      · rcases mem_lay.mp m with m | m | m | m | m | m
        · exact nn r hr0 a _ ha m
        · exact nn r hr0 le _ hF.e m
        · rw [m, hlw] at hr1; cases hr1
        · exact hr3 m
        · obtain ⟨B, hB, z⟩ := mem_alls.mp m
          rcases List.mem_cons.mp (List.mem_of_mem_take hB) with y | y
          · rw [y] at z
            obtain ⟨o, e⟩ := hF.now.there r z
            rw [hr0] at e; cases e
          · obtain ⟨o, e⟩ := hF.past.there r (mem_alls.mpr ⟨B, y, z⟩)
            rw [hr0] at e; cases e
        · cases m
    · have q : ¬ 0 ≤ (ans d.now x).value := fun z => q (decide_eq_true z)
      have ea : Km446.act d x = (d, ans d.now x) := by
        rcases lift_chg (chg_is hx) d with z | z
        · exact z.2.2.2
        · exact absurd z.1 q
      walk_at "r"
      refine k H2 (lay a le ll A As Bs) r ⟨le, ll, A, As, Bs, (by rw [ea]; exact hF2), rfl⟩ (fun b o e nb => S2 _ _ e) (fun b hb => .inl hb) (by rw [ea]; exact hr1) hr0 (fun m => ?_)
      obtain ⟨o, e⟩ := hF.there r m
      rw [hr0] at e; cases e
theorem Fin_.told {H : Hp} {a : Addr} {L : List Addr} {d : Desk} {x : KCall} {Q : VK} (k : Fin_ C H a L d x Q) (hF : FA C H a L d) (hx : isAsk x = true) : Told H Q d.now x := by
  intro H' r S hr hl
  have ea := ask_desk hx d
  refine k H' L r (by rw [ea]; exact (fax C).same hF S) (fun b o e _ => S _ _ e) (fun b m => .inl m) (by rw [ea]; exact hl) hr ((fax C).not hF hr)
abbrev s_answer_call : Stmt := top 131
theorem sc_answer_call : FnScope ["flights", "code", "numbers"] ["flights", "code", "numbers"] (defScope s_answer_call) := ⟨rfl, rfl, rfl, by decide +kernel, rfl, by decide +kernel, by decide +kernel⟩
theorem ok_answer_call (T : Txt K mg C) (F : Has K mg "answer_call" s_answer_call ["flights", "code", "numbers"]) (c_start : Can P w K mg base 3 "start" ["flights", "reserve"] (sp_start C)) (c_make_change : Can P w K mg base 11 "make_change" ["flights", "code", "numbers"] (sp_make_change C)) (c_ask : Can P w K mg base 10 "ask" ["world", "code", "numbers"] (sp_ask C)) (c_look : Can P w K mg base 10 "look" ["world", "code", "numbers"] (sp_look C))
    (c_take_back : Can P w K mg base 1 "take_back" ["flights"] (sp_take_back C)) (c_do_again : Can P w K mg base 1 "do_again" ["flights"] (sp_do_again C)) (c_look_at_state : Can P w K mg base 1 "look_at_state" ["flights"] (sp_look_at_state C)) :
    Can P w K mg base 12 "answer_call" ["flights", "code", "numbers"] (sp_answer_call (FA C)) := by
  refine can_of F sc_answer_call (fun vs H Q E h => ?_) (fun f cdv A0 outer s0 H vs Q E hr h => ?_)
  · obtain ⟨a, l, L, d, x, rfl, _⟩ := h
    rfl
  · obtain ⟨a, l, L, d, x, rfl, hF, ok, hs, hlL, hl, k⟩ := h
    refine ⟨_, (pss_cons (ps_if (pt_cmpR op_eq (pv 1) (pe_gint (T.gi ("HF_START", 0) (by decide +kernel))) (nomark _)) (pss_one (ps_ret (pe_can c_start hr (by decide) (pa_cons (pv 0) (pa_cons (pe_ix ix_list (pv 2) pe_int (fun _ _ => rfl)) pa_nil))))) pss_nil)
      (pss_cons (ps_if (pt_cmpR op_le (pv 1) (pe_gint (T.gi ("HF_MORE", 11) (by decide +kernel))) (nomark _)) (pss_one (ps_ret (pe_can c_make_change hr (by decide) (pa_cons (pv 0) (pa_cons (pv 1) (pa_cons (pv 2) pa_nil)))))) pss_nil)
      (pss_cons (ps_if (pt_cmpR op_le (pv 1) (pe_gint (T.gi ("HF_LEAST", 19) (by decide +kernel))) (nomark _)) (pss_one (ps_ret (pe_can c_ask hr (by decide) (pa_cons (pe_fld (pv 0) rfl) (pa_cons (pv 1) (pa_cons (pv 2) pa_nil)))))) pss_nil)
      (pss_cons (ps_if (pt_cmpR op_le (pv 1) (pe_gint (T.gi ("HF_SUMS", 25) (by decide +kernel))) (nomark _)) (pss_one (ps_ret (pe_can c_look hr (by decide) (pa_cons (pe_fld (pv 0) rfl) (pa_cons (pv 1) (pa_cons (pv 2) pa_nil)))))) pss_nil)
      (pss_cons (ps_if (pt_cmpR op_eq (pv 1) (pe_gint (T.gi ("HF_BACK", 26) (by decide +kernel))) (nomark _)) (pss_one (ps_ret (pe_can c_take_back hr (by decide) (pa_cons (pv 0) pa_nil)))) pss_nil)
      (pss_cons (ps_if (pt_cmpR op_eq (pv 1) (pe_gint (T.gi ("HF_AGAIN", 27) (by decide +kernel))) (nomark _)) (pss_one (ps_ret (pe_can c_do_again hr (by decide) (pa_cons (pv 0) pa_nil)))) pss_nil)
      (pss_one (ps_ret (pe_can c_look_at_state hr (by decide) (pa_cons (pv 0) pa_nil)))))))))), ?_⟩
    have k : Fin_ C H a L d x Q := k
    have tf := T.cf
    have hF0 := hF
    obtain ⟨le, ll, A, As, Bs, hFt, eL⟩ := hF0
    obtain ⟨dx, ha⟩ := hFt.f
    cases x with
    | start r =>
      have hl : H l = some (.lst [.int (r : Nat)]) := hl
      walk_at "n"
      exact ⟨a, L, d, r, rfl, hF, k⟩
    | place vb vn =>
      walk_at "r"
      exact ⟨a, L, d, .place vb vn, l, rfl, rfl, hF, ok, hl, k⟩
    | way va vb vn =>
      walk_at "r"
      exact ⟨a, L, d, .way va vb vn, l, rfl, rfl, hF, ok, hl, k⟩
    | heli vp vt vb vo vc vwi =>
      walk_at "r"
      exact ⟨a, L, d, .heli vp vt vb vo vc vwi, l, rfl, rfl, hF, ok, hl, k⟩
    | go vh vp =>
      walk_at "r"
      exact ⟨a, L, d, .go vh vp, l, rfl, rfl, hF, ok, hl, k⟩
    | winch vh vn =>
      walk_at "r"
      exact ⟨a, L, d, .winch vh vn, l, rfl, rfl, hF, ok, hl, k⟩
    | land vh =>
      walk_at "r"
      exact ⟨a, L, d, .land vh, l, rfl, rfl, hF, ok, hl, k⟩
    | refuel vh =>
      walk_at "r"
      exact ⟨a, L, d, .refuel vh, l, rfl, rfl, hF, ok, hl, k⟩
    | minutes vn =>
      walk_at "r"
      exact ⟨a, L, d, .minutes vn, l, rfl, rfl, hF, ok, hl, k⟩
    | close vb =>
      walk_at "r"
      exact ⟨a, L, d, .close vb, l, rfl, rfl, hF, ok, hl, k⟩
    | open_ vb =>
      walk_at "r"
      exact ⟨a, L, d, .open_ vb, l, rfl, rfl, hF, ok, hl, k⟩
    | more vp vn =>
      walk_at "r"
      exact ⟨a, L, d, .more vp vn, l, rfl, rfl, hF, ok, hl, k⟩
    | may vh vp =>
      walk_at "r"
      exact ⟨A, d.now, .may vh vp, l, rfl, rfl, hFt.now, ok.now, hl, k.told hF rfl⟩
    | stay vh =>
      walk_at "r"
      exact ⟨A, d.now, .stay vh, l, rfl, rfl, hFt.now, ok.now, hl, k.told hF rfl⟩
    | lift vh =>
      walk_at "r"
      exact ⟨A, d.now, .lift vh, l, rfl, rfl, hFt.now, ok.now, hl, k.told hF rfl⟩
    | nearest vp =>
      walk_at "r"
      exact ⟨A, d.now, .nearest vp, l, rfl, rfl, hFt.now, ok.now, hl, k.told hF rfl⟩
    | must vh vp =>
      walk_at "r"
      exact ⟨A, d.now, .must vh vp, l, rfl, rfl, hFt.now, ok.now, hl, k.told hF rfl⟩
    | range_ vh =>
      walk_at "r"
      exact ⟨A, d.now, .range_ vh, l, rfl, rfl, hFt.now, ok.now, hl, k.told hF rfl⟩
    | brings vh vp vt =>
      walk_at "r"
      exact ⟨A, d.now, .brings vh vp vt, l, rfl, rfl, hFt.now, ok.now, hl, k.told hF rfl⟩
    | least vh vp vn =>
      walk_at "r"
      exact ⟨A, d.now, .least vh vp vn, l, rfl, rfl, hFt.now, ok.now, hl, k.told hF rfl⟩
    | where_ vh =>
      walk_at "r"
      exact ⟨A, d.now, .where_ vh, l, rfl, rfl, hFt.now, ok.now, hl, k.told hF rfl⟩
    | look vh =>
      walk_at "r"
      exact ⟨A, d.now, .look vh, l, rfl, rfl, hFt.now, ok.now, hl, k.told hF rfl⟩
    | see vp =>
      walk_at "r"
      exact ⟨A, d.now, .see vp, l, rfl, rfl, hFt.now, ok.now, hl, k.told hF rfl⟩
    | far va vb =>
      walk_at "r"
      exact ⟨A, d.now, .far va vb, l, rfl, rfl, hFt.now, ok.now, hl, k.told hF rfl⟩
    | next =>
      walk_at "r"
      exact ⟨A, d.now, .next, l, rfl, rfl, hFt.now, ok.now, hl, k.told hF rfl⟩
    | sums =>
      walk_at "r"
      exact ⟨A, d.now, .sums, l, rfl, rfl, hFt.now, ok.now, hl, k.told hF rfl⟩
    | back =>
      walk_at "r"
      exact ⟨a, L, d, rfl, hF, ok, k⟩
    | again =>
      walk_at "r"
      exact ⟨a, L, d, rfl, hF, ok, k⟩
    | state =>
      walk_at "r"
      exact ⟨a, L, d, rfl, hF, k⟩
end
end Hf
end
section
set_option Elab.async false
set_option linter.all false
set_option maxRecDepth 100000
set_option maxHeartbeats 2000000
namespace Hf
open PySem PySem.Spec PyProof.Rows L2
open Km446 (Sea Heli Desk Ans)
theorem all_mk {P : Program} {w : World} {K : PySem.W.Frag} {h : Heap} {mg : Str → Option Value} {fa : Addr}
    {c_Place : Addr}
    {fi_Place : Addr} {oc_Place kV_Place dc_Place pm_Place cd_Place ct_Place : Value} {od_Place an_Place : Option Addr} {sl_Place : Array (Option Value)}
    {c_Helicopter : Addr}
    {fi_Helicopter : Addr} {oc_Helicopter kV_Helicopter dc_Helicopter pm_Helicopter cd_Helicopter ct_Helicopter : Value} {od_Helicopter an_Helicopter : Option Addr} {sl_Helicopter : Array (Option Value)}
    {c_World : Addr}
    {fi_World : Addr} {oc_World kV_World dc_World pm_World cd_World ct_World : Value} {od_World an_World : Option Addr} {sl_World : Array (Option Value)}
    {c_Flights : Addr}
    {fi_Flights : Addr} {oc_Flights kV_Flights dc_Flights pm_Flights cd_Flights ct_Flights : Value} {od_Flights an_Flights : Option Addr} {sl_Flights : Array (Option Value)}
    {f_has_place : Addr} {oc_has_place kV_has_place dc_has_place pm_has_place cd_has_place ct_has_place : Value} {od_has_place an_has_place : Option Addr} {sl_has_place : Array (Option Value)}
    {f_has_helicopter : Addr} {oc_has_helicopter kV_has_helicopter dc_has_helicopter pm_has_helicopter cd_has_helicopter ct_has_helicopter : Value} {od_has_helicopter an_has_helicopter : Option Addr} {sl_has_helicopter : Array (Option Value)}
    {f_way_key : Addr} {oc_way_key kV_way_key dc_way_key pm_way_key cd_way_key ct_way_key : Value} {od_way_key an_way_key : Option Addr} {sl_way_key : Array (Option Value)}
    {f_way_minutes : Addr} {oc_way_minutes kV_way_minutes dc_way_minutes pm_way_minutes cd_way_minutes ct_way_minutes : Value} {od_way_minutes an_way_minutes : Option Addr} {sl_way_minutes : Array (Option Value)}
    {f_open_bases : Addr} {oc_open_bases kV_open_bases dc_open_bases pm_open_bases cd_open_bases ct_open_bases : Value} {od_open_bases an_open_bases : Option Addr} {sl_open_bases : Array (Option Value)}
    {f_copy_of_place : Addr} {oc_copy_of_place kV_copy_of_place dc_copy_of_place pm_copy_of_place cd_copy_of_place ct_copy_of_place : Value} {od_copy_of_place an_copy_of_place : Option Addr} {sl_copy_of_place : Array (Option Value)}
    {f_copy_of_helicopter : Addr} {oc_copy_of_helicopter kV_copy_of_helicopter dc_copy_of_helicopter pm_copy_of_helicopter cd_copy_of_helicopter ct_copy_of_helicopter : Value} {od_copy_of_helicopter an_copy_of_helicopter : Option Addr} {sl_copy_of_helicopter : Array (Option Value)}
    {f_copy_of_world : Addr} {oc_copy_of_world kV_copy_of_world dc_copy_of_world pm_copy_of_world cd_copy_of_world ct_copy_of_world : Value} {od_copy_of_world an_copy_of_world : Option Addr} {sl_copy_of_world : Array (Option Value)}
    {f_nearest_base : Addr} {oc_nearest_base kV_nearest_base dc_nearest_base pm_nearest_base cd_nearest_base ct_nearest_base : Value} {od_nearest_base an_nearest_base : Option Addr} {sl_nearest_base : Array (Option Value)}
    {f_must_be_left : Addr} {oc_must_be_left kV_must_be_left dc_must_be_left pm_must_be_left cd_must_be_left ct_must_be_left : Value} {od_must_be_left an_must_be_left : Option Addr} {sl_must_be_left : Array (Option Value)}
    {f_is_enough : Addr} {oc_is_enough kV_is_enough dc_is_enough pm_is_enough cd_is_enough ct_is_enough : Value} {od_is_enough an_is_enough : Option Addr} {sl_is_enough : Array (Option Value)}
    {f_can_come_back : Addr} {oc_can_come_back kV_can_come_back dc_can_come_back pm_can_come_back cd_can_come_back ct_can_come_back : Value} {od_can_come_back an_can_come_back : Option Addr} {sl_can_come_back : Array (Option Value)}
    {f_may_go : Addr} {oc_may_go kV_may_go dc_may_go pm_may_go cd_may_go ct_may_go : Value} {od_may_go an_may_go : Option Addr} {sl_may_go : Array (Option Value)}
    {f_may_hover : Addr} {oc_may_hover kV_may_hover dc_may_hover pm_may_hover cd_may_hover ct_may_hover : Value} {od_may_hover an_may_hover : Option Addr} {sl_may_hover : Array (Option Value)}
    {f_seats_left : Addr} {oc_seats_left kV_seats_left dc_seats_left pm_seats_left cd_seats_left ct_seats_left : Value} {od_seats_left an_seats_left : Option Addr} {sl_seats_left : Array (Option Value)}
    {f_winched_in_time : Addr} {oc_winched_in_time kV_winched_in_time dc_winched_in_time pm_winched_in_time cd_winched_in_time ct_winched_in_time : Value} {od_winched_in_time an_winched_in_time : Option Addr} {sl_winched_in_time : Array (Option Value)}
    {f_may_lift : Addr} {oc_may_lift kV_may_lift dc_may_lift pm_may_lift cd_may_lift ct_may_lift : Value} {od_may_lift an_may_lift : Option Addr} {sl_may_lift : Array (Option Value)}
    {f_ask_may : Addr} {oc_ask_may kV_ask_may dc_ask_may pm_ask_may cd_ask_may ct_ask_may : Value} {od_ask_may an_ask_may : Option Addr} {sl_ask_may : Array (Option Value)}
    {f_ask_stay : Addr} {oc_ask_stay kV_ask_stay dc_ask_stay pm_ask_stay cd_ask_stay ct_ask_stay : Value} {od_ask_stay an_ask_stay : Option Addr} {sl_ask_stay : Array (Option Value)}
    {f_ask_lift : Addr} {oc_ask_lift kV_ask_lift dc_ask_lift pm_ask_lift cd_ask_lift ct_ask_lift : Value} {od_ask_lift an_ask_lift : Option Addr} {sl_ask_lift : Array (Option Value)}
    {f_ask_nearest : Addr} {oc_ask_nearest kV_ask_nearest dc_ask_nearest pm_ask_nearest cd_ask_nearest ct_ask_nearest : Value} {od_ask_nearest an_ask_nearest : Option Addr} {sl_ask_nearest : Array (Option Value)}
    {f_ask_must : Addr} {oc_ask_must kV_ask_must dc_ask_must pm_ask_must cd_ask_must ct_ask_must : Value} {od_ask_must an_ask_must : Option Addr} {sl_ask_must : Array (Option Value)}
    {f_ask_range : Addr} {oc_ask_range kV_ask_range dc_ask_range pm_ask_range cd_ask_range ct_ask_range : Value} {od_ask_range an_ask_range : Option Addr} {sl_ask_range : Array (Option Value)}
    {f_start : Addr} {oc_start kV_start dc_start pm_start cd_start ct_start : Value} {od_start an_start : Option Addr} {sl_start : Array (Option Value)}
    {f_keep_change : Addr} {oc_keep_change kV_keep_change dc_keep_change pm_keep_change cd_keep_change ct_keep_change : Value} {od_keep_change an_keep_change : Option Addr} {sl_keep_change : Array (Option Value)}
    {f_take_back : Addr} {oc_take_back kV_take_back dc_take_back pm_take_back cd_take_back ct_take_back : Value} {od_take_back an_take_back : Option Addr} {sl_take_back : Array (Option Value)}
    {f_do_again : Addr} {oc_do_again kV_do_again dc_do_again pm_do_again cd_do_again ct_do_again : Value} {od_do_again an_do_again : Option Addr} {sl_do_again : Array (Option Value)}
    {f_look_at_state : Addr} {oc_look_at_state kV_look_at_state dc_look_at_state pm_look_at_state cd_look_at_state ct_look_at_state : Value} {od_look_at_state an_look_at_state : Option Addr} {sl_look_at_state : Array (Option Value)}
    {f_go : Addr} {oc_go kV_go dc_go pm_go cd_go ct_go : Value} {od_go an_go : Option Addr} {sl_go : Array (Option Value)}
    {f_winch_up : Addr} {oc_winch_up kV_winch_up dc_winch_up pm_winch_up cd_winch_up ct_winch_up : Value} {od_winch_up an_winch_up : Option Addr} {sl_winch_up : Array (Option Value)}
    {f_land : Addr} {oc_land kV_land dc_land pm_land cd_land ct_land : Value} {od_land an_land : Option Addr} {sl_land : Array (Option Value)}
    {f_refuel : Addr} {oc_refuel kV_refuel dc_refuel pm_refuel cd_refuel ct_refuel : Value} {od_refuel an_refuel : Option Addr} {sl_refuel : Array (Option Value)}
    {f_look_where : Addr} {oc_look_where kV_look_where dc_look_where pm_look_where cd_look_where ct_look_where : Value} {od_look_where an_look_where : Option Addr} {sl_look_where : Array (Option Value)}
    {f_look_at_helicopter : Addr} {oc_look_at_helicopter kV_look_at_helicopter dc_look_at_helicopter pm_look_at_helicopter cd_look_at_helicopter ct_look_at_helicopter : Value} {od_look_at_helicopter an_look_at_helicopter : Option Addr} {sl_look_at_helicopter : Array (Option Value)}
    {f_look_at_place : Addr} {oc_look_at_place kV_look_at_place dc_look_at_place pm_look_at_place cd_look_at_place ct_look_at_place : Value} {od_look_at_place an_look_at_place : Option Addr} {sl_look_at_place : Array (Option Value)}
    {f_look_how_far : Addr} {oc_look_how_far kV_look_how_far dc_look_how_far pm_look_how_far cd_look_how_far ct_look_how_far : Value} {od_look_how_far an_look_how_far : Option Addr} {sl_look_how_far : Array (Option Value)}
    {f_look_who_is_next : Addr} {oc_look_who_is_next kV_look_who_is_next dc_look_who_is_next pm_look_who_is_next cd_look_who_is_next ct_look_who_is_next : Value} {od_look_who_is_next an_look_who_is_next : Option Addr} {sl_look_who_is_next : Array (Option Value)}
    {f_look_at_sums : Addr} {oc_look_at_sums kV_look_at_sums dc_look_at_sums pm_look_at_sums cd_look_at_sums ct_look_at_sums : Value} {od_look_at_sums an_look_at_sums : Option Addr} {sl_look_at_sums : Array (Option Value)}
    {f_add_place : Addr} {oc_add_place kV_add_place dc_add_place pm_add_place cd_add_place ct_add_place : Value} {od_add_place an_add_place : Option Addr} {sl_add_place : Array (Option Value)}
    {f_set_way : Addr} {oc_set_way kV_set_way dc_set_way pm_set_way cd_set_way ct_set_way : Value} {od_set_way an_set_way : Option Addr} {sl_set_way : Array (Option Value)}
    {f_is_from_one_to : Addr} {oc_is_from_one_to kV_is_from_one_to dc_is_from_one_to pm_is_from_one_to cd_is_from_one_to ct_is_from_one_to : Value} {od_is_from_one_to an_is_from_one_to : Option Addr} {sl_is_from_one_to : Array (Option Value)}
    {f_is_as_told : Addr} {oc_is_as_told kV_is_as_told dc_is_as_told pm_is_as_told cd_is_as_told ct_is_as_told : Value} {od_is_as_told an_is_as_told : Option Addr} {sl_is_as_told : Array (Option Value)}
    {f_add_helicopter : Addr} {oc_add_helicopter kV_add_helicopter dc_add_helicopter pm_add_helicopter cd_add_helicopter ct_add_helicopter : Value} {od_add_helicopter an_add_helicopter : Option Addr} {sl_add_helicopter : Array (Option Value)}
    {f_add_persons : Addr} {oc_add_persons kV_add_persons dc_add_persons pm_add_persons cd_add_persons ct_add_persons : Value} {od_add_persons an_add_persons : Option Addr} {sl_add_persons : Array (Option Value)}
    {f_minutes_out_and_back : Addr} {oc_minutes_out_and_back kV_minutes_out_and_back dc_minutes_out_and_back pm_minutes_out_and_back cd_minutes_out_and_back ct_minutes_out_and_back : Value} {od_minutes_out_and_back an_minutes_out_and_back : Option Addr} {sl_minutes_out_and_back : Array (Option Value)}
    {f_most_in_load : Addr} {oc_most_in_load kV_most_in_load dc_most_in_load pm_most_in_load cd_most_in_load ct_most_in_load : Value} {od_most_in_load an_most_in_load : Option Addr} {sl_most_in_load : Array (Option Value)}
    {f_most_brought : Addr} {oc_most_brought kV_most_brought dc_most_brought pm_most_brought cd_most_brought ct_most_brought : Value} {od_most_brought an_most_brought : Option Addr} {sl_most_brought : Array (Option Value)}
    {f_least_minutes : Addr} {oc_least_minutes kV_least_minutes dc_least_minutes pm_least_minutes cd_least_minutes ct_least_minutes : Value} {od_least_minutes an_least_minutes : Option Addr} {sl_least_minutes : Array (Option Value)}
    {f_ask_brings : Addr} {oc_ask_brings kV_ask_brings dc_ask_brings pm_ask_brings cd_ask_brings ct_ask_brings : Value} {od_ask_brings an_ask_brings : Option Addr} {sl_ask_brings : Array (Option Value)}
    {f_ask_least : Addr} {oc_ask_least kV_ask_least dc_ask_least pm_ask_least cd_ask_least ct_ask_least : Value} {od_ask_least an_ask_least : Option Addr} {sl_ask_least : Array (Option Value)}
    {f_pass_minutes : Addr} {oc_pass_minutes kV_pass_minutes dc_pass_minutes pm_pass_minutes cd_pass_minutes ct_pass_minutes : Value} {od_pass_minutes an_pass_minutes : Option Addr} {sl_pass_minutes : Array (Option Value)}
    {f_close_base : Addr} {oc_close_base kV_close_base dc_close_base pm_close_base cd_close_base ct_close_base : Value} {od_close_base an_close_base : Option Addr} {sl_close_base : Array (Option Value)}
    {f_reopen_base : Addr} {oc_reopen_base kV_reopen_base dc_reopen_base pm_reopen_base cd_reopen_base ct_reopen_base : Value} {od_reopen_base an_reopen_base : Option Addr} {sl_reopen_base : Array (Option Value)}
    {f_change : Addr} {oc_change kV_change dc_change pm_change cd_change ct_change : Value} {od_change an_change : Option Addr} {sl_change : Array (Option Value)}
    {f_make_change : Addr} {oc_make_change kV_make_change dc_make_change pm_make_change cd_make_change ct_make_change : Value} {od_make_change an_make_change : Option Addr} {sl_make_change : Array (Option Value)}
    {f_ask : Addr} {oc_ask kV_ask dc_ask pm_ask cd_ask ct_ask : Value} {od_ask an_ask : Option Addr} {sl_ask : Array (Option Value)}
    {f_look : Addr} {oc_look kV_look dc_look pm_look cd_look ct_look : Value} {od_look an_look : Option Addr} {sl_look : Array (Option Value)}
    {f_answer_call : Addr} {oc_answer_call kV_answer_call dc_answer_call pm_answer_call cd_answer_call ct_answer_call : Value} {od_answer_call an_answer_call : Option Addr} {sl_answer_call : Array (Option Value)}
    {f_answers : Addr} {oc_answers kV_answers dc_answers pm_answers cd_answers ct_answers : Value} {od_answers an_answers : Option Addr} {sl_answers : Array (Option Value)}
    {t_NOT_THERE : Tok}
    {t_NO_CHANGE : Tok}
    {t_NOBODY : Tok}
    {t_NO_BASE : Tok}
    {t_NONE_BUSY : Tok}
    {t_TOO_FEW_WAIT : Tok}
    {t_NOT_NOW : Tok}
    {t_ALREADY_SO : Tok}
    {t_WRONG_NUMBER : Tok}
    {t_TOO_MANY : Tok}
    {t_MAY_NOT : Tok}
    {t_NO_WAY : Tok}
    {t_NO_SEATS : Tok}
    {t_TOO_LATE : Tok}
    {t_LONGEST_RESERVE : Tok}
    {t_MOST_TAKEN_BACK : Tok}
    {t_MINUTES_TO_REFUEL : Tok}
    {t_MOST_PLACES : Tok}
    {t_MOST_HELICOPTERS : Tok}
    {t_MOST_WAITING : Tok}
    {t_MOST_SAVED : Tok}
    {t_LONGEST_WAY : Tok}
    {t_LARGEST_TANK : Tok}
    {t_MOST_BURNT : Tok}
    {t_MOST_SEATS : Tok}
    {t_SLOWEST_WINCH : Tok}
    {t_MINUTES_BETWEEN_LOADS : Tok}
    {t_MOST_MINUTES_TO_BRING : Tok}
    {t_MOST_TO_BRING : Tok}
    {t_MOST_MINUTES : Tok}
    {t_LAST_MINUTE : Tok}
    {t_HF_START : Tok}
    {t_HF_PLACE : Tok}
    {t_HF_WAY : Tok}
    {t_HF_HELI : Tok}
    {t_HF_GO : Tok}
    {t_HF_WINCH : Tok}
    {t_HF_LAND : Tok}
    {t_HF_REFUEL : Tok}
    {t_HF_MINUTES : Tok}
    {t_HF_CLOSE : Tok}
    {t_HF_OPEN : Tok}
    {t_HF_MORE : Tok}
    {t_HF_MAY : Tok}
    {t_HF_STAY : Tok}
    {t_HF_LIFT : Tok}
    {t_HF_NEAREST : Tok}
    {t_HF_MUST : Tok}
    {t_HF_RANGE : Tok}
    {t_HF_BRINGS : Tok}
    {t_HF_LEAST : Tok}
    {t_HF_WHERE : Tok}
    {t_HF_LOOK : Tok}
    {t_HF_SEE : Tok}
    {t_HF_FAR : Tok}
    {t_HF_NEXT : Tok}
    {t_HF_SUMS : Tok}
    {t_HF_BACK : Tok}
    {t_HF_AGAIN : Tok}
    {ta_NUMBERS_BEHIND : Addr} {tod_NUMBERS_BEHIND : Option Addr} {tn_NUMBERS_BEHIND : Nat} {tsl_NUMBERS_BEHIND : Array (Option Value)} {tk0_NUMBERS_BEHIND tk1_NUMBERS_BEHIND tk2_NUMBERS_BEHIND tk3_NUMBERS_BEHIND tk4_NUMBERS_BEHIND tk5_NUMBERS_BEHIND tk6_NUMBERS_BEHIND tk7_NUMBERS_BEHIND tk8_NUMBERS_BEHIND tk9_NUMBERS_BEHIND tk10_NUMBERS_BEHIND tk11_NUMBERS_BEHIND tk12_NUMBERS_BEHIND tk13_NUMBERS_BEHIND tk14_NUMBERS_BEHIND tk15_NUMBERS_BEHIND tk16_NUMBERS_BEHIND tk17_NUMBERS_BEHIND tk18_NUMBERS_BEHIND tk19_NUMBERS_BEHIND tk20_NUMBERS_BEHIND tk21_NUMBERS_BEHIND tk22_NUMBERS_BEHIND tk23_NUMBERS_BEHIND tk24_NUMBERS_BEHIND tk25_NUMBERS_BEHIND tk26_NUMBERS_BEHIND tk27_NUMBERS_BEHIND tk28_NUMBERS_BEHIND : Tok}
    (X : K.In h) (G : h.Ns mainGlobals mg) (hfa : mg "answers" = some (.ref fa))
    (a_Place : PySem.W.nsIn K mainGlobals "Place" = some (some (.ref c_Place)))
    (b_Place : PySem.W.findIn K (.ref c_Place) "__init__" = some (some (.ref fi_Place)))
    (i_Place : PySem.W.isFn K (.ref fi_Place) = true)
    (l_Place : K.lookup fi_Place = some ⟨oc_Place, od_Place, .func (PySem.W.fnOf "__init__" "Place.__init__" (defArgs s_Place) (defBody s_Place) (defScope s_Place) .none kV_Place dc_Place pm_Place an_Place cd_Place ct_Place), sl_Place⟩)
    (d_Place : PySem.W.codeIn K cd_Place "Place.__init__" = true)
    (k_Place : PySem.W.keepIn K (.ref fi_Place) = true)
    (pg_Place : PySem.W.plainGet K c_Place Str.empty = true)
    (hd_Place : PySem.W.hasDictIn K c_Place = true)
    (po_Place : PySem.W.plainOver K c_Place = true)
    (sa_Place : PySem.W.findIn K (.ref c_Place) "__setattr__" = some (some (.builtin "object.__setattr__")))
    (mk_Place : PySem.W.makesIn K c_Place = true)
    (kc_Place : PySem.W.keepIn K (.ref c_Place) = true)
    (n_Place_is_base : PySem.W.findIn K (.ref c_Place) "is_base" = some none)
    (n_Place_is_open : PySem.W.findIn K (.ref c_Place) "is_open" = some none)
    (n_Place_waiting : PySem.W.findIn K (.ref c_Place) "waiting" = some none)
    (a_Helicopter : PySem.W.nsIn K mainGlobals "Helicopter" = some (some (.ref c_Helicopter)))
    (b_Helicopter : PySem.W.findIn K (.ref c_Helicopter) "__init__" = some (some (.ref fi_Helicopter)))
    (i_Helicopter : PySem.W.isFn K (.ref fi_Helicopter) = true)
    (l_Helicopter : K.lookup fi_Helicopter = some ⟨oc_Helicopter, od_Helicopter, .func (PySem.W.fnOf "__init__" "Helicopter.__init__" (defArgs s_Helicopter) (defBody s_Helicopter) (defScope s_Helicopter) .none kV_Helicopter dc_Helicopter pm_Helicopter an_Helicopter cd_Helicopter ct_Helicopter), sl_Helicopter⟩)
    (d_Helicopter : PySem.W.codeIn K cd_Helicopter "Helicopter.__init__" = true)
    (k_Helicopter : PySem.W.keepIn K (.ref fi_Helicopter) = true)
    (pg_Helicopter : PySem.W.plainGet K c_Helicopter Str.empty = true)
    (hd_Helicopter : PySem.W.hasDictIn K c_Helicopter = true)
    (po_Helicopter : PySem.W.plainOver K c_Helicopter = true)
    (sa_Helicopter : PySem.W.findIn K (.ref c_Helicopter) "__setattr__" = some (some (.builtin "object.__setattr__")))
    (mk_Helicopter : PySem.W.makesIn K c_Helicopter = true)
    (kc_Helicopter : PySem.W.keepIn K (.ref c_Helicopter) = true)
    (n_Helicopter_place : PySem.W.findIn K (.ref c_Helicopter) "place" = some none)
    (n_Helicopter_fuel : PySem.W.findIn K (.ref c_Helicopter) "fuel" = some none)
    (n_Helicopter_busy : PySem.W.findIn K (.ref c_Helicopter) "busy" = some none)
    (n_Helicopter_aboard : PySem.W.findIn K (.ref c_Helicopter) "aboard" = some none)
    (n_Helicopter_tank : PySem.W.findIn K (.ref c_Helicopter) "tank" = some none)
    (n_Helicopter_burn : PySem.W.findIn K (.ref c_Helicopter) "burn" = some none)
    (n_Helicopter_hover : PySem.W.findIn K (.ref c_Helicopter) "hover" = some none)
    (n_Helicopter_seats : PySem.W.findIn K (.ref c_Helicopter) "seats" = some none)
    (n_Helicopter_winch : PySem.W.findIn K (.ref c_Helicopter) "winch" = some none)
    (a_World : PySem.W.nsIn K mainGlobals "World" = some (some (.ref c_World)))
    (b_World : PySem.W.findIn K (.ref c_World) "__init__" = some (some (.ref fi_World)))
    (i_World : PySem.W.isFn K (.ref fi_World) = true)
    (l_World : K.lookup fi_World = some ⟨oc_World, od_World, .func (PySem.W.fnOf "__init__" "World.__init__" (defArgs s_World) (defBody s_World) (defScope s_World) .none kV_World dc_World pm_World an_World cd_World ct_World), sl_World⟩)
    (d_World : PySem.W.codeIn K cd_World "World.__init__" = true)
    (k_World : PySem.W.keepIn K (.ref fi_World) = true)
    (pg_World : PySem.W.plainGet K c_World Str.empty = true)
    (hd_World : PySem.W.hasDictIn K c_World = true)
    (po_World : PySem.W.plainOver K c_World = true)
    (sa_World : PySem.W.findIn K (.ref c_World) "__setattr__" = some (some (.builtin "object.__setattr__")))
    (mk_World : PySem.W.makesIn K c_World = true)
    (kc_World : PySem.W.keepIn K (.ref c_World) = true)
    (n_World_reserve : PySem.W.findIn K (.ref c_World) "reserve" = some none)
    (n_World_minute : PySem.W.findIn K (.ref c_World) "minute" = some none)
    (n_World_saved : PySem.W.findIn K (.ref c_World) "saved" = some none)
    (n_World_places : PySem.W.findIn K (.ref c_World) "places" = some none)
    (n_World_ways : PySem.W.findIn K (.ref c_World) "ways" = some none)
    (n_World_helis : PySem.W.findIn K (.ref c_World) "helis" = some none)
    (a_Flights : PySem.W.nsIn K mainGlobals "Flights" = some (some (.ref c_Flights)))
    (b_Flights : PySem.W.findIn K (.ref c_Flights) "__init__" = some (some (.ref fi_Flights)))
    (i_Flights : PySem.W.isFn K (.ref fi_Flights) = true)
    (l_Flights : K.lookup fi_Flights = some ⟨oc_Flights, od_Flights, .func (PySem.W.fnOf "__init__" "Flights.__init__" (defArgs s_Flights) (defBody s_Flights) (defScope s_Flights) .none kV_Flights dc_Flights pm_Flights an_Flights cd_Flights ct_Flights), sl_Flights⟩)
    (d_Flights : PySem.W.codeIn K cd_Flights "Flights.__init__" = true)
    (k_Flights : PySem.W.keepIn K (.ref fi_Flights) = true)
    (pg_Flights : PySem.W.plainGet K c_Flights Str.empty = true)
    (hd_Flights : PySem.W.hasDictIn K c_Flights = true)
    (po_Flights : PySem.W.plainOver K c_Flights = true)
    (sa_Flights : PySem.W.findIn K (.ref c_Flights) "__setattr__" = some (some (.builtin "object.__setattr__")))
    (mk_Flights : PySem.W.makesIn K c_Flights = true)
    (kc_Flights : PySem.W.keepIn K (.ref c_Flights) = true)
    (n_Flights_world : PySem.W.findIn K (.ref c_Flights) "world" = some none)
    (n_Flights_earlier : PySem.W.findIn K (.ref c_Flights) "earlier" = some none)
    (n_Flights_later : PySem.W.findIn K (.ref c_Flights) "later" = some none)
    (a_has_place : PySem.W.nsIn K mainGlobals "has_place" = some (some (.ref f_has_place)))
    (l_has_place : K.lookup f_has_place = some ⟨oc_has_place, od_has_place, .func (PySem.W.fnOf "has_place" "has_place" (defArgs sHasPlace) (defBody sHasPlace) (defScope sHasPlace) .none kV_has_place dc_has_place pm_has_place an_has_place cd_has_place ct_has_place), sl_has_place⟩)
    (d_has_place : PySem.W.codeIn K cd_has_place "has_place" = true)
    (k_has_place : PySem.W.keepIn K (.ref f_has_place) = true)
    (a_has_helicopter : PySem.W.nsIn K mainGlobals "has_helicopter" = some (some (.ref f_has_helicopter)))
    (l_has_helicopter : K.lookup f_has_helicopter = some ⟨oc_has_helicopter, od_has_helicopter, .func (PySem.W.fnOf "has_helicopter" "has_helicopter" (defArgs s_has_helicopter) (defBody s_has_helicopter) (defScope s_has_helicopter) .none kV_has_helicopter dc_has_helicopter pm_has_helicopter an_has_helicopter cd_has_helicopter ct_has_helicopter), sl_has_helicopter⟩)
    (d_has_helicopter : PySem.W.codeIn K cd_has_helicopter "has_helicopter" = true)
    (k_has_helicopter : PySem.W.keepIn K (.ref f_has_helicopter) = true)
    (a_way_key : PySem.W.nsIn K mainGlobals "way_key" = some (some (.ref f_way_key)))
    (l_way_key : K.lookup f_way_key = some ⟨oc_way_key, od_way_key, .func (PySem.W.fnOf "way_key" "way_key" (defArgs s_way_key) (defBody s_way_key) (defScope s_way_key) .none kV_way_key dc_way_key pm_way_key an_way_key cd_way_key ct_way_key), sl_way_key⟩)
    (d_way_key : PySem.W.codeIn K cd_way_key "way_key" = true)
    (k_way_key : PySem.W.keepIn K (.ref f_way_key) = true)
    (a_way_minutes : PySem.W.nsIn K mainGlobals "way_minutes" = some (some (.ref f_way_minutes)))
    (l_way_minutes : K.lookup f_way_minutes = some ⟨oc_way_minutes, od_way_minutes, .func (PySem.W.fnOf "way_minutes" "way_minutes" (defArgs s_way_minutes) (defBody s_way_minutes) (defScope s_way_minutes) .none kV_way_minutes dc_way_minutes pm_way_minutes an_way_minutes cd_way_minutes ct_way_minutes), sl_way_minutes⟩)
    (d_way_minutes : PySem.W.codeIn K cd_way_minutes "way_minutes" = true)
    (k_way_minutes : PySem.W.keepIn K (.ref f_way_minutes) = true)
    (a_open_bases : PySem.W.nsIn K mainGlobals "open_bases" = some (some (.ref f_open_bases)))
    (l_open_bases : K.lookup f_open_bases = some ⟨oc_open_bases, od_open_bases, .func (PySem.W.fnOf "open_bases" "open_bases" (defArgs s_open_bases) (defBody s_open_bases) (defScope s_open_bases) .none kV_open_bases dc_open_bases pm_open_bases an_open_bases cd_open_bases ct_open_bases), sl_open_bases⟩)
    (d_open_bases : PySem.W.codeIn K cd_open_bases "open_bases" = true)
    (k_open_bases : PySem.W.keepIn K (.ref f_open_bases) = true)
    (a_copy_of_place : PySem.W.nsIn K mainGlobals "copy_of_place" = some (some (.ref f_copy_of_place)))
    (l_copy_of_place : K.lookup f_copy_of_place = some ⟨oc_copy_of_place, od_copy_of_place, .func (PySem.W.fnOf "copy_of_place" "copy_of_place" (defArgs s_copy_of_place) (defBody s_copy_of_place) (defScope s_copy_of_place) .none kV_copy_of_place dc_copy_of_place pm_copy_of_place an_copy_of_place cd_copy_of_place ct_copy_of_place), sl_copy_of_place⟩)
    (d_copy_of_place : PySem.W.codeIn K cd_copy_of_place "copy_of_place" = true)
    (k_copy_of_place : PySem.W.keepIn K (.ref f_copy_of_place) = true)
    (a_copy_of_helicopter : PySem.W.nsIn K mainGlobals "copy_of_helicopter" = some (some (.ref f_copy_of_helicopter)))
    (l_copy_of_helicopter : K.lookup f_copy_of_helicopter = some ⟨oc_copy_of_helicopter, od_copy_of_helicopter, .func (PySem.W.fnOf "copy_of_helicopter" "copy_of_helicopter" (defArgs s_copy_of_helicopter) (defBody s_copy_of_helicopter) (defScope s_copy_of_helicopter) .none kV_copy_of_helicopter dc_copy_of_helicopter pm_copy_of_helicopter an_copy_of_helicopter cd_copy_of_helicopter ct_copy_of_helicopter), sl_copy_of_helicopter⟩)
    (d_copy_of_helicopter : PySem.W.codeIn K cd_copy_of_helicopter "copy_of_helicopter" = true)
    (k_copy_of_helicopter : PySem.W.keepIn K (.ref f_copy_of_helicopter) = true)
    (a_copy_of_world : PySem.W.nsIn K mainGlobals "copy_of_world" = some (some (.ref f_copy_of_world)))
    (l_copy_of_world : K.lookup f_copy_of_world = some ⟨oc_copy_of_world, od_copy_of_world, .func (PySem.W.fnOf "copy_of_world" "copy_of_world" (defArgs s_copy_of_world) (defBody s_copy_of_world) (defScope s_copy_of_world) .none kV_copy_of_world dc_copy_of_world pm_copy_of_world an_copy_of_world cd_copy_of_world ct_copy_of_world), sl_copy_of_world⟩)
    (d_copy_of_world : PySem.W.codeIn K cd_copy_of_world "copy_of_world" = true)
    (k_copy_of_world : PySem.W.keepIn K (.ref f_copy_of_world) = true)
    (a_nearest_base : PySem.W.nsIn K mainGlobals "nearest_base" = some (some (.ref f_nearest_base)))
    (l_nearest_base : K.lookup f_nearest_base = some ⟨oc_nearest_base, od_nearest_base, .func (PySem.W.fnOf "nearest_base" "nearest_base" (defArgs s_nearest_base) (defBody s_nearest_base) (defScope s_nearest_base) .none kV_nearest_base dc_nearest_base pm_nearest_base an_nearest_base cd_nearest_base ct_nearest_base), sl_nearest_base⟩)
    (d_nearest_base : PySem.W.codeIn K cd_nearest_base "nearest_base" = true)
    (k_nearest_base : PySem.W.keepIn K (.ref f_nearest_base) = true)
    (a_must_be_left : PySem.W.nsIn K mainGlobals "must_be_left" = some (some (.ref f_must_be_left)))
    (l_must_be_left : K.lookup f_must_be_left = some ⟨oc_must_be_left, od_must_be_left, .func (PySem.W.fnOf "must_be_left" "must_be_left" (defArgs s_must_be_left) (defBody s_must_be_left) (defScope s_must_be_left) .none kV_must_be_left dc_must_be_left pm_must_be_left an_must_be_left cd_must_be_left ct_must_be_left), sl_must_be_left⟩)
    (d_must_be_left : PySem.W.codeIn K cd_must_be_left "must_be_left" = true)
    (k_must_be_left : PySem.W.keepIn K (.ref f_must_be_left) = true)
    (a_is_enough : PySem.W.nsIn K mainGlobals "is_enough" = some (some (.ref f_is_enough)))
    (l_is_enough : K.lookup f_is_enough = some ⟨oc_is_enough, od_is_enough, .func (PySem.W.fnOf "is_enough" "is_enough" (defArgs s_is_enough) (defBody s_is_enough) (defScope s_is_enough) .none kV_is_enough dc_is_enough pm_is_enough an_is_enough cd_is_enough ct_is_enough), sl_is_enough⟩)
    (d_is_enough : PySem.W.codeIn K cd_is_enough "is_enough" = true)
    (k_is_enough : PySem.W.keepIn K (.ref f_is_enough) = true)
    (a_can_come_back : PySem.W.nsIn K mainGlobals "can_come_back" = some (some (.ref f_can_come_back)))
    (l_can_come_back : K.lookup f_can_come_back = some ⟨oc_can_come_back, od_can_come_back, .func (PySem.W.fnOf "can_come_back" "can_come_back" (defArgs s_can_come_back) (defBody s_can_come_back) (defScope s_can_come_back) .none kV_can_come_back dc_can_come_back pm_can_come_back an_can_come_back cd_can_come_back ct_can_come_back), sl_can_come_back⟩)
    (d_can_come_back : PySem.W.codeIn K cd_can_come_back "can_come_back" = true)
    (k_can_come_back : PySem.W.keepIn K (.ref f_can_come_back) = true)
    (a_may_go : PySem.W.nsIn K mainGlobals "may_go" = some (some (.ref f_may_go)))
    (l_may_go : K.lookup f_may_go = some ⟨oc_may_go, od_may_go, .func (PySem.W.fnOf "may_go" "may_go" (defArgs s_may_go) (defBody s_may_go) (defScope s_may_go) .none kV_may_go dc_may_go pm_may_go an_may_go cd_may_go ct_may_go), sl_may_go⟩)
    (d_may_go : PySem.W.codeIn K cd_may_go "may_go" = true)
    (k_may_go : PySem.W.keepIn K (.ref f_may_go) = true)
    (a_may_hover : PySem.W.nsIn K mainGlobals "may_hover" = some (some (.ref f_may_hover)))
    (l_may_hover : K.lookup f_may_hover = some ⟨oc_may_hover, od_may_hover, .func (PySem.W.fnOf "may_hover" "may_hover" (defArgs s_may_hover) (defBody s_may_hover) (defScope s_may_hover) .none kV_may_hover dc_may_hover pm_may_hover an_may_hover cd_may_hover ct_may_hover), sl_may_hover⟩)
    (d_may_hover : PySem.W.codeIn K cd_may_hover "may_hover" = true)
    (k_may_hover : PySem.W.keepIn K (.ref f_may_hover) = true)
    (a_seats_left : PySem.W.nsIn K mainGlobals "seats_left" = some (some (.ref f_seats_left)))
    (l_seats_left : K.lookup f_seats_left = some ⟨oc_seats_left, od_seats_left, .func (PySem.W.fnOf "seats_left" "seats_left" (defArgs s_seats_left) (defBody s_seats_left) (defScope s_seats_left) .none kV_seats_left dc_seats_left pm_seats_left an_seats_left cd_seats_left ct_seats_left), sl_seats_left⟩)
    (d_seats_left : PySem.W.codeIn K cd_seats_left "seats_left" = true)
    (k_seats_left : PySem.W.keepIn K (.ref f_seats_left) = true)
    (a_winched_in_time : PySem.W.nsIn K mainGlobals "winched_in_time" = some (some (.ref f_winched_in_time)))
    (l_winched_in_time : K.lookup f_winched_in_time = some ⟨oc_winched_in_time, od_winched_in_time, .func (PySem.W.fnOf "winched_in_time" "winched_in_time" (defArgs s_winched_in_time) (defBody s_winched_in_time) (defScope s_winched_in_time) .none kV_winched_in_time dc_winched_in_time pm_winched_in_time an_winched_in_time cd_winched_in_time ct_winched_in_time), sl_winched_in_time⟩)
    (d_winched_in_time : PySem.W.codeIn K cd_winched_in_time "winched_in_time" = true)
    (k_winched_in_time : PySem.W.keepIn K (.ref f_winched_in_time) = true)
    (a_may_lift : PySem.W.nsIn K mainGlobals "may_lift" = some (some (.ref f_may_lift)))
    (l_may_lift : K.lookup f_may_lift = some ⟨oc_may_lift, od_may_lift, .func (PySem.W.fnOf "may_lift" "may_lift" (defArgs s_may_lift) (defBody s_may_lift) (defScope s_may_lift) .none kV_may_lift dc_may_lift pm_may_lift an_may_lift cd_may_lift ct_may_lift), sl_may_lift⟩)
    (d_may_lift : PySem.W.codeIn K cd_may_lift "may_lift" = true)
    (k_may_lift : PySem.W.keepIn K (.ref f_may_lift) = true)
    (a_ask_may : PySem.W.nsIn K mainGlobals "ask_may" = some (some (.ref f_ask_may)))
    (l_ask_may : K.lookup f_ask_may = some ⟨oc_ask_may, od_ask_may, .func (PySem.W.fnOf "ask_may" "ask_may" (defArgs s_ask_may) (defBody s_ask_may) (defScope s_ask_may) .none kV_ask_may dc_ask_may pm_ask_may an_ask_may cd_ask_may ct_ask_may), sl_ask_may⟩)
    (d_ask_may : PySem.W.codeIn K cd_ask_may "ask_may" = true)
    (k_ask_may : PySem.W.keepIn K (.ref f_ask_may) = true)
    (a_ask_stay : PySem.W.nsIn K mainGlobals "ask_stay" = some (some (.ref f_ask_stay)))
    (l_ask_stay : K.lookup f_ask_stay = some ⟨oc_ask_stay, od_ask_stay, .func (PySem.W.fnOf "ask_stay" "ask_stay" (defArgs s_ask_stay) (defBody s_ask_stay) (defScope s_ask_stay) .none kV_ask_stay dc_ask_stay pm_ask_stay an_ask_stay cd_ask_stay ct_ask_stay), sl_ask_stay⟩)
    (d_ask_stay : PySem.W.codeIn K cd_ask_stay "ask_stay" = true)
    (k_ask_stay : PySem.W.keepIn K (.ref f_ask_stay) = true)
    (a_ask_lift : PySem.W.nsIn K mainGlobals "ask_lift" = some (some (.ref f_ask_lift)))
    (l_ask_lift : K.lookup f_ask_lift = some ⟨oc_ask_lift, od_ask_lift, .func (PySem.W.fnOf "ask_lift" "ask_lift" (defArgs s_ask_lift) (defBody s_ask_lift) (defScope s_ask_lift) .none kV_ask_lift dc_ask_lift pm_ask_lift an_ask_lift cd_ask_lift ct_ask_lift), sl_ask_lift⟩)
    (d_ask_lift : PySem.W.codeIn K cd_ask_lift "ask_lift" = true)
    (k_ask_lift : PySem.W.keepIn K (.ref f_ask_lift) = true)
    (a_ask_nearest : PySem.W.nsIn K mainGlobals "ask_nearest" = some (some (.ref f_ask_nearest)))
    (l_ask_nearest : K.lookup f_ask_nearest = some ⟨oc_ask_nearest, od_ask_nearest, .func (PySem.W.fnOf "ask_nearest" "ask_nearest" (defArgs s_ask_nearest) (defBody s_ask_nearest) (defScope s_ask_nearest) .none kV_ask_nearest dc_ask_nearest pm_ask_nearest an_ask_nearest cd_ask_nearest ct_ask_nearest), sl_ask_nearest⟩)
    (d_ask_nearest : PySem.W.codeIn K cd_ask_nearest "ask_nearest" = true)
    (k_ask_nearest : PySem.W.keepIn K (.ref f_ask_nearest) = true)
    (a_ask_must : PySem.W.nsIn K mainGlobals "ask_must" = some (some (.ref f_ask_must)))
    (l_ask_must : K.lookup f_ask_must = some ⟨oc_ask_must, od_ask_must, .func (PySem.W.fnOf "ask_must" "ask_must" (defArgs s_ask_must) (defBody s_ask_must) (defScope s_ask_must) .none kV_ask_must dc_ask_must pm_ask_must an_ask_must cd_ask_must ct_ask_must), sl_ask_must⟩)
    (d_ask_must : PySem.W.codeIn K cd_ask_must "ask_must" = true)
    (k_ask_must : PySem.W.keepIn K (.ref f_ask_must) = true)
    (a_ask_range : PySem.W.nsIn K mainGlobals "ask_range" = some (some (.ref f_ask_range)))
    (l_ask_range : K.lookup f_ask_range = some ⟨oc_ask_range, od_ask_range, .func (PySem.W.fnOf "ask_range" "ask_range" (defArgs s_ask_range) (defBody s_ask_range) (defScope s_ask_range) .none kV_ask_range dc_ask_range pm_ask_range an_ask_range cd_ask_range ct_ask_range), sl_ask_range⟩)
    (d_ask_range : PySem.W.codeIn K cd_ask_range "ask_range" = true)
    (k_ask_range : PySem.W.keepIn K (.ref f_ask_range) = true)
    (a_start : PySem.W.nsIn K mainGlobals "start" = some (some (.ref f_start)))
    (l_start : K.lookup f_start = some ⟨oc_start, od_start, .func (PySem.W.fnOf "start" "start" (defArgs s_start) (defBody s_start) (defScope s_start) .none kV_start dc_start pm_start an_start cd_start ct_start), sl_start⟩)
    (d_start : PySem.W.codeIn K cd_start "start" = true)
    (k_start : PySem.W.keepIn K (.ref f_start) = true)
    (a_keep_change : PySem.W.nsIn K mainGlobals "keep_change" = some (some (.ref f_keep_change)))
    (l_keep_change : K.lookup f_keep_change = some ⟨oc_keep_change, od_keep_change, .func (PySem.W.fnOf "keep_change" "keep_change" (defArgs s_keep_change) (defBody s_keep_change) (defScope s_keep_change) .none kV_keep_change dc_keep_change pm_keep_change an_keep_change cd_keep_change ct_keep_change), sl_keep_change⟩)
    (d_keep_change : PySem.W.codeIn K cd_keep_change "keep_change" = true)
    (k_keep_change : PySem.W.keepIn K (.ref f_keep_change) = true)
    (a_take_back : PySem.W.nsIn K mainGlobals "take_back" = some (some (.ref f_take_back)))
    (l_take_back : K.lookup f_take_back = some ⟨oc_take_back, od_take_back, .func (PySem.W.fnOf "take_back" "take_back" (defArgs s_take_back) (defBody s_take_back) (defScope s_take_back) .none kV_take_back dc_take_back pm_take_back an_take_back cd_take_back ct_take_back), sl_take_back⟩)
    (d_take_back : PySem.W.codeIn K cd_take_back "take_back" = true)
    (k_take_back : PySem.W.keepIn K (.ref f_take_back) = true)
    (a_do_again : PySem.W.nsIn K mainGlobals "do_again" = some (some (.ref f_do_again)))
    (l_do_again : K.lookup f_do_again = some ⟨oc_do_again, od_do_again, .func (PySem.W.fnOf "do_again" "do_again" (defArgs s_do_again) (defBody s_do_again) (defScope s_do_again) .none kV_do_again dc_do_again pm_do_again an_do_again cd_do_again ct_do_again), sl_do_again⟩)
    (d_do_again : PySem.W.codeIn K cd_do_again "do_again" = true)
    (k_do_again : PySem.W.keepIn K (.ref f_do_again) = true)
    (a_look_at_state : PySem.W.nsIn K mainGlobals "look_at_state" = some (some (.ref f_look_at_state)))
    (l_look_at_state : K.lookup f_look_at_state = some ⟨oc_look_at_state, od_look_at_state, .func (PySem.W.fnOf "look_at_state" "look_at_state" (defArgs s_look_at_state) (defBody s_look_at_state) (defScope s_look_at_state) .none kV_look_at_state dc_look_at_state pm_look_at_state an_look_at_state cd_look_at_state ct_look_at_state), sl_look_at_state⟩)
    (d_look_at_state : PySem.W.codeIn K cd_look_at_state "look_at_state" = true)
    (k_look_at_state : PySem.W.keepIn K (.ref f_look_at_state) = true)
    (a_go : PySem.W.nsIn K mainGlobals "go" = some (some (.ref f_go)))
    (l_go : K.lookup f_go = some ⟨oc_go, od_go, .func (PySem.W.fnOf "go" "go" (defArgs s_go) (defBody s_go) (defScope s_go) .none kV_go dc_go pm_go an_go cd_go ct_go), sl_go⟩)
    (d_go : PySem.W.codeIn K cd_go "go" = true)
    (k_go : PySem.W.keepIn K (.ref f_go) = true)
    (a_winch_up : PySem.W.nsIn K mainGlobals "winch_up" = some (some (.ref f_winch_up)))
    (l_winch_up : K.lookup f_winch_up = some ⟨oc_winch_up, od_winch_up, .func (PySem.W.fnOf "winch_up" "winch_up" (defArgs s_winch_up) (defBody s_winch_up) (defScope s_winch_up) .none kV_winch_up dc_winch_up pm_winch_up an_winch_up cd_winch_up ct_winch_up), sl_winch_up⟩)
    (d_winch_up : PySem.W.codeIn K cd_winch_up "winch_up" = true)
    (k_winch_up : PySem.W.keepIn K (.ref f_winch_up) = true)
    (a_land : PySem.W.nsIn K mainGlobals "land" = some (some (.ref f_land)))
    (l_land : K.lookup f_land = some ⟨oc_land, od_land, .func (PySem.W.fnOf "land" "land" (defArgs s_land) (defBody s_land) (defScope s_land) .none kV_land dc_land pm_land an_land cd_land ct_land), sl_land⟩)
    (d_land : PySem.W.codeIn K cd_land "land" = true)
    (k_land : PySem.W.keepIn K (.ref f_land) = true)
    (a_refuel : PySem.W.nsIn K mainGlobals "refuel" = some (some (.ref f_refuel)))
    (l_refuel : K.lookup f_refuel = some ⟨oc_refuel, od_refuel, .func (PySem.W.fnOf "refuel" "refuel" (defArgs s_refuel) (defBody s_refuel) (defScope s_refuel) .none kV_refuel dc_refuel pm_refuel an_refuel cd_refuel ct_refuel), sl_refuel⟩)
    (d_refuel : PySem.W.codeIn K cd_refuel "refuel" = true)
    (k_refuel : PySem.W.keepIn K (.ref f_refuel) = true)
    (a_look_where : PySem.W.nsIn K mainGlobals "look_where" = some (some (.ref f_look_where)))
    (l_look_where : K.lookup f_look_where = some ⟨oc_look_where, od_look_where, .func (PySem.W.fnOf "look_where" "look_where" (defArgs s_look_where) (defBody s_look_where) (defScope s_look_where) .none kV_look_where dc_look_where pm_look_where an_look_where cd_look_where ct_look_where), sl_look_where⟩)
    (d_look_where : PySem.W.codeIn K cd_look_where "look_where" = true)
    (k_look_where : PySem.W.keepIn K (.ref f_look_where) = true)
    (a_look_at_helicopter : PySem.W.nsIn K mainGlobals "look_at_helicopter" = some (some (.ref f_look_at_helicopter)))
    (l_look_at_helicopter : K.lookup f_look_at_helicopter = some ⟨oc_look_at_helicopter, od_look_at_helicopter, .func (PySem.W.fnOf "look_at_helicopter" "look_at_helicopter" (defArgs s_look_at_helicopter) (defBody s_look_at_helicopter) (defScope s_look_at_helicopter) .none kV_look_at_helicopter dc_look_at_helicopter pm_look_at_helicopter an_look_at_helicopter cd_look_at_helicopter ct_look_at_helicopter), sl_look_at_helicopter⟩)
    (d_look_at_helicopter : PySem.W.codeIn K cd_look_at_helicopter "look_at_helicopter" = true)
    (k_look_at_helicopter : PySem.W.keepIn K (.ref f_look_at_helicopter) = true)
    (a_look_at_place : PySem.W.nsIn K mainGlobals "look_at_place" = some (some (.ref f_look_at_place)))
    (l_look_at_place : K.lookup f_look_at_place = some ⟨oc_look_at_place, od_look_at_place, .func (PySem.W.fnOf "look_at_place" "look_at_place" (defArgs s_look_at_place) (defBody s_look_at_place) (defScope s_look_at_place) .none kV_look_at_place dc_look_at_place pm_look_at_place an_look_at_place cd_look_at_place ct_look_at_place), sl_look_at_place⟩)
    (d_look_at_place : PySem.W.codeIn K cd_look_at_place "look_at_place" = true)
    (k_look_at_place : PySem.W.keepIn K (.ref f_look_at_place) = true)
    (a_look_how_far : PySem.W.nsIn K mainGlobals "look_how_far" = some (some (.ref f_look_how_far)))
    (l_look_how_far : K.lookup f_look_how_far = some ⟨oc_look_how_far, od_look_how_far, .func (PySem.W.fnOf "look_how_far" "look_how_far" (defArgs s_look_how_far) (defBody s_look_how_far) (defScope s_look_how_far) .none kV_look_how_far dc_look_how_far pm_look_how_far an_look_how_far cd_look_how_far ct_look_how_far), sl_look_how_far⟩)
    (d_look_how_far : PySem.W.codeIn K cd_look_how_far "look_how_far" = true)
    (k_look_how_far : PySem.W.keepIn K (.ref f_look_how_far) = true)
    (a_look_who_is_next : PySem.W.nsIn K mainGlobals "look_who_is_next" = some (some (.ref f_look_who_is_next)))
    (l_look_who_is_next : K.lookup f_look_who_is_next = some ⟨oc_look_who_is_next, od_look_who_is_next, .func (PySem.W.fnOf "look_who_is_next" "look_who_is_next" (defArgs s_look_who_is_next) (defBody s_look_who_is_next) (defScope s_look_who_is_next) .none kV_look_who_is_next dc_look_who_is_next pm_look_who_is_next an_look_who_is_next cd_look_who_is_next ct_look_who_is_next), sl_look_who_is_next⟩)
    (d_look_who_is_next : PySem.W.codeIn K cd_look_who_is_next "look_who_is_next" = true)
    (k_look_who_is_next : PySem.W.keepIn K (.ref f_look_who_is_next) = true)
    (a_look_at_sums : PySem.W.nsIn K mainGlobals "look_at_sums" = some (some (.ref f_look_at_sums)))
    (l_look_at_sums : K.lookup f_look_at_sums = some ⟨oc_look_at_sums, od_look_at_sums, .func (PySem.W.fnOf "look_at_sums" "look_at_sums" (defArgs s_look_at_sums) (defBody s_look_at_sums) (defScope s_look_at_sums) .none kV_look_at_sums dc_look_at_sums pm_look_at_sums an_look_at_sums cd_look_at_sums ct_look_at_sums), sl_look_at_sums⟩)
    (d_look_at_sums : PySem.W.codeIn K cd_look_at_sums "look_at_sums" = true)
    (k_look_at_sums : PySem.W.keepIn K (.ref f_look_at_sums) = true)
    (a_add_place : PySem.W.nsIn K mainGlobals "add_place" = some (some (.ref f_add_place)))
    (l_add_place : K.lookup f_add_place = some ⟨oc_add_place, od_add_place, .func (PySem.W.fnOf "add_place" "add_place" (defArgs s_add_place) (defBody s_add_place) (defScope s_add_place) .none kV_add_place dc_add_place pm_add_place an_add_place cd_add_place ct_add_place), sl_add_place⟩)
    (d_add_place : PySem.W.codeIn K cd_add_place "add_place" = true)
    (k_add_place : PySem.W.keepIn K (.ref f_add_place) = true)
    (a_set_way : PySem.W.nsIn K mainGlobals "set_way" = some (some (.ref f_set_way)))
    (l_set_way : K.lookup f_set_way = some ⟨oc_set_way, od_set_way, .func (PySem.W.fnOf "set_way" "set_way" (defArgs s_set_way) (defBody s_set_way) (defScope s_set_way) .none kV_set_way dc_set_way pm_set_way an_set_way cd_set_way ct_set_way), sl_set_way⟩)
    (d_set_way : PySem.W.codeIn K cd_set_way "set_way" = true)
    (k_set_way : PySem.W.keepIn K (.ref f_set_way) = true)
    (a_is_from_one_to : PySem.W.nsIn K mainGlobals "is_from_one_to" = some (some (.ref f_is_from_one_to)))
    (l_is_from_one_to : K.lookup f_is_from_one_to = some ⟨oc_is_from_one_to, od_is_from_one_to, .func (PySem.W.fnOf "is_from_one_to" "is_from_one_to" (defArgs s_is_from_one_to) (defBody s_is_from_one_to) (defScope s_is_from_one_to) .none kV_is_from_one_to dc_is_from_one_to pm_is_from_one_to an_is_from_one_to cd_is_from_one_to ct_is_from_one_to), sl_is_from_one_to⟩)
    (d_is_from_one_to : PySem.W.codeIn K cd_is_from_one_to "is_from_one_to" = true)
    (k_is_from_one_to : PySem.W.keepIn K (.ref f_is_from_one_to) = true)
    (a_is_as_told : PySem.W.nsIn K mainGlobals "is_as_told" = some (some (.ref f_is_as_told)))
    (l_is_as_told : K.lookup f_is_as_told = some ⟨oc_is_as_told, od_is_as_told, .func (PySem.W.fnOf "is_as_told" "is_as_told" (defArgs s_is_as_told) (defBody s_is_as_told) (defScope s_is_as_told) .none kV_is_as_told dc_is_as_told pm_is_as_told an_is_as_told cd_is_as_told ct_is_as_told), sl_is_as_told⟩)
    (d_is_as_told : PySem.W.codeIn K cd_is_as_told "is_as_told" = true)
    (k_is_as_told : PySem.W.keepIn K (.ref f_is_as_told) = true)
    (a_add_helicopter : PySem.W.nsIn K mainGlobals "add_helicopter" = some (some (.ref f_add_helicopter)))
    (l_add_helicopter : K.lookup f_add_helicopter = some ⟨oc_add_helicopter, od_add_helicopter, .func (PySem.W.fnOf "add_helicopter" "add_helicopter" (defArgs s_add_helicopter) (defBody s_add_helicopter) (defScope s_add_helicopter) .none kV_add_helicopter dc_add_helicopter pm_add_helicopter an_add_helicopter cd_add_helicopter ct_add_helicopter), sl_add_helicopter⟩)
    (d_add_helicopter : PySem.W.codeIn K cd_add_helicopter "add_helicopter" = true)
    (k_add_helicopter : PySem.W.keepIn K (.ref f_add_helicopter) = true)
    (a_add_persons : PySem.W.nsIn K mainGlobals "add_persons" = some (some (.ref f_add_persons)))
    (l_add_persons : K.lookup f_add_persons = some ⟨oc_add_persons, od_add_persons, .func (PySem.W.fnOf "add_persons" "add_persons" (defArgs s_add_persons) (defBody s_add_persons) (defScope s_add_persons) .none kV_add_persons dc_add_persons pm_add_persons an_add_persons cd_add_persons ct_add_persons), sl_add_persons⟩)
    (d_add_persons : PySem.W.codeIn K cd_add_persons "add_persons" = true)
    (k_add_persons : PySem.W.keepIn K (.ref f_add_persons) = true)
    (a_minutes_out_and_back : PySem.W.nsIn K mainGlobals "minutes_out_and_back" = some (some (.ref f_minutes_out_and_back)))
    (l_minutes_out_and_back : K.lookup f_minutes_out_and_back = some ⟨oc_minutes_out_and_back, od_minutes_out_and_back, .func (PySem.W.fnOf "minutes_out_and_back" "minutes_out_and_back" (defArgs s_minutes_out_and_back) (defBody s_minutes_out_and_back) (defScope s_minutes_out_and_back) .none kV_minutes_out_and_back dc_minutes_out_and_back pm_minutes_out_and_back an_minutes_out_and_back cd_minutes_out_and_back ct_minutes_out_and_back), sl_minutes_out_and_back⟩)
    (d_minutes_out_and_back : PySem.W.codeIn K cd_minutes_out_and_back "minutes_out_and_back" = true)
    (k_minutes_out_and_back : PySem.W.keepIn K (.ref f_minutes_out_and_back) = true)
    (a_most_in_load : PySem.W.nsIn K mainGlobals "most_in_load" = some (some (.ref f_most_in_load)))
    (l_most_in_load : K.lookup f_most_in_load = some ⟨oc_most_in_load, od_most_in_load, .func (PySem.W.fnOf "most_in_load" "most_in_load" (defArgs s_most_in_load) (defBody s_most_in_load) (defScope s_most_in_load) .none kV_most_in_load dc_most_in_load pm_most_in_load an_most_in_load cd_most_in_load ct_most_in_load), sl_most_in_load⟩)
    (d_most_in_load : PySem.W.codeIn K cd_most_in_load "most_in_load" = true)
    (k_most_in_load : PySem.W.keepIn K (.ref f_most_in_load) = true)
    (a_most_brought : PySem.W.nsIn K mainGlobals "most_brought" = some (some (.ref f_most_brought)))
    (l_most_brought : K.lookup f_most_brought = some ⟨oc_most_brought, od_most_brought, .func (PySem.W.fnOf "most_brought" "most_brought" (defArgs s_most_brought) (defBody s_most_brought) (defScope s_most_brought) .none kV_most_brought dc_most_brought pm_most_brought an_most_brought cd_most_brought ct_most_brought), sl_most_brought⟩)
    (d_most_brought : PySem.W.codeIn K cd_most_brought "most_brought" = true)
    (k_most_brought : PySem.W.keepIn K (.ref f_most_brought) = true)
    (a_least_minutes : PySem.W.nsIn K mainGlobals "least_minutes" = some (some (.ref f_least_minutes)))
    (l_least_minutes : K.lookup f_least_minutes = some ⟨oc_least_minutes, od_least_minutes, .func (PySem.W.fnOf "least_minutes" "least_minutes" (defArgs s_least_minutes) (defBody s_least_minutes) (defScope s_least_minutes) .none kV_least_minutes dc_least_minutes pm_least_minutes an_least_minutes cd_least_minutes ct_least_minutes), sl_least_minutes⟩)
    (d_least_minutes : PySem.W.codeIn K cd_least_minutes "least_minutes" = true)
    (k_least_minutes : PySem.W.keepIn K (.ref f_least_minutes) = true)
    (a_ask_brings : PySem.W.nsIn K mainGlobals "ask_brings" = some (some (.ref f_ask_brings)))
    (l_ask_brings : K.lookup f_ask_brings = some ⟨oc_ask_brings, od_ask_brings, .func (PySem.W.fnOf "ask_brings" "ask_brings" (defArgs s_ask_brings) (defBody s_ask_brings) (defScope s_ask_brings) .none kV_ask_brings dc_ask_brings pm_ask_brings an_ask_brings cd_ask_brings ct_ask_brings), sl_ask_brings⟩)
    (d_ask_brings : PySem.W.codeIn K cd_ask_brings "ask_brings" = true)
    (k_ask_brings : PySem.W.keepIn K (.ref f_ask_brings) = true)
    (a_ask_least : PySem.W.nsIn K mainGlobals "ask_least" = some (some (.ref f_ask_least)))
    (l_ask_least : K.lookup f_ask_least = some ⟨oc_ask_least, od_ask_least, .func (PySem.W.fnOf "ask_least" "ask_least" (defArgs s_ask_least) (defBody s_ask_least) (defScope s_ask_least) .none kV_ask_least dc_ask_least pm_ask_least an_ask_least cd_ask_least ct_ask_least), sl_ask_least⟩)
    (d_ask_least : PySem.W.codeIn K cd_ask_least "ask_least" = true)
    (k_ask_least : PySem.W.keepIn K (.ref f_ask_least) = true)
    (a_pass_minutes : PySem.W.nsIn K mainGlobals "pass_minutes" = some (some (.ref f_pass_minutes)))
    (l_pass_minutes : K.lookup f_pass_minutes = some ⟨oc_pass_minutes, od_pass_minutes, .func (PySem.W.fnOf "pass_minutes" "pass_minutes" (defArgs s_pass_minutes) (defBody s_pass_minutes) (defScope s_pass_minutes) .none kV_pass_minutes dc_pass_minutes pm_pass_minutes an_pass_minutes cd_pass_minutes ct_pass_minutes), sl_pass_minutes⟩)
    (d_pass_minutes : PySem.W.codeIn K cd_pass_minutes "pass_minutes" = true)
    (k_pass_minutes : PySem.W.keepIn K (.ref f_pass_minutes) = true)
    (a_close_base : PySem.W.nsIn K mainGlobals "close_base" = some (some (.ref f_close_base)))
    (l_close_base : K.lookup f_close_base = some ⟨oc_close_base, od_close_base, .func (PySem.W.fnOf "close_base" "close_base" (defArgs s_close_base) (defBody s_close_base) (defScope s_close_base) .none kV_close_base dc_close_base pm_close_base an_close_base cd_close_base ct_close_base), sl_close_base⟩)
    (d_close_base : PySem.W.codeIn K cd_close_base "close_base" = true)
    (k_close_base : PySem.W.keepIn K (.ref f_close_base) = true)
    (a_reopen_base : PySem.W.nsIn K mainGlobals "reopen_base" = some (some (.ref f_reopen_base)))
    (l_reopen_base : K.lookup f_reopen_base = some ⟨oc_reopen_base, od_reopen_base, .func (PySem.W.fnOf "reopen_base" "reopen_base" (defArgs s_reopen_base) (defBody s_reopen_base) (defScope s_reopen_base) .none kV_reopen_base dc_reopen_base pm_reopen_base an_reopen_base cd_reopen_base ct_reopen_base), sl_reopen_base⟩)
    (d_reopen_base : PySem.W.codeIn K cd_reopen_base "reopen_base" = true)
    (k_reopen_base : PySem.W.keepIn K (.ref f_reopen_base) = true)
    (a_change : PySem.W.nsIn K mainGlobals "change" = some (some (.ref f_change)))
    (l_change : K.lookup f_change = some ⟨oc_change, od_change, .func (PySem.W.fnOf "change" "change" (defArgs s_change) (defBody s_change) (defScope s_change) .none kV_change dc_change pm_change an_change cd_change ct_change), sl_change⟩)
    (d_change : PySem.W.codeIn K cd_change "change" = true)
    (k_change : PySem.W.keepIn K (.ref f_change) = true)
    (a_make_change : PySem.W.nsIn K mainGlobals "make_change" = some (some (.ref f_make_change)))
    (l_make_change : K.lookup f_make_change = some ⟨oc_make_change, od_make_change, .func (PySem.W.fnOf "make_change" "make_change" (defArgs s_make_change) (defBody s_make_change) (defScope s_make_change) .none kV_make_change dc_make_change pm_make_change an_make_change cd_make_change ct_make_change), sl_make_change⟩)
    (d_make_change : PySem.W.codeIn K cd_make_change "make_change" = true)
    (k_make_change : PySem.W.keepIn K (.ref f_make_change) = true)
    (a_ask : PySem.W.nsIn K mainGlobals "ask" = some (some (.ref f_ask)))
    (l_ask : K.lookup f_ask = some ⟨oc_ask, od_ask, .func (PySem.W.fnOf "ask" "ask" (defArgs s_ask) (defBody s_ask) (defScope s_ask) .none kV_ask dc_ask pm_ask an_ask cd_ask ct_ask), sl_ask⟩)
    (d_ask : PySem.W.codeIn K cd_ask "ask" = true)
    (k_ask : PySem.W.keepIn K (.ref f_ask) = true)
    (a_look : PySem.W.nsIn K mainGlobals "look" = some (some (.ref f_look)))
    (l_look : K.lookup f_look = some ⟨oc_look, od_look, .func (PySem.W.fnOf "look" "look" (defArgs s_look) (defBody s_look) (defScope s_look) .none kV_look dc_look pm_look an_look cd_look ct_look), sl_look⟩)
    (d_look : PySem.W.codeIn K cd_look "look" = true)
    (k_look : PySem.W.keepIn K (.ref f_look) = true)
    (a_answer_call : PySem.W.nsIn K mainGlobals "answer_call" = some (some (.ref f_answer_call)))
    (l_answer_call : K.lookup f_answer_call = some ⟨oc_answer_call, od_answer_call, .func (PySem.W.fnOf "answer_call" "answer_call" (defArgs s_answer_call) (defBody s_answer_call) (defScope s_answer_call) .none kV_answer_call dc_answer_call pm_answer_call an_answer_call cd_answer_call ct_answer_call), sl_answer_call⟩)
    (d_answer_call : PySem.W.codeIn K cd_answer_call "answer_call" = true)
    (k_answer_call : PySem.W.keepIn K (.ref f_answer_call) = true)
    (a_answers : PySem.W.nsIn K mainGlobals "answers" = some (some (.ref f_answers)))
    (l_answers : K.lookup f_answers = some ⟨oc_answers, od_answers, .func (PySem.W.fnOf "answers" "answers" (defArgs s_answers) (defBody s_answers) (defScope s_answers) .none kV_answers dc_answers pm_answers an_answers cd_answers ct_answers), sl_answers⟩)
    (d_answers : PySem.W.codeIn K cd_answers "answers" = true)
    (k_answers : PySem.W.keepIn K (.ref f_answers) = true)
    (g_NOT_THERE : PySem.W.nsIn K mainGlobals "NOT_THERE" = some (some (.int (-2) t_NOT_THERE)))
    (g_NO_CHANGE : PySem.W.nsIn K mainGlobals "NO_CHANGE" = some (some (.int (-2) t_NO_CHANGE)))
    (g_NOBODY : PySem.W.nsIn K mainGlobals "NOBODY" = some (some (.int (-6) t_NOBODY)))
    (g_NO_BASE : PySem.W.nsIn K mainGlobals "NO_BASE" = some (some (.int (-6) t_NO_BASE)))
    (g_NONE_BUSY : PySem.W.nsIn K mainGlobals "NONE_BUSY" = some (some (.int (-6) t_NONE_BUSY)))
    (g_TOO_FEW_WAIT : PySem.W.nsIn K mainGlobals "TOO_FEW_WAIT" = some (some (.int (-12) t_TOO_FEW_WAIT)))
    (g_NOT_NOW : PySem.W.nsIn K mainGlobals "NOT_NOW" = some (some (.int (-16) t_NOT_NOW)))
    (g_ALREADY_SO : PySem.W.nsIn K mainGlobals "ALREADY_SO" = some (some (.int (-17) t_ALREADY_SO)))
    (g_WRONG_NUMBER : PySem.W.nsIn K mainGlobals "WRONG_NUMBER" = some (some (.int (-22) t_WRONG_NUMBER)))
    (g_TOO_MANY : PySem.W.nsIn K mainGlobals "TOO_MANY" = some (some (.int (-28) t_TOO_MANY)))
    (g_MAY_NOT : PySem.W.nsIn K mainGlobals "MAY_NOT" = some (some (.int (-33) t_MAY_NOT)))
    (g_NO_WAY : PySem.W.nsIn K mainGlobals "NO_WAY" = some (some (.int (-33) t_NO_WAY)))
    (g_NO_SEATS : PySem.W.nsIn K mainGlobals "NO_SEATS" = some (some (.int (-62) t_NO_SEATS)))
    (g_TOO_LATE : PySem.W.nsIn K mainGlobals "TOO_LATE" = some (some (.int (-75) t_TOO_LATE)))
    (g_LONGEST_RESERVE : PySem.W.nsIn K mainGlobals "LONGEST_RESERVE" = some (some (.int (60) t_LONGEST_RESERVE)))
    (g_MOST_TAKEN_BACK : PySem.W.nsIn K mainGlobals "MOST_TAKEN_BACK" = some (some (.int (20) t_MOST_TAKEN_BACK)))
    (g_MINUTES_TO_REFUEL : PySem.W.nsIn K mainGlobals "MINUTES_TO_REFUEL" = some (some (.int (10) t_MINUTES_TO_REFUEL)))
    (g_MOST_PLACES : PySem.W.nsIn K mainGlobals "MOST_PLACES" = some (some (.int (6) t_MOST_PLACES)))
    (g_MOST_HELICOPTERS : PySem.W.nsIn K mainGlobals "MOST_HELICOPTERS" = some (some (.int (3) t_MOST_HELICOPTERS)))
    (g_MOST_WAITING : PySem.W.nsIn K mainGlobals "MOST_WAITING" = some (some (.int (1000) t_MOST_WAITING)))
    (g_MOST_SAVED : PySem.W.nsIn K mainGlobals "MOST_SAVED" = some (some (.int (100000) t_MOST_SAVED)))
    (g_LONGEST_WAY : PySem.W.nsIn K mainGlobals "LONGEST_WAY" = some (some (.int (300) t_LONGEST_WAY)))
    (g_LARGEST_TANK : PySem.W.nsIn K mainGlobals "LARGEST_TANK" = some (some (.int (10000) t_LARGEST_TANK)))
    (g_MOST_BURNT : PySem.W.nsIn K mainGlobals "MOST_BURNT" = some (some (.int (100) t_MOST_BURNT)))
    (g_MOST_SEATS : PySem.W.nsIn K mainGlobals "MOST_SEATS" = some (some (.int (30) t_MOST_SEATS)))
    (g_SLOWEST_WINCH : PySem.W.nsIn K mainGlobals "SLOWEST_WINCH" = some (some (.int (60) t_SLOWEST_WINCH)))
    (g_MINUTES_BETWEEN_LOADS : PySem.W.nsIn K mainGlobals "MINUTES_BETWEEN_LOADS" = some (some (.int (10) t_MINUTES_BETWEEN_LOADS)))
    (g_MOST_MINUTES_TO_BRING : PySem.W.nsIn K mainGlobals "MOST_MINUTES_TO_BRING" = some (some (.int (10000) t_MOST_MINUTES_TO_BRING)))
    (g_MOST_TO_BRING : PySem.W.nsIn K mainGlobals "MOST_TO_BRING" = some (some (.int (1000) t_MOST_TO_BRING)))
    (g_MOST_MINUTES : PySem.W.nsIn K mainGlobals "MOST_MINUTES" = some (some (.int (1440) t_MOST_MINUTES)))
    (g_LAST_MINUTE : PySem.W.nsIn K mainGlobals "LAST_MINUTE" = some (some (.int (10000) t_LAST_MINUTE)))
    (g_HF_START : PySem.W.nsIn K mainGlobals "HF_START" = some (some (.int (0) t_HF_START)))
    (g_HF_PLACE : PySem.W.nsIn K mainGlobals "HF_PLACE" = some (some (.int (1) t_HF_PLACE)))
    (g_HF_WAY : PySem.W.nsIn K mainGlobals "HF_WAY" = some (some (.int (2) t_HF_WAY)))
    (g_HF_HELI : PySem.W.nsIn K mainGlobals "HF_HELI" = some (some (.int (3) t_HF_HELI)))
    (g_HF_GO : PySem.W.nsIn K mainGlobals "HF_GO" = some (some (.int (4) t_HF_GO)))
    (g_HF_WINCH : PySem.W.nsIn K mainGlobals "HF_WINCH" = some (some (.int (5) t_HF_WINCH)))
    (g_HF_LAND : PySem.W.nsIn K mainGlobals "HF_LAND" = some (some (.int (6) t_HF_LAND)))
    (g_HF_REFUEL : PySem.W.nsIn K mainGlobals "HF_REFUEL" = some (some (.int (7) t_HF_REFUEL)))
    (g_HF_MINUTES : PySem.W.nsIn K mainGlobals "HF_MINUTES" = some (some (.int (8) t_HF_MINUTES)))
    (g_HF_CLOSE : PySem.W.nsIn K mainGlobals "HF_CLOSE" = some (some (.int (9) t_HF_CLOSE)))
    (g_HF_OPEN : PySem.W.nsIn K mainGlobals "HF_OPEN" = some (some (.int (10) t_HF_OPEN)))
    (g_HF_MORE : PySem.W.nsIn K mainGlobals "HF_MORE" = some (some (.int (11) t_HF_MORE)))
    (g_HF_MAY : PySem.W.nsIn K mainGlobals "HF_MAY" = some (some (.int (12) t_HF_MAY)))
    (g_HF_STAY : PySem.W.nsIn K mainGlobals "HF_STAY" = some (some (.int (13) t_HF_STAY)))
    (g_HF_LIFT : PySem.W.nsIn K mainGlobals "HF_LIFT" = some (some (.int (14) t_HF_LIFT)))
    (g_HF_NEAREST : PySem.W.nsIn K mainGlobals "HF_NEAREST" = some (some (.int (15) t_HF_NEAREST)))
    (g_HF_MUST : PySem.W.nsIn K mainGlobals "HF_MUST" = some (some (.int (16) t_HF_MUST)))
    (g_HF_RANGE : PySem.W.nsIn K mainGlobals "HF_RANGE" = some (some (.int (17) t_HF_RANGE)))
    (g_HF_BRINGS : PySem.W.nsIn K mainGlobals "HF_BRINGS" = some (some (.int (18) t_HF_BRINGS)))
    (g_HF_LEAST : PySem.W.nsIn K mainGlobals "HF_LEAST" = some (some (.int (19) t_HF_LEAST)))
    (g_HF_WHERE : PySem.W.nsIn K mainGlobals "HF_WHERE" = some (some (.int (20) t_HF_WHERE)))
    (g_HF_LOOK : PySem.W.nsIn K mainGlobals "HF_LOOK" = some (some (.int (21) t_HF_LOOK)))
    (g_HF_SEE : PySem.W.nsIn K mainGlobals "HF_SEE" = some (some (.int (22) t_HF_SEE)))
    (g_HF_FAR : PySem.W.nsIn K mainGlobals "HF_FAR" = some (some (.int (23) t_HF_FAR)))
    (g_HF_NEXT : PySem.W.nsIn K mainGlobals "HF_NEXT" = some (some (.int (24) t_HF_NEXT)))
    (g_HF_SUMS : PySem.W.nsIn K mainGlobals "HF_SUMS" = some (some (.int (25) t_HF_SUMS)))
    (g_HF_BACK : PySem.W.nsIn K mainGlobals "HF_BACK" = some (some (.int (26) t_HF_BACK)))
    (g_HF_AGAIN : PySem.W.nsIn K mainGlobals "HF_AGAIN" = some (some (.int (27) t_HF_AGAIN)))
    (z_len : PySem.W.nsIn K mainGlobals "len" = some none)
    (z_min : PySem.W.nsIn K mainGlobals "min" = some none)
    (z_max : PySem.W.nsIn K mainGlobals "max" = some none)
    (z_enumerate : PySem.W.nsIn K mainGlobals "enumerate" = some none)
    (z_sum : PySem.W.nsIn K mainGlobals "sum" = some none)
    (z_dict : PySem.W.nsIn K mainGlobals "dict" = some none)
    (g_NUMBERS_BEHIND : PySem.W.nsIn K mainGlobals "NUMBERS_BEHIND" = some (some (.ref ta_NUMBERS_BEHIND)))
    (tl_NUMBERS_BEHIND : K.lookup ta_NUMBERS_BEHIND = some ⟨.type "tuple", tod_NUMBERS_BEHIND, .seq #[.int (1) tk0_NUMBERS_BEHIND, .int (2) tk1_NUMBERS_BEHIND, .int (3) tk2_NUMBERS_BEHIND, .int (6) tk3_NUMBERS_BEHIND, .int (2) tk4_NUMBERS_BEHIND, .int (2) tk5_NUMBERS_BEHIND, .int (1) tk6_NUMBERS_BEHIND, .int (1) tk7_NUMBERS_BEHIND, .int (1) tk8_NUMBERS_BEHIND, .int (1) tk9_NUMBERS_BEHIND, .int (1) tk10_NUMBERS_BEHIND, .int (2) tk11_NUMBERS_BEHIND, .int (2) tk12_NUMBERS_BEHIND, .int (1) tk13_NUMBERS_BEHIND, .int (1) tk14_NUMBERS_BEHIND, .int (1) tk15_NUMBERS_BEHIND, .int (2) tk16_NUMBERS_BEHIND, .int (1) tk17_NUMBERS_BEHIND, .int (3) tk18_NUMBERS_BEHIND, .int (3) tk19_NUMBERS_BEHIND, .int (1) tk20_NUMBERS_BEHIND, .int (1) tk21_NUMBERS_BEHIND, .int (1) tk22_NUMBERS_BEHIND, .int (2) tk23_NUMBERS_BEHIND, .int (0) tk24_NUMBERS_BEHIND, .int (0) tk25_NUMBERS_BEHIND, .int (0) tk26_NUMBERS_BEHIND, .int (0) tk27_NUMBERS_BEHIND, .int (0) tk28_NUMBERS_BEHIND] tn_NUMBERS_BEHIND, tsl_NUMBERS_BEHIND⟩)
    (ne_World_Helicopter : c_World ≠ c_Helicopter)
    (ne_World_Place : c_World ≠ c_Place)
    (ne_Helicopter_Place : c_Helicopter ≠ c_Place)
    (ne_Flights_World : c_Flights ≠ c_World)
    (ne_Flights_Helicopter : c_Flights ≠ c_Helicopter)
    (ne_Flights_Place : c_Flights ≠ c_Place) :
    ∃ fd : FuncData, (∀ (s : Shared) (us : List Value), us.length = (["calls"] : List Str).length → BindsTo s fd ⟨us, []⟩ ((["calls"] : List Str).zip us)) ∧ ∀ base : Heap, K.In base → base.Ns mainGlobals mg → FnOk P w K mg base CX0 21 fa fd ["calls"] (spAns K) := by
  have h_Place : HasI K mg "Place" "Place.__init__" s_Place c_Place ["self", "is_base", "waiting"] := hasI_mk X G a_Place mk_Place b_Place i_Place kc_Place l_Place d_Place k_Place (fun _ _ _ _ _ _ us hl => match us, hl with | [_, _, _], _ => rfl)
  have h_Helicopter : HasI K mg "Helicopter" "Helicopter.__init__" s_Helicopter c_Helicopter ["self", "place", "tank", "burn", "hover", "seats", "winch"] := hasI_mk X G a_Helicopter mk_Helicopter b_Helicopter i_Helicopter kc_Helicopter l_Helicopter d_Helicopter k_Helicopter (fun _ _ _ _ _ _ us hl => match us, hl with | [_, _, _, _, _, _, _], _ => rfl)
  have h_World : HasI K mg "World" "World.__init__" s_World c_World ["self", "reserve"] := hasI_mk X G a_World mk_World b_World i_World kc_World l_World d_World k_World (fun _ _ _ _ _ _ us hl => match us, hl with | [_, _], _ => rfl)
  have h_Flights : HasI K mg "Flights" "Flights.__init__" s_Flights c_Flights ["self"] := hasI_mk X G a_Flights mk_Flights b_Flights i_Flights kc_Flights l_Flights d_Flights k_Flights (fun _ _ _ _ _ _ us hl => match us, hl with | [_], _ => rfl)
  have h_has_place : Has K mg "has_place" sHasPlace ["world", "p"] := has_mk X G a_has_place l_has_place d_has_place k_has_place (fun _ _ _ _ _ _ us hl => match us, hl with | [_, _], _ => rfl)
  have h_has_helicopter : Has K mg "has_helicopter" s_has_helicopter ["world", "h"] := has_mk X G a_has_helicopter l_has_helicopter d_has_helicopter k_has_helicopter (fun _ _ _ _ _ _ us hl => match us, hl with | [_, _], _ => rfl)
  have h_way_key : Has K mg "way_key" s_way_key ["a", "b"] := has_mk X G a_way_key l_way_key d_way_key k_way_key (fun _ _ _ _ _ _ us hl => match us, hl with | [_, _], _ => rfl)
  have h_way_minutes : Has K mg "way_minutes" s_way_minutes ["world", "a", "b"] := has_mk X G a_way_minutes l_way_minutes d_way_minutes k_way_minutes (fun _ _ _ _ _ _ us hl => match us, hl with | [_, _, _], _ => rfl)
  have h_open_bases : Has K mg "open_bases" s_open_bases ["world"] := has_mk X G a_open_bases l_open_bases d_open_bases k_open_bases (fun _ _ _ _ _ _ us hl => match us, hl with | [_], _ => rfl)
  have h_copy_of_place : Has K mg "copy_of_place" s_copy_of_place ["place"] := has_mk X G a_copy_of_place l_copy_of_place d_copy_of_place k_copy_of_place (fun _ _ _ _ _ _ us hl => match us, hl with | [_], _ => rfl)
  have h_copy_of_helicopter : Has K mg "copy_of_helicopter" s_copy_of_helicopter ["heli"] := has_mk X G a_copy_of_helicopter l_copy_of_helicopter d_copy_of_helicopter k_copy_of_helicopter (fun _ _ _ _ _ _ us hl => match us, hl with | [_], _ => rfl)
  have h_copy_of_world : Has K mg "copy_of_world" s_copy_of_world ["world"] := has_mk X G a_copy_of_world l_copy_of_world d_copy_of_world k_copy_of_world (fun _ _ _ _ _ _ us hl => match us, hl with | [_], _ => rfl)
  have h_nearest_base : Has K mg "nearest_base" s_nearest_base ["world", "p"] := has_mk X G a_nearest_base l_nearest_base d_nearest_base k_nearest_base (fun _ _ _ _ _ _ us hl => match us, hl with | [_, _], _ => rfl)
  have h_must_be_left : Has K mg "must_be_left" s_must_be_left ["world", "heli", "p"] := has_mk X G a_must_be_left l_must_be_left d_must_be_left k_must_be_left (fun _ _ _ _ _ _ us hl => match us, hl with | [_, _, _], _ => rfl)
  have h_is_enough : Has K mg "is_enough" s_is_enough ["world", "heli", "p", "fuel"] := has_mk X G a_is_enough l_is_enough d_is_enough k_is_enough (fun _ _ _ _ _ _ us hl => match us, hl with | [_, _, _, _], _ => rfl)
  have h_can_come_back : Has K mg "can_come_back" s_can_come_back ["world", "heli"] := has_mk X G a_can_come_back l_can_come_back d_can_come_back k_can_come_back (fun _ _ _ _ _ _ us hl => match us, hl with | [_, _], _ => rfl)
  have h_may_go : Has K mg "may_go" s_may_go ["world", "heli", "p"] := has_mk X G a_may_go l_may_go d_may_go k_may_go (fun _ _ _ _ _ _ us hl => match us, hl with | [_, _, _], _ => rfl)
  have h_may_hover : Has K mg "may_hover" s_may_hover ["world", "heli"] := has_mk X G a_may_hover l_may_hover d_may_hover k_may_hover (fun _ _ _ _ _ _ us hl => match us, hl with | [_, _], _ => rfl)
  have h_seats_left : Has K mg "seats_left" s_seats_left ["heli"] := has_mk X G a_seats_left l_seats_left d_seats_left k_seats_left (fun _ _ _ _ _ _ us hl => match us, hl with | [_], _ => rfl)
  have h_winched_in_time : Has K mg "winched_in_time" s_winched_in_time ["world", "heli"] := has_mk X G a_winched_in_time l_winched_in_time d_winched_in_time k_winched_in_time (fun _ _ _ _ _ _ us hl => match us, hl with | [_, _], _ => rfl)
  have h_may_lift : Has K mg "may_lift" s_may_lift ["world", "heli"] := has_mk X G a_may_lift l_may_lift d_may_lift k_may_lift (fun _ _ _ _ _ _ us hl => match us, hl with | [_, _], _ => rfl)
  have h_ask_may : Has K mg "ask_may" s_ask_may ["world", "h", "p"] := has_mk X G a_ask_may l_ask_may d_ask_may k_ask_may (fun _ _ _ _ _ _ us hl => match us, hl with | [_, _, _], _ => rfl)
  have h_ask_stay : Has K mg "ask_stay" s_ask_stay ["world", "h"] := has_mk X G a_ask_stay l_ask_stay d_ask_stay k_ask_stay (fun _ _ _ _ _ _ us hl => match us, hl with | [_, _], _ => rfl)
  have h_ask_lift : Has K mg "ask_lift" s_ask_lift ["world", "h"] := has_mk X G a_ask_lift l_ask_lift d_ask_lift k_ask_lift (fun _ _ _ _ _ _ us hl => match us, hl with | [_, _], _ => rfl)
  have h_ask_nearest : Has K mg "ask_nearest" s_ask_nearest ["world", "p"] := has_mk X G a_ask_nearest l_ask_nearest d_ask_nearest k_ask_nearest (fun _ _ _ _ _ _ us hl => match us, hl with | [_, _], _ => rfl)
  have h_ask_must : Has K mg "ask_must" s_ask_must ["world", "h", "p"] := has_mk X G a_ask_must l_ask_must d_ask_must k_ask_must (fun _ _ _ _ _ _ us hl => match us, hl with | [_, _, _], _ => rfl)
  have h_ask_range : Has K mg "ask_range" s_ask_range ["world", "h"] := has_mk X G a_ask_range l_ask_range d_ask_range k_ask_range (fun _ _ _ _ _ _ us hl => match us, hl with | [_, _], _ => rfl)
  have h_start : Has K mg "start" s_start ["flights", "reserve"] := has_mk X G a_start l_start d_start k_start (fun _ _ _ _ _ _ us hl => match us, hl with | [_, _], _ => rfl)
  have h_keep_change : Has K mg "keep_change" s_keep_change ["flights", "changed"] := has_mk X G a_keep_change l_keep_change d_keep_change k_keep_change (fun _ _ _ _ _ _ us hl => match us, hl with | [_, _], _ => rfl)
  have h_take_back : Has K mg "take_back" s_take_back ["flights"] := has_mk X G a_take_back l_take_back d_take_back k_take_back (fun _ _ _ _ _ _ us hl => match us, hl with | [_], _ => rfl)
  have h_do_again : Has K mg "do_again" s_do_again ["flights"] := has_mk X G a_do_again l_do_again d_do_again k_do_again (fun _ _ _ _ _ _ us hl => match us, hl with | [_], _ => rfl)
  have h_look_at_state : Has K mg "look_at_state" s_look_at_state ["flights"] := has_mk X G a_look_at_state l_look_at_state d_look_at_state k_look_at_state (fun _ _ _ _ _ _ us hl => match us, hl with | [_], _ => rfl)
  have h_go : Has K mg "go" s_go ["world", "h", "p"] := has_mk X G a_go l_go d_go k_go (fun _ _ _ _ _ _ us hl => match us, hl with | [_, _, _], _ => rfl)
  have h_winch_up : Has K mg "winch_up" s_winch_up ["world", "h", "n"] := has_mk X G a_winch_up l_winch_up d_winch_up k_winch_up (fun _ _ _ _ _ _ us hl => match us, hl with | [_, _, _], _ => rfl)
  have h_land : Has K mg "land" s_land ["world", "h"] := has_mk X G a_land l_land d_land k_land (fun _ _ _ _ _ _ us hl => match us, hl with | [_, _], _ => rfl)
  have h_refuel : Has K mg "refuel" s_refuel ["world", "h"] := has_mk X G a_refuel l_refuel d_refuel k_refuel (fun _ _ _ _ _ _ us hl => match us, hl with | [_, _], _ => rfl)
  have h_look_where : Has K mg "look_where" s_look_where ["world", "h"] := has_mk X G a_look_where l_look_where d_look_where k_look_where (fun _ _ _ _ _ _ us hl => match us, hl with | [_, _], _ => rfl)
  have h_look_at_helicopter : Has K mg "look_at_helicopter" s_look_at_helicopter ["world", "h"] := has_mk X G a_look_at_helicopter l_look_at_helicopter d_look_at_helicopter k_look_at_helicopter (fun _ _ _ _ _ _ us hl => match us, hl with | [_, _], _ => rfl)
  have h_look_at_place : Has K mg "look_at_place" s_look_at_place ["world", "p"] := has_mk X G a_look_at_place l_look_at_place d_look_at_place k_look_at_place (fun _ _ _ _ _ _ us hl => match us, hl with | [_, _], _ => rfl)
  have h_look_how_far : Has K mg "look_how_far" s_look_how_far ["world", "a", "b"] := has_mk X G a_look_how_far l_look_how_far d_look_how_far k_look_how_far (fun _ _ _ _ _ _ us hl => match us, hl with | [_, _, _], _ => rfl)
  have h_look_who_is_next : Has K mg "look_who_is_next" s_look_who_is_next ["world"] := has_mk X G a_look_who_is_next l_look_who_is_next d_look_who_is_next k_look_who_is_next (fun _ _ _ _ _ _ us hl => match us, hl with | [_], _ => rfl)
  have h_look_at_sums : Has K mg "look_at_sums" s_look_at_sums ["world"] := has_mk X G a_look_at_sums l_look_at_sums d_look_at_sums k_look_at_sums (fun _ _ _ _ _ _ us hl => match us, hl with | [_], _ => rfl)
  have h_add_place : Has K mg "add_place" s_add_place ["world", "base", "persons"] := has_mk X G a_add_place l_add_place d_add_place k_add_place (fun _ _ _ _ _ _ us hl => match us, hl with | [_, _, _], _ => rfl)
  have h_set_way : Has K mg "set_way" s_set_way ["world", "a", "b", "n"] := has_mk X G a_set_way l_set_way d_set_way k_set_way (fun _ _ _ _ _ _ us hl => match us, hl with | [_, _, _, _], _ => rfl)
  have h_is_from_one_to : Has K mg "is_from_one_to" s_is_from_one_to ["n", "most"] := has_mk X G a_is_from_one_to l_is_from_one_to d_is_from_one_to k_is_from_one_to (fun _ _ _ _ _ _ us hl => match us, hl with | [_, _], _ => rfl)
  have h_is_as_told : Has K mg "is_as_told" s_is_as_told ["tank", "burn", "hover", "seats", "winch"] := has_mk X G a_is_as_told l_is_as_told d_is_as_told k_is_as_told (fun _ _ _ _ _ _ us hl => match us, hl with | [_, _, _, _, _], _ => rfl)
  have h_add_helicopter : Has K mg "add_helicopter" s_add_helicopter ["world", "p", "tank", "burn", "hover", "seats", "winch"] := has_mk X G a_add_helicopter l_add_helicopter d_add_helicopter k_add_helicopter (fun _ _ _ _ _ _ us hl => match us, hl with | [_, _, _, _, _, _, _], _ => rfl)
  have h_add_persons : Has K mg "add_persons" s_add_persons ["world", "p", "n"] := has_mk X G a_add_persons l_add_persons d_add_persons k_add_persons (fun _ _ _ _ _ _ us hl => match us, hl with | [_, _, _], _ => rfl)
  have h_minutes_out_and_back : Has K mg "minutes_out_and_back" s_minutes_out_and_back ["world", "p", "base"] := has_mk X G a_minutes_out_and_back l_minutes_out_and_back d_minutes_out_and_back k_minutes_out_and_back (fun _ _ _ _ _ _ us hl => match us, hl with | [_, _, _], _ => rfl)
  have h_most_in_load : Has K mg "most_in_load" s_most_in_load ["world", "heli", "p", "base"] := has_mk X G a_most_in_load l_most_in_load d_most_in_load k_most_in_load (fun _ _ _ _ _ _ us hl => match us, hl with | [_, _, _, _], _ => rfl)
  have h_most_brought : Has K mg "most_brought" s_most_brought ["load", "trip", "winch", "t"] := has_mk X G a_most_brought l_most_brought d_most_brought k_most_brought (fun _ _ _ _ _ _ us hl => match us, hl with | [_, _, _, _], _ => rfl)
  have h_least_minutes : Has K mg "least_minutes" s_least_minutes ["load", "trip", "winch", "n"] := has_mk X G a_least_minutes l_least_minutes d_least_minutes k_least_minutes (fun _ _ _ _ _ _ us hl => match us, hl with | [_, _, _, _], _ => rfl)
  have h_ask_brings : Has K mg "ask_brings" s_ask_brings ["world", "h", "p", "t"] := has_mk X G a_ask_brings l_ask_brings d_ask_brings k_ask_brings (fun _ _ _ _ _ _ us hl => match us, hl with | [_, _, _, _], _ => rfl)
  have h_ask_least : Has K mg "ask_least" s_ask_least ["world", "h", "p", "n"] := has_mk X G a_ask_least l_ask_least d_ask_least k_ask_least (fun _ _ _ _ _ _ us hl => match us, hl with | [_, _, _, _], _ => rfl)
  have h_pass_minutes : Has K mg "pass_minutes" s_pass_minutes ["world", "n"] := has_mk X G a_pass_minutes l_pass_minutes d_pass_minutes k_pass_minutes (fun _ _ _ _ _ _ us hl => match us, hl with | [_, _], _ => rfl)
  have h_close_base : Has K mg "close_base" s_close_base ["world", "b"] := has_mk X G a_close_base l_close_base d_close_base k_close_base (fun _ _ _ _ _ _ us hl => match us, hl with | [_, _], _ => rfl)
  have h_reopen_base : Has K mg "reopen_base" s_reopen_base ["world", "b"] := has_mk X G a_reopen_base l_reopen_base d_reopen_base k_reopen_base (fun _ _ _ _ _ _ us hl => match us, hl with | [_, _], _ => rfl)
  have h_change : Has K mg "change" s_change ["world", "code", "numbers"] := has_mk X G a_change l_change d_change k_change (fun _ _ _ _ _ _ us hl => match us, hl with | [_, _, _], _ => rfl)
  have h_make_change : Has K mg "make_change" s_make_change ["flights", "code", "numbers"] := has_mk X G a_make_change l_make_change d_make_change k_make_change (fun _ _ _ _ _ _ us hl => match us, hl with | [_, _, _], _ => rfl)
  have h_ask : Has K mg "ask" s_ask ["world", "code", "numbers"] := has_mk X G a_ask l_ask d_ask k_ask (fun _ _ _ _ _ _ us hl => match us, hl with | [_, _, _], _ => rfl)
  have h_look : Has K mg "look" s_look ["world", "code", "numbers"] := has_mk X G a_look l_look d_look k_look (fun _ _ _ _ _ _ us hl => match us, hl with | [_, _, _], _ => rfl)
  have h_answer_call : Has K mg "answer_call" s_answer_call ["flights", "code", "numbers"] := has_mk X G a_answer_call l_answer_call d_answer_call k_answer_call (fun _ _ _ _ _ _ us hl => match us, hl with | [_, _, _], _ => rfl)
  have gi_NOT_THERE : GI mg "NOT_THERE" (-2) := gi_mk X G g_NOT_THERE
  have gi_NO_CHANGE : GI mg "NO_CHANGE" (-2) := gi_mk X G g_NO_CHANGE
  have gi_NOBODY : GI mg "NOBODY" (-6) := gi_mk X G g_NOBODY
  have gi_NO_BASE : GI mg "NO_BASE" (-6) := gi_mk X G g_NO_BASE
  have gi_NONE_BUSY : GI mg "NONE_BUSY" (-6) := gi_mk X G g_NONE_BUSY
  have gi_TOO_FEW_WAIT : GI mg "TOO_FEW_WAIT" (-12) := gi_mk X G g_TOO_FEW_WAIT
  have gi_NOT_NOW : GI mg "NOT_NOW" (-16) := gi_mk X G g_NOT_NOW
  have gi_ALREADY_SO : GI mg "ALREADY_SO" (-17) := gi_mk X G g_ALREADY_SO
  have gi_WRONG_NUMBER : GI mg "WRONG_NUMBER" (-22) := gi_mk X G g_WRONG_NUMBER
  have gi_TOO_MANY : GI mg "TOO_MANY" (-28) := gi_mk X G g_TOO_MANY
  have gi_MAY_NOT : GI mg "MAY_NOT" (-33) := gi_mk X G g_MAY_NOT
  have gi_NO_WAY : GI mg "NO_WAY" (-33) := gi_mk X G g_NO_WAY
  have gi_NO_SEATS : GI mg "NO_SEATS" (-62) := gi_mk X G g_NO_SEATS
  have gi_TOO_LATE : GI mg "TOO_LATE" (-75) := gi_mk X G g_TOO_LATE
  have gi_LONGEST_RESERVE : GI mg "LONGEST_RESERVE" (60) := gi_mk X G g_LONGEST_RESERVE
  have gi_MOST_TAKEN_BACK : GI mg "MOST_TAKEN_BACK" (20) := gi_mk X G g_MOST_TAKEN_BACK
  have gi_MINUTES_TO_REFUEL : GI mg "MINUTES_TO_REFUEL" (10) := gi_mk X G g_MINUTES_TO_REFUEL
  have gi_MOST_PLACES : GI mg "MOST_PLACES" (6) := gi_mk X G g_MOST_PLACES
  have gi_MOST_HELICOPTERS : GI mg "MOST_HELICOPTERS" (3) := gi_mk X G g_MOST_HELICOPTERS
  have gi_MOST_WAITING : GI mg "MOST_WAITING" (1000) := gi_mk X G g_MOST_WAITING
  have gi_MOST_SAVED : GI mg "MOST_SAVED" (100000) := gi_mk X G g_MOST_SAVED
  have gi_LONGEST_WAY : GI mg "LONGEST_WAY" (300) := gi_mk X G g_LONGEST_WAY
  have gi_LARGEST_TANK : GI mg "LARGEST_TANK" (10000) := gi_mk X G g_LARGEST_TANK
  have gi_MOST_BURNT : GI mg "MOST_BURNT" (100) := gi_mk X G g_MOST_BURNT
  have gi_MOST_SEATS : GI mg "MOST_SEATS" (30) := gi_mk X G g_MOST_SEATS
  have gi_SLOWEST_WINCH : GI mg "SLOWEST_WINCH" (60) := gi_mk X G g_SLOWEST_WINCH
  have gi_MINUTES_BETWEEN_LOADS : GI mg "MINUTES_BETWEEN_LOADS" (10) := gi_mk X G g_MINUTES_BETWEEN_LOADS
  have gi_MOST_MINUTES_TO_BRING : GI mg "MOST_MINUTES_TO_BRING" (10000) := gi_mk X G g_MOST_MINUTES_TO_BRING
  have gi_MOST_TO_BRING : GI mg "MOST_TO_BRING" (1000) := gi_mk X G g_MOST_TO_BRING
  have gi_MOST_MINUTES : GI mg "MOST_MINUTES" (1440) := gi_mk X G g_MOST_MINUTES
  have gi_LAST_MINUTE : GI mg "LAST_MINUTE" (10000) := gi_mk X G g_LAST_MINUTE
  have gi_HF_START : GI mg "HF_START" (0) := gi_mk X G g_HF_START
  have gi_HF_PLACE : GI mg "HF_PLACE" (1) := gi_mk X G g_HF_PLACE
  have gi_HF_WAY : GI mg "HF_WAY" (2) := gi_mk X G g_HF_WAY
  have gi_HF_HELI : GI mg "HF_HELI" (3) := gi_mk X G g_HF_HELI
  have gi_HF_GO : GI mg "HF_GO" (4) := gi_mk X G g_HF_GO
  have gi_HF_WINCH : GI mg "HF_WINCH" (5) := gi_mk X G g_HF_WINCH
  have gi_HF_LAND : GI mg "HF_LAND" (6) := gi_mk X G g_HF_LAND
  have gi_HF_REFUEL : GI mg "HF_REFUEL" (7) := gi_mk X G g_HF_REFUEL
  have gi_HF_MINUTES : GI mg "HF_MINUTES" (8) := gi_mk X G g_HF_MINUTES
  have gi_HF_CLOSE : GI mg "HF_CLOSE" (9) := gi_mk X G g_HF_CLOSE
  have gi_HF_OPEN : GI mg "HF_OPEN" (10) := gi_mk X G g_HF_OPEN
  have gi_HF_MORE : GI mg "HF_MORE" (11) := gi_mk X G g_HF_MORE
  have gi_HF_MAY : GI mg "HF_MAY" (12) := gi_mk X G g_HF_MAY
  have gi_HF_STAY : GI mg "HF_STAY" (13) := gi_mk X G g_HF_STAY
  have gi_HF_LIFT : GI mg "HF_LIFT" (14) := gi_mk X G g_HF_LIFT
  have gi_HF_NEAREST : GI mg "HF_NEAREST" (15) := gi_mk X G g_HF_NEAREST
  have gi_HF_MUST : GI mg "HF_MUST" (16) := gi_mk X G g_HF_MUST
  have gi_HF_RANGE : GI mg "HF_RANGE" (17) := gi_mk X G g_HF_RANGE
  have gi_HF_BRINGS : GI mg "HF_BRINGS" (18) := gi_mk X G g_HF_BRINGS
  have gi_HF_LEAST : GI mg "HF_LEAST" (19) := gi_mk X G g_HF_LEAST
  have gi_HF_WHERE : GI mg "HF_WHERE" (20) := gi_mk X G g_HF_WHERE
  have gi_HF_LOOK : GI mg "HF_LOOK" (21) := gi_mk X G g_HF_LOOK
  have gi_HF_SEE : GI mg "HF_SEE" (22) := gi_mk X G g_HF_SEE
  have gi_HF_FAR : GI mg "HF_FAR" (23) := gi_mk X G g_HF_FAR
  have gi_HF_NEXT : GI mg "HF_NEXT" (24) := gi_mk X G g_HF_NEXT
  have gi_HF_SUMS : GI mg "HF_SUMS" (25) := gi_mk X G g_HF_SUMS
  have gi_HF_BACK : GI mg "HF_BACK" (26) := gi_mk X G g_HF_BACK
  have gi_HF_AGAIN : GI mg "HF_AGAIN" (27) := gi_mk X G g_HF_AGAIN
  have mg_len : mg "len" = none := PySem.W.mg_none_of X G z_len
  have mg_min : mg "min" = none := PySem.W.mg_none_of X G z_min
  have mg_max : mg "max" = none := PySem.W.mg_none_of X G z_max
  have mg_enumerate : mg "enumerate" = none := PySem.W.mg_none_of X G z_enumerate
  have mg_sum : mg "sum" = none := PySem.W.mg_none_of X G z_sum
  have mg_dict : mg "dict" = none := PySem.W.mg_none_of X G z_dict
  have hm_NUMBERS_BEHIND : mg "NUMBERS_BEHIND" = some (.ref ta_NUMBERS_BEHIND) := PySem.W.mg_of X G g_NUMBERS_BEHIND
  have hT_NUMBERS_BEHIND : ∀ H, SqT K H ta_NUMBERS_BEHIND (([1, 2, 3, 6, 2, 2, 1, 1, 1, 1, 1, 2, 2, 1, 1, 1, 2, 1, 3, 3, 1, 1, 1, 2, 0, 0, 0, 0, 0] : List Int).map V.int) := fun H => .inr ⟨_, _, _, tl_NUMBERS_BEHIND, rfl, rfl, (by show 29 ≤ sizeLine; decide), (.cons ⟨_, rfl⟩ (.cons ⟨_, rfl⟩ (.cons ⟨_, rfl⟩ (.cons ⟨_, rfl⟩ (.cons ⟨_, rfl⟩ (.cons ⟨_, rfl⟩ (.cons ⟨_, rfl⟩ (.cons ⟨_, rfl⟩ (.cons ⟨_, rfl⟩ (.cons ⟨_, rfl⟩ (.cons ⟨_, rfl⟩ (.cons ⟨_, rfl⟩ (.cons ⟨_, rfl⟩ (.cons ⟨_, rfl⟩ (.cons ⟨_, rfl⟩ (.cons ⟨_, rfl⟩ (.cons ⟨_, rfl⟩ (.cons ⟨_, rfl⟩ (.cons ⟨_, rfl⟩ (.cons ⟨_, rfl⟩ (.cons ⟨_, rfl⟩ (.cons ⟨_, rfl⟩ (.cons ⟨_, rfl⟩ (.cons ⟨_, rfl⟩ (.cons ⟨_, rfl⟩ (.cons ⟨_, rfl⟩ (.cons ⟨_, rfl⟩ (.cons ⟨_, rfl⟩ (.cons ⟨_, rfl⟩ .nil)))))))))))))))))))))))))))))⟩
  have T : Txt K mg ⟨c_Place, c_Helicopter, c_World, c_Flights⟩ := { cw := ⟨pg_World, hd_World, po_World, sa_World⟩, ch := ⟨pg_Helicopter, hd_Helicopter, po_Helicopter, sa_Helicopter⟩, cp := ⟨pg_Place, hd_Place, po_Place, sa_Place⟩, cf := ⟨pg_Flights, hd_Flights, po_Flights, sa_Flights⟩, nw := (List.forall_mem_cons.mpr ⟨n_World_reserve, (List.forall_mem_cons.mpr ⟨n_World_minute, (List.forall_mem_cons.mpr ⟨n_World_saved, (List.forall_mem_cons.mpr ⟨n_World_places, (List.forall_mem_cons.mpr ⟨n_World_ways, (List.forall_mem_cons.mpr ⟨n_World_helis, (List.forall_mem_nil _)⟩)⟩)⟩)⟩)⟩)⟩), nh := (List.forall_mem_cons.mpr ⟨n_Helicopter_place, (List.forall_mem_cons.mpr ⟨n_Helicopter_fuel, (List.forall_mem_cons.mpr ⟨n_Helicopter_busy, (List.forall_mem_cons.mpr ⟨n_Helicopter_aboard, (List.forall_mem_cons.mpr ⟨n_Helicopter_tank, (List.forall_mem_cons.mpr ⟨n_Helicopter_burn, (List.forall_mem_cons.mpr ⟨n_Helicopter_hover, (List.forall_mem_cons.mpr ⟨n_Helicopter_seats, (List.forall_mem_cons.mpr ⟨n_Helicopter_winch, (List.forall_mem_nil _)⟩)⟩)⟩)⟩)⟩)⟩)⟩)⟩)⟩), np := (List.forall_mem_cons.mpr ⟨n_Place_is_base, (List.forall_mem_cons.mpr ⟨n_Place_is_open, (List.forall_mem_cons.mpr ⟨n_Place_waiting, (List.forall_mem_nil _)⟩)⟩)⟩), nf := (List.forall_mem_cons.mpr ⟨n_Flights_world, (List.forall_mem_cons.mpr ⟨n_Flights_earlier, (List.forall_mem_cons.mpr ⟨n_Flights_later, (List.forall_mem_nil _)⟩)⟩)⟩), wh := ne_World_Helicopter, wp := ne_World_Place, hp := ne_Helicopter_Place, fw := ne_Flights_World, fh := ne_Flights_Helicopter, fp := ne_Flights_Place, len := mg_len, min := mg_min, max := mg_max, enumerate := mg_enumerate, sum := mg_sum, dict := mg_dict, gi := List.forall_mem_append.mpr ⟨List.forall_mem_append.mpr ⟨(List.forall_mem_cons.mpr ⟨gi_NOT_THERE, (List.forall_mem_cons.mpr ⟨gi_NOBODY, (List.forall_mem_cons.mpr ⟨gi_TOO_FEW_WAIT, (List.forall_mem_cons.mpr ⟨gi_NOT_NOW, (List.forall_mem_cons.mpr ⟨gi_ALREADY_SO, (List.forall_mem_cons.mpr ⟨gi_WRONG_NUMBER, (List.forall_mem_cons.mpr ⟨gi_TOO_MANY, (List.forall_mem_cons.mpr ⟨gi_MAY_NOT, (List.forall_mem_cons.mpr ⟨gi_NO_SEATS, (List.forall_mem_cons.mpr ⟨gi_TOO_LATE, (List.forall_mem_cons.mpr ⟨gi_MINUTES_TO_REFUEL, (List.forall_mem_cons.mpr ⟨gi_MOST_PLACES, (List.forall_mem_cons.mpr ⟨gi_MOST_HELICOPTERS, (List.forall_mem_cons.mpr ⟨gi_MOST_WAITING, (List.forall_mem_cons.mpr ⟨gi_MOST_SAVED, (List.forall_mem_cons.mpr ⟨gi_LONGEST_WAY, (List.forall_mem_cons.mpr ⟨gi_LARGEST_TANK, (List.forall_mem_cons.mpr ⟨gi_MOST_BURNT, (List.forall_mem_cons.mpr ⟨gi_MOST_SEATS, (List.forall_mem_cons.mpr ⟨gi_SLOWEST_WINCH, (List.forall_mem_cons.mpr ⟨gi_MOST_MINUTES, (List.forall_mem_cons.mpr ⟨gi_LAST_MINUTE, (List.forall_mem_cons.mpr ⟨gi_LONGEST_RESERVE, (List.forall_mem_nil _)⟩)⟩)⟩)⟩)⟩)⟩)⟩)⟩)⟩)⟩)⟩)⟩)⟩)⟩)⟩)⟩)⟩)⟩)⟩)⟩)⟩)⟩)⟩), (List.forall_mem_cons.mpr ⟨gi_NO_CHANGE, (List.forall_mem_cons.mpr ⟨gi_NO_BASE, (List.forall_mem_cons.mpr ⟨gi_NONE_BUSY, (List.forall_mem_cons.mpr ⟨gi_NO_WAY, (List.forall_mem_cons.mpr ⟨gi_MOST_TAKEN_BACK, (List.forall_mem_cons.mpr ⟨gi_MINUTES_BETWEEN_LOADS, (List.forall_mem_cons.mpr ⟨gi_MOST_MINUTES_TO_BRING, (List.forall_mem_cons.mpr ⟨gi_MOST_TO_BRING, (List.forall_mem_nil _)⟩)⟩)⟩)⟩)⟩)⟩)⟩)⟩)⟩, (List.forall_mem_cons.mpr ⟨gi_HF_START, (List.forall_mem_cons.mpr ⟨gi_HF_PLACE, (List.forall_mem_cons.mpr ⟨gi_HF_WAY, (List.forall_mem_cons.mpr ⟨gi_HF_HELI, (List.forall_mem_cons.mpr ⟨gi_HF_GO, (List.forall_mem_cons.mpr ⟨gi_HF_WINCH, (List.forall_mem_cons.mpr ⟨gi_HF_LAND, (List.forall_mem_cons.mpr ⟨gi_HF_REFUEL, (List.forall_mem_cons.mpr ⟨gi_HF_MINUTES, (List.forall_mem_cons.mpr ⟨gi_HF_CLOSE, (List.forall_mem_cons.mpr ⟨gi_HF_OPEN, (List.forall_mem_cons.mpr ⟨gi_HF_MORE, (List.forall_mem_cons.mpr ⟨gi_HF_MAY, (List.forall_mem_cons.mpr ⟨gi_HF_STAY, (List.forall_mem_cons.mpr ⟨gi_HF_LIFT, (List.forall_mem_cons.mpr ⟨gi_HF_NEAREST, (List.forall_mem_cons.mpr ⟨gi_HF_MUST, (List.forall_mem_cons.mpr ⟨gi_HF_RANGE, (List.forall_mem_cons.mpr ⟨gi_HF_BRINGS, (List.forall_mem_cons.mpr ⟨gi_HF_LEAST, (List.forall_mem_cons.mpr ⟨gi_HF_WHERE, (List.forall_mem_cons.mpr ⟨gi_HF_LOOK, (List.forall_mem_cons.mpr ⟨gi_HF_SEE, (List.forall_mem_cons.mpr ⟨gi_HF_FAR, (List.forall_mem_cons.mpr ⟨gi_HF_NEXT, (List.forall_mem_cons.mpr ⟨gi_HF_SUMS, (List.forall_mem_cons.mpr ⟨gi_HF_BACK, (List.forall_mem_cons.mpr ⟨gi_HF_AGAIN, (List.forall_mem_nil _)⟩)⟩)⟩)⟩)⟩)⟩)⟩)⟩)⟩)⟩)⟩)⟩)⟩)⟩)⟩)⟩)⟩)⟩)⟩)⟩)⟩)⟩)⟩)⟩)⟩)⟩)⟩)⟩)⟩ }
  have e := hfa.symm.trans (PySem.W.mg_of X G a_answers)
  cases e
  have F_answers := fun_mk (st := s_answers) l_answers d_answers k_answers
  refine ⟨PySem.W.fnOf "answers" "answers" (defArgs s_answers) (defBody s_answers) (defScope s_answers) .none kV_answers dc_answers pm_answers an_answers cd_answers ct_answers, fun s us hu => match us, hu with | [_], _ => .of_eq rfl, fun base _ _ => ?_⟩
  have c_World := ok_World (P := P) (w := w) (base := base) T h_World 
  have c_Flights := ok_Flights (P := P) (w := w) (base := base) T h_Flights (c_World := c_World)
  have c_start := ok_start (P := P) (w := w) (base := base) T h_start (c_World := c_World)
  have c_Place := ok_Place (P := P) (w := w) (base := base) T h_Place 
  have c_copy_of_place := ok_copy_of_place (P := P) (w := w) (base := base) T h_copy_of_place (c_Place := c_Place)
  have c_Helicopter := ok_Helicopter (P := P) (w := w) (base := base) T h_Helicopter 
  have c_copy_of_helicopter := ok_copy_of_helicopter (P := P) (w := w) (base := base) T h_copy_of_helicopter (c_Helicopter := c_Helicopter)
  have c_copy_of_world := ok_copy_of_world (P := P) (w := w) (base := base) T h_copy_of_world (c_World := c_World) (c_copy_of_place := c_copy_of_place) (c_copy_of_helicopter := c_copy_of_helicopter)
  have c_add_place := ok_add_place (P := P) (w := w) (base := base) T h_add_place (c_Place := c_Place)
  have c_has_place := okHasPlace (P := P) (w := w) (base := base) T h_has_place 
  have c_is_from_one_to := ok_is_from_one_to (P := P) (w := w) (base := base) T h_is_from_one_to 
  have c_way_key := ok_way_key (P := P) (w := w) (base := base) T h_way_key 
  have c_set_way := ok_set_way (P := P) (w := w) (base := base) T h_set_way (c_has_place := c_has_place) (c_is_from_one_to := c_is_from_one_to) (c_way_key := c_way_key)
  have c_is_as_told := ok_is_as_told (P := P) (w := w) (base := base) T h_is_as_told (c_is_from_one_to := c_is_from_one_to)
  have c_add_helicopter := ok_add_helicopter (P := P) (w := w) (base := base) T h_add_helicopter (c_has_place := c_has_place) (c_is_as_told := c_is_as_told) (c_Helicopter := c_Helicopter)
  have c_has_helicopter := ok_has_helicopter (P := P) (w := w) (base := base) T h_has_helicopter 
  have c_way_minutes := ok_way_minutes (P := P) (w := w) (base := base) T h_way_minutes (c_way_key := c_way_key)
  have c_open_bases := ok_open_bases (P := P) (w := w) (base := base) T h_open_bases 
  have c_nearest_base := ok_nearest_base (P := P) (w := w) (base := base) T h_nearest_base (c_open_bases := c_open_bases) (c_way_minutes := c_way_minutes)
  have c_must_be_left := ok_must_be_left (P := P) (w := w) (base := base) T h_must_be_left (c_nearest_base := c_nearest_base) (c_way_minutes := c_way_minutes)
  have c_is_enough := ok_is_enough (P := P) (w := w) (base := base) T h_is_enough (c_must_be_left := c_must_be_left)
  have c_may_go := ok_may_go (P := P) (w := w) (base := base) T h_may_go (c_way_minutes := c_way_minutes) (c_is_enough := c_is_enough)
  have c_go := ok_go (P := P) (w := w) (base := base) T h_go (c_has_place := c_has_place) (c_has_helicopter := c_has_helicopter) (c_may_go := c_may_go) (c_way_minutes := c_way_minutes)
  have c_seats_left := ok_seats_left (P := P) (w := w) (base := base) T h_seats_left 
  have c_may_hover := ok_may_hover (P := P) (w := w) (base := base) T h_may_hover (c_must_be_left := c_must_be_left)
  have c_winched_in_time := ok_winched_in_time (P := P) (w := w) (base := base) T h_winched_in_time (c_may_hover := c_may_hover)
  have c_winch_up := ok_winch_up (P := P) (w := w) (base := base) T h_winch_up (c_has_helicopter := c_has_helicopter) (c_seats_left := c_seats_left) (c_winched_in_time := c_winched_in_time)
  have c_land := ok_land (P := P) (w := w) (base := base) T h_land (c_has_helicopter := c_has_helicopter)
  have c_refuel := ok_refuel (P := P) (w := w) (base := base) T h_refuel (c_has_helicopter := c_has_helicopter)
  have c_pass_minutes := ok_pass_minutes (P := P) (w := w) (base := base) T h_pass_minutes 
  have c_can_come_back := ok_can_come_back (P := P) (w := w) (base := base) T h_can_come_back (c_is_enough := c_is_enough)
  have c_close_base := ok_close_base (P := P) (w := w) (base := base) T h_close_base (c_has_place := c_has_place) (c_can_come_back := c_can_come_back) (c_open_bases := c_open_bases)
  have c_reopen_base := ok_reopen_base (P := P) (w := w) (base := base) T h_reopen_base (c_has_place := c_has_place) (c_open_bases := c_open_bases)
  have c_add_persons := ok_add_persons (P := P) (w := w) (base := base) T h_add_persons (c_has_place := c_has_place)
  have c_change := ok_change (P := P) (w := w) (base := base) T h_change (c_add_place := c_add_place.mono (by decide)) (c_set_way := c_set_way.mono (by decide)) (c_add_helicopter := c_add_helicopter.mono (by decide)) (c_go := c_go.mono (by decide)) (c_winch_up := c_winch_up.mono (by decide)) (c_land := c_land.mono (by decide)) (c_refuel := c_refuel.mono (by decide)) (c_pass_minutes := c_pass_minutes.mono (by decide)) (c_close_base := c_close_base.mono (by decide)) (c_reopen_base := c_reopen_base.mono (by decide)) (c_add_persons := c_add_persons.mono (by decide))
  have c_keep_change := ok_keep_change (P := P) (w := w) (base := base) T h_keep_change 
  have c_make_change := ok_make_change (P := P) (w := w) (base := base) T h_make_change (c_copy_of_world := c_copy_of_world) (c_change := c_change) (c_keep_change := c_keep_change)
  have c_ask_may := ok_ask_may (P := P) (w := w) (base := base) T h_ask_may (c_has_place := c_has_place) (c_has_helicopter := c_has_helicopter) (c_may_go := c_may_go)
  have c_ask_stay := ok_ask_stay (P := P) (w := w) (base := base) T h_ask_stay (c_has_helicopter := c_has_helicopter) (c_may_hover := c_may_hover)
  have c_may_lift := ok_may_lift (P := P) (w := w) (base := base) T h_may_lift (c_winched_in_time := c_winched_in_time) (c_seats_left := c_seats_left)
  have c_ask_lift := ok_ask_lift (P := P) (w := w) (base := base) T h_ask_lift (c_has_helicopter := c_has_helicopter) (c_seats_left := c_seats_left) (c_may_lift := c_may_lift)
  have c_ask_nearest := ok_ask_nearest (P := P) (w := w) (base := base) T h_ask_nearest (c_has_place := c_has_place) (c_nearest_base := c_nearest_base) (c_way_minutes := c_way_minutes)
  have c_ask_must := ok_ask_must (P := P) (w := w) (base := base) T h_ask_must (c_has_place := c_has_place) (c_has_helicopter := c_has_helicopter) (c_must_be_left := c_must_be_left)
  have c_ask_range := ok_ask_range (P := P) (w := w) (base := base) T h_ask_range (c_has_helicopter := c_has_helicopter)
  have c_minutes_out_and_back := ok_minutes_out_and_back (P := P) (w := w) (base := base) T h_minutes_out_and_back (c_way_minutes := c_way_minutes)
  have c_most_in_load := ok_most_in_load (P := P) (w := w) (base := base) T h_most_in_load (c_minutes_out_and_back := c_minutes_out_and_back)
  have c_most_brought := ok_most_brought (P := P) (w := w) (base := base) T h_most_brought 
  have c_ask_brings := ok_ask_brings (P := P) (w := w) (base := base) T h_ask_brings (c_has_place := c_has_place) (c_has_helicopter := c_has_helicopter) (c_nearest_base := c_nearest_base) (c_most_in_load := c_most_in_load) (c_most_brought := c_most_brought) (c_minutes_out_and_back := c_minutes_out_and_back)
  have c_least_minutes := ok_least_minutes (P := P) (w := w) (base := base) T h_least_minutes 
  have c_ask_least := ok_ask_least (P := P) (w := w) (base := base) T h_ask_least (c_has_place := c_has_place) (c_has_helicopter := c_has_helicopter) (c_nearest_base := c_nearest_base) (c_most_in_load := c_most_in_load) (c_least_minutes := c_least_minutes) (c_minutes_out_and_back := c_minutes_out_and_back)
  have c_ask := ok_ask (P := P) (w := w) (base := base) T h_ask (c_ask_may := c_ask_may.mono (by decide)) (c_ask_stay := c_ask_stay.mono (by decide)) (c_ask_lift := c_ask_lift.mono (by decide)) (c_ask_nearest := c_ask_nearest.mono (by decide)) (c_ask_must := c_ask_must.mono (by decide)) (c_ask_range := c_ask_range.mono (by decide)) (c_ask_brings := c_ask_brings.mono (by decide)) (c_ask_least := c_ask_least.mono (by decide))
  have c_look_where := ok_look_where (P := P) (w := w) (base := base) T h_look_where (c_has_helicopter := c_has_helicopter)
  have c_look_at_helicopter := ok_look_at_helicopter (P := P) (w := w) (base := base) T h_look_at_helicopter (c_has_helicopter := c_has_helicopter)
  have c_look_at_place := ok_look_at_place (P := P) (w := w) (base := base) T h_look_at_place (c_has_place := c_has_place)
  have c_look_how_far := ok_look_how_far (P := P) (w := w) (base := base) T h_look_how_far (c_has_place := c_has_place) (c_way_minutes := c_way_minutes)
  have c_look_who_is_next := ok_look_who_is_next (P := P) (w := w) (base := base) T h_look_who_is_next 
  have c_look_at_sums := ok_look_at_sums (P := P) (w := w) (base := base) T h_look_at_sums 
  have c_look := ok_look (P := P) (w := w) (base := base) T h_look (c_look_where := c_look_where.mono (by decide)) (c_look_at_helicopter := c_look_at_helicopter.mono (by decide)) (c_look_at_place := c_look_at_place.mono (by decide)) (c_look_how_far := c_look_how_far.mono (by decide)) (c_look_who_is_next := c_look_who_is_next.mono (by decide)) (c_look_at_sums := c_look_at_sums.mono (by decide))
  have c_take_back := ok_take_back (P := P) (w := w) (base := base) T h_take_back 
  have c_do_again := ok_do_again (P := P) (w := w) (base := base) T h_do_again 
  have c_look_at_state := ok_look_at_state (P := P) (w := w) (base := base) T h_look_at_state 
  have c_answer_call := ok_answer_call (P := P) (w := w) (base := base) T h_answer_call (c_start := c_start) (c_make_change := c_make_change) (c_ask := c_ask) (c_look := c_look) (c_take_back := c_take_back) (c_do_again := c_do_again) (c_look_at_state := c_look_at_state)
  exact ok_answers (fax _) T F_answers hm_NUMBERS_BEHIND hT_NUMBERS_BEHIND (fun x => by cases x <;> rfl) c_Flights (c_answer_call.mono (by decide))
end Hf
end
set_option Elab.async false
set_option linter.all false
set_option maxRecDepth 100000
def PySem.W.Fast.tw10449204162717605757 := 0
def PySem.W.Fast.tw8282790994189913572 := 0
def PySem.W.Fast.tw7213153107220147432 := 0
def PySem.W.Fast.tw15770401944938834735 := 0
def PySem.W.Fast.tw3348922186566747770 := 0
def PySem.W.Fast.tw15846701105092438976 := 0
def PySem.W.Fast.tw3318902070098413862 := 0
def PySem.W.Fast.tw3794910816426101163 := 0
def PySem.W.Fast.tw6951212233024135389 := 0
def PySem.W.Fast.tw16328937334034932390 := 0
def PySem.W.Fast.tw11712878150773615772 := 0
def PySem.W.Fast.tw14563911383489440008 := 0
def PySem.W.Fast.tw515843852002064209 := 0
def PySem.W.Fast.tw7075643551922132944 := 0
def PySem.W.Fast.tw613142711503924038 := 0
def PySem.W.Fast.tw10365655113423086505 := 0
def PySem.W.Fast.tw7522639241806225417 := 0
def PySem.W.Fast.tw533467022370371639 := 0
def PySem.W.Fast.tw6280738961869293525 := 0
def PySem.W.Fast.tw16181184033648265355 := 0
def PySem.W.Fast.tw2254966122309113413 := 0
def PySem.W.Fast.tw10677603564182492183 := 0
def PySem.W.Fast.tw14762051896197151787 := 0
def PySem.W.Fast.tw4184490110103416129 := 0
def PySem.W.Fast.tw18034861916975128948 := 0
def PySem.W.Fast.tw12651941924569630025 := 0
def PySem.W.Fast.tw15940041368659767296 := 0
def PySem.W.Fast.tw1719818957651743084 := 0
def PySem.W.Fast.tw4456251179425181498 := 0
def PySem.W.Fast.tw15659712055148558672 := 0
def PySem.W.Fast.tw4421581645049356112 := 0
def PySem.W.Fast.tw12717851250393160495 := 0
def PySem.W.Fast.tw18164965933717189734 := 0
def PySem.W.Fast.tw3669996685868993083 := 0
def PySem.W.Fast.tw2619248667147827605 := 0
def PySem.W.Fast.tw7827652269144776046 := 0
def PySem.W.Fast.tw15103108169633286458 := 0
def PySem.W.Fast.tw17677429121264939047 := 0
def PySem.W.Fast.tw6471398058947473682 := 0
def PySem.W.Fast.tw11828422833031083014 := 0
def PySem.W.Fast.tw9721915205465063468 := 0
def PySem.W.Fast.tw12671316227020199164 := 0
def PySem.W.Fast.tw6197457589637855292 := 0
def PySem.W.Fast.tw5627608684963518862 := 0
def PySem.W.Fast.tw12762139466282045458 := 0
def PySem.W.Fast.tw3576603957553402725 := 0
def PySem.W.Fast.tw9171281728537418387 := 0
def PySem.W.Fast.tw11170336237871491118 := 0
def PySem.W.Fast.tw9350301404441343351 := 0
def PySem.W.Fast.tw9633239991471899119 := 0
def PySem.W.Fast.tw6498601277186682239 := 0
def PySem.W.Fast.tw3241885575172415408 := 0
def PySem.W.Fast.tw9357503863474583752 := 0
def PySem.W.Fast.tw16370667364067910692 := 0
def PySem.W.Fast.tw4813325285550181016 := 0
def PySem.W.Fast.tw15258686832000410730 := 0
def PySem.W.Fast.tw7415718475295579163 := 0
def PySem.W.Fast.tw8816931909890169835 := 0
def PySem.W.Fast.tw5471753437827995634 := 0
def PySem.W.Fast.tw2137247919704158654 := 0
def PySem.W.Fast.tw3697763149692254326 := 0
def PySem.W.Fast.tw12808312922535831894 := 0
def PySem.W.Fast.tw12377231090259634519 := 0
def PySem.W.Fast.tw11380451782900486346 := 0
def PySem.W.Fast.tw7332349567095189705 := 0
def PySem.W.Fast.tw10858771220383728090 := 0
def PySem.W.Fast.tw9253118104126838567 := 0
def PySem.W.Fast.tw9648840318671050352 := 0
def PySem.W.Fast.tw10427945181628269177 := 0
def PySem.W.Fast.tw14286127118563828673 := 0
def PySem.W.Fast.tw10508090728508061478 := 0
def PySem.W.Fast.tw4060929481294603804 := 0
def PySem.W.Fast.tw7623656269102585167 := 0
def PySem.W.Fast.tw4858860530926167986 := 0
def PySem.W.Fast.tw6057190104176057701 := 0
def PySem.W.Fast.tw2069635016653333999 := 0
def PySem.W.Fast.tw4607260259007740956 := 0
def PySem.W.Fast.tw17551624871646576098 := 0
def PySem.W.Fast.tw4996541978579853291 := 0
def PySem.W.Fast.tw14946615351037486485 := 0
def PySem.W.Fast.tw18228934503769007106 := 0
def PySem.W.Fast.tw4212338393998584703 := 0
def PySem.W.Fast.tw3838717641836481265 := 0
def PySem.W.Fast.tw3934689340357161292 := 0
def PySem.W.Fast.tw10335869628991784078 := 0
def PySem.W.Fast.tw8931024017307961887 := 0
def PySem.W.Fast.tw4551873637334063811 := 0
def PySem.W.Fast.tw4556484608657793266 := 0
def PySem.W.Fast.tw5757797919545315079 := 0
def PySem.W.Fast.tw9771965747634066828 := 0
def PySem.W.Fast.tw16720887682017596406 := 0
def PySem.W.Fast.tw4886344786778705376 := 0
def PySem.W.Fast.tw13361471380687916983 := 0
def PySem.W.Fast.tw11083985686486448897 := 0
def PySem.W.Fast.tw10048376940848110123 := 0
def PySem.W.Fast.tw13729880666916802377 := 0
def PySem.W.Fast.tw15602910885382418167 := 0
def PySem.W.Fast.tw1759702431115619411 := 0
def PySem.W.Fast.tw18353698976335752328 := 0
def PySem.W.Fast.tw3322738400229514807 := 0
def PySem.W.Fast.tw720111919723734739 := 0
def PySem.W.Fast.tw589732627891646985 := 0
def PySem.W.Fast.tw7669027742053830974 := 0
def PySem.W.Fast.tw16936879759370796294 := 0
def PySem.W.Fast.tw4055669959484270729 := 0
def PySem.W.Fast.tw3394418738305749102 := 0
def PySem.W.Fast.tw3074096960130042386 := 0
def PySem.W.Fast.tw1034593923946418999 := 0
def PySem.W.Fast.tw4511340743087292654 := 0
def PySem.W.Fast.tw3689130259321385247 := 0
def PySem.W.Fast.tw14796076487473935115 := 0
def PySem.W.Fast.tw3698666159034092042 := 0
def PySem.W.Fast.tw6175493589468535831 := 0
def PySem.W.Fast.tw16268958384106993697 := 0
def PySem.W.Fast.tw10826361824232967097 := 0
def PySem.W.Fast.tw16332134534956421100 := 0
def PySem.W.Fast.tw4860700190469199767 := 0
def PySem.W.Fast.tw11982247572192252198 := 0
def PySem.W.Fast.tw1789491778547494224 := 0
def PySem.W.Fast.tw12623009957782502094 := 0
def PySem.W.Fast.tw13993660463023510382 := 0
def PySem.W.Fast.tw5182805933431439306 := 0
def PySem.W.Fast.tw2899936780568312105 := 0
def PySem.W.Fast.tw3266773788659126751 := 0
def PySem.W.Fast.tw10051837159811658385 := 0
def PySem.W.Fast.tw17637035980545890991 := 0
def PySem.W.Fast.tw10962383786658036394 := 0
def PySem.W.Fast.tw11637743932897157054 := 0
def PySem.W.Fast.tw10467715885841680053 := 0
def PySem.W.Fast.tw10922256430853851179 := 0
def PySem.W.Fast.tw9005161087734413526 := 0
def PySem.W.Fast.tw4627164909500103033 := 0
def PySem.W.Fast.tw2400490065481612584 := 0
def PySem.W.Fast.tw18233420748682912258 := 0
def PySem.W.Fast.tw5181796443805673457 := 0
def PySem.W.Fast.tw2728422884546872962 := 0
def PySem.W.Fast.tw15461339037762210862 := 0
def PySem.W.Fast.tw1471165674550834519 := 0
def PySem.W.Fast.tw913611131975977202 := 0
def PySem.W.Fast.tw3310782597105096030 := 0
def PySem.W.Fast.tw12762840826862110998 := 0
def PySem.W.Fast.tw11855652899399589022 := 0
def PySem.W.Fast.tw4550065615329382586 := 0
def PySem.W.Fast.tw6832547017916361849 := 0
def PySem.W.Fast.tw16879062843440839185 := 0
def PySem.W.Fast.tw6225182720185971716 := 0
def PySem.W.Fast.tw16600671516798326208 := 0
def PySem.W.Fast.tw5298046770478747904 := 0
def PySem.W.Fast.tw16335694225797622474 := 0
def PySem.W.Fast.tw1634399130817492514 := 0
def PySem.W.Fast.tw3215038943714934281 := 0
def PySem.W.Fast.tw165180523122464459 := 0
def PySem.W.Fast.tw16274168794601212023 := 0
def PySem.W.Fast.tw4124682678199308318 := 0
def PySem.W.Fast.tw14178457800872934174 := 0
def PySem.W.Fast.tw11979203920122852529 := 0
def PySem.W.Fast.tw14610118665055389576 := 0
def PySem.W.Fast.tw12463999718379657590 := 0
def PySem.W.Fast.tw71668328887823336 := 0
def PySem.W.Fast.tw10251742265446574999 := 0
def PySem.W.Fast.tw11049355783450756131 := 0
def PySem.W.Fast.tw15413311275804601669 := 0
def PySem.W.Fast.tw6890202882365511736 := 0
def PySem.W.Fast.tw3508647791953991066 := 0
def PySem.W.Fast.tw13440904126142860023 := 0
def PySem.W.Fast.tw11180012395802092005 := 0
def PySem.W.Fast.tw8687572777926327880 := 0
def PySem.W.Fast.tw8606728933788334726 := 0
def PySem.W.Fast.tw7439898841396174309 := 0
def PySem.W.Fast.tw626756108758980408 := 0
def PySem.W.Fast.tw4840483990229445718 := 0
def PySem.W.Fast.tw12495831975547309097 := 0
def PySem.W.Fast.tw6255139421689141675 := 0
def PySem.W.Fast.tw15407888707760880411 := 0
def PySem.W.Fast.tw14644649816335952391 := 0
def PySem.W.Fast.tw3218932948958535285 := 0
def PySem.W.Fast.tw12368398191662316103 := 0
def PySem.W.Fast.tw8681540957744173969 := 0
def PySem.W.Fast.tw3383108639023524130 := 0
def PySem.W.Fast.tw1137875884164678847 := 0
def PySem.W.Fast.tw2130636549323401709 := 0
def PySem.W.Fast.tw7027673892357101871 := 0
def PySem.W.Fast.tw5746400511637742647 := 0
def PySem.W.Fast.tw11424003558647923408 := 0
def PySem.W.Fast.tw1774660251428224561 := 0
def PySem.W.Fast.tw4553788801183501344 := 0
def PySem.W.Fast.tw9564355437635591595 := 0
def PySem.W.Fast.tw4224087905211573740 := 0
def PySem.W.Fast.tw1928566613579954706 := 0
def PySem.W.Fast.tw11162598249712513294 := 0
def PySem.W.Fast.tw3295660308305026859 := 0
def PySem.W.Fast.tw5896026975085230751 := 0
def PySem.W.Fast.tw7506093278226733184 := 0
def PySem.W.Fast.tw6400293079465937690 := 0
def PySem.W.Fast.tw11673975231546710891 := 0
def PySem.W.Fast.tw4518051165566396832 := 0
def PySem.W.Fast.tw12224631862135171946 := 0
def PySem.W.Fast.tw14566405788265129728 := 0
def PySem.W.Fast.tw1035050667293150130 := 0
def PySem.W.Fast.tw6349531225206041852 := 0
def PySem.W.Fast.tw6030994233984943808 := 0
def PySem.W.Fast.tw10830267501189503957 := 0
def PySem.W.Fast.tw8983200761910327851 := 0
def PySem.W.Fast.tw8646728337680086897 := 0
def PySem.W.Fast.tw314150821340161198 := 0
def PySem.W.Fast.tw9244660246946003276 := 0
def PySem.W.Fast.tw16291944082551239509 := 0
def PySem.W.Fast.tw15000488257039810599 := 0
def PySem.W.Fast.tw1033988716228295788 := 0
def PySem.W.Fast.tw3832320743038113774 := 0
def PySem.W.Fast.tw13064809103575739553 := 0
def PySem.W.Fast.tw17150799487807652726 := 0
def PySem.W.Fast.tw9174241714526320716 := 0
def PySem.W.Fast.tw15977467942946725389 := 0
def PySem.W.Fast.tw11785684467454725399 := 0
def PySem.W.Fast.tw3047058802353743585 := 0
def PySem.W.Fast.tw12611203506004054300 := 0
def PySem.W.Fast.tw1802509560796393591 := 0
def PySem.W.Fast.tw9348460296341493413 := 0
def PySem.W.Fast.tw2612271803702375670 := 0
def PySem.W.Fast.tw3559675710950806480 := 0
def PySem.W.Fast.tw11659058465794051702 := 0
def PySem.W.Fast.tw10041018240139193907 := 0
def PySem.W.Fast.tw10486845467199544852 := 0
def PySem.W.Fast.tw3361672599970306620 := 0
def PySem.W.Fast.tw1849035742218907911 := 0
def PySem.W.Fast.tw6661968647293917756 := 0
def PySem.W.Fast.tw7476365480721361354 := 0
def PySem.W.Fast.tw16134251098683404628 := 0
def PySem.W.Fast.tw13385421083149983135 := 0
def PySem.W.Fast.tw1727209457841648729 := 0
def PySem.W.Fast.tw6995096473838100472 := 0
def PySem.W.Fast.tw687138570575782522 := 0
def PySem.W.Fast.tw7307847304045129771 := 0
def PySem.W.Fast.tw17107652937636465262 := 0
def PySem.W.Fast.tw9020348060486821529 := 0
def PySem.W.Fast.tw8722174508646931757 := 0
def PySem.W.Fast.tw8594274046674585873 := 0
def PySem.W.Fast.tw3874607851579010056 := 0
def PySem.W.Fast.tw10339275748268954823 := 0
def PySem.W.Fast.tw2528129239689312692 := 0
def PySem.W.Fast.tw4047180467970605787 := 0
def PySem.W.Fast.tw18398266860800465526 := 0
def PySem.W.Fast.tw17958556182055967952 := 0
def PySem.W.Fast.tw8456845204098017904 := 0
def PySem.W.Fast.tw4888241170529914820 := 0
def PySem.W.Fast.tw13794710247586271825 := 0
def PySem.W.Fast.tw18063789735441701293 := 0
def PySem.W.Fast.tw13631503725935446299 := 0
def PySem.W.Fast.tw15572687575356884897 := 0
def PySem.W.Fast.tw893717292180512159 := 0
def PySem.W.Fast.tw2245159855422909345 := 0
def PySem.W.Fast.tw18393612101192860562 := 0
def PySem.W.Fast.tw7076302949877867682 := 0
def PySem.W.Fast.tw16797717928510379761 := 0
def PySem.W.Fast.tw5360830393637371721 := 0
def PySem.W.Fast.tw5965017829502730493 := 0
def PySem.W.Fast.tw6634437286713829971 := 0
def PySem.W.Fast.tw3458375102260469136 := 0
def PySem.W.Fast.tw1884487140795507315 := 0
def PySem.W.Fast.tw4423833876654314719 := 0
def PySem.W.Fast.tw2892363671256844374 := 0
def PySem.W.Fast.tw7803686806180764902 := 0
def PySem.W.Fast.tw7702742991970276041 := 0
def PySem.W.Fast.tw1953788707820394929 := 0
def PySem.W.Fast.tw6623728285467413138 := 0
def PySem.W.Fast.tw1621748366521491210 := 0
def PySem.W.Fast.tw1462459813353279663 := 0
def PySem.W.Fast.tw9410326687660648462 := 0
def PySem.W.Fast.tw253054869611262579 := 0
def PySem.W.Fast.tw3537245764798024049 := 0
def PySem.W.Fast.tw12454719899982318385 := 0
def PySem.W.Fast.tw18099643547893669598 := 0
def PySem.W.Fast.tw1065198026528257716 := 0
def PySem.W.Fast.tw2674049852499376291 := 0
def PySem.W.Fast.tw11908661322088304861 := 0
def PySem.W.Fast.tw654049735184335380 := 0
def PySem.W.Fast.tw8062924412461131178 := 0
def PySem.W.Fast.tw5775243303461658736 := 0
def PySem.W.Fast.tw4726253527308637100 := 0
def PySem.W.Fast.tw9340871406764891654 := 0
def PySem.W.Fast.tw13055792023726726044 := 0
def PySem.W.Fast.tw9733905072609959954 := 0
def PySem.W.Fast.tw4921126719780094477 := 0
def PySem.W.Fast.tw17070595558723573191 := 0
def PySem.W.Fast.tw13850905549744808140 := 0
def PySem.W.Fast.tw2847980368345798226 := 0
def PySem.W.Fast.tw11291580766290067551 := 0
def PySem.W.Fast.tw836090749929938391 := 0
def PySem.W.Fast.tw9521965488610093747 := 0
def PySem.W.Fast.tw13294976996590316610 := 0
def PySem.W.Fast.tw15135838600480598018 := 0
def PySem.W.Fast.tw18384875526965268282 := 0
def PySem.W.Fast.tw8755192968472123820 := 0
def PySem.W.Fast.tw3924022391896204399 := 0
def PySem.W.Fast.tw4925222448375465663 := 0
def PySem.W.Fast.tw5171928564269183093 := 0
def PySem.W.Fast.tw697814799542711103 := 0
def PySem.W.Fast.tw17763127930935926511 := 0
def PySem.W.Fast.tw8823921844422450417 := 0
def PySem.W.Fast.tw7094978568257323632 := 0
def PySem.W.Fast.tw18255783996826370643 := 0
def PySem.W.Fast.tw14405239168744356908 := 0
def PySem.W.Fast.tw3821777922106959042 := 0
def PySem.W.Fast.tw11536670631575092624 := 0
def PySem.W.Fast.tw6869093308638068894 := 0
def PySem.W.Fast.tw7972930126030158020 := 0
def PySem.W.Fast.tw14151033887832974531 := 0
def PySem.W.Fast.tw13509570335397610661 := 0
def PySem.W.Fast.tw11628684773279705624 := 0
def PySem.W.Fast.tw15551447363288040956 := 0
def PySem.W.Fast.tw8599699586431917582 := 0
def PySem.W.Fast.tw14889912296190354222 := 0
def PySem.W.Fast.tw2520574206532477709 := 0
def PySem.W.Fast.tw9140373202173967301 := 0
def PySem.W.Fast.tw3270067216742300263 := 0
def PySem.W.Fast.tw10836209790631926134 := 0
def PySem.W.Fast.tw5001456701968311451 := 0
def PySem.W.Fast.tw8049370647666440780 := 0
def PySem.W.Fast.tw15412678661906621165 := 0
def PySem.W.Fast.tw6717981887911623339 := 0
def PySem.W.Fast.tw1585717039645196611 := 0
def PySem.W.Fast.tw912643606249649845 := 0
def PySem.W.Fast.tw9799054023829539748 := 0
def PySem.W.Fast.tw1738750844880851171 := 0
def PySem.W.Fast.tw458383316159645571 := 0
def PySem.W.Fast.tw2623336301093642778 := 0
def PySem.W.Fast.tw2376189799423789731 := 0
def PySem.W.Fast.tw13874246093425890369 := 0
def PySem.W.Fast.tw7621024266335312756 := 0
def PySem.W.Fast.tw16216711016191499727 := 0
def PySem.W.Fast.tw17202492268764617420 := 0
def PySem.W.Fast.tw3538899015735134432 := 0
def PySem.W.Fast.tw17727098474663793728 := 0
def PySem.W.Fast.tw4208283405467105530 := 0
def PySem.W.Fast.tw12647454410679896286 := 0
def PySem.W.Fast.tw1000998708050582209 := 0
def PySem.W.Fast.tw2461453918232162431 := 0
def PySem.W.Fast.tw17120547584030262463 := 0
def PySem.W.Fast.tw12478867495583608422 := 0
def PySem.W.Fast.tw3342161761132834689 := 0
def PySem.W.Fast.tw18279787704185590369 := 0
def PySem.W.Fast.tw12784402969520810816 := 0
def PySem.W.Fast.tw5392657215053170803 := 0
def PySem.W.Fast.tw18057111029278669076 := 0
def PySem.W.Fast.tw12101624423603607973 := 0
def PySem.W.Fast.tw12535542320439836439 := 0
def PySem.W.Fast.tw15415009724449476908 := 0
def PySem.W.Fast.tw10389779012651833009 := 0
def PySem.W.Fast.tw11380216450564959182 := 0
def PySem.W.Fast.tw1001522550470686521 := 0
def PySem.W.Fast.tw1794298121854733731 := 0
def PySem.W.Fast.tw11449496627522486209 := 0
def PySem.W.Fast.tw12005946244003554110 := 0
def PySem.W.Fast.tw4021240282400654036 := 0
def PySem.W.Fast.tw14810093208186366871 := 0
def PySem.W.Fast.tw16518849793301877822 := 0
def PySem.W.Fast.tw9692748050298784459 := 0
def PySem.W.Fast.tw10833231124908393167 := 0
def PySem.W.Fast.tw4531713978729188775 := 0
def PySem.W.Fast.tw8269646255151646030 := 0
def PySem.W.Fast.tw7431120876786779499 := 0
def PySem.W.Fast.tw3787147021097012292 := 0
def PySem.W.Fast.tw11414891201340573892 := 0
def PySem.W.Fast.tw2215648367316337309 := 0
def PySem.W.Fast.tw3247067937925868482 := 0
def PySem.W.Fast.tw4749058330356363318 := 0
def PySem.W.Fast.tw12095698793808370896 := 0
def PySem.W.Fast.tw2851147559071830039 := 0
def PySem.W.Fast.tw13036157174753362208 := 0
def PySem.W.Fast.tw11875581304240396406 := 0
def PySem.W.Fast.tw760334517562803715 := 0
def PySem.W.Fast.tw11063009149710988923 := 0
def PySem.W.Fast.tw3351484969260003586 := 0
def PySem.W.Fast.tw1906612362008317722 := 0
def PySem.W.Fast.tw16165699048002196759 := 0
def PySem.W.Fast.tw17227443587289699703 := 0
def PySem.W.Fast.tw13397590983445262748 := 0
def PySem.W.Fast.tw4035750635033151735 := 0
def PySem.W.Fast.tw16610625988948007055 := 0
def PySem.W.Fast.tw11512040508580741771 := 0
def PySem.W.Fast.tw12468489353022308193 := 0
def PySem.W.Fast.tw16707002477943989749 := 0
def PySem.W.Fast.tw6335412388310032679 := 0
def PySem.W.Fast.tw17398818531284250550 := 0
def PySem.W.Fast.tw1748563470554184126 := 0
def PySem.W.Fast.tw8029106925610286056 := 0
def PySem.W.Fast.tw9977145381130690831 := 0
def PySem.W.Fast.tw17509590727158257344 := 0
def PySem.W.Fast.tw6824384505595261242 := 0
def PySem.W.Fast.tw17554358376922822304 := 0
def PySem.W.Fast.tw11402209638320194056 := 0
def PySem.W.Fast.tw10458218727332639193 := 0
def PySem.W.Fast.tw16940113344443701095 := 0
def PySem.W.Fast.tw8838745428752797280 := 0
def PySem.W.Fast.tw4048347752294068533 := 0
def PySem.W.Fast.tw1441852266542884435 := 0
def PySem.W.Fast.tw12712482222810612073 := 0
def PySem.W.Fast.tw953502860264847362 := 0
def PySem.W.Fast.tw16271814045123386536 := 0
def PySem.W.Fast.tw3074483760493835142 := 0
def PySem.W.Fast.tw17303453122782862554 := 0
def PySem.W.Fast.tw4515299853455842335 := 0
def PySem.W.Fast.tw3952197182094340193 := 0
def PySem.W.Fast.tw1640521038404372823 := 0
def PySem.W.Fast.tw8442287237317593075 := 0
def PySem.W.Fast.tw6779611122556107643 := 0
def PySem.W.Fast.tw17245557539652927358 := 0
def PySem.W.Fast.tw12478552969410184817 := 0
def PySem.W.Fast.tw5816834259605102144 := 0
def PySem.W.Fast.tw16617569285803542833 := 0
def PySem.W.Fast.tw11954932399361549373 := 0
def PySem.W.Fast.tw11478796869158228405 := 0
def PySem.W.Fast.tw3908666828841096324 := 0
def PySem.W.Fast.tw2781468771026398978 := 0
def PySem.W.Fast.tw16292033109391174400 := 0
def PySem.W.Fast.tw11495013207755909950 := 0
def PySem.W.Fast.tw367564852140404157 := 0
def PySem.W.Fast.tw6118622905536192354 := 0
def PySem.W.Fast.tw9707430970915780181 := 0
def PySem.W.Fast.tw18250051747245907682 := 0
def PySem.W.Fast.tw16516240655304268559 := 0
def PySem.W.Fast.tw10875258028313409535 := 0
def PySem.W.Fast.tw5151473748037964450 := 0
def PySem.W.Fast.tw7587083736130530580 := 0
def PySem.W.Fast.tw551421066187243790 := 0
def PySem.W.Fast.tw6756670819007172287 := 0
def PySem.W.Fast.tw986210526981021381 := 0
def PySem.W.Fast.tw3016650992369939442 := 0
def PySem.W.Fast.tw8373867166558145977 := 0
def PySem.W.Fast.tw13717288238421147416 := 0
def PySem.W.Fast.tw822586930509335215 := 0
def PySem.W.Fast.tw2215460098610856566 := 0
def PySem.W.Fast.tw11926466102609335345 := 0
def PySem.W.Fast.tw11730614324787877248 := 0
def PySem.W.Fast.tw7584137798486858186 := 0
def PySem.W.Fast.tw13044214993235905935 := 0
def PySem.W.Fast.tw12865564781400738871 := 0
def PySem.W.Fast.tw666050988434561392 := 0
def PySem.W.Fast.tw15869829642608017566 := 0
def PySem.W.Fast.tw3867705321875304157 := 0
def PySem.W.Fast.tw724303531233795766 := 0
def PySem.W.Fast.tw15508198481398923620 := 0
def PySem.W.Fast.tw15262757807230468304 := 0
def PySem.W.Fast.tw11836718895017006050 := 0
def PySem.W.Fast.tw10112627670510091589 := 0
def PySem.W.Fast.tw708533528086524022 := 0
def PySem.W.Fast.tw16627097429351491641 := 0
def PySem.W.Fast.tw13887824688525060869 := 0
def PySem.W.Fast.tw3352476577227022543 := 0
def PySem.W.Fast.tw15933643214548147520 := 0
def PySem.W.Fast.tw14138017780723815323 := 0
def PySem.W.Fast.tw11773088060241454257 := 0
def PySem.W.Fast.tw5020724200660507340 := 0
def PySem.W.Fast.tw485788708344264826 := 0
def PySem.W.Fast.tw13921615196693500790 := 0
def PySem.W.Fast.tw16271360388408845327 := 0
def PySem.W.Fast.tw2104139967436600427 := 0
def PySem.W.Fast.tw3963891003289577926 := 0
def PySem.W.Fast.tw18430723105615336369 := 0
def PySem.W.Fast.tw738795311884882279 := 0
def PySem.W.Fast.tw13612111233788976062 := 0
def PySem.W.Fast.tw5953475056965531453 := 0
def PySem.W.Fast.tw15240804589589506612 := 0
def PySem.W.Fast.tw1226307665001886730 := 0
def PySem.W.Fast.tw1871802842378971123 := 0
open PySem PySem.W PyProof.Rows
set_option maxRecDepth 100000 in
set_option maxHeartbeats 0 in
theorem PySem.Challenge.cw_helifuel_s01_answers_holds : PySem.Challenge.rw_helifuel_s01_answers.Holds := by
  w_on; k_headS; (case hw => exact ⟨[.list [.int 0, .int 0]], by decide +kernel, by decide +kernel⟩)
  k_fillS
  refine L2.walk_specK (r := PySem.Challenge.rw_helifuel_s01_answers) (k := 21) (CX := L2.CX0) (ps := ["calls"]) (sp := Hf.spAns) (by decide +kernel) rfl rfl ⟨rfl, by decide, by decide⟩ (fun w h Y => PySem.W.kIn_of Y) ?F ?S (fun _ _ _ _ z => z)
  case F =>
    intro w mg fa h Y KX G hmg
    refine' Hf.all_mk KX G hmg ?a_Place ?b_Place ?i_Place ?l_Place ?d_Place ?k_Place ?pg_Place ?hd_Place ?po_Place ?sa_Place ?mk_Place ?kc_Place ?n_Place_is_base ?n_Place_is_open ?n_Place_waiting ?a_Helicopter ?b_Helicopter ?i_Helicopter ?l_Helicopter ?d_Helicopter ?k_Helicopter ?pg_Helicopter ?hd_Helicopter ?po_Helicopter ?sa_Helicopter ?mk_Helicopter ?kc_Helicopter ?n_Helicopter_place ?n_Helicopter_fuel ?n_Helicopter_busy ?n_Helicopter_aboard ?n_Helicopter_tank ?n_Helicopter_burn ?n_Helicopter_hover ?n_Helicopter_seats ?n_Helicopter_winch ?a_World ?b_World ?i_World ?l_World ?d_World ?k_World ?pg_World ?hd_World ?po_World ?sa_World ?mk_World ?kc_World ?n_World_reserve ?n_World_minute ?n_World_saved ?n_World_places ?n_World_ways ?n_World_helis ?a_Flights ?b_Flights ?i_Flights ?l_Flights ?d_Flights ?k_Flights ?pg_Flights ?hd_Flights ?po_Flights ?sa_Flights ?mk_Flights ?kc_Flights ?n_Flights_world ?n_Flights_earlier ?n_Flights_later ?a_has_place ?l_has_place ?d_has_place ?k_has_place ?a_has_helicopter ?l_has_helicopter ?d_has_helicopter ?k_has_helicopter ?a_way_key ?l_way_key ?d_way_key ?k_way_key ?a_way_minutes ?l_way_minutes ?d_way_minutes ?k_way_minutes ?a_open_bases ?l_open_bases ?d_open_bases ?k_open_bases ?a_copy_of_place ?l_copy_of_place ?d_copy_of_place ?k_copy_of_place ?a_copy_of_helicopter ?l_copy_of_helicopter ?d_copy_of_helicopter ?k_copy_of_helicopter ?a_copy_of_world ?l_copy_of_world ?d_copy_of_world ?k_copy_of_world ?a_nearest_base ?l_nearest_base ?d_nearest_base ?k_nearest_base ?a_must_be_left ?l_must_be_left ?d_must_be_left ?k_must_be_left ?a_is_enough ?l_is_enough ?d_is_enough ?k_is_enough ?a_can_come_back ?l_can_come_back ?d_can_come_back ?k_can_come_back ?a_may_go ?l_may_go ?d_may_go ?k_may_go ?a_may_hover ?l_may_hover ?d_may_hover ?k_may_hover ?a_seats_left ?l_seats_left ?d_seats_left ?k_seats_left ?a_winched_in_time ?l_winched_in_time ?d_winched_in_time ?k_winched_in_time ?a_may_lift ?l_may_lift ?d_may_lift ?k_may_lift ?a_ask_may ?l_ask_may ?d_ask_may ?k_ask_may ?a_ask_stay ?l_ask_stay ?d_ask_stay ?k_ask_stay ?a_ask_lift ?l_ask_lift ?d_ask_lift ?k_ask_lift ?a_ask_nearest ?l_ask_nearest ?d_ask_nearest ?k_ask_nearest ?a_ask_must ?l_ask_must ?d_ask_must ?k_ask_must ?a_ask_range ?l_ask_range ?d_ask_range ?k_ask_range ?a_start ?l_start ?d_start ?k_start ?a_keep_change ?l_keep_change ?d_keep_change ?k_keep_change ?a_take_back ?l_take_back ?d_take_back ?k_take_back ?a_do_again ?l_do_again ?d_do_again ?k_do_again ?a_look_at_state ?l_look_at_state ?d_look_at_state ?k_look_at_state ?a_go ?l_go ?d_go ?k_go ?a_winch_up ?l_winch_up ?d_winch_up ?k_winch_up ?a_land ?l_land ?d_land ?k_land ?a_refuel ?l_refuel ?d_refuel ?k_refuel ?a_look_where ?l_look_where ?d_look_where ?k_look_where ?a_look_at_helicopter ?l_look_at_helicopter ?d_look_at_helicopter ?k_look_at_helicopter ?a_look_at_place ?l_look_at_place ?d_look_at_place ?k_look_at_place ?a_look_how_far ?l_look_how_far ?d_look_how_far ?k_look_how_far ?a_look_who_is_next ?l_look_who_is_next ?d_look_who_is_next ?k_look_who_is_next ?a_look_at_sums ?l_look_at_sums ?d_look_at_sums ?k_look_at_sums ?a_add_place ?l_add_place ?d_add_place ?k_add_place ?a_set_way ?l_set_way ?d_set_way ?k_set_way ?a_is_from_one_to ?l_is_from_one_to ?d_is_from_one_to ?k_is_from_one_to ?a_is_as_told ?l_is_as_told ?d_is_as_told ?k_is_as_told ?a_add_helicopter ?l_add_helicopter ?d_add_helicopter ?k_add_helicopter ?a_add_persons ?l_add_persons ?d_add_persons ?k_add_persons ?a_minutes_out_and_back ?l_minutes_out_and_back ?d_minutes_out_and_back ?k_minutes_out_and_back ?a_most_in_load ?l_most_in_load ?d_most_in_load ?k_most_in_load ?a_most_brought ?l_most_brought ?d_most_brought ?k_most_brought ?a_least_minutes ?l_least_minutes ?d_least_minutes ?k_least_minutes ?a_ask_brings ?l_ask_brings ?d_ask_brings ?k_ask_brings ?a_ask_least ?l_ask_least ?d_ask_least ?k_ask_least ?a_pass_minutes ?l_pass_minutes ?d_pass_minutes ?k_pass_minutes ?a_close_base ?l_close_base ?d_close_base ?k_close_base ?a_reopen_base ?l_reopen_base ?d_reopen_base ?k_reopen_base ?a_change ?l_change ?d_change ?k_change ?a_make_change ?l_make_change ?d_make_change ?k_make_change ?a_ask ?l_ask ?d_ask ?k_ask ?a_look ?l_look ?d_look ?k_look ?a_answer_call ?l_answer_call ?d_answer_call ?k_answer_call ?a_answers ?l_answers ?d_answers ?k_answers ?g_NOT_THERE ?g_NO_CHANGE ?g_NOBODY ?g_NO_BASE ?g_NONE_BUSY ?g_TOO_FEW_WAIT ?g_NOT_NOW ?g_ALREADY_SO ?g_WRONG_NUMBER ?g_TOO_MANY ?g_MAY_NOT ?g_NO_WAY ?g_NO_SEATS ?g_TOO_LATE ?g_LONGEST_RESERVE ?g_MOST_TAKEN_BACK ?g_MINUTES_TO_REFUEL ?g_MOST_PLACES ?g_MOST_HELICOPTERS ?g_MOST_WAITING ?g_MOST_SAVED ?g_LONGEST_WAY ?g_LARGEST_TANK ?g_MOST_BURNT ?g_MOST_SEATS ?g_SLOWEST_WINCH ?g_MINUTES_BETWEEN_LOADS ?g_MOST_MINUTES_TO_BRING ?g_MOST_TO_BRING ?g_MOST_MINUTES ?g_LAST_MINUTE ?g_HF_START ?g_HF_PLACE ?g_HF_WAY ?g_HF_HELI ?g_HF_GO ?g_HF_WINCH ?g_HF_LAND ?g_HF_REFUEL ?g_HF_MINUTES ?g_HF_CLOSE ?g_HF_OPEN ?g_HF_MORE ?g_HF_MAY ?g_HF_STAY ?g_HF_LIFT ?g_HF_NEAREST ?g_HF_MUST ?g_HF_RANGE ?g_HF_BRINGS ?g_HF_LEAST ?g_HF_WHERE ?g_HF_LOOK ?g_HF_SEE ?g_HF_FAR ?g_HF_NEXT ?g_HF_SUMS ?g_HF_BACK ?g_HF_AGAIN ?z_len ?z_min ?z_max ?z_enumerate ?z_sum ?z_dict ?g_NUMBERS_BEHIND ?tl_NUMBERS_BEHIND ?ne_World_Helicopter ?ne_World_Place ?ne_Helicopter_Place ?ne_Flights_World ?ne_Flights_Helicopter ?ne_Flights_Place
    (case a_Place => k_is)
    (case b_Place => k_is)
    (case i_Place => k_is)
    (case l_Place => k_is)
    (case d_Place => k_is)
    (case k_Place => k_is)
    (case pg_Place => k_is)
    (case hd_Place => k_is)
    (case po_Place => k_is)
    (case sa_Place => k_is)
    (case mk_Place => k_is)
    (case kc_Place => k_is)
    (case n_Place_is_base => k_is)
    (case n_Place_is_open => k_is)
    (case n_Place_waiting => k_is)
    (case a_Helicopter => k_is)
    (case b_Helicopter => k_is)
    (case i_Helicopter => k_is)
    (case l_Helicopter => k_is)
    (case d_Helicopter => k_is)
    (case k_Helicopter => k_is)
    (case pg_Helicopter => k_is)
    (case hd_Helicopter => k_is)
    (case po_Helicopter => k_is)
    (case sa_Helicopter => k_is)
    (case mk_Helicopter => k_is)
    (case kc_Helicopter => k_is)
    (case n_Helicopter_place => k_is)
    (case n_Helicopter_fuel => k_is)
    (case n_Helicopter_busy => k_is)
    (case n_Helicopter_aboard => k_is)
    (case n_Helicopter_tank => k_is)
    (case n_Helicopter_burn => k_is)
    (case n_Helicopter_hover => k_is)
    (case n_Helicopter_seats => k_is)
    (case n_Helicopter_winch => k_is)
    (case a_World => k_is)
    (case b_World => k_is)
    (case i_World => k_is)
    (case l_World => k_is)
    (case d_World => k_is)
    (case k_World => k_is)
    (case pg_World => k_is)
    (case hd_World => k_is)
    (case po_World => k_is)
    (case sa_World => k_is)
    (case mk_World => k_is)
    (case kc_World => k_is)
    (case n_World_reserve => k_is)
    (case n_World_minute => k_is)
    (case n_World_saved => k_is)
    (case n_World_places => k_is)
    (case n_World_ways => k_is)
    (case n_World_helis => k_is)
    (case a_Flights => k_is)
    (case b_Flights => k_is)
    (case i_Flights => k_is)
    (case l_Flights => k_is)
    (case d_Flights => k_is)
    (case k_Flights => k_is)
    (case pg_Flights => k_is)
    (case hd_Flights => k_is)
    (case po_Flights => k_is)
    (case sa_Flights => k_is)
    (case mk_Flights => k_is)
    (case kc_Flights => k_is)
    (case n_Flights_world => k_is)
    (case n_Flights_earlier => k_is)
    (case n_Flights_later => k_is)
    (case a_has_place => k_is)
    (case l_has_place => k_is)
    (case d_has_place => k_is)
    (case k_has_place => k_is)
    (case a_has_helicopter => k_is)
    (case l_has_helicopter => k_is)
    (case d_has_helicopter => k_is)
    (case k_has_helicopter => k_is)
    (case a_way_key => k_is)
    (case l_way_key => k_is)
    (case d_way_key => k_is)
    (case k_way_key => k_is)
    (case a_way_minutes => k_is)
    (case l_way_minutes => k_is)
    (case d_way_minutes => k_is)
    (case k_way_minutes => k_is)
    (case a_open_bases => k_is)
    (case l_open_bases => k_is)
    (case d_open_bases => k_is)
    (case k_open_bases => k_is)
    (case a_copy_of_place => k_is)
    (case l_copy_of_place => k_is)
    (case d_copy_of_place => k_is)
    (case k_copy_of_place => k_is)
    (case a_copy_of_helicopter => k_is)
    (case l_copy_of_helicopter => k_is)
    (case d_copy_of_helicopter => k_is)
    (case k_copy_of_helicopter => k_is)
    (case a_copy_of_world => k_is)
    (case l_copy_of_world => k_is)
    (case d_copy_of_world => k_is)
    (case k_copy_of_world => k_is)
    (case a_nearest_base => k_is)
    (case l_nearest_base => k_is)
    (case d_nearest_base => k_is)
    (case k_nearest_base => k_is)
    (case a_must_be_left => k_is)
    (case l_must_be_left => k_is)
    (case d_must_be_left => k_is)
    (case k_must_be_left => k_is)
    (case a_is_enough => k_is)
    (case l_is_enough => k_is)
    (case d_is_enough => k_is)
    (case k_is_enough => k_is)
    (case a_can_come_back => k_is)
    (case l_can_come_back => k_is)
    (case d_can_come_back => k_is)
    (case k_can_come_back => k_is)
    (case a_may_go => k_is)
    (case l_may_go => k_is)
    (case d_may_go => k_is)
    (case k_may_go => k_is)
    (case a_may_hover => k_is)
    (case l_may_hover => k_is)
    (case d_may_hover => k_is)
    (case k_may_hover => k_is)
    (case a_seats_left => k_is)
    (case l_seats_left => k_is)
    (case d_seats_left => k_is)
    (case k_seats_left => k_is)
    (case a_winched_in_time => k_is)
    (case l_winched_in_time => k_is)
    (case d_winched_in_time => k_is)
    (case k_winched_in_time => k_is)
    (case a_may_lift => k_is)
    (case l_may_lift => k_is)
    (case d_may_lift => k_is)
    (case k_may_lift => k_is)
    (case a_ask_may => k_is)
    (case l_ask_may => k_is)
    (case d_ask_may => k_is)
    (case k_ask_may => k_is)
    (case a_ask_stay => k_is)
    (case l_ask_stay => k_is)
    (case d_ask_stay => k_is)
    (case k_ask_stay => k_is)
    (case a_ask_lift => k_is)
    (case l_ask_lift => k_is)
    (case d_ask_lift => k_is)
    (case k_ask_lift => k_is)
    (case a_ask_nearest => k_is)
    (case l_ask_nearest => k_is)
    (case d_ask_nearest => k_is)
    (case k_ask_nearest => k_is)
    (case a_ask_must => k_is)
    (case l_ask_must => k_is)
    (case d_ask_must => k_is)
    (case k_ask_must => k_is)
    (case a_ask_range => k_is)
    (case l_ask_range => k_is)
    (case d_ask_range => k_is)
    (case k_ask_range => k_is)
    (case a_start => k_is)
    (case l_start => k_is)
    (case d_start => k_is)
    (case k_start => k_is)
    (case a_keep_change => k_is)
    (case l_keep_change => k_is)
    (case d_keep_change => k_is)
    (case k_keep_change => k_is)
    (case a_take_back => k_is)
    (case l_take_back => k_is)
    (case d_take_back => k_is)
    (case k_take_back => k_is)
    (case a_do_again => k_is)
    (case l_do_again => k_is)
    (case d_do_again => k_is)
    (case k_do_again => k_is)
    (case a_look_at_state => k_is)
    (case l_look_at_state => k_is)
    (case d_look_at_state => k_is)
    (case k_look_at_state => k_is)
    (case a_go => k_is)
    (case l_go => k_is)
    (case d_go => k_is)
    (case k_go => k_is)
    (case a_winch_up => k_is)
    (case l_winch_up => k_is)
    (case d_winch_up => k_is)
    (case k_winch_up => k_is)
    (case a_land => k_is)
    (case l_land => k_is)
    (case d_land => k_is)
    (case k_land => k_is)
    (case a_refuel => k_is)
    (case l_refuel => k_is)
    (case d_refuel => k_is)
    (case k_refuel => k_is)
    (case a_look_where => k_is)
    (case l_look_where => k_is)
    (case d_look_where => k_is)
    (case k_look_where => k_is)
    (case a_look_at_helicopter => k_is)
    (case l_look_at_helicopter => k_is)
    (case d_look_at_helicopter => k_is)
    (case k_look_at_helicopter => k_is)
    (case a_look_at_place => k_is)
    (case l_look_at_place => k_is)
    (case d_look_at_place => k_is)
    (case k_look_at_place => k_is)
    (case a_look_how_far => k_is)
    (case l_look_how_far => k_is)
    (case d_look_how_far => k_is)
    (case k_look_how_far => k_is)
    (case a_look_who_is_next => k_is)
    (case l_look_who_is_next => k_is)
    (case d_look_who_is_next => k_is)
    (case k_look_who_is_next => k_is)
    (case a_look_at_sums => k_is)
    (case l_look_at_sums => k_is)
    (case d_look_at_sums => k_is)
    (case k_look_at_sums => k_is)
    (case a_add_place => k_is)
    (case l_add_place => k_is)
    (case d_add_place => k_is)
    (case k_add_place => k_is)
    (case a_set_way => k_is)
    (case l_set_way => k_is)
    (case d_set_way => k_is)
    (case k_set_way => k_is)
    (case a_is_from_one_to => k_is)
    (case l_is_from_one_to => k_is)
    (case d_is_from_one_to => k_is)
    (case k_is_from_one_to => k_is)
    (case a_is_as_told => k_is)
    (case l_is_as_told => k_is)
    (case d_is_as_told => k_is)
    (case k_is_as_told => k_is)
    (case a_add_helicopter => k_is)
    (case l_add_helicopter => k_is)
    (case d_add_helicopter => k_is)
    (case k_add_helicopter => k_is)
    (case a_add_persons => k_is)
    (case l_add_persons => k_is)
    (case d_add_persons => k_is)
    (case k_add_persons => k_is)
    (case a_minutes_out_and_back => k_is)
    (case l_minutes_out_and_back => k_is)
    (case d_minutes_out_and_back => k_is)
    (case k_minutes_out_and_back => k_is)
    (case a_most_in_load => k_is)
    (case l_most_in_load => k_is)
    (case d_most_in_load => k_is)
    (case k_most_in_load => k_is)
    (case a_most_brought => k_is)
    (case l_most_brought => k_is)
    (case d_most_brought => k_is)
    (case k_most_brought => k_is)
    (case a_least_minutes => k_is)
    (case l_least_minutes => k_is)
    (case d_least_minutes => k_is)
    (case k_least_minutes => k_is)
    (case a_ask_brings => k_is)
    (case l_ask_brings => k_is)
    (case d_ask_brings => k_is)
    (case k_ask_brings => k_is)
    (case a_ask_least => k_is)
    (case l_ask_least => k_is)
    (case d_ask_least => k_is)
    (case k_ask_least => k_is)
    (case a_pass_minutes => k_is)
    (case l_pass_minutes => k_is)
    (case d_pass_minutes => k_is)
    (case k_pass_minutes => k_is)
    (case a_close_base => k_is)
    (case l_close_base => k_is)
    (case d_close_base => k_is)
    (case k_close_base => k_is)
    (case a_reopen_base => k_is)
    (case l_reopen_base => k_is)
    (case d_reopen_base => k_is)
    (case k_reopen_base => k_is)
    (case a_change => k_is)
    (case l_change => k_is)
    (case d_change => k_is)
    (case k_change => k_is)
    (case a_make_change => k_is)
    (case l_make_change => k_is)
    (case d_make_change => k_is)
    (case k_make_change => k_is)
    (case a_ask => k_is)
    (case l_ask => k_is)
    (case d_ask => k_is)
    (case k_ask => k_is)
    (case a_look => k_is)
    (case l_look => k_is)
    (case d_look => k_is)
    (case k_look => k_is)
    (case a_answer_call => k_is)
    (case l_answer_call => k_is)
    (case d_answer_call => k_is)
    (case k_answer_call => k_is)
    (case a_answers => k_is)
    (case l_answers => k_is)
    (case d_answers => k_is)
    (case k_answers => k_is)
    (case g_NOT_THERE => k_is)
    (case g_NO_CHANGE => k_is)
    (case g_NOBODY => k_is)
    (case g_NO_BASE => k_is)
    (case g_NONE_BUSY => k_is)
    (case g_TOO_FEW_WAIT => k_is)
    (case g_NOT_NOW => k_is)
    (case g_ALREADY_SO => k_is)
    (case g_WRONG_NUMBER => k_is)
    (case g_TOO_MANY => k_is)
    (case g_MAY_NOT => k_is)
    (case g_NO_WAY => k_is)
    (case g_NO_SEATS => k_is)
    (case g_TOO_LATE => k_is)
    (case g_LONGEST_RESERVE => k_is)
    (case g_MOST_TAKEN_BACK => k_is)
    (case g_MINUTES_TO_REFUEL => k_is)
    (case g_MOST_PLACES => k_is)
    (case g_MOST_HELICOPTERS => k_is)
    (case g_MOST_WAITING => k_is)
    (case g_MOST_SAVED => k_is)
    (case g_LONGEST_WAY => k_is)
    (case g_LARGEST_TANK => k_is)
    (case g_MOST_BURNT => k_is)
    (case g_MOST_SEATS => k_is)
    (case g_SLOWEST_WINCH => k_is)
    (case g_MINUTES_BETWEEN_LOADS => k_is)
    (case g_MOST_MINUTES_TO_BRING => k_is)
    (case g_MOST_TO_BRING => k_is)
    (case g_MOST_MINUTES => k_is)
    (case g_LAST_MINUTE => k_is)
    (case g_HF_START => k_is)
    (case g_HF_PLACE => k_is)
    (case g_HF_WAY => k_is)
    (case g_HF_HELI => k_is)
    (case g_HF_GO => k_is)
    (case g_HF_WINCH => k_is)
    (case g_HF_LAND => k_is)
    (case g_HF_REFUEL => k_is)
    (case g_HF_MINUTES => k_is)
    (case g_HF_CLOSE => k_is)
    (case g_HF_OPEN => k_is)
    (case g_HF_MORE => k_is)
    (case g_HF_MAY => k_is)
    (case g_HF_STAY => k_is)
    (case g_HF_LIFT => k_is)
    (case g_HF_NEAREST => k_is)
    (case g_HF_MUST => k_is)
    (case g_HF_RANGE => k_is)
    (case g_HF_BRINGS => k_is)
    (case g_HF_LEAST => k_is)
    (case g_HF_WHERE => k_is)
    (case g_HF_LOOK => k_is)
    (case g_HF_SEE => k_is)
    (case g_HF_FAR => k_is)
    (case g_HF_NEXT => k_is)
    (case g_HF_SUMS => k_is)
    (case g_HF_BACK => k_is)
    (case g_HF_AGAIN => k_is)
    (case z_len => k_is)
    (case z_min => k_is)
    (case z_max => k_is)
    (case z_enumerate => k_is)
    (case z_sum => k_is)
    (case z_dict => k_is)
    (case g_NUMBERS_BEHIND => k_is)
    (case tl_NUMBERS_BEHIND => k_is)
    (case ne_World_Helicopter => decide)
    (case ne_World_Place => decide)
    (case ne_Helicopter_Place => decide)
    (case ne_Flights_World => decide)
    (case ne_Flights_Helicopter => decide)
    (case ne_Flights_Place => decide)
  case S =>
    intro K H xs a hO hwi hask hx
    cases hx with
    | cons h1 h2 =>
      cases h2
      cases h1 with
      | lst hs ha =>
        have e := L2.ints_dw a.1 _ ha
        subst e
        have q : ((Codec.inLen 0 7100 a.1 && a.1.all (Codec.inInt 0 4294967295)) && true) = true := hwi
        rw [Bool.and_eq_true, Bool.and_eq_true] at q
        exact ⟨_, a.1, rfl, hs, (Codec.inNat_iff.mp q.1.1).2, hask, fun H' p hp => .lst (L2.SqL.of hp) (L2.dw_ints _)⟩
