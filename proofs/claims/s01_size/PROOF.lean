import PyProof.Rows.All
import Wide.All
import OpenK.AllK
import Wide.FinOn
import PyProof.EqAt
import PyProof.EqKinds
import PyProof.TupleCall
import KE.BitLaws
import KE.OsGo
import KE.OsEnd
import PySem.Challenge.RW_shapedots_s01_size
set_option Elab.async false
set_option linter.all false
set_option maxRecDepth 100000
namespace L2
open PySem PySem.Spec PyProof.Rows
abbrev Key := Sum Int Str
def keyIs : Key → Value → Bool
  | .inl k, v => Value.isInt k v
  | .inr x, v => Value.isStrOf x v
def keyH (w : World) : Key → Int
  | .inl k => hashInt k
  | .inr x => hashStr w x
theorem keyIs_shape : ∀ {k : Key} {v : Value}, keyIs k v = true → (∃ i t, k = Sum.inl i ∧ v = Value.int i t) ∨ (∃ x t, k = Sum.inr x ∧ v = Value.str x t)
  | .inl i, v, h => by
    obtain ⟨t, e⟩ := Value.isInt_shape (k := i) (v := v) h
    exact .inl ⟨i, t, rfl, e⟩
  | .inr x, v, h => by
    obtain ⟨t, e⟩ := Value.isStrOf_shape (x := x) (v := v) h
    exact .inr ⟨x, t, rfl, e⟩
theorem keyIs_int (i : Int) (t : Tok) : keyIs (.inl i) (.int i t) = true := by simp [keyIs, Value.isInt]
theorem keyIs_str (x : Str) (t : Tok) : keyIs (.inr x) (.str x t) = true := by simp [keyIs, Value.isStrOf]
theorem key_ll (a b : Int) : decide ((Sum.inl a : Key) = Sum.inl b) = (a == b) := by
  by_cases e : a = b
  · subst e; simp
  · have h : ¬ (Sum.inl a : Key) = Sum.inl b := fun q => e (Sum.inl.inj q)
    rw [decide_eq_false h]
    exact (beq_eq_false_iff_ne.mpr e).symm
theorem key_rr (a b : Str) : decide ((Sum.inr a : Key) = Sum.inr b) = decide (a = b) := by
  by_cases e : a = b
  · subst e; simp
  · have h : ¬ (Sum.inr a : Key) = Sum.inr b := fun q => e (Sum.inr.inj q)
    rw [decide_eq_false h, decide_eq_false e]
theorem key_lr (a : Int) (b : Str) : decide ((Sum.inl a : Key) = Sum.inr b) = false := decide_eq_false (fun q => nomatch q)
theorem key_rl (a : Str) (b : Int) : decide ((Sum.inr a : Key) = Sum.inl b) = false := decide_eq_false (fun q => nomatch q)
def mixKind (prog : Program) (w : World) : PySem.KeyKind prog w Key where
  is := keyIs
  hash := keyH w
  inj := fun v a b ha hb => by
    rcases keyIs_shape ha with ⟨i, t, rfl, rfl⟩ | ⟨x, t, rfl, rfl⟩
    · rcases keyIs_shape hb with ⟨j, u, rfl, e⟩ | ⟨y, u, rfl, e⟩
      · injection e with e1 _; rw [e1]
      · exact nomatch e
    · rcases keyIs_shape hb with ⟨j, u, rfl, e⟩ | ⟨y, u, rfl, e⟩
      · exact nomatch e
      · injection e with e1 _; rw [e1]
  byValue := fun k v h => by
    rcases keyIs_shape h with ⟨i, t, rfl, rfl⟩ | ⟨x, t, rfl, rfl⟩ <;> rfl
  pyHash := fun hv h => by
    rcases keyIs_shape hv with ⟨i, t, rfl, rfl⟩ | ⟨x, t, rfl, rfl⟩
    · exact wpAny_pyHash_int h
    · exact wpAny_pyHash_str h
  eqBool := fun hu hv h => by
    rcases keyIs_shape hu with ⟨i, t, rfl, rfl⟩ | ⟨x, t, rfl, rfl⟩
    · rcases keyIs_shape hv with ⟨j, u, rfl, rfl⟩ | ⟨y, u, rfl, rfl⟩
      · rw [key_ll] at h; exact wpAny_eqBool_int h
      · rw [key_lr] at h; exact SeqAt.EqAt.int_str i t y u _ _ _ _ h
    · rcases keyIs_shape hv with ⟨j, u, rfl, rfl⟩ | ⟨y, u, rfl, rfl⟩
      · rw [key_rl] at h; exact SeqAt.EqAt.str_int x t j u _ _ _ _ h
      · rw [key_rr] at h; exact wpAny_eqBool_str h
  «strs» := fun k x t v h => by
    rcases keyIs_shape h with ⟨i, u, rfl, e⟩ | ⟨y, u, rfl, e⟩
    · exact nomatch e
    · injection e with e1 _
      subst e1
      cases v <;> rfl
theorem mixKind_int (prog : Program) (w : World) (i : Int) (t : Tok) : (mixKind prog w).is (.inl i) (.int i t) = true := keyIs_int i t
theorem mixKind_str (prog : Program) (w : World) (x : Str) (t : Tok) : (mixKind prog w).is (.inr x) (.str x t) = true := keyIs_str x t
end L2
namespace L2
open PySem PySem.Spec PyProof.Rows
inductive V where
  | non | bl (b : Bool) | int (i : Int) | str (x : Str) | byt (b : Array UInt8) | flt (b : UInt64) | ref (a : Addr) | ty (n : String)
  deriving DecidableEq
def RelV : V → Value → Prop
  | .non, u => u = Value.none
  | .bl b, u => u = Value.bool b
  | .int i, u => ∃ t, u = Value.int i t
  | .str x, u => ∃ t, u = Value.str x t
  | .byt b, u => ∃ t, u = Value.bytes b t
  | .flt b, u => ∃ t, u = Value.float b t
  | .ref a, u => u = Value.ref a
  | .ty n, u => u = Value.type n
abbrev Vals : List V → List Value → Prop := Paired RelV
theorem Vals.length {xs : List V} {us : List Value} (r : Vals xs us) : xs.length = us.length := Paired.length r
theorem Vals.get : ∀ {xs : List V} {us : List Value} {i : Nat} {x : V}, Vals xs us → xs[i]? = some x → ∃ u, us[i]? = some u ∧ RelV x u
  | _, _, _, _, .nil, e => by simp at e
  | _, _, 0, _, .cons r _, e => by simp at e; subst e; exact ⟨_, rfl, r⟩
  | _, _, i + 1, x, .cons _ t, e => by
    obtain ⟨u, h1, h2⟩ := Vals.get (i := i) (x := x) t (by simpa using e)
    exact ⟨u, by simpa using h1, h2⟩
theorem Vals.append : ∀ {xs ys : List V} {us ws : List Value}, Vals xs us → Vals ys ws → Vals (xs ++ ys) (us ++ ws)
  | _, _, _, _, .nil, s => s
  | _, _, _, _, .cons r t, s => .cons r (Vals.append t s)
theorem Vals.take : ∀ {xs : List V} {us : List Value} (n : Nat), Vals xs us → Vals (xs.take n) (us.take n)
  | _, _, 0, _ => .nil
  | _, _, _ + 1, .nil => .nil
  | _, _, n + 1, .cons r t => .cons r (Vals.take n t)
theorem Vals.drop : ∀ {xs : List V} {us : List Value} (n : Nat), Vals xs us → Vals (xs.drop n) (us.drop n)
  | _, _, 0, r => r
  | _, _, _ + 1, .nil => .nil
  | _, _, n + 1, .cons _ t => Vals.drop n t
def RelO : Option V → Option Value → Prop
  | some v, some u => RelV v u
  | none, none => True
  | _, _ => False
def KV {κ : Type} : List (κ × V) → List (κ × Value) → Prop := Paired fun (p : κ × V) (q : κ × Value) => p.1 = q.1 ∧ RelV p.2 q.2
def kV : Key → V
  | .inl i => .int i
  | .inr x => .str x
inductive HO where
  /-- a list -/
  | lst (xs : List V)
  /-- a tuple (never changes) -/
  | tup (xs : List V)
  /-- a dict whose keys are ints and texts; one whose keys are tuples of ints and texts (the empty one is both) -/
  | dK (kvs : List (Key × V)) | dT (kvs : List (List Key × V))
  /-- a set of ints: its members, its size -/
  | set (S : Int → Bool) (n : Nat)
  /-- an instance of the class at C, its dict at dx, its attributes -/
  | ins (C dx : Addr) (fs : List (Str × V))
  /-- the dict of the instance at x -/
  | own (x : Addr)
  /-- the dict of an exception -/
  | xd (fs : List (Str × V))
  /-- a bound method, f of x -/
  | met (f x : Addr)
  /-- a range object lo, lo + 1, .. below hi -/
  | rng (lo hi : Int)
  /-- a thing that is known to the object (the script; a dict while a loop walks it): read, never written while it is so -/
  | frz (o : Obj) (u : HO)
  /-- a code object's table -/
  | tbl (ps : Array Value)
  /-- any other thing, by what is true of its one object (a def of one's own: SetO a S n := HO.ext fun h => ..) -/
  | ext (φ : Heap → Prop)
abbrev Hp := Addr → Option HO
def upd (H : Hp) (a : Addr) (o : HO) : Hp := fun b => if b = a then some o else H b
theorem upd_same {H : Hp} {a : Addr} {o : HO} : upd H a o a = some o := by unfold upd; rw [if_pos rfl]
theorem upd_ne {H : Hp} {a b : Addr} {o : HO} (h : b ≠ a) : upd H a o b = H b := by unfold upd; rw [if_neg h]
theorem upd_upd {H : Hp} {a : Addr} {o u : HO} : upd (upd H a o) a u = upd H a u := by
  funext b; unfold upd; split <;> rfl
theorem ne_of {H : Hp} {a b : Addr} {o u : HO} (h : H a = some o) (h' : H b = some u) (d : o ≠ u) : a ≠ b := by
  intro e; subst e; rw [h] at h'; exact d (Option.some.inj h')
theorem ne_of_none {H : Hp} {a b : Addr} {o : HO} (h : H a = some o) (h' : H b = none) : a ≠ b := by
  intro e; subst e; rw [h] at h'; cases h'
section
variable (P : Program) (w : World)
def ObjOk (H : Hp) (h : Heap) (a : Addr) : HO → Prop
  | .lst xs => xs.length ≤ sizeLine ∧ ∃ (its : List Value) (n : Nat), Vals xs its ∧ h.get? a = some { cls := .type "list", data := .seq its.toArray n }
  | .tup xs => xs.length ≤ sizeLine ∧ ∃ its : List Value, Vals xs its ∧ IsTup h a its.toArray
  | .dK kvs => kvs.length ≤ sizeLine ∧ (a == sysModules) = false ∧ ∃ vs, KV kvs vs ∧ h.DictOf (mixKind P w) a vs
  | .dT kvs => kvs.length ≤ sizeLine ∧ (a == sysModules) = false ∧ ∃ xs : List (List Key × Addr × Value),
      Paired (fun (p : List Key × V) (q : List Key × Addr × Value) => p.1 = q.1 ∧ H q.2.1 = some (.tup (p.1.map kV)) ∧ RelV p.2 q.2.2) kvs xs ∧
      ∃ o es ep, h.get? a = some o ∧ o.ExactDict ∧ o.data = .dict es ep ∧ es.toList = xs.map (entryOfKey (tupleKind (mixKind P w))) ∧ (xs.map (·.1)).Nodup
  | .set S n => h.SetOf (intKind P w) a S n
  | .ins C dx fs => H dx = some (.own a) ∧ fs.length ≤ 1000 ∧ dx ≠ a ∧ h.get? a = some (PySem.W.instObj C dx) ∧
      ∃ mA, h.Ns1 dx mA ∧ (∀ f, RelO (fs.lookup f) (mA f)) ∧ PySem.Within mA (fs.map (·.1))
  | .own _ => ∃ o, h.get? a = some o
  | .xd fs => ∃ mA, h.Ns1 a mA ∧ ∀ f, RelO (fs.lookup f) (mA f)
  | .rng lo hi => ∃ t u v, h.get? a = some { cls := .type "range", data := .fields #[.int lo t, .int hi u, .int 1 v] }
  | .frz o u => h.get? a = some o ∧ ObjOk H h a u
  | .tbl ps => h.get? a = some { cls := .none, data := .fields ps }
  | .met f x => h.get? a = some (PySem.W.methodObj (.ref f) (.ref x))
  | .ext φ => φ h ∧ (∃ o, h.get? a = some o) ∧ ∀ h1 h2 : Heap, φ h1 → (∀ o, h1.get? a = some o → h2.get? a = some o) → φ h2
def HOk (H : Hp) (h : Heap) : Prop := ∀ a o, H a = some o → ObjOk P w H h a o
end
section
variable {P : Program} {w : World} {H H' : Hp} {h h' : Heap} {a : Addr} {o : HO}
theorem ObjOk.lt (x : ObjOk P w H h a o) : a < h.objs.size := by
  cases o with
  | lst xs => obtain ⟨_, _, _, _, e⟩ := x; exact Heap.lt_size e
  | tup xs => obtain ⟨_, _, _, p⟩ := x; exact p.lt
  | dK kvs => obtain ⟨_, _, _, _, o, _, _, e, _⟩ := x; exact Heap.lt_size e
  | dT kvs => obtain ⟨_, _, _, _, o, _, _, e, _⟩ := x; exact Heap.lt_size e
  | set S n => obtain ⟨o, _, _, _, e, _⟩ := x; exact Heap.lt_size e
  | ins C dx fs => obtain ⟨_, _, _, e, _⟩ := x; exact Heap.lt_size e
  | own y => obtain ⟨_, e⟩ := x; exact Heap.lt_size e
  | xd fs => obtain ⟨_, ⟨_, _, _, e, _⟩, _⟩ := x; exact Heap.lt_size e
  | rng lo hi => obtain ⟨_, _, _, e⟩ := x; exact Heap.lt_size e
  | frz ob u => obtain ⟨e, _⟩ := x; exact Heap.lt_size e
  | tbl ps => exact Heap.lt_size (show h.get? a = some _ from x)
  | met f y => exact Heap.lt_size (show h.get? a = some _ from x)
  | ext φ => obtain ⟨_, ⟨_, e⟩, _⟩ := x; exact Heap.lt_size e
theorem Paired.mapP {α β : Type} {F G : α → β → Prop} : ∀ {l₁ : List α} {l₂ : List β}, Paired F l₁ l₂ → (∀ a b, F a b → G a b) → Paired G l₁ l₂
  | _, _, .nil, _ => .nil
  | _, _, .cons r t, f => .cons (f _ _ r) (Paired.mapP t f)
theorem ObjOk.stay (x : ObjOk P w H h a o) (k : ∀ b u, (b = a ∨ H b = some (.own a)) → h.get? b = some u → h'.get? b = some u)
    (ho : ∀ b, H b = some (.own a) → H' b = some (.own a)) (ht : ∀ b xs, H b = some (.tup xs) → H' b = some (.tup xs)) : ObjOk P w H' h' a o := by
  induction o with
  | lst xs => obtain ⟨z, its, n, r, e⟩ := x; exact ⟨z, its, n, r, k _ _ (.inl rfl) e⟩
  | tup xs => obtain ⟨z, its, r, ob, e, c⟩ := x; exact ⟨z, its, r, ob, k _ _ (.inl rfl) e, c⟩
  | dK kvs => obtain ⟨z, y, vs, r, ob, es, ep, e, c⟩ := x; exact ⟨z, y, vs, r, ob, es, ep, k _ _ (.inl rfl) e, c⟩
  | dT kvs =>
    obtain ⟨z, y, xs, r, ob, es, ep, e, c⟩ := x
    exact ⟨z, y, xs, Paired.mapP r fun p q z => ⟨z.1, ht _ _ z.2.1, z.2.2⟩, ob, es, ep, k _ _ (.inl rfl) e, c⟩
  | set S n => obtain ⟨ob, es, ep, t, e, c⟩ := x; exact ⟨ob, es, ep, t, k _ _ (.inl rfl) e, c⟩
  | ins C dx fs =>
    obtain ⟨d, z, ne, e, mA, ⟨od, es, ep, e2, c⟩, r⟩ := x
    exact ⟨ho _ d, z, ne, k _ _ (.inl rfl) e, mA, ⟨od, es, ep, k _ _ (.inr d) e2, c⟩, r⟩
  | own y => obtain ⟨ob, e⟩ := x; exact ⟨ob, k _ _ (.inl rfl) e⟩
  | xd fs => obtain ⟨mA, ⟨od, es, ep, e, c⟩, r⟩ := x; exact ⟨mA, ⟨od, es, ep, k _ _ (.inl rfl) e, c⟩, r⟩
  | rng lo hi => obtain ⟨t, u, v, e⟩ := x; exact ⟨t, u, v, k _ _ (.inl rfl) e⟩
  | frz ob u ih => obtain ⟨e, q⟩ := x; exact ⟨k _ _ (.inl rfl) e, ih q⟩
  | tbl ps =>
    have e : h.get? a = some { cls := .none, data := .fields ps } := x
    show h'.get? a = some { cls := .none, data := .fields ps }
    exact k a _ (.inl rfl) e
  | met f y =>
    have e : h.get? a = some (PySem.W.methodObj (.ref f) (.ref y)) := x
    show h'.get? a = some (PySem.W.methodObj (.ref f) (.ref y))
    exact k a _ (.inl rfl) e
  | ext φ => obtain ⟨p, ⟨o, e⟩, st⟩ := x; exact ⟨st _ _ p fun o q => k _ _ (.inl rfl) q, ⟨o, k _ _ (.inl rfl) e⟩, st⟩
theorem HOk.lt (x : HOk P w H h) (e : H a = some o) : a < h.objs.size := (x a o e).lt
theorem HOk.fresh (x : HOk P w H h) (e : h.objs.size ≤ a) : H a = none := by
  cases q : H a with
  | none => rfl
  | some u => exact absurd (Nat.lt_of_lt_of_le (x.lt q) e) (Nat.lt_irrefl _)
theorem HOk.kept (x : HOk P w H h) (k : ∀ b u, h.get? b = some u → h'.get? b = some u) : HOk P w H h' := fun a o e =>
  (x a o e).stay (fun b u _ q => k b u q) (fun _ q => q) fun _ _ q => q
theorem HOk.laid (x : HOk P w H h) (k : ∀ b u, h.get? b = some u → h'.get? b = some u) (hp : h.objs.size ≤ a) (new : ObjOk P w (upd H a o) h' a o) : HOk P w (upd H a o) h' := fun b u e => by
  have hn := x.fresh hp
  by_cases hb : b = a
  · subst hb; rw [upd_same] at e; cases e; exact new
  · rw [upd_ne hb] at e
    exact (x b u e).stay (fun c v _ q => k c v q) (fun c q => by rw [upd_ne (ne_of_none q hn)]; exact q) fun c xs q => by rw [upd_ne (ne_of_none q hn)]; exact q
end
def Rd (H : Hp) (a : Addr) (u : HO) : Prop := H a = some u ∨ ∃ o, H a = some (.frz o u)
theorem Rd.ok {P : Program} {w : World} {H : Hp} {h : Heap} {a : Addr} {u : HO} (r : Rd H a u) (x : HOk P w H h) : ObjOk P w H h a u := by
  rcases r with r | ⟨o, r⟩
  · exact x a u r
  · obtain ⟨_, q⟩ := x a _ r
    exact q
def Mut : Option HO → Prop
  | some (.lst _) => True
  | some (.dK _) => True
  | some (.dT _) => True
  | some (.set _ _) => True
  | some (.ins _ _ _) => True
  | some (.ext _) => True
  | _ => False
section
variable {P : Program} {w : World} {H : Hp} {h h' : Heap} {x e : Addr} {o' : HO}
theorem HOk.write (ok : HOk P w H h) (mu : Mut (H x)) (he : e = x ∨ H e = some (.own x)) (k : ∀ b u, b ≠ e → h.get? b = some u → h'.get? b = some u) (heo : ∃ u, h'.get? e = some u)
    (new : ObjOk P w (upd H x o') h' x o') : HOk P w (upd H x o') h' := fun b u q => by
  have nown : ∀ c y, H c = some (.own y) → c ≠ x := fun c y r z => by subst z; rw [r] at mu; exact mu
  have ntup : ∀ c xs, H c = some (.tup xs) → c ≠ x := fun c xs r z => by subst z; rw [r] at mu; exact mu
  by_cases hb : b = x
  · subst hb; rw [upd_same] at q; cases q; exact new
  · rw [upd_ne hb] at q
    by_cases hbe : b = e
    · have q' : H b = some (.own x) := by
        rcases he with z | z
        · exact absurd (hbe.trans z) hb
        · rw [hbe]; exact z
      rw [q] at q'; cases q'
      obtain ⟨v, hv⟩ := heo
      exact ⟨v, by rw [hbe]; exact hv⟩
    · refine (ok b u q).stay (fun c v hc r => k c v ?_ r) (fun c r => by rw [upd_ne (nown c b r)]; exact r) fun c xs r => by rw [upd_ne (ntup c xs r)]; exact r
      rcases hc with rfl | hc
      · exact hbe
      · rintro rfl
        rcases he with z | z
        · exact nown c b hc z
        · rw [hc] at z; cases z; exact hb rfl
end
structure Un (fs ex : List Addr) (H H' : Hp) (h h' : Heap) : Prop where
  keep : ∀ b o, h.get? b = some o → H b = none → b ∉ fs → b ∉ ex → h'.get? b = some o
  slot : ∀ b o, h.get? b = some o → H b = none → b ∈ fs → b ∉ ex → ∃ sl, h'.get? b = some { o with slots := sl }
  free : ∀ b o, h.get? b = some o → H b = none → b ∉ ex → H' b = none
  there : ∀ b o, h.get? b = some o → b ∉ ex → ∃ o', h'.get? b = some o'
  tups : ∀ b xs, H b = some (.tup xs) → H' b = some (.tup xs)
  frzs : ∀ b o u, H b = some (.frz o u) → H' b = some (.frz o u)
  tbls : ∀ b ps, H b = some (.tbl ps) → ∃ more, H' b = some (.tbl (ps ++ more))
section
variable {fs fs' ex ex' : List Addr} {H H1 H2 : Hp} {h h1 h2 h' : Heap} {a x e : Addr} {o : HO}
theorem Un.any (u : Un fs ex H H1 h h1) {b : Addr} {ob : Obj} (q : h.get? b = some ob) (n : H b = none) (hx : b ∉ ex) : ∃ sl, h1.get? b = some { ob with slots := sl } := by
  by_cases hb : b ∈ fs
  · exact u.slot b ob q n hb hx
  · exact ⟨ob.slots, u.keep b ob q n hb hx⟩
theorem Un.kept (k : ∀ b u, h.get? b = some u → h'.get? b = some u) : Un fs ex H H h h' :=
  ⟨fun b ob q _ _ _ => k b ob q, fun b ob q _ _ _ => ⟨ob.slots, k b ob q⟩, fun _ _ _ n _ => n, fun b ob q _ => ⟨ob, k b ob q⟩, fun _ _ q => q, fun _ _ _ q => q, fun _ ps q => ⟨#[], by rw [q]; simp⟩⟩
theorem Un.refl : Un fs ex H H h h := Un.kept fun _ _ q => q
theorem Un.laid (k : ∀ b u, h.get? b = some u → h'.get? b = some u) (hp : h.objs.size ≤ a) (hn : H a = none) : Un fs ex H (upd H a o) h h' where
  keep := fun b u q _ _ _ => k b u q
  slot := fun b u q _ _ _ => ⟨u.slots, k b u q⟩
  free := fun b u q n _ => by rw [upd_ne (Nat.ne_of_lt (Nat.lt_of_lt_of_le (Heap.lt_size q) hp))]; exact n
  there := fun b u q _ => ⟨u, k b u q⟩
  tups := fun b xs q => by rw [upd_ne (ne_of_none q hn)]; exact q
  frzs := fun b u xs q => by rw [upd_ne (ne_of_none q hn)]; exact q
  tbls := fun b ps q => ⟨#[], by rw [upd_ne (ne_of_none q hn), q]; simp⟩
theorem Un.write (mu : Mut (H x)) (he : e = x ∨ H e = some (.own x)) (k : ∀ b u, b ≠ e → h.get? b = some u → h'.get? b = some u) (heo : ∃ u, h'.get? e = some u) : Un fs ex H (upd H x o) h h' := by
  have hx : ∀ b, H b = none → b ≠ x := fun b n z => by subst z; rw [n] at mu; exact mu
  have hb : ∀ b, H b = none → b ≠ e := fun b n z => by
    subst z
    rcases he with r | r
    · exact hx b n r
    · rw [n] at r; cases r
  have hm : ∀ b u, H b = some u → ¬ Mut (some u) → b ≠ x := fun b u q nm z => by subst z; rw [q] at mu; exact nm mu
  refine ⟨fun b u q n _ _ => k b u (hb b n) q, fun b u q n _ _ => ⟨u.slots, k b u (hb b n) q⟩, fun b u q n _ => by rw [upd_ne (hx b n)]; exact n, fun b u q _ => ?_,
    fun b xs q => by rw [upd_ne (hm b _ q fun z => z)]; exact q, fun b u xs q => by rw [upd_ne (hm b _ q fun z => z)]; exact q, fun b ps q => ⟨#[], by rw [upd_ne (hm b _ q fun z => z), q]; simp⟩⟩
  by_cases hbe : b = e
  · subst hbe; exact heo
  · exact ⟨u, k b u hbe q⟩
end
def trk (h : Heap) (H : Hp) : List Addr := (List.range h.objs.size).filter fun a => (H a).isSome
def hidT (h : Heap) (H : Hp) : Heap := PySem.W.hideAll h (trk h H)
theorem hidT_size (h : Heap) (H : Hp) : (hidT h H).objs.size = h.objs.size := PySem.W.hideAll_size _ _
theorem hidT_get {h : Heap} {H : Hp} {b : Addr} {o : Obj} (e : h.get? b = some o) (n : H b = none) : (hidT h H).get? b = some o :=
  PySem.W.hideAll_get _ e fun hm => by
    have q : (H b).isSome = true := (List.mem_filter.mp hm).2
    rw [n] at q; simp at q
theorem of_hidT {h : Heap} {H : Hp} {b : Addr} {o : Obj} (e : (hidT h H).get? b = some o) : h.get? b = some o ∧ H b = none := by
  have e' : h.get? b = some o := PySem.W.of_hideAll (trk h H) e
  refine ⟨e', ?_⟩
  cases q : H b with
  | none => rfl
  | some x =>
    have hm : b ∈ trk h H := List.mem_filter.mpr ⟨List.mem_range.mpr (Heap.lt_size e'), by simp [q]⟩
    have z : (hidT h H).get? b = none := PySem.W.hideAll_none (trk h H) hm
    rw [z] at e; cases e
end L2
namespace L2
open PySem PySem.Spec PyProof.Rows
structure Mod (K : PySem.W.Frag) (mg : Str → Option Value) (base : Heap) : Prop where
  kin : K.In base
  glob : base.Ns mainGlobals mg
  blt : ∃ mb, base.Ns builtinsNs mb ∧ ∀ x : Str, x ≠ "__name__" → mb x = bootBuiltins x
  nolimit : base.NoLimit
structure Cx where
  prog : Program
  w : World
  K : PySem.W.Frag
  mg : Str → Option Value
  base : Heap
  A : Around
  N : List Str
  s₀ : Shared
  H₀ : Hp
  env : Env
  outer : List Env
  stack : List Env
  ex : List Addr
  fn : Str → Bool
  calm : Bool
  pn : List (Addr × Obj)
  xe : Value → Shared → Prop
def frs (l : List Env) : List Addr := l.filterMap (·.frame)
abbrev Cx.fs (X : Cx) : List Addr := frs X.outer
def Vis (sc : Scope) (x : Str) : Prop := sc.names.lookup x = some .local ∨ sc.names.lookup x = some .cell ∨ sc.names.lookup x = some .free
def Loc (sc : Scope) (x : Str) : Prop := sc.names.lookup x = some .local ∨ sc.names.lookup x = some .cell
def Look (env : Env) (h : Heap) (m : Str → Option Value) (x : Str) (u : Value) : Prop :=
  (env.kindOf x = some .local ∧ m x = some u) ∨ ((env.kindOf x = some .cell ∨ env.kindOf x = some .free) ∧ ∃ c, env.cells.lookup x = some c ∧ h.IsCell c (some u))
structure Cx.Ok (X : Cx) : Prop where
  mod : Mod X.K X.mg X.base
  kind : X.env.scope.kind = .function
  glob : X.env.globals = mainGlobals
  blt : X.env.builtins = builtinsNs
  above : X.s₀.heap.objs.size ≤ X.env.locals
  inj : ∀ x y c, X.env.cells.lookup x = some c → X.env.cells.lookup y = some c → x = y
  has : ∀ x, (X.env.kindOf x = some .cell ∨ X.env.kindOf x = some .free) → ∃ c, X.env.cells.lookup x = some c
  cab : ∀ x c, X.fn x = true → X.env.cells.lookup x = some c → X.s₀.heap.objs.size ≤ c
  hd : X.calm = true → X.A.handled = none
  frames : X.A.frames = some X.stack
  stk : X.stack = X.outer ∨ (X.stack = X.env :: X.outer ∧ X.env.frame = some X.env.locals)
  exf : ∀ b ∈ X.ex, b ≠ X.env.locals ∧ ∀ x c, X.env.cells.lookup x = some c → c ≠ b
  bs : ∀ b o, X.base.get? b = some o → X.s₀.heap.get? b = some o ∧ X.H₀ b = none
  bsz : X.base.objs.size ≤ X.s₀.heap.objs.size
  noex : ∀ b o, X.base.get? b = some o → b ∉ X.ex
  exfs : ∀ b ∈ X.ex, b ∉ X.fs
  funs : X.s₀.heap.FunFrames X.base X.outer
  frf : ∀ b ∈ X.fs, X.H₀ b = none
structure Inv (X : Cx) (pins : List (Addr × Obj)) (σ : List (Option V)) (H : Hp) (s : Shared) : Prop where
  ok : X.Ok
  os : s.os = X.s₀.os
  bare : AllBare s.gens
  base : Un X.fs X.ex X.H₀ H X.s₀.heap s.heap
  loc : ∃ m, s.heap.Ns X.env.locals m ∧ ∀ (i : Nat) (x : Str) (v : V), X.N[i]? = some x → σ[i]? = some (some v) → Vis X.env.scope x → ∃ u, RelV v u ∧ Look X.env s.heap m x u
  cell : ∀ x c, X.env.cells.lookup x = some c → ∃ v, s.heap.IsCell c v
  free : H X.env.locals = none
  freeC : ∀ x c, X.env.cells.lookup x = some c → H c = none
  pin : ∀ p ∈ X.pn ++ pins, s.heap.get? p.1 = some p.2 ∧ H p.1 = none ∧ p.1 ≠ X.env.locals ∧ p.1 ∉ X.fs ∧ ∀ v, p.2.data ≠ .cell v
  hok : HOk X.prog X.w H s.heap
  len : σ.length = X.N.length
section
variable {X : Cx} {pins : List (Addr × Obj)} {σ : List (Option V)} {H H' : Hp} {s : Shared} {h' : Heap}
theorem Cx.Ok.nofr (ok : X.Ok) {b : Addr} {o : Obj} (e : X.base.get? b = some o) : b ∉ X.fs := fun hb => by
  have := (ok.funs.mem hb).1
  rw [e] at this; cases this
theorem Inv.bs (I : Inv X pins σ H s) : ∀ b o, X.base.get? b = some o → s.heap.get? b = some o ∧ H b = none := fun b o e =>
  ⟨I.base.keep b o (I.ok.bs b o e).1 (I.ok.bs b o e).2 (I.ok.nofr e) (I.ok.noex b o e), I.base.free b o (I.ok.bs b o e).1 (I.ok.bs b o e).2 (I.ok.noex b o e)⟩
theorem Inv.bk (I : Inv X pins σ H s) : ∀ b o, X.base.get? b = some o → s.heap.get? b = some o := fun b o e => (I.bs b o e).1
theorem Inv.mod (I : Inv X pins σ H s) : Mod X.K X.mg X.base := I.ok.mod
theorem Inv.kIn (I : Inv X pins σ H s) : X.K.In s.heap := I.ok.mod.kin.keeps I.bk
theorem Inv.lt (I : Inv X pins σ H s) : X.env.locals < s.heap.objs.size := let ⟨_, hn, _⟩ := I.loc; hn.lt
theorem Inv.sz (I : Inv X pins σ H s) : X.s₀.heap.objs.size ≤ s.heap.objs.size := Nat.le_trans I.ok.above (Nat.le_of_lt I.lt)
theorem Inv.nofs (I : Inv X pins σ H s) {a : Addr} (h : s.heap.objs.size ≤ a) : a ∉ X.fs := fun hb => by
  obtain ⟨_, o, ho, _⟩ := I.ok.funs.mem hb
  exact absurd (Nat.lt_of_lt_of_le (Heap.lt_size ho) (Nat.le_trans I.sz h)) (Nat.lt_irrefl _)
theorem Inv.cne (I : Inv X pins σ H s) : ∀ x c, X.env.cells.lookup x = some c → c ≠ X.env.locals := fun x c e z => by
  obtain ⟨v, o, ho, hd⟩ := I.cell x c e
  obtain ⟨m, ⟨o', es, ep, ho', hd', _⟩, _⟩ := I.loc
  rw [z, ho'] at ho; cases ho; rw [hd'] at hd; cases hd
theorem Inv.funs (I : Inv X pins σ H s) : s.heap.FunFrames X.base X.outer := by
  have all : ∀ (l : List Env), (∀ b ∈ frs l, b ∈ X.fs) → X.s₀.heap.FunFrames X.base l → s.heap.FunFrames X.base l := by
    intro l
    induction l with
    | nil => intro _ _; trivial
    | cons env r ih =>
      intro hs hl
      obtain ⟨hk, ⟨L, o, hf, hn, ho, hd⟩, hr⟩ := hl
      have hL : L ∈ X.fs := hs L (by unfold frs; rw [List.filterMap_cons, hf]; exact List.mem_cons_self)
      obtain ⟨sl, e⟩ := I.base.slot L o ho (I.ok.frf L hL) hL fun z => I.ok.exfs L z hL
      exact ⟨hk, ⟨L, _, hf, hn, e, hd⟩, ih (fun b hb => hs b (by unfold frs; rw [List.filterMap_cons, hf]; exact List.mem_cons_of_mem _ hb)) hr⟩
  exact all X.outer (fun _ hb => hb) I.ok.funs
theorem Inv.stack (I : Inv X pins σ H s) : s.heap.FunFrames X.base X.stack := by
  rcases I.ok.stk with e | ⟨e, hf⟩
  · rw [e]; exact I.funs
  · rw [e]
    obtain ⟨m, hn, _⟩ := I.loc
    refine .cons (by rw [I.ok.kind]; decide) hf hn ?_ I.funs
    exact Heap.get?_none_of_le (Nat.le_trans I.ok.bsz I.ok.above)
theorem Inv.stkSub (I : Inv X pins σ H s) : ∀ b ∈ frs X.stack, b ∈ X.env.locals :: X.fs := fun b hb => by
  rcases I.ok.stk with e | ⟨e, hf⟩
  · rw [e] at hb; exact List.mem_cons_of_mem _ hb
  · rw [e] at hb
    unfold frs at hb
    rw [List.filterMap_cons, hf] at hb
    exact hb
theorem Inv.stkFree (I : Inv X pins σ H s) : ∀ b ∈ frs X.stack, H b = none := fun b hb => by
  rcases List.mem_cons.mp (I.stkSub b hb) with e | hb
  · rw [e]; exact I.free
  · obtain ⟨_, o, ho, _⟩ := I.ok.funs.mem hb
    exact I.base.free b o ho (I.ok.frf b hb) fun z => I.ok.exfs b z hb
theorem Inv.step {g' : Array GenState} {t' : Nat} {d' : Drawn} {ch : List Addr} (I : Inv X pins σ H s)
    (hch : ∀ b ∈ ch, (b ∈ X.ex ∨ X.s₀.heap.objs.size ≤ b) ∧ b ≠ X.env.locals ∧ (∀ x c, X.env.cells.lookup x = some c → c ≠ b) ∧ ∀ p ∈ X.pn ++ pins, p.1 ≠ b)
    (keep : ∀ b o, b ≠ X.env.locals → b ∉ X.fs → b ∉ ch → s.heap.get? b = some o → H b = none → h'.get? b = some o)
    (slot : ∀ b o, b ≠ X.env.locals → b ∈ X.fs → b ∉ ch → s.heap.get? b = some o → H b = none → ∃ sl, h'.get? b = some { o with slots := sl }) (free : ∀ b o, b ∉ ch → s.heap.get? b = some o → H b = none → H' b = none)
    (there : ∀ b o, b ∉ ch → s.heap.get? b = some o → ∃ o', h'.get? b = some o')
    (tups : ∀ b xs, H b = some (.tup xs) → H' b = some (.tup xs)) (frzs : ∀ b o u, H b = some (.frz o u) → H' b = some (.frz o u)) (tbls : ∀ b ps, H b = some (.tbl ps) → ∃ more, H' b = some (.tbl (ps ++ more)))
    (ns : ∀ m, s.heap.Ns X.env.locals m → h'.Ns X.env.locals m) (hok : HOk X.prog X.w H' h') (hg : AllBare g') :
    Inv X pins σ H' { s with heap := h', gens := g', drawn := d', toks := t' } := by
  have neL : ∀ b o, X.s₀.heap.get? b = some o → b ≠ X.env.locals := fun b o e => Nat.ne_of_lt (Nat.lt_of_lt_of_le (Heap.lt_size e) I.ok.above)
  have neC : ∀ b o, X.s₀.heap.get? b = some o → b ∉ X.ex → b ∉ ch := fun b o e hx hb => by
    rcases (hch b hb).1 with z | z
    · exact hx z
    · exact absurd (Nat.lt_of_lt_of_le (Heap.lt_size e) z) (Nat.lt_irrefl _)
  have cellK : ∀ x c, X.env.cells.lookup x = some c → ∀ v, s.heap.IsCell c v → h'.IsCell c v := fun x c e v ⟨o, ho, hd⟩ => by
    have nch : c ∉ ch := fun z => (hch c z).2.2.1 x c e rfl
    by_cases hc : c ∈ X.fs
    · obtain ⟨sl, q⟩ := slot c o (I.cne x c e) hc nch ho (I.freeC x c e)
      exact ⟨_, q, hd⟩
    · exact ⟨o, keep c o (I.cne x c e) hc nch ho (I.freeC x c e), hd⟩
  refine ⟨I.ok, I.os, hg, ⟨fun b o e n hb hx => ?_, fun b o e n hb hx => ?_, fun b o e n hx => ?_, fun b o e hx => ?_, fun b xs e => tups b xs (I.base.tups b xs e), fun b o xs e => frzs b o xs (I.base.frzs b o xs e), fun b ps e => ?_⟩, ?_, fun x c e => ?_, ?_, fun x c e => ?_, fun p hp => ?_, hok, I.len⟩
  · exact keep b o (neL b o e) hb (neC b o e hx) (I.base.keep b o e n hb hx) (I.base.free b o e n hx)
  · obtain ⟨sl, e1⟩ := I.base.slot b o e n hb hx
    obtain ⟨sl', e2⟩ := slot b _ (neL b o e) hb (neC b o e hx) e1 (I.base.free b o e n hx)
    exact ⟨sl', e2⟩
  · obtain ⟨o', e1⟩ := I.base.there b o e hx
    exact free b o' (neC b o e hx) e1 (I.base.free b o e n hx)
  · obtain ⟨o', e1⟩ := I.base.there b o e hx
    exact there b o' (neC b o e hx) e1
  · obtain ⟨m1, e1⟩ := I.base.tbls b ps e
    obtain ⟨m2, e2⟩ := tbls b _ e1
    exact ⟨m1 ++ m2, by rw [e2, Array.append_assoc]⟩
  · obtain ⟨m, hn, hl⟩ := I.loc
    refine ⟨m, ns m hn, fun i x v e1 e2 e3 => ?_⟩
    obtain ⟨u, r, l⟩ := hl i x v e1 e2 e3
    refine ⟨u, r, ?_⟩
    rcases l with l | ⟨k, c, e, z⟩
    · exact .inl l
    · exact .inr ⟨k, c, e, cellK x c e _ z⟩
  · obtain ⟨v, z⟩ := I.cell x c e
    exact ⟨v, cellK x c e v z⟩
  · obtain ⟨m, ⟨o, _, _, ho, _⟩, _⟩ := I.loc
    exact free _ o (fun z => (hch _ z).2.1 rfl) ho I.free
  · obtain ⟨v, o, ho, hd⟩ := I.cell x c e
    exact free c o (fun z => (hch c z).2.2.1 x c e rfl) ho (I.freeC x c e)
  · obtain ⟨e, n, ne, nf, d⟩ := I.pin p hp
    have nch : p.1 ∉ ch := fun z => (hch p.1 z).2.2.2 p hp rfl
    exact ⟨keep p.1 p.2 ne nf nch e n, free p.1 p.2 nch e n, ne, nf, d⟩
theorem Inv.un {t' : Nat} (I : Inv X pins σ H s) (u : Un X.fs [] H H' s.heap h') (hok : HOk X.prog X.w H' h') : Inv X pins σ H' { s with heap := h', toks := t' } := by
  obtain ⟨m, ⟨o, es, ep, ho, r⟩, _⟩ := id I.loc
  obtain ⟨sl, hL⟩ := u.any ho I.free (by simp)
  exact I.step (g' := s.gens) (d' := s.drawn) (ch := []) (fun _ z => nomatch z) (fun b o _ hb _ e n => u.keep b o e n hb (by simp)) (fun b o _ hb _ e n => u.slot b o e n hb (by simp)) (fun b o _ e n => u.free b o e n (by simp)) (fun b o _ e => u.there b o e (by simp)) u.tups u.frzs u.tbls (fun m' hm => by
    obtain ⟨o', es', ep', ho', r'⟩ := hm
    rw [ho] at ho'; cases ho'
    exact ⟨_, es', ep', hL, r'⟩) hok I.bare
theorem Inv.call {g' : Array GenState} {t' : Nat} {d' : Drawn} {ch : List Addr} (I : Inv X pins σ H s) (u : Un (frs X.stack) ch H H' s.heap h') (hok : HOk X.prog X.w H' h') (hg : AllBare g')
    (hch : ∀ b ∈ ch, (b ∈ X.ex ∨ X.s₀.heap.objs.size ≤ b) ∧ b ≠ X.env.locals ∧ (∀ x c, X.env.cells.lookup x = some c → c ≠ b) ∧ ∀ p ∈ X.pn ++ pins, p.1 ≠ b) :
    Inv X pins σ H' { s with heap := h', gens := g', drawn := d', toks := t' } := by
  obtain ⟨m, ⟨o, es, ep, ho, r⟩, _⟩ := id I.loc
  obtain ⟨sl, hL⟩ := u.any ho I.free fun z => (hch _ z).2.1 rfl
  exact I.step (ch := ch) hch (fun b o hL hb hc e n => u.keep b o e n (fun z => (List.mem_cons.mp (I.stkSub b z)).elim hL hb) hc) (fun b o _ _ hc e n => u.any e n hc) (fun b o hc e n => u.free b o e n hc) (fun b o hc e => u.there b o e hc) u.tups u.frzs u.tbls (fun m' hm => by
    obtain ⟨o', es', ep', ho', r'⟩ := hm
    rw [ho] at ho'; cases ho'
    exact ⟨_, es', ep', hL, r'⟩) hok hg
theorem Inv.turned {t' : Nat} {it : Addr} (I : Inv X pins σ H s) (k : ∀ b o, b ≠ it → s.heap.get? b = some o → h'.get? b = some o) (hn : H it = none) (hL : it ≠ X.env.locals)
    (h1 : it ∈ X.ex ∨ X.s₀.heap.objs.size ≤ it) (h2 : ∀ x c, X.env.cells.lookup x = some c → c ≠ it) (h3 : ∀ p ∈ X.pn ++ pins, p.1 ≠ it) : Inv X pins σ H { s with heap := h', toks := t' } := by
  have nit : ∀ b u, H b = some u → b ≠ it := fun b u e z => by rw [z, hn] at e; cases e
  refine I.step (g' := s.gens) (d' := s.drawn) (ch := [it]) (fun b hb => ?_) (fun b o _ _ hc e _ => k b o (fun z => hc (by simp [z])) e) (fun b o _ _ hc e _ => ⟨o.slots, k b o (fun z => hc (by simp [z])) e⟩) (fun _ _ _ _ n => n)
    (fun b o hc e => ⟨o, k b o (fun z => hc (by simp [z])) e⟩) (fun _ _ e => e) (fun _ _ _ e => e) (fun b ps e => ⟨#[], by rw [e]; simp⟩) (fun m hm => ?_) (fun b u e => ?_) I.bare
  · have e : b = it := by simpa using hb
    subst e
    exact ⟨h1, hL, h2, h3⟩
  · obtain ⟨o, es, ep, ho, r⟩ := hm
    exact ⟨o, es, ep, k _ o (Ne.symm hL) ho, r⟩
  · refine (I.hok b u e).stay (fun c v hc q => k c v ?_ q) (fun _ q => q) fun _ _ q => q
    rcases hc with z | z
    · rw [z]; exact nit b u e
    · exact nit c _ z
theorem Inv.tok (I : Inv X pins σ H s) (t : Nat) : Inv X pins σ H { s with toks := t } := I.un (h' := s.heap) (t' := t) Un.refl I.hok
theorem Inv.kept {t' : Nat} (I : Inv X pins σ H s) (k : ∀ b u, s.heap.get? b = some u → h'.get? b = some u) : Inv X pins σ H { s with heap := h', toks := t' } := I.un (Un.kept k) (I.hok.kept k)
theorem Inv.laid {a : Addr} {o : HO} {t' : Nat} (I : Inv X pins σ H s) (k : ∀ b u, s.heap.get? b = some u → h'.get? b = some u) (hp : s.heap.objs.size ≤ a) (new : ObjOk X.prog X.w (upd H a o) h' a o) :
    Inv X pins σ (upd H a o) { s with heap := h', toks := t' } := I.un (Un.laid k hp (I.hok.fresh hp)) (I.hok.laid k hp new)
theorem Inv.write {x e : Addr} {o : HO} {t' : Nat} (I : Inv X pins σ H s) (mu : Mut (H x)) (he : e = x ∨ H e = some (.own x)) (k : ∀ b u, b ≠ e → s.heap.get? b = some u → h'.get? b = some u) (heo : ∃ u, h'.get? e = some u)
    (new : ObjOk X.prog X.w (upd H x o) h' x o) : Inv X pins σ (upd H x o) { s with heap := h', toks := t' } := I.un (Un.write mu he k heo) (I.hok.write mu he k heo new)
theorem Inv.weak {σ' : List (Option V)} (I : Inv X pins σ H s) (hl : σ'.length = σ.length) (w : ∀ (i : Nat) v, σ'[i]? = some (some v) → σ[i]? = some (some v)) : Inv X pins σ' H s :=
  ⟨I.ok, I.os, I.bare, I.base, let ⟨m, hn, hl'⟩ := I.loc; ⟨m, hn, fun i x v e1 e2 e3 => hl' i x v e1 (w i v e2) e3⟩, I.cell, I.free, I.freeC, I.pin, I.hok, hl.trans I.len⟩
theorem Inv.pins_of {pins' : List (Addr × Obj)} (I : Inv X pins σ H s) (h : ∀ p ∈ pins', s.heap.get? p.1 = some p.2 ∧ H p.1 = none ∧ p.1 ≠ X.env.locals ∧ p.1 ∉ X.fs ∧ ∀ v, p.2.data ≠ .cell v) : Inv X pins' σ H s :=
  ⟨I.ok, I.os, I.bare, I.base, I.loc, I.cell, I.free, I.freeC, fun p hp => (List.mem_append.mp hp).elim (fun z => I.pin p (List.mem_append_left _ z)) (h p), I.hok, I.len⟩
theorem nodup_ix {N : List Str} (hN : N.Nodup) {i j : Nat} {x : Str} (a : N[i]? = some x) (b : N[j]? = some x) : i = j := by
  obtain ⟨h1, e1⟩ := List.getElem?_eq_some_iff.mp a
  obtain ⟨h2, e2⟩ := List.getElem?_eq_some_iff.mp b
  exact (List.getElem_inj hN).mp (e1.trans e2.symm)
theorem store_ok2 {M : Model} {A : Around} {E : Value → Shared → Prop} {i : Nat} {x : Str} {v : V} {u : Value} {Q : Unit → Shared → Prop} (I : Inv X pins σ H s) (hN : X.N.Nodup) (hi : X.N[i]? = some x) (hx : Loc X.env.scope x) (r : RelV v u)
    (h : ∀ s', Inv X pins (σ.set i (some v)) H s' → (∃ a, Heap.SameBut a s.heap s'.heap ∧ (a = X.env.locals ∨ X.env.cells.lookup x = some a)) → Q () s') (hf : X.fn x = true ∨ X.env.scope.names.lookup x = some .local := by first | exact .inl rfl | exact .inr rfl | assumption) : wpAny M A (storeName X.env x u) Q E s := by
  obtain ⟨m, hn, hl⟩ := id I.loc
  have hcls : (X.env.scope.kind == .class || (X.env.scope.kind == .module && X.env.locals != X.env.globals)) = false := by rw [I.ok.kind]; rfl
  have hiσ : i < σ.length := by rw [I.len]; exact (List.getElem?_eq_some_iff.mp hi).1
  have cne := I.cne
  have tracked : ∀ {a : Addr} {h' : Heap}, (∃ o, s.heap.get? a = some o ∧ H a = none) → Heap.SameBut a s.heap h' → HOk X.prog X.w H h' := fun {a h'} ha hs b ob e => by
    obtain ⟨_, _, hfree⟩ := ha
    refine (I.hok b ob e).stay (fun c w' hc q => (hs.2 c ?_).trans q) (fun _ q => q) fun _ _ q => q
    rintro rfl
    rcases hc with rfl | hc
    · rw [hfree] at e; cases e
    · rw [hfree] at hc; cases hc
  rcases hx with hk | hk
  · refine wpAny_storeName_local hk hn (fun h' hn' hs => ?_) hcls
    obtain ⟨oL, _, _, hoL, _⟩ := id hn
    refine h _ ⟨I.ok, I.os, I.bare, ⟨fun b o e n hb hx => ?_, fun b o e n hb hx => ?_, I.base.free, fun b o e hx => ?_, I.base.tups, I.base.frzs, I.base.tbls⟩, ⟨_, hn', fun j y v' e1 e2 e3 => ?_⟩, fun y c e => ?_, I.free, I.freeC, fun p hp => ?_, tracked ⟨oL, hoL, I.free⟩ hs, by simpa using I.len⟩ ⟨_, hs, .inl rfl⟩
    · exact (hs.2 b (Nat.ne_of_lt (Nat.lt_of_lt_of_le (Heap.lt_size e) I.ok.above))).trans (I.base.keep b o e n hb hx)
    · obtain ⟨sl, e1⟩ := I.base.slot b o e n hb hx
      exact ⟨sl, (hs.2 b (Nat.ne_of_lt (Nat.lt_of_lt_of_le (Heap.lt_size e) I.ok.above))).trans e1⟩
    · obtain ⟨o', e1⟩ := I.base.there b o e hx
      exact ⟨o', (hs.2 b (Nat.ne_of_lt (Nat.lt_of_lt_of_le (Heap.lt_size e) I.ok.above))).trans e1⟩
    · by_cases hj : j = i
      · subst hj
        rw [hi] at e1; cases e1
        rw [List.getElem?_set_self hiσ] at e2
        cases e2
        exact ⟨u, r, .inl ⟨hk, by simp⟩⟩
      · rw [List.getElem?_set_ne (Ne.symm hj)] at e2
        obtain ⟨u', r', q⟩ := hl j y v' e1 e2 e3
        refine ⟨u', r', ?_⟩
        rcases q with ⟨k, e⟩ | ⟨k, c, e, z⟩
        · refine .inl ⟨k, ?_⟩
          have : y ≠ x := fun e => hj (nodup_ix hN e1 (e ▸ hi))
          simp [this, e]
        · exact .inr ⟨k, c, e, z.sameBut hs (cne y c e)⟩
    · obtain ⟨w', z⟩ := I.cell y c e
      exact ⟨w', z.sameBut hs (cne y c e)⟩
    · obtain ⟨e, n, ne, nf, d⟩ := I.pin p hp
      exact ⟨(hs.2 p.1 ne).trans e, n, ne, nf, d⟩
  · have hfn : X.fn x = true := by
      rcases hf with z | z
      · exact z
      · rw [z] at hk; cases hk
    obtain ⟨c, hc⟩ := I.ok.has x (.inl hk)
    obtain ⟨w', z⟩ := I.cell x c hc
    refine wpAny_storeName_cell I.ok.kind hk hc z (fun h' hc' hs => ?_)
    obtain ⟨oc, hoc, hocd⟩ := id z
    refine h { s with heap := h' } ⟨I.ok, I.os, I.bare, ⟨fun b o e n hb hx => ?_, fun b o e n hb hx => ?_, I.base.free, fun b o e hx => ?_, I.base.tups, I.base.frzs, I.base.tbls⟩, ⟨m, hn.sameBut hs (Ne.symm (cne x c hc)), fun j y v' e1 e2 e3 => ?_⟩, fun y c' e => ?_, I.free, I.freeC, fun p hp => ?_, tracked ⟨oc, hoc, I.freeC x c hc⟩ hs, by simpa using I.len⟩ ⟨c, hs, .inr hc⟩
    · exact (hs.2 b (Nat.ne_of_lt (Nat.lt_of_lt_of_le (Heap.lt_size e) (I.ok.cab x c hfn hc)))).trans (I.base.keep b o e n hb hx)
    · obtain ⟨sl, e1⟩ := I.base.slot b o e n hb hx
      exact ⟨sl, (hs.2 b (Nat.ne_of_lt (Nat.lt_of_lt_of_le (Heap.lt_size e) (I.ok.cab x c hfn hc)))).trans e1⟩
    · obtain ⟨o', e1⟩ := I.base.there b o e hx
      exact ⟨o', (hs.2 b (Nat.ne_of_lt (Nat.lt_of_lt_of_le (Heap.lt_size e) (I.ok.cab x c hfn hc)))).trans e1⟩
    · by_cases hj : j = i
      · subst hj
        rw [hi] at e1; cases e1
        rw [List.getElem?_set_self hiσ] at e2
        cases e2
        exact ⟨u, r, .inr ⟨.inl hk, c, hc, hc'⟩⟩
      · rw [List.getElem?_set_ne (Ne.symm hj)] at e2
        obtain ⟨u', r', q⟩ := hl j y v' e1 e2 e3
        refine ⟨u', r', ?_⟩
        rcases q with q | ⟨k, c', e, z'⟩
        · exact .inl q
        · refine .inr ⟨k, c', e, z'.sameBut hs ?_⟩
          rintro rfl
          exact hj (nodup_ix hN e1 (I.ok.inj _ _ _ e hc ▸ hi))
    · by_cases hcc : c' = c
      · subst hcc; exact ⟨_, hc'⟩
      · obtain ⟨w2, z2⟩ := I.cell y c' e
        exact ⟨w2, z2.sameBut hs hcc⟩
    · obtain ⟨e, n, ne, nf, d⟩ := I.pin p hp
      refine ⟨(hs.2 p.1 ?_).trans e, n, ne, nf, d⟩
      intro q
      rw [q, hoc] at e
      have q' : oc = p.2 := Option.some.inj e
      exact d w' (by rw [← q']; exact hocd)
theorem store_ok {M : Model} {A : Around} {E : Value → Shared → Prop} {i : Nat} {x : Str} {v : V} {u : Value} {Q : Unit → Shared → Prop} (I : Inv X pins σ H s) (hN : X.N.Nodup) (hi : X.N[i]? = some x) (hx : Loc X.env.scope x) (r : RelV v u)
    (h : ∀ s', Inv X pins (σ.set i (some v)) H s' → Q () s') (hf : X.fn x = true ∨ X.env.scope.names.lookup x = some .local := by first | exact .inl rfl | exact .inr rfl | assumption) : wpAny M A (storeName X.env x u) Q E s :=
  store_ok2 I hN hi hx r (fun s' I' _ => h s' I') hf
theorem Inv.call' {s' : Shared} {ch : List Addr} (I : Inv X pins σ H s) (ho : s'.os = s.os) (u : Un (frs X.stack) ch H H' s.heap s'.heap) (hok : HOk X.prog X.w H' s'.heap) (hg : AllBare s'.gens)
    (hch : ∀ b ∈ ch, (b ∈ X.ex ∨ X.s₀.heap.objs.size ≤ b) ∧ b ≠ X.env.locals ∧ (∀ x c, X.env.cells.lookup x = some c → c ≠ b) ∧ ∀ p ∈ X.pn ++ pins, p.1 ≠ b) : Inv X pins σ H' s' := by
  obtain ⟨h', g', d', t', o'⟩ := s'
  have e : o' = s.os := ho
  subst e
  exact I.call (g' := g') (t' := t') (d' := d') u hok hg hch
end
abbrev XK := Value → Option Addr → Hp → Prop
abbrev St := List (Option V)
abbrev VK := V → Hp → Prop
abbrev TE := St → Hp → VK → Prop
abbrev TT := St → Hp → (Bool → Hp → Prop) → Prop
abbrev TA := St → Hp → (List V → Hp → Prop) → Prop
structure Ends where
  nx : St → Hp → Prop
  rt : VK
  bk : St → Hp → Prop := fun _ _ => False
  ct : St → Hp → Prop := fun _ _ => False
abbrev TS := Ends → St → Hp → Prop
def EP (X : Cx) (pins : List (Addr × Obj)) (σ : St) (Q : VK) (u : Value) (s' : Shared) : Prop := ∃ v H', Inv X pins σ H' s' ∧ RelV v u ∧ Q v H'
def TP (X : Cx) (pins : List (Addr × Obj)) (σ : St) (Q : Bool → Hp → Prop) (b : Bool) (s' : Shared) : Prop := ∃ H', Inv X pins σ H' s' ∧ Q b H'
def AP (X : Cx) (pins : List (Addr × Obj)) (σ : St) (Q : List V → Hp → Prop) (us : List Value) (s' : Shared) : Prop := ∃ vs H', Inv X pins σ H' s' ∧ Vals vs us ∧ Q vs H'
def SP (X : Cx) (pins : List (Addr × Obj)) (D : Ends) (f : Flow) (s' : Shared) : Prop :=
  match f with
  | .next => ∃ σ' H', Inv X pins σ' H' s' ∧ D.nx σ' H'
  | .brk => ∃ σ' H', Inv X pins σ' H' s' ∧ D.bk σ' H'
  | .cont => ∃ σ' H', Inv X pins σ' H' s' ∧ D.ct σ' H'
  | .ret u => ∃ v σ' H', Inv X pins σ' H' s' ∧ RelV v u ∧ D.rt v H'
def PE (X : Cx) (e : Expr) (t : TE) : Prop :=
  ∀ (pins : List (Addr × Obj)) (s : Shared) (σ : St) (H : Hp) (Q : VK), Inv X pins σ H s → t σ H Q → wpAny (model X.prog X.w) X.A (eval e X.env) (EP X pins σ Q) X.xe s
def PT (X : Cx) (e : Expr) (t : TT) : Prop :=
  ∀ (pins : List (Addr × Obj)) (s : Shared) (σ : St) (H : Hp) (Q : Bool → Hp → Prop), Inv X pins σ H s → t σ H Q → wpAny (model X.prog X.w) X.A (isTrue e X.env (eval e X.env)) (TP X pins σ Q) X.xe s
def PW (X : Cx) (e : Expr) (t : TT) : Prop :=
  ∀ (whole : Sem Value) (pins : List (Addr × Obj)) (s : Shared) (σ : St) (H : Hp) (Q : Bool → Hp → Prop), Inv X pins σ H s → t σ H Q → wpAny (model X.prog X.w) X.A (isTrue e X.env whole) (TP X pins σ Q) X.xe s
theorem PW.pt {X : Cx} {e : Expr} {t : TT} (h : PW X e t) : PT X e t := h _
def PA (X : Cx) (es : List Expr) (t : TA) : Prop :=
  ∀ (pos : Pos) (pins : List (Addr × Obj)) (s : Shared) (σ : St) (H : Hp) (Q : List V → Hp → Prop), Inv X pins σ H s → t σ H Q → wpAny (model X.prog X.w) X.A (spliced (backTo pos (starEach es X.env))) (AP X pins σ Q) X.xe s
def PS (X : Cx) (st : Stmt) (t : TS) : Prop :=
  ∀ (pins : List (Addr × Obj)) (s : Shared) (σ : St) (H : Hp) (D : Ends), Inv X pins σ H s → t D σ H → wpAny (model X.prog X.w) X.A (exec st X.env) (SP X pins D) X.xe s
def PSs (X : Cx) (st : List Stmt) (t : TS) : Prop :=
  ∀ (pins : List (Addr × Obj)) (s : Shared) (σ : St) (H : Hp) (D : Ends), Inv X pins σ H s → t D σ H → wpAny (model X.prog X.w) X.A (execs st X.env) (SP X pins D) X.xe s
theorem thn {α : Type} {t : Sem α} {Q Q' : α → Shared → Prop} {M : Model} {A : Around} {E : Value → Shared → Prop} {s : Shared} (h : wpAny M A t Q E s) (hQ : ∀ a s, Q a s → Q' a s) : wpAny M A t Q' E s := wpAny_mono h hQ fun _ _ x => x
end L2
namespace L2
open PySem PySem.Spec PyProof.Rows
section
variable {X : Cx}
def tVar (i : Nat) : TE := fun σ H Q => ∃ v, σ[i]? = some (some v) ∧ Q v H
def tC (v : V) : TE := fun _ H Q => Q v H
theorem pe_var {i : Nat} {x : Str} {pos : Pos} (hN : X.N[i]? = some x) (hv : Vis X.env.scope x) (hd : (x == ("__debug__" : Str)) = false := by decide) (hcd : (x == ("__classdict__" : Str)) = false := by decide) : PE X (.Name x pos) (tVar i) := by
  intro pins s σ H Q I h
  obtain ⟨v, e, h⟩ := h
  obtain ⟨m, hn, hl⟩ := I.loc
  obtain ⟨u, r, l⟩ := hl i x v hN e hv
  have fin : EP X pins σ Q u s := ⟨v, H, I, r, h⟩
  rcases l with ⟨hk, hm⟩ | ⟨hk, c, hc, hcell⟩
  · exact wpAny_Name (wpAny_loadName_local I.ok.kind hk hn hm fin) hd
  · rcases hk with hk | hk
    · exact wpAny_Name (wpAny_loadName_cell I.ok.kind hk hc hcell fin) hd
    · exact wpAny_Name (wpAny_loadName_free I.ok.kind hk hc hcell fin hcd) hd
theorem pe_int {i j pos} : PE X (.Constant (.int i) j pos) (tC (.int i)) := fun _ _ _ H _ I h => wpAny_Constant_int ⟨.int i, H, I.tok _, ⟨_, rfl⟩, h⟩
theorem pe_bl {b j pos} : PE X (.Constant (.bool b) j pos) (tC (.bl b)) := fun _ _ _ H _ I h => Constant_bool ⟨.bl b, H, I, rfl, h⟩
theorem pe_str {x j pos} : PE X (.Constant (.str x) j pos) (tC (.str x)) := fun _ _ _ H _ I h => Calls.Constant_str ⟨.str x, H, I.tok _, ⟨_, rfl⟩, h⟩
def Gl (X : Cx) (x : Str) : Prop := X.env.kindOf x = some .globalImplicit
theorem ld_glob {E : Value → Shared → Prop} {pins : List (Addr × Obj)} {s : Shared} {σ : St} {H : Hp} {x : Str} {u : Value} {pos : Pos} {Q : Value → Shared → Prop} (I : Inv X pins σ H s) (hg : Gl X x) (hm : X.mg x = some u) (h : Q u s)
    (hd : (x == ("__debug__" : Str)) = false := by decide) : wpAny (model X.prog X.w) X.A (eval (.Name x pos) X.env) Q E s :=
  Calls.Name_function_global I.ok.kind hg (Calls.loadGlobal_global (by rw [I.ok.glob]; exact I.mod.glob.keeps I.bk) hm h) hd
theorem ld_blt {E : Value → Shared → Prop} {pins : List (Addr × Obj)} {s : Shared} {σ : St} {H : Hp} {x : Str} {u : Value} {pos : Pos} {Q : Value → Shared → Prop} (I : Inv X pins σ H s) (hg : Gl X x) (hm : X.mg x = none) (hv : bootBuiltins x = some u) (h : Q u s)
    (hn : x ≠ "__name__" := by decide) (hd : (x == ("__debug__" : Str)) = false := by decide) : wpAny (model X.prog X.w) X.A (eval (.Name x pos) X.env) Q E s := by
  obtain ⟨mb, h1, h2⟩ := I.mod.blt
  exact Calls.Name_function_global I.ok.kind hg (Calls.loadGlobal_builtin (by rw [I.ok.glob]; exact I.mod.glob.keeps I.bk) hm (by rw [I.ok.blt]; exact h1.keeps I.bk) ((h2 x hn).trans hv) h) hd
theorem pe_glob {x : Str} {v : V} {u : Value} {pos : Pos} (hg : Gl X x) (hm : X.mg x = some u) (r : RelV v u) (hd : (x == ("__debug__" : Str)) = false := by decide) : PE X (.Name x pos) (tC v) :=
  fun _ _ _ H _ I h => ld_glob I hg hm ⟨v, H, I, r, h⟩ hd
variable {a b : Expr} {ta tb : TE} {pos : Pos}
def PC (X : Cx) (op : CmpOp) (a b : Expr) (t : TE) : Prop :=
  ∀ (pins : List (Addr × Obj)) (s : Shared) (σ : St) (H : Hp) (Q : VK), Inv X pins σ H s → t σ H Q →
    wpAny (model X.prog X.w) X.A (eval a X.env) (fun v s₁ => wpAny (model X.prog X.w) X.A (eval b X.env) (fun u s₂ => wpAny (model X.prog X.w) X.A (compareOp op v u) (EP X pins σ Q) X.xe s₂) X.xe s₁) X.xe s
def tB (t : TE) : TT := fun σ H Q => t σ H fun x H1 => ∃ c, x = .bl c ∧ Q c H1
theorem pt_cmp {op : CmpOp} {t : TE} (h : PC X op a b t) (h1 : behindInMarks op b = false := by first | exact nobehind _ (by decide) (by decide) | rfl) : PT X (.Compare a [op] [b] pos) (tB t) := by
  intro pins s σ H Q I hw
  refine wpAny_isTrue_Compare1 (thn (h pins s σ H _ I hw) fun v s1 h1 => thn h1 fun u s2 h2 => thn h2 fun c s3 ⟨x, H1, I1, r1, q1⟩ => ?_) h1
  obtain ⟨d, rfl, q⟩ := q1
  cases r1
  exact wpAny_truthy_bool ⟨H1, I1, q⟩
theorem pt_val {e : Expr} {t : TE} (h : PE X e t) (he : ∀ whole, isTrue e X.env whole = (do let v ← whole; standAt e.pos; holding [v] (truthy v)) := by intro _; rfl) : PT X e (tB t) := by
  intro pins s σ H Q I hw
  refine isTrue_plain (thn (h pins s σ H _ I hw) fun v s1 ⟨x, H1, I1, r1, q1⟩ => ?_) (he _)
  obtain ⟨d, rfl, q⟩ := q1
  cases r1
  exact wpAny_truthy_bool ⟨H1, I1, q⟩
variable {tA tB' : TT} {rest : List Expr}
def tAnd (t u : TT) : TT := fun σ H Q => t σ H fun c H1 => if c = true then u σ H1 Q else Q false H1
def tOr (t u : TT) : TT := fun σ H Q => t σ H fun c H1 => if c = true then Q true H1 else u σ H1 Q
def tNot (t : TT) : TT := fun σ H Q => t σ H fun c H1 => Q (!c) H1
theorem pw_and1 (ha : PT X a tA) : PW X (.BoolOp .And [a] pos) tA := by
  intro wh pins s σ H Q I h
  refine isTrue_and (thn (ha pins s σ H Q I h) fun c s1 e => ?_)
  cases c with
  | true => exact isTrue_and_nil e
  | false => exact e
theorem pw_or1 (ha : PT X a tA) : PW X (.BoolOp .Or [a] pos) tA := by
  intro wh pins s σ H Q I h
  refine isTrue_or (thn (ha pins s σ H Q I h) fun c s1 e => ?_)
  cases c with
  | false => exact isTrue_or_nil e
  | true => exact e
theorem pw_and (ha : PT X a tA) (hb : PW X (.BoolOp .And (b :: rest) pos) tB') : PW X (.BoolOp .And (a :: b :: rest) pos) (tAnd tA tB') := by
  intro wh pins s σ H Q I h
  refine isTrue_and (thn (ha pins s σ H _ I h) fun c s1 ⟨H1, I1, q1⟩ => ?_)
  cases c with
  | true => exact hb wh pins s1 σ H1 Q I1 q1
  | false => exact ⟨H1, I1, q1⟩
theorem pw_or (ha : PT X a tA) (hb : PW X (.BoolOp .Or (b :: rest) pos) tB') : PW X (.BoolOp .Or (a :: b :: rest) pos) (tOr tA tB') := by
  intro wh pins s σ H Q I h
  refine isTrue_or (thn (ha pins s σ H _ I h) fun c s1 ⟨H1, I1, q1⟩ => ?_)
  cases c with
  | true => exact ⟨H1, I1, q1⟩
  | false => exact hb wh pins s1 σ H1 Q I1 q1
theorem pt_not (ha : PT X a tA) : PT X (.UnaryOp .Not a pos) (tNot tA) := by
  intro pins s σ H Q I h
  exact isTrue_not (ha pins s σ H (fun c H1 => Q (!c) H1) I h)
def tAndV (ta tb : TE) : TE := fun σ H Q => ta σ H fun x H1 => ∃ c, x = .bl c ∧ if c = true then tb σ H1 Q else Q (.bl false) H1
def tOrV (ta tb : TE) : TE := fun σ H Q => ta σ H fun x H1 => ∃ c, x = .bl c ∧ if c = true then Q (.bl true) H1 else tb σ H1 Q
def tNotV (ta : TE) : TE := fun σ H Q => ta σ H fun x H1 => ∃ c, x = .bl c ∧ Q (.bl (!c)) H1
theorem pe_one {op} {t : TE} (h : PE X a t) : PE X (.BoolOp op [a] pos) t := fun pins s σ H Q I hw => BoolOp_one (h pins s σ H Q I hw)
theorem pe_and (ha : PE X a ta) (hb : PE X (.BoolOp .And (b :: rest) pos) tb) : PE X (.BoolOp .And (a :: b :: rest) pos) (tAndV ta tb) := by
  intro pins s σ H Q I h
  refine BoolOp_and (thn (ha pins s σ H _ I h) fun v s1 ⟨x, H1, I1, r1, q1⟩ => ?_)
  obtain ⟨c, rfl, q1⟩ := q1
  cases r1
  refine wpAny_truthy_bool ?_
  cases c with
  | true => exact hb pins s1 σ H1 Q I1 q1
  | false => exact ⟨.bl false, H1, I1, rfl, q1⟩
theorem pe_or (ha : PE X a ta) (hb : PE X (.BoolOp .Or (b :: rest) pos) tb) : PE X (.BoolOp .Or (a :: b :: rest) pos) (tOrV ta tb) := by
  intro pins s σ H Q I h
  refine BoolOp_or (thn (ha pins s σ H _ I h) fun v s1 ⟨x, H1, I1, r1, q1⟩ => ?_)
  obtain ⟨c, rfl, q1⟩ := q1
  cases r1
  refine wpAny_truthy_bool ?_
  cases c with
  | false => exact hb pins s1 σ H1 Q I1 q1
  | true => exact ⟨.bl true, H1, I1, rfl, q1⟩
theorem pe_not (ha : PE X a ta) : PE X (.UnaryOp .Not a pos) (tNotV ta) := by
  intro pins s σ H Q I h
  refine UnaryOp_ (thn (ha pins s σ H _ I h) fun v s1 ⟨x, H1, I1, r1, q1⟩ => ?_)
  obtain ⟨c, rfl, q1⟩ := q1
  cases r1
  exact not_of (wpAny_truthy_bool ⟨.bl (!c), H1, I1, rfl, q1⟩)
def tIf (t : TT) (ta tb : TE) : TE := fun σ H Q => t σ H fun c H1 => if c = true then ta σ H1 Q else tb σ H1 Q
theorem pe_ifExp {c : Expr} (hc : PT X c tA) (ha : PE X a ta) (hb : PE X b tb) : PE X (.IfExp c a b pos) (tIf tA ta tb) := by
  intro pins s σ H Q I h
  refine wpAny_IfExp (thn (hc pins s σ H _ I h) fun d s1 ⟨H1, I1, q1⟩ => ?_)
  cases d with
  | true => exact ha pins s1 σ H1 Q I1 q1
  | false => exact hb pins s1 σ H1 Q I1 q1
end
end L2
namespace L2
open PySem PySem.Spec PyProof.Rows
def SqL (K : PySem.W.Frag) (H : Hp) (a : Addr) (xs : List V) : Prop :=
  Rd H a (.lst xs) ∨
    ∃ (o : Obj) (its : Array Value) (n : Nat), K.lookup a = some o ∧ o.cls = .type "list" ∧ o.dict = none ∧ o.data = .seq its n ∧ its.size ≤ sizeLine ∧ Vals xs its.toList
def SqT (K : PySem.W.Frag) (H : Hp) (a : Addr) (xs : List V) : Prop :=
  Rd H a (.tup xs) ∨
    ∃ (o : Obj) (its : Array Value) (n : Nat), K.lookup a = some o ∧ o.cls = .type "tuple" ∧ o.data = .seq its n ∧ its.size ≤ sizeLine ∧ Vals xs its.toList
def absV : Value → Option V
  | .none => some .non
  | .bool b => some (.bl b)
  | .int i _ => some (.int i)
  | .str x _ => some (.str x)
  | .bytes b _ => some (.byt b)
  | .float b _ => some (.flt b)
  | .ref a => some (.ref a)
  | .type n => some (.ty n)
  | _ => none
theorem RelV.abs {x : V} {u : Value} (r : RelV x u) : absV u = some x := by
  cases x with
  | non => cases r; rfl
  | bl _ => cases r; rfl
  | int _ => obtain ⟨t, rfl⟩ := r; rfl
  | str _ => obtain ⟨t, rfl⟩ := r; rfl
  | byt _ => obtain ⟨t, rfl⟩ := r; rfl
  | flt _ => obtain ⟨t, rfl⟩ := r; rfl
  | ref _ => cases r; rfl
  | ty _ => cases r; rfl
theorem RelV.inj {x y : V} {u : Value} (r : RelV x u) (q : RelV y u) : x = y := Option.some.inj (r.abs.symm.trans q.abs)
theorem Vals.inj : ∀ {xs ys : List V} {us : List Value}, Vals xs us → Vals ys us → xs = ys
  | _, _, _, .nil, .nil => rfl
  | _, _, _, .cons r t, .cons r' t' => by rw [r.inj r', Vals.inj t t']
section
variable {X : Cx} {pins : List (Addr × Obj)} {σ : St} {H : Hp} {s : Shared} {a : Addr} {xs ys : List V}
theorem SqL.of {K : PySem.W.Frag} (h : H a = some (.lst xs)) : SqL K H a xs := .inl (.inl h)
theorem SqT.of {K : PySem.W.Frag} (h : H a = some (.tup xs)) : SqT K H a xs := .inl (.inl h)
theorem Inv.list (I : Inv X pins σ H s) (h : SqL X.K H a xs) : ∃ its : List Value, Vals xs its ∧ PlainL s.heap a its.toArray ∧ xs.length ≤ sizeLine := by
  rcases h with h | ⟨o, its, n, hk, hc, hd, hs, hz, r⟩
  · obtain ⟨z, its, n, r, e⟩ := h.ok I.hok
    exact ⟨its, r, ⟨_, n, e, rfl, rfl, rfl⟩, z⟩
  · refine ⟨its.toList, r, ⟨o, n, I.kIn a o hk, hc, hd, by simpa using hs⟩, ?_⟩
    have e := r.length
    simp only [Array.length_toList] at e
    omega
theorem Inv.tuple (I : Inv X pins σ H s) (h : SqT X.K H a xs) : ∃ its : List Value, Vals xs its ∧ IsTup s.heap a its.toArray ∧ xs.length ≤ sizeLine := by
  rcases h with h | ⟨o, its, n, hk, hc, hs, hz, r⟩
  · obtain ⟨z, its, r, p⟩ := h.ok I.hok
    exact ⟨its, r, p, z⟩
  · refine ⟨its.toList, r, ⟨o, I.kIn a o hk, hc, n, by simpa using hs⟩, ?_⟩
    have e := r.length
    simp only [Array.length_toList] at e
    omega
theorem Inv.list_inj (I : Inv X pins σ H s) (h : SqL X.K H a xs) (h' : SqL X.K H a ys) : xs = ys := by
  obtain ⟨its, r, ⟨o, n, e, _, _, d⟩, _⟩ := I.list h
  obtain ⟨its', r', ⟨o', n', e', _, _, d'⟩, _⟩ := I.list h'
  rw [e] at e'; cases e'
  rw [d] at d'
  injection d' with d1 _
  have : its = its' := by simpa using congrArg Array.toList d1
  subst this
  exact r.inj r'
theorem Inv.tuple_inj (I : Inv X pins σ H s) (h : SqT X.K H a xs) (h' : SqT X.K H a ys) : xs = ys := by
  obtain ⟨its, r, ⟨o, e, _, n, d⟩, _⟩ := I.tuple h
  obtain ⟨its', r', ⟨o', e', _, n', d'⟩, _⟩ := I.tuple h'
  rw [e] at e'; cases e'
  rw [d] at d'
  injection d' with d1 _
  have : its = its' := by simpa using congrArg Array.toList d1
  subst this
  exact r.inj r'
end
abbrev Cx.wish (X : Cx) (E : Value → Shared → Prop) : Cx := { X with xe := E }
abbrev Cx.nox (X : Cx) : Cx := X.wish fun _ _ => False
theorem Cx.Ok.wish {X : Cx} (ok : X.Ok) (E : Value → Shared → Prop) : (X.wish E).Ok :=
  ⟨ok.mod, ok.kind, ok.glob, ok.blt, ok.above, ok.inj, ok.has, ok.cab, ok.hd, ok.frames, ok.stk, ok.exf, ok.bs, ok.bsz, ok.noex, ok.exfs, ok.funs, ok.frf⟩
theorem Cx.Ok.unwish {X : Cx} {E : Value → Shared → Prop} (ok : (X.wish E).Ok) : X.Ok :=
  ⟨ok.mod, ok.kind, ok.glob, ok.blt, ok.above, ok.inj, ok.has, ok.cab, ok.hd, ok.frames, ok.stk, ok.exf, ok.bs, ok.bsz, ok.noex, ok.exfs, ok.funs, ok.frf⟩
section
variable {X : Cx} {pins : List (Addr × Obj)} {σ : St} {H : Hp} {s : Shared} {E : Value → Shared → Prop}
theorem Inv.wish (I : Inv X pins σ H s) (E : Value → Shared → Prop) : Inv (X.wish E) pins σ H s := ⟨I.ok.wish E, I.os, I.bare, I.base, I.loc, I.cell, I.free, I.freeC, I.pin, I.hok, I.len⟩
theorem Inv.unwish (I : Inv (X.wish E) pins σ H s) : Inv X pins σ H s := ⟨I.ok.unwish, I.os, I.bare, I.base, I.loc, I.cell, I.free, I.freeC, I.pin, I.hok, I.len⟩
theorem SP.unwish {D : Ends} {f : Flow} {s' : Shared} (h : SP (X.wish E) pins D f s') : SP X pins D f s' := by
  cases f with
  | next => obtain ⟨σ', H', I, q⟩ := h; exact ⟨σ', H', I.unwish, q⟩
  | brk => obtain ⟨σ', H', I, q⟩ := h; exact ⟨σ', H', I.unwish, q⟩
  | cont => obtain ⟨σ', H', I, q⟩ := h; exact ⟨σ', H', I.unwish, q⟩
  | ret u => obtain ⟨v, σ', H', I, r, q⟩ := h; exact ⟨v, σ', H', I.unwish, r, q⟩
theorem PSs.nox {st : List Stmt} {t : TS} (h : PSs X.nox st t) : PSs X st t := fun pins s σ H D I hw =>
  wpAny_mono (h pins s σ H D (I.wish _) hw) (fun _ _ q => q.unwish) fun _ _ z => False.elim z
end
section
variable {X : Cx} {st : Stmt} {rest : List Stmt} {t u : TS} {e : Expr} {te : TE} {pos : Pos}
def tNext : TS := fun D σ H => D.nx σ H
def tSeq (t u : TS) : TS := fun D σ H => t { D with nx := u D } σ H
theorem pss_nil : PSs X [] tNext := fun _ _ σ H _ I h => wpAny_execs_nil ⟨σ, H, I, h⟩
theorem pss_cons (h1 : PS X st t) (h2 : PSs X rest u) : PSs X (st :: rest) (tSeq t u) := by
  intro pins s σ H D I h
  refine wpAny_execs_cons (thn (h1 pins s σ H { D with nx := u D } I h) fun f s1 q => ?_)
  cases f with
  | next =>
    obtain ⟨σ', H', I', q⟩ := q
    exact h2 pins s1 σ' H' D I' q
  | ret v => exact q
  | brk => exact q
  | cont => exact q
theorem pss_one (h1 : PS X st t) : PSs X [st] t := by
  intro pins s σ H D I h
  refine wpAny_execs_cons (thn (h1 pins s σ H D I h) fun f s1 q => ?_)
  cases f with
  | next => exact wpAny_execs_nil q
  | ret v => exact q
  | brk => exact q
  | cont => exact q
theorem Inv.quiet {pins : List (Addr × Obj)} {σ : St} {H : Hp} {s : Shared} (I : Inv X pins σ H s) : interactive X.env = false := by simp [interactive, I.ok.kind]
def tDrop (te : TE) : TS := fun D σ H => te σ H fun _ H1 => D.nx σ H1
theorem ps_expr (he : PE X e te) (hs : swapsWith e none pos.line X.env = pure false := by rfl) : PS X (.Expr e pos) (tDrop te) := by
  intro pins s σ H D I h
  exact wpAny_Expr_any (thn (he pins s σ H _ I h) fun v s1 ⟨x, H1, I1, r1, q1⟩ => ⟨σ, H1, I1, q1⟩) I.quiet hs
def tRet (te : TE) : TS := fun D σ H => te σ H D.rt
theorem ps_ret (he : PE X e te) : PS X (.Return (some e) pos) (tRet te) := by
  intro pins s σ H D I h
  exact wpAny_Return_some (thn (he pins s σ H _ I h) fun v s1 ⟨x, H1, I1, r1, q1⟩ => ⟨x, σ, H1, I1, r1, q1⟩)
def tIfS (c : TT) (t u : TS) : TS := fun D σ H => c σ H fun b H1 => if b = true then t D σ H1 else u D σ H1
theorem ps_if {c : Expr} {a b : List Stmt} {tc : TT} (hc : PT X c tc) (ha : PSs X a t) (hb : PSs X b u) : PS X (.If c a b pos) (tIfS tc t u) := by
  intro pins s σ H D I h
  refine wpAny_If (thn (hc pins s σ H _ I h) fun d s1 ⟨H1, I1, q1⟩ => ?_)
  cases d with
  | true => exact ha pins s1 σ H1 D I1 q1
  | false => exact hb pins s1 σ H1 D I1 q1
end
abbrev TG := V → St → Hp → (St → Hp → Prop) → Prop
abbrev TGs := List V → St → Hp → (St → Hp → Prop) → Prop
def PG (X : Cx) (target : Expr) (t : TG) : Prop :=
  ∀ (pins : List (Addr × Obj)) (s : Shared) (σ : St) (H : Hp) (v : V) (u : Value) (Q : St → Hp → Prop), Inv X pins σ H s → RelV v u → t v σ H Q →
    wpAny (model X.prog X.w) X.A (assign target X.env u) (fun _ s' => ∃ σ' H', Inv X pins σ' H' s' ∧ Q σ' H') X.xe s
def PGs (X : Cx) (ts : List Expr) (t : TGs) : Prop :=
  ∀ (pins : List (Addr × Obj)) (s : Shared) (σ : St) (H : Hp) (vs : List V) (us : List Value) (Q : St → Hp → Prop), Inv X pins σ H s → Vals vs us → t vs σ H Q →
    wpAny (model X.prog X.w) X.A (assignInOrder ((assignEach ts X.env).map (·.2)) us) (fun _ s' => ∃ σ' H', Inv X pins σ' H' s' ∧ Q σ' H') X.xe s
section
variable {X : Cx} {pos : Pos}
def gName (i : Nat) : TG := fun v σ H Q => Q (σ.set i (some v)) H
theorem pg_name {i : Nat} {x : Str} (hN : X.N.Nodup) (hi : X.N[i]? = some x) (hx : Loc X.env.scope x) (hf : X.fn x = true ∨ X.env.scope.names.lookup x = some .local := by first | exact .inl rfl | exact .inr rfl | assumption) : PG X (.Name x pos) (gName i) := by
  intro pins s σ H v u Q I r h
  exact wpAny_assign_Name (store_ok I hN hi hx r (fun s' I' => ⟨_, H, I', h⟩) hf)
def gNil : TGs := fun vs σ H Q => vs = [] ∧ Q σ H
def gCons (t : TG) (u : TGs) : TGs := fun vs σ H Q => ∃ v r, vs = v :: r ∧ t v σ H fun σ' H' => u r σ' H' Q
theorem pgs_nil : PGs X [] gNil := by
  intro pins s σ H vs us Q I r h
  obtain ⟨e, h⟩ := h
  subst e
  cases r
  exact assignInOrder_nil ⟨σ, H, I, h⟩
theorem pgs_cons {e : Expr} {es : List Expr} {t : TG} {u : TGs} (h1 : PG X e t) (h2 : PGs X es u)
    (hs : (assignEach (e :: es) X.env).map (·.2) = assign e X.env :: (assignEach es X.env).map (·.2) := by rfl) : PGs X (e :: es) (gCons t u) := by
  intro pins s σ H vs us Q I r h
  obtain ⟨v, vr, e1, h⟩ := h
  subst e1
  cases r with
  | cons r rr =>
    rw [hs]
    refine assignInOrder_cons (thn (h1 pins s σ H _ _ _ I r h) fun _ s1 ⟨σ1, H1, I1, q1⟩ => ?_)
    exact h2 pins s1 σ1 H1 _ _ Q I1 rr q1
def gTup (K : PySem.W.Frag) (n : Nat) (t : TGs) : TG := fun v σ H Q => ∃ a xs, v = .ref a ∧ SqT K H a xs ∧ xs.length = n ∧ t xs σ H Q
theorem pg_tup {es : List Expr} {k : Nat} {t : TGs} {n : Nat} (hc : X.calm = true) (h : PGs X es t)
    (hn : (assignEach es X.env).length = n := by rfl) (hst : (assignEach es X.env).findIdx? (·.1) = none := by rfl) : PG X (.Tuple es k pos) (gTup X.K n t) := by
  intro pins s σ H v u Q I r hw
  obtain ⟨a, xs, e1, hq, hl, hw⟩ := hw
  subst e1
  cases r
  obtain ⟨its, rv, ht, hz⟩ := I.tuple hq
  refine assign_Tuple_tuple (I.ok.hd hc) ht (by simp [hn, ← hl, rv.length]) hst fun h' hx => ?_
  have I1 : Inv X pins σ H { s with heap := h' } := I.kept (t' := s.toks) fun b o e => hx b o (Nat.ne_of_lt (Heap.lt_size e)) e
  exact h pins _ σ H xs _ Q I1 (by simpa using rv) hw
def tAsg (te : TE) (g : TG) : TS := fun D σ H => te σ H fun x H1 => g x σ H1 D.nx
theorem ps_set {i : Nat} {x : Str} {e : Expr} {te : TE} {pos' : Pos} (hN : X.N.Nodup) (hi : X.N[i]? = some x) (hx : Loc X.env.scope x) (he : PE X e te) (hs : swapsWith e (some (.Name x pos')) pos.line X.env = pure false := by rfl) (hf : X.fn x = true ∨ X.env.scope.names.lookup x = some .local := by first | exact .inl rfl | exact .inr rfl | assumption) :
    PS X (.Assign [.Name x pos'] e pos) (tAsg te (gName i)) := by
  intro pins s σ H D I h
  refine wpAny_Assign_Name (thn (he pins s σ H _ I h) fun v s1 ⟨y, H1, I1, r1, q1⟩ => ?_) hs
  exact store_ok I1 hN hi hx r1 (fun s2 I2 => ⟨_, H1, I2, q1⟩) hf
end
section
variable {X : Cx} {pos : Pos}
def tWhile (c : TT) (tb : TS) : TS := fun D σ H => ∃ W : Nat → St → Hp → Prop, (∃ m, W m σ H) ∧ ∀ m σ H, W m σ H →
  c σ H fun b H1 => if b = true then ∃ N : St → Hp → Prop, (∀ σ' H', N σ' H' → ∃ m', m' < m ∧ W m' σ' H') ∧ tb { D with nx := N, ct := N, bk := D.nx } σ H1 else D.nx σ H1
theorem ps_while {c : Expr} {body : List Stmt} {tc : TT} {tb : TS} (hp : PassesOwn (model X.prog X.w) X.A X.env X.xe) (hc : PT X c tc) (hb : PSs X body tb) : PS X (.While c body [] pos) (tWhile tc tb) := by
  intro pins s σ H D I h
  obtain ⟨W, ⟨m0, w0⟩, turn⟩ := h
  refine wpAny_While (codeAny_whileLoop (fun n s' => ∃ σ' H', Inv X pins σ' H' s' ∧ W n σ' H') ?_ m0 ⟨σ, H, I, w0⟩)
  rintro n s1 ⟨σ1, H1, I1, w1⟩
  refine wpAny_passesOwn hp (thn (hc pins s1 σ1 H1 _ I1 (turn n σ1 H1 w1)) fun b s2 ⟨H2, I2, q2⟩ => ?_)
  cases b with
  | true =>
    obtain ⟨N, hN, q2⟩ := q2
    rw [if_pos rfl]
    refine wpAny_passesOwn hp (thn (hb pins s2 σ1 H2 _ I2 q2) fun f s3 q3 => ?_)
    cases f with
    | next =>
      obtain ⟨σ3, H3, I3, n3⟩ := q3
      obtain ⟨m', hm, w3⟩ := hN σ3 H3 n3
      exact ⟨m', hm, σ3, H3, I3, w3⟩
    | cont =>
      obtain ⟨σ3, H3, I3, n3⟩ := q3
      obtain ⟨m', hm, w3⟩ := hN σ3 H3 n3
      exact ⟨m', hm, σ3, H3, I3, w3⟩
    | brk => exact q3
    | ret v => exact q3
  | false =>
    rw [if_neg Bool.false_ne_true]
    exact wpAny_execs_nil ⟨σ1, H2, I2, q2⟩
end
structure It where
  go : Nat → Hp → Prop
  yld : Nat → Hp → V → Hp → Prop
  stop : Nat → Hp → Prop
def FpOk (X : Cx) (pins : List (Addr × Obj)) (H : Hp) (b : Addr) : Prop :=
  H b = none ∧ b ≠ X.env.locals ∧ b ∉ X.fs ∧ (b ∈ X.ex ∨ X.s₀.heap.objs.size ≤ b) ∧ (∀ x c, X.env.cells.lookup x = some c → c ≠ b) ∧ ∀ p ∈ X.pn ++ pins, p.1 ≠ b
theorem Inv.fpOk {X : Cx} {pins : List (Addr × Obj)} {σ : St} {H H' : Hp} {s : Shared} {b : Addr} (I : Inv X pins σ H s) (hb : s.heap.objs.size ≤ b) (hn : H' b = none) : FpOk X pins H' b := by
  refine ⟨hn, Nat.ne_of_gt (Nat.lt_of_lt_of_le I.lt hb), I.nofs hb, .inr (Nat.le_trans I.sz hb), fun x c e z => ?_, fun p hp z => ?_⟩
  · obtain ⟨v, q⟩ := I.cell x c e
    exact absurd (Nat.lt_of_lt_of_le q.lt (by rw [z]; exact hb)) (Nat.lt_irrefl _)
  · exact absurd (Nat.lt_of_lt_of_le (Heap.lt_size (I.pin p hp).1) (by rw [z]; exact hb)) (Nat.lt_irrefl _)
structure Turn (P : Program) (w : World) (K : PySem.W.Frag) (tg : Expr) (J : It) (fp : List Addr) (it : Addr) (tn : Nat → Heap → Prop) : Prop where
  mem : it ∈ fp
  obj : ∀ i h, tn i h → ∀ b ∈ fp, ∃ o, h.get? b = some o ∧ ∀ v, o.data ≠ .cell v
  keep : ∀ i h h', tn i h → (∀ b ∈ fp, ∀ o, h.get? b = some o → h'.get? b = some o) → tn i h'
  item : ∀ (X : Cx), X.prog = P → X.w = w → X.K = K → X.calm = true → ∀ (i : Nat) (pins : List (Addr × Obj)) (s : Shared) (σ : St) (H : Hp) (E : Value → Shared → Prop), Inv X pins σ H s → (∀ b ∈ fp, FpOk X pins H b) → tn i s.heap → J.go i H →
    wpAny (model P w) X.A (pyNext (.ref it)) (fun r s1 => ∃ u, r = some u ∧
      wpAny (model P w) X.A (letOwnedTupleGo tg (.ref it) u) (fun _ s2 => ∃ x H', Inv X pins σ H' s2 ∧ RelV x u ∧ J.yld i H x H' ∧ tn (i + 1) s2.heap ∧ ∀ b ∈ fp, H' b = none) E s1) E s
  done : ∀ (X : Cx), X.prog = P → X.w = w → X.K = K → X.calm = true → ∀ (i : Nat) (pins : List (Addr × Obj)) (s : Shared) (σ : St) (H : Hp) (E : Value → Shared → Prop), Inv X pins σ H s → (∀ b ∈ fp, FpOk X pins H b) → tn i s.heap → J.stop i H →
    wpAny (model P w) X.A (pyNext (.ref it)) (fun r s1 => r = none ∧ Inv X pins σ H s1) E s
  self : ∀ (A : Around) (i : Nat) (s : Shared) (Q : Value → Shared → Prop) (E : Value → Shared → Prop), tn i s.heap → Q (.ref it) s → wpAny (model P w) A (pyIter (.ref it)) Q E s
abbrev TI := St → Hp → (It → Hp → Prop) → Prop
def PIE (X : Cx) (pins : List (Addr × Obj)) (σ : St) (tg : Expr) (R : It → Hp → Prop) (itv : Value) (s2 : Shared) : Prop :=
  ∃ (it : Addr) (fp : List Addr) (tn : Nat → Heap → Prop) (J : It) (H' : Hp), itv = .ref it ∧ Inv X pins σ H' s2 ∧ Turn X.prog X.w X.K tg J fp it tn ∧ tn 0 s2.heap ∧ (∀ b ∈ fp, FpOk X pins H' b) ∧ R J H'
def PI (X : Cx) (tg iter : Expr) (wi : TI) : Prop :=
  ∀ (pins : List (Addr × Obj)) (s : Shared) (σ : St) (H : Hp) (R : It → Hp → Prop), Inv X pins σ H s → wi σ H R →
    wpAny (model X.prog X.w) X.A (eval iter X.env) (fun v s1 => wpAny (model X.prog X.w) X.A (pyIter v) (PIE X pins σ tg R) X.xe s1) X.xe s
theorem go_of {M : Model} {A : Around} {E : Value → Shared → Prop} {s : Shared} {tg : Expr} {it : Addr} {u : Value} {o : Obj} {n : String} {vs : Array Value} {Q : Unit → Shared → Prop} (ho : s.heap.get? it = some o) (hc : o.cls = .type n) (hd : o.data = .fields vs)
    (hn : ["enumerate", "zip", "dict_itemiterator", "dict_reverseitemiterator", "odict_iterator", "itertools.zip_longest", "itertools.pairwise"].contains n = false) (hQ : Q () s) : wpAny M A (letOwnedTupleGo tg (.ref it) u) Q E s := by
  unfold letOwnedTupleGo
  cases tg <;> first
    | exact wpAny_pure hQ
    | (cases u <;> first
        | exact wpAny_pure hQ
        | (refine wpAny_bind (wpAny_load ho ?_)
           rw [hc, hd]
           show wpAny M A (if (["enumerate", "zip", "dict_itemiterator", "dict_reverseitemiterator", "odict_iterator", "itertools.zip_longest", "itertools.pairwise"].contains n && vs[0]? == some (rawInt _)) = true then _ else _) Q E s
           rw [if_neg (by intro h; rw [hn, Bool.false_and] at h; cases h)]
           exact wpAny_pure hQ))
def Itl (K : PySem.W.Frag) (a : Addr) : It :=
  ⟨fun i H => ∃ xs x, SqL K H a xs ∧ xs[i]? = some x, fun i H x H' => H' = H ∧ ∀ xs, SqL K H a xs → xs[i]? = some x, fun i H => ∃ xs, SqL K H a xs ∧ xs.length ≤ i⟩
def Itt (K : PySem.W.Frag) (a : Addr) : It :=
  ⟨fun i H => ∃ xs x, SqT K H a xs ∧ xs[i]? = some x, fun i H x H' => H' = H ∧ ∀ xs, SqT K H a xs → xs[i]? = some x, fun i H => ∃ xs, SqT K H a xs ∧ xs.length ≤ i⟩
def Itr (lo : Int) (n : Nat) : It := ⟨fun i _ => i < n, fun i H x H' => H' = H ∧ x = .int (lo + i), fun i _ => n ≤ i⟩
theorem turn_list {P : Program} {w : World} {K : PySem.W.Frag} {tg : Expr} (a it : Addr) : Turn P w K tg (Itl K a) [it] it (fun i h => h.IsListIter it a i) where
  mem := by simp
  obj := fun i h st b hb => by
    have e : b = it := by simpa using hb
    subst e
    obtain ⟨o, e, c, d⟩ := st
    exact ⟨o, e, fun v z => by rw [d] at z; cases z⟩
  keep := fun i h h' st k => st.at fun o e => k it (by simp) o e
  item := by
    intro X hP hw hK hc i pins s σ H E I hf st hg
    subst hP hw hK
    obtain ⟨xs, x, hq, hx⟩ := hg
    obtain ⟨its, rv, p, hz⟩ := I.list hq
    obtain ⟨u, hu, ru⟩ := rv.get hx
    obtain ⟨f0, f1, f2, f3, f4, f5⟩ := hf it (by simp)
    refine wpAny_pyNext_list_item st p.isList (x := u) (by simpa using hu) fun h' st' sb => ?_
    have I1 : Inv X pins σ H { s with heap := h' } := I.turned (t' := s.toks) (fun b o hb e => (sb.2 b hb).trans e) f0 f1 f3 f4 f5
    obtain ⟨o, e, c, d⟩ := id st'
    exact ⟨u, rfl, go_of (s := { s with heap := h' }) e c d (by decide) ⟨x, H, I1, ru, ⟨rfl, fun ys hy => by rw [I.list_inj hy hq]; exact hx⟩, st', fun b hb => (hf b hb).1⟩⟩
  done := by
    intro X hP hw hK hc i pins s σ H E I hf st hg
    subst hP hw hK
    obtain ⟨xs, hq, hx⟩ := hg
    obtain ⟨its, rv, p, hz⟩ := I.list hq
    obtain ⟨f0, f1, f2, f3, f4, f5⟩ := hf it (by simp)
    have hl := rv.length
    exact wpAny_pyNext_list_end (I.ok.hd hc) st p.isList (by simp; omega) fun h' eb => ⟨rfl, I.turned (t' := s.toks) (fun b o hb e => eb b o hb e) f0 f1 f3 f4 f5⟩
  self := fun _ _ _ _ _ st h => wpAny_pyIter_listiter st h
theorem turn_tuple {P : Program} {w : World} {K : PySem.W.Frag} {tg : Expr} (a it : Addr) : Turn P w K tg (Itt K a) [it] it (fun i h => h.IsTupleIter it a i) where
  mem := by simp
  obj := fun i h st b hb => by
    have e : b = it := by simpa using hb
    subst e
    obtain ⟨o, e, c, d⟩ := st
    exact ⟨o, e, fun v z => by rw [d] at z; cases z⟩
  keep := fun i h h' st k => st.at fun o e => k it (by simp) o e
  item := by
    intro X hP hw hK hc i pins s σ H E I hf st hg
    subst hP hw hK
    obtain ⟨xs, x, hq, hx⟩ := hg
    obtain ⟨its, rv, p, hz⟩ := I.tuple hq
    obtain ⟨u, hu, ru⟩ := rv.get hx
    obtain ⟨f0, f1, f2, f3, f4, f5⟩ := hf it (by simp)
    refine wpAny_pyNext_tuple_item st (show s.heap.IsTuple a its.toArray from p) (x := u) (by simpa using hu) fun h' st' sb => ?_
    have I1 : Inv X pins σ H { s with heap := h' } := I.turned (t' := s.toks) (fun b o hb e => (sb.2 b hb).trans e) f0 f1 f3 f4 f5
    obtain ⟨o, e, c, d⟩ := id st'
    exact ⟨u, rfl, go_of (s := { s with heap := h' }) e c d (by decide) ⟨x, H, I1, ru, ⟨rfl, fun ys hy => by rw [I.tuple_inj hy hq]; exact hx⟩, st', fun b hb => (hf b hb).1⟩⟩
  done := by
    intro X hP hw hK hc i pins s σ H E I hf st hg
    subst hP hw hK
    obtain ⟨xs, hq, hx⟩ := hg
    obtain ⟨its, rv, p, hz⟩ := I.tuple hq
    obtain ⟨f0, f1, f2, f3, f4, f5⟩ := hf it (by simp)
    have hl := rv.length
    exact wpAny_pyNext_tuple_end (I.ok.hd hc) st (show s.heap.IsTuple a its.toArray from p) (by simp; omega) fun h' eb => ⟨rfl, I.turned (t' := s.toks) (fun b o hb e => eb b o hb e) f0 f1 f3 f4 f5⟩
  self := fun _ _ _ _ _ st h => wpAny_pyIter_tupleiter st h
theorem turn_range {P : Program} {w : World} {K : PySem.W.Frag} {tg : Expr} (it : Addr) (lo : Int) (n : Nat) : Turn P w K tg (Itr lo n) [it] it (fun i h => IsRangeIter h it (lo + (i : Nat) * 1) ((n : Int) - (i : Nat)) 1) where
  mem := by simp
  obj := fun i h st b hb => by
    have e : b = it := by simpa using hb
    subst e
    exact ⟨_, st, fun v z => by
      have z' : Data.fields _ = Data.cell v := z
      cases z'⟩
  keep := fun i h h' st k => k it (by simp) _ st
  item := by
    intro X hP hw hK hc i pins s σ H E I hf st hg
    subst hP hw hK
    obtain ⟨f0, f1, f2, f3, f4, f5⟩ := hf it (by simp)
    have W := Walks.range (prog := X.prog) (w := X.w) (I.ok.hd hc) it lo 1 n
    refine W.item i s _ _ hg st fun v h' tk hv st' kk => ?_
    obtain ⟨t, rfl⟩ := hv
    have I1 : Inv X pins σ H { s with heap := h', toks := tk } := I.turned (fun b o hb e => kk b o (by simpa using hb) e) f0 f1 f3 f4 f5
    refine ⟨_, rfl, go_of (s := { s with heap := h', toks := tk }) (n := "range_iterator") st' rfl rfl (by decide) ⟨.int (lo + i), H, I1, ⟨t, ?_⟩, ⟨rfl, rfl⟩, st', fun b hb => (hf b hb).1⟩⟩
    rw [Int.mul_one]
  done := by
    intro X hP hw hK hc i pins s σ H E I hf st hg
    subst hP hw hK
    obtain ⟨f0, f1, f2, f3, f4, f5⟩ := hf it (by simp)
    exact wpAny_pyNext_range_end (I.ok.hd hc) st (by have : n ≤ i := hg; omega) fun h' eb => ⟨rfl, I.turned (t' := s.toks) (fun b o hb e => eb b o hb e) f0 f1 f3 f4 f5⟩
  self := fun _ _ _ _ _ st h => wpAny_pyIter_rangeiter st h
end L2
namespace L2
open PySem PySem.Spec PyProof.Rows
section
variable {X : Cx} {tg : Expr}
def iList (K : PySem.W.Frag) (tl : TE) : TI := fun σ H R => tl σ H fun x H1 => ∃ a, x = .ref a ∧ (∃ xs, SqL K H1 a xs) ∧ R (Itl K a) H1
def iTup (K : PySem.W.Frag) (tl : TE) : TI := fun σ H R => tl σ H fun x H1 => ∃ a, x = .ref a ∧ (∃ xs, SqT K H1 a xs) ∧ R (Itt K a) H1
theorem pi_list {l : Expr} {tl : TE} (hl : PE X l tl) : PI X tg l (iList X.K tl) := by
  intro pins s σ H R I h
  refine thn (hl pins s σ H _ I h) fun v s1 ⟨x, H1, I1, r1, q1⟩ => ?_
  obtain ⟨a, e, ⟨xs, hq⟩, q⟩ := q1
  subst e
  cases r1
  obtain ⟨its, rv, p, hz⟩ := I1.list hq
  refine wpAny_pyIter_list p.isList ?_
  refine ⟨s1.heap.objs.size, [s1.heap.objs.size], _, _, H1, rfl, I1.kept (t' := s1.toks) fun b o e => Heap.get?_push_of_some _ e, turn_list a _, ⟨_, Heap.get?_push_size _ rfl, rfl, rfl⟩, fun b hb => ?_, q⟩
  have e : b = s1.heap.objs.size := by simpa using hb
  subst e
  exact I1.fpOk (Nat.le_refl _) (I1.hok.fresh (Nat.le_refl _))
theorem pi_tup {l : Expr} {tl : TE} (hl : PE X l tl) : PI X tg l (iTup X.K tl) := by
  intro pins s σ H R I h
  refine thn (hl pins s σ H _ I h) fun v s1 ⟨x, H1, I1, r1, q1⟩ => ?_
  obtain ⟨a, e, ⟨xs, hq⟩, q⟩ := q1
  subst e
  cases r1
  obtain ⟨its, rv, p, hz⟩ := I1.tuple hq
  refine wpAny_pyIter_tuple (show s1.heap.IsTuple a its.toArray from p) ?_
  refine ⟨s1.heap.objs.size, [s1.heap.objs.size], _, _, H1, rfl, I1.kept (t' := s1.toks) fun b o e => Heap.get?_push_of_some _ e, turn_tuple a _, ⟨_, Heap.get?_push_size _ rfl, rfl, rfl⟩, fun b hb => ?_, q⟩
  have e : b = s1.heap.objs.size := by simpa using hb
  subst e
  exact I1.fpOk (Nat.le_refl _) (I1.hok.fresh (Nat.le_refl _))
theorem range_it {pins : List (Addr × Obj)} {σ : St} {H : Hp} {s : Shared} {R : It → Hp → Prop} {E : Value → Shared → Prop} {lo hi : Int} {t u v : Tok} {tk : Nat} (I : Inv X pins σ H s) (h1 : -(2 ^ 62) ≤ lo) (h2 : lo < 2 ^ 62) (h3 : -(2 ^ 62) ≤ hi) (h4 : hi < 2 ^ 62)
    (q : R (Itr lo (hi - lo).toNat) H) : wpAny (model X.prog X.w) X.A (pyIter (.ref s.heap.objs.size)) (PIE X pins σ tg R) E { s with heap := s.heap.push { cls := .type "range", data := .fields #[.int lo t, .int hi u, .int 1 v] }, toks := tk } := by
  refine wpAny_pyIter_range (IsRange.new ..) (small_one h1 h2 h3 h4) ?_
  have I1 : Inv X pins σ H { s with heap := s.heap.push { cls := .type "range", data := .fields #[.int lo t, .int hi u, .int 1 v] }, toks := tk } := I.kept fun b o e => Heap.get?_push_of_some _ e
  refine ⟨(s.heap.push { cls := .type "range", data := .fields #[.int lo t, .int hi u, .int 1 v] }).objs.size, [(s.heap.push { cls := .type "range", data := .fields #[.int lo t, .int hi u, .int 1 v] }).objs.size], _, _, H, rfl,
    I1.kept (t' := tk) fun b o e => Heap.get?_push_of_some _ e, turn_range _ lo (hi - lo).toNat, ?_, fun b hb => ?_, q⟩
  · have e1 : lo + ((0 : Nat) : Int) * 1 = lo := by simp
    have e2 : (((hi - lo).toNat : Nat) : Int) - ((0 : Nat) : Int) = Builtin.Range.rangeSize lo hi 1 := by rw [rangeSize_one]; split <;> omega
    show IsRangeIter _ _ (lo + ((0 : Nat) : Int) * 1) ((((hi - lo).toNat : Nat) : Int) - ((0 : Nat) : Int)) 1
    rw [e1, e2]
    exact Heap.get?_push_size _ rfl
  · have e : b = (s.heap.push { cls := .type "range", data := .fields #[.int lo t, .int hi u, .int 1 v] }).objs.size := by simpa using hb
    subst e
    exact I1.fpOk (Nat.le_refl _) (I1.hok.fresh (Nat.le_refl _))
def iRng2 (ta : TA) : TI := fun σ H R => ta σ H fun vs H1 => ∃ i j : Int, vs = [.int i, .int j] ∧ (-(2 ^ 62) ≤ i ∧ i < 2 ^ 62 ∧ -(2 ^ 62) ≤ j ∧ j < 2 ^ 62) ∧ R (Itr i (j - i).toNat) H1
theorem pi_range2 {a b : Expr} {ta : TA} {p pos : Pos} (hg : Gl X "range") (hm : X.mg "range" = none) (ha : PA X [a, b] ta) (hs : starEach [a, b] X.env = [(false, eval a X.env), (false, eval b X.env)] := by rfl) (hs2 : starEach [b] X.env = [(false, eval b X.env)] := by rfl) :
    PI X tg (.Call (.Name "range" p) [a, b] [] pos) (iRng2 ta) := by
  intro pins s σ H R I h
  refine Call_ (ld_blt I hg hm boot_range (PyProof.Rows.callWith_type1 (thn (ha pos pins s σ H _ I h) fun us s1 ⟨vs, H1, I1, r1, q1⟩ => ?_) (by rw [hs, hs2]) (by rw [hs2]; rfl)))
  obtain ⟨i, j, e, ⟨q1, q2, q3, q4⟩, q⟩ := q1
  subst e
  cases r1 with
  | cons r rr =>
    cases rr with
    | cons r' rr =>
      cases rr
      obtain ⟨t, rfl⟩ := r
      obtain ⟨t', rfl⟩ := r'
      exact call_range_2 (range_it I1 q1 q2 q3 q4 q)
def tFor (wi : TI) (g : TG) (tb : TS) : TS := fun D σ H => wi σ H fun J H1 => ∃ W : Nat → Nat → St → Hp → Prop, (∃ m, W 0 m σ H1) ∧ ∀ i m σ H, W i m σ H →
  (J.stop i H ∧ D.nx σ H) ∨ (J.go i H ∧ ∃ N : St → Hp → Prop, (∀ σ' H', N σ' H' → ∃ m', m' < m ∧ W (i + 1) m' σ' H') ∧ ∀ x H', J.yld i H x H' → g x σ H' fun σ2 H2 => tb { D with nx := N, ct := N, bk := D.nx } σ2 H2)
def pinsAt (fp : List Addr) (h : Heap) : List (Addr × Obj) := fp.filterMap fun b => (h.get? b).map fun o => (b, o)
theorem mem_pinsAt {fp : List Addr} {h : Heap} {b : Addr} {o : Obj} (hb : b ∈ fp) (e : h.get? b = some o) : (b, o) ∈ pinsAt fp h := List.mem_filterMap.mpr ⟨b, hb, by rw [e]; rfl⟩
theorem of_pinsAt {fp : List Addr} {h : Heap} {p : Addr × Obj} (hp : p ∈ pinsAt fp h) : p.1 ∈ fp ∧ h.get? p.1 = some p.2 := by
  obtain ⟨b, hb, e⟩ := List.mem_filterMap.mp hp
  cases q : h.get? b with
  | none => rw [q] at e; cases e
  | some o =>
    rw [q] at e
    have e' : (b, o) = p := Option.some.inj e
    subst e'
    exact ⟨hb, q⟩
theorem Inv.pinned {pins : List (Addr × Obj)} {σ : St} {H : Hp} {s : Shared} {fp : List Addr} (I : Inv X pins σ H s) (hf : ∀ b ∈ fp, FpOk X pins H b) (ho : ∀ b ∈ fp, ∃ o, s.heap.get? b = some o ∧ ∀ v, o.data ≠ .cell v) : Inv X (pins ++ pinsAt fp s.heap) σ H s :=
  I.pins_of fun p hp => (List.mem_append.mp hp).elim (fun z => I.pin p (List.mem_append_right _ z)) fun z => by
    obtain ⟨hb, e⟩ := of_pinsAt z
    obtain ⟨f0, f1, f2, _⟩ := hf p.1 hb
    obtain ⟨o, e', d⟩ := ho p.1 hb
    rw [e] at e'; cases e'
    exact ⟨e, f0, f1, f2, d⟩
theorem Inv.unpinned {pins pl : List (Addr × Obj)} {σ : St} {H : Hp} {s : Shared} (I : Inv X (pins ++ pl) σ H s) : Inv X pins σ H s := I.pins_of fun p hp => I.pin p (List.mem_append_right _ (List.mem_append_left _ hp))
theorem ps_for {iter : Expr} {body : List Stmt} {wi : TI} {g : TG} {tb : TS} {pos : Pos} (hp : PassesOwn (model X.prog X.w) X.A X.env X.xe) (hc : X.calm = true) (hi : PI X tg iter wi) (hg : PG X tg g) (hb : PSs X body tb)
    (hs : ∀ x, foldedSetIterable iter X.env x = pure x := by intro _; rfl) : PS X (.For tg iter body [] pos) (tFor wi g tb) := by
  intro pins s σ H D I h
  refine wpAny_For (thn (hi pins s σ H _ I h) fun v s1 h1 => thn h1 fun itv s2 h2 => ?_) hs
  obtain ⟨it, fp, tn, J, H2, e, I2, T, st2, f2, W, ⟨m0, w0⟩, turn⟩ := h2
  subst e
  -- what stays true of the iterator's objects through the loop
  have stat : ∀ {H' : Hp}, (∀ b ∈ fp, H' b = none) → ∀ b ∈ fp, FpOk X pins H' b := fun hn b hb => ⟨hn b hb, (f2 b hb).2⟩
  refine codeAny_forLoop_any (fun n s' => ∃ i σ' H', Inv X pins σ' H' s' ∧ tn i s'.heap ∧ (∀ b ∈ fp, H' b = none) ∧ W i n σ' H') ?_ m0 ⟨0, σ, H2, I2, st2, fun b hb => (f2 b hb).1, w0⟩
  rintro n s3 ⟨i, σ3, H3, I3, st3, fr3, w3⟩
  rcases turn i n σ3 H3 w3 with ⟨stop, qn⟩ | ⟨go, N, hN, step⟩
  · refine wpAny_passesOwn hp (thn (T.done X rfl rfl rfl hc i pins s3 σ3 H3 X.xe I3 (stat fr3) st3 stop) fun r s4 ⟨hr, I4⟩ => ?_)
    subst hr
    exact wpAny_execs_nil ⟨σ3, H3, I4, qn⟩
  · refine wpAny_passesOwn hp (thn (T.item X rfl rfl rfl hc i pins s3 σ3 H3 X.xe I3 (stat fr3) st3 go) fun r s4 ⟨u, hr, h4⟩ => ?_)
    subst hr
    refine wpAny_passesOwn hp (thn h4 fun _ s5 ⟨x, H5, I5, r5, y5, st5, fr5⟩ => ?_)
    have I5' := I5.pinned (stat fr5) (T.obj _ _ st5)
    refine wpAny_passesOwn hp (thn (hg _ s5 σ3 H5 x u _ I5' r5 (step x H5 y5)) fun _ s6 ⟨σ6, H6, I6, q6⟩ => ?_)
    refine wpAny_passesOwn hp (thn (hb _ s6 σ6 H6 _ I6 q6) fun f s7 q7 => ?_)
    have again : ∀ {σ7 : St} {H7 : Hp}, Inv X (pins ++ pinsAt fp s5.heap) σ7 H7 s7 → N σ7 H7 → ∃ m, m < n ∧ ∃ i σ' H', Inv X pins σ' H' s7 ∧ tn i s7.heap ∧ (∀ b ∈ fp, H' b = none) ∧ W i m σ' H' := fun {σ7 H7} I7 n7 => by
      obtain ⟨m', hm, w7⟩ := hN σ7 H7 n7
      refine ⟨m', hm, i + 1, σ7, H7, I7.unpinned, T.keep _ _ _ st5 fun b hb o e => (I7.pin (b, o) (List.mem_append_right _ (List.mem_append_right _ (mem_pinsAt hb e)))).1, fun b hb => ?_, w7⟩
      obtain ⟨o, e, d⟩ := T.obj _ _ st5 b hb
      exact (I7.pin (b, o) (List.mem_append_right _ (List.mem_append_right _ (mem_pinsAt hb e)))).2.1
    cases f with
    | next => obtain ⟨σ7, H7, I7, n7⟩ := q7; exact again I7 n7
    | cont => obtain ⟨σ7, H7, I7, n7⟩ := q7; exact again I7 n7
    | brk => obtain ⟨σ7, H7, I7, q7⟩ := q7; exact ⟨σ7, H7, I7.unpinned, q7⟩
    | ret v => obtain ⟨x7, σ7, H7, I7, r7, q7⟩ := q7; exact ⟨x7, σ7, H7, I7.unpinned, r7, q7⟩
end
theorem for_list {K : PySem.W.Frag} {a : Addr} {xs : List V} {g : TG} {tb : TS} {D : Ends} {σ : St} {H : Hp} (Pv : Nat → St → Hp → Prop) (h0 : Pv 0 σ H) (hl : ∀ i σ H, i ≤ xs.length → Pv i σ H → SqL K H a xs)
    (hs : ∀ i x σ H, xs[i]? = some x → Pv i σ H → g x σ H fun σ2 H2 => tb { D with nx := Pv (i + 1), ct := Pv (i + 1), bk := D.nx } σ2 H2) (hd : ∀ σ H, Pv xs.length σ H → D.nx σ H) :
    ∃ W : Nat → Nat → St → Hp → Prop, (∃ m, W 0 m σ H) ∧ ∀ i m σ H, W i m σ H →
      ((Itl K a).stop i H ∧ D.nx σ H) ∨ ((Itl K a).go i H ∧ ∃ N : St → Hp → Prop, (∀ σ' H', N σ' H' → ∃ m', m' < m ∧ W (i + 1) m' σ' H') ∧ ∀ x H', (Itl K a).yld i H x H' → g x σ H' fun σ2 H2 => tb { D with nx := N, ct := N, bk := D.nx } σ2 H2) := by
  refine ⟨fun i m σ H => m = xs.length - i ∧ i ≤ xs.length ∧ Pv i σ H, ⟨xs.length, by simp, Nat.zero_le _, h0⟩, ?_⟩
  rintro i m σ H ⟨rfl, hi, p⟩
  have q := hl i σ H hi p
  by_cases hlt : i < xs.length
  · refine .inr ⟨⟨xs, xs[i], q, by simp [hlt]⟩, Pv (i + 1), fun σ' H' p' => ⟨xs.length - (i + 1), by omega, rfl, hlt, p'⟩, fun x H' y => ?_⟩
    obtain ⟨e, y⟩ := y
    subst e
    exact hs i x σ _ (y xs q) p
  · have e : i = xs.length := by omega
    subst e
    exact .inl ⟨⟨xs, q, Nat.le_refl _⟩, hd σ H p⟩
theorem for_range {lo : Int} {n : Nat} {g : TG} {tb : TS} {D : Ends} {σ : St} {H : Hp} (Pv : Nat → St → Hp → Prop) (h0 : Pv 0 σ H)
    (hs : ∀ i σ H, i < n → Pv i σ H → g (.int (lo + i)) σ H fun σ2 H2 => tb { D with nx := Pv (i + 1), ct := Pv (i + 1), bk := D.nx } σ2 H2) (hd : ∀ σ H, Pv n σ H → D.nx σ H) :
    ∃ W : Nat → Nat → St → Hp → Prop, (∃ m, W 0 m σ H) ∧ ∀ i m σ H, W i m σ H →
      ((Itr lo n).stop i H ∧ D.nx σ H) ∨ ((Itr lo n).go i H ∧ ∃ N : St → Hp → Prop, (∀ σ' H', N σ' H' → ∃ m', m' < m ∧ W (i + 1) m' σ' H') ∧ ∀ x H', (Itr lo n).yld i H x H' → g x σ H' fun σ2 H2 => tb { D with nx := N, ct := N, bk := D.nx } σ2 H2) := by
  refine ⟨fun i m σ H => m = n - i ∧ i ≤ n ∧ Pv i σ H, ⟨n, by simp, Nat.zero_le _, h0⟩, ?_⟩
  rintro i m σ H ⟨rfl, hi, p⟩
  by_cases hlt : i < n
  · refine .inr ⟨hlt, Pv (i + 1), fun σ' H' p' => ⟨n - (i + 1), by omega, rfl, hlt, p'⟩, fun x H' y => ?_⟩
    obtain ⟨e, y⟩ := y
    subst e y
    exact hs i σ _ hlt p
  · have e : i = n := by omega
    subst e
    exact .inl ⟨Nat.le_refl _, hd σ H p⟩
end L2
namespace L2
open PySem PySem.Spec PyProof.Rows
abbrev R2 := V → V → Hp → VK → Prop
def OpR (X : Cx) (f : Value → Value → Sem Value) (r : R2) : Prop :=
  ∀ (pins : List (Addr × Obj)) (s : Shared) (σ : St) (H : Hp) (x y : V) (v u : Value) (Q : VK), Inv X pins σ H s → RelV x v → RelV y u → r x y H Q →
    wpAny (model X.prog X.w) X.A (f v u) (EP X pins σ Q) X.xe s
def UnR (X : Cx) (f : Value → Sem Value) (r : V → Hp → VK → Prop) : Prop :=
  ∀ (pins : List (Addr × Obj)) (s : Shared) (σ : St) (H : Hp) (x : V) (v : Value) (Q : VK), Inv X pins σ H s → RelV x v → r x H Q →
    wpAny (model X.prog X.w) X.A (f v) (EP X pins σ Q) X.xe s
def CallR (X : Cx) (f : Value) (r : List V → Hp → VK → Prop) : Prop :=
  ∀ (pins : List (Addr × Obj)) (s : Shared) (σ : St) (H : Hp) (xs : List V) (us : List Value) (Q : VK), Inv X pins σ H s → Vals xs us → r xs H Q →
    wpAny (model X.prog X.w) X.A (call f us) (EP X pins σ Q) X.xe s
def tOp (r : R2) (ta tb : TE) : TE := fun σ H Q => ta σ H fun x H1 => tb σ H1 fun y H2 => r x y H2 Q
def tUn (r : V → Hp → VK → Prop) (ta : TE) : TE := fun σ H Q => ta σ H fun x H1 => r x H1 Q
def rI (C : Int → Int → Prop) (g : Int → Int → V) : R2 := fun x y H Q => ∃ i j, x = .int i ∧ y = .int j ∧ C i j ∧ Q (g i j) H
def rI0 (g : Int → Int → V) : R2 := fun x y H Q => ∃ i j, x = .int i ∧ y = .int j ∧ Q (g i j) H
def rU (g : Int → V) : V → Hp → VK → Prop := fun x H Q => ∃ i, x = .int i ∧ Q (g i) H
section
variable {X : Cx} {a b c : Expr} {ta tb tc : TE} {pos : Pos}
theorem binT (ha : PE X a ta) (hb : PE X b tb) {pins : List (Addr × Obj)} {s : Shared} {σ : St} {H : Hp} {R : V → V → Hp → Prop} (I : Inv X pins σ H s)
    (h : ta σ H fun x H1 => tb σ H1 fun y H2 => R x y H2) {Q : Value → Shared → Prop} {f : Value → Value → Sem Value}
    (hf : ∀ v u s2 x y H2, Inv X pins σ H2 s2 → RelV x v → RelV y u → R x y H2 → wpAny (model X.prog X.w) X.A (f v u) Q X.xe s2) :
    wpAny (model X.prog X.w) X.A (eval a X.env) (fun v s₁ => wpAny (model X.prog X.w) X.A (eval b X.env) (fun u s₂ => wpAny (model X.prog X.w) X.A (f v u) Q X.xe s₂) X.xe s₁) X.xe s := by
  refine thn (ha pins s σ H _ I h) fun v s1 ⟨x, H1, I1, r1, q1⟩ => ?_
  refine thn (hb pins s1 σ H1 _ I1 q1) fun u s2 ⟨y, H2, I2, r2, q2⟩ => ?_
  exact hf v u s2 x y H2 I2 r1 r2 q2
theorem pe_op {op : Operator} {r : R2} (ho : OpR X (binaryOp op) r) (ha : PE X a ta) (hb : PE X b tb) : PE X (.BinOp a op b pos) (tOp r ta tb) := by
  intro pins s σ H Q I h
  exact wpAny_BinOp (binT ha hb I h fun v u s2 x y H2 I2 rx ry q => ho pins s2 σ H2 x y v u Q I2 rx ry q)
theorem pe_un {op : UnaryOp} {r : V → Hp → VK → Prop} (ho : UnR X (unaryOp op) r) (ha : PE X a ta) : PE X (.UnaryOp op a pos) (tUn r ta) := by
  intro pins s σ H Q I h
  exact UnaryOp_ (thn (ha pins s σ H _ I h) fun v s1 ⟨x, H1, I1, r1, q1⟩ => ho pins s1 σ H1 x v Q I1 r1 q1)
theorem opI {f : Value → Value → Sem Value} {C : Int → Int → Prop} {g : Int → Int → Int}
    (rule : ∀ (i j : Int) (t u : Tok) (s : Shared) (Q : Value → Shared → Prop) (E : Value → Shared → Prop), C i j → Q (.int (g i j) s.toks) { s with toks := s.toks + 1 } → wpAny (model X.prog X.w) X.A (f (.int i t) (.int j u)) Q E s) :
    OpR X f (rI C fun i j => .int (g i j)) := by
  intro pins s σ H x y v u Q I rx ry h
  obtain ⟨i, j, rfl, rfl, hc, q⟩ := h
  obtain ⟨t, rfl⟩ := rx
  obtain ⟨t', rfl⟩ := ry
  exact rule i j t t' s _ _ hc ⟨.int (g i j), H, I.tok _, ⟨_, rfl⟩, q⟩
theorem opI0 {f : Value → Value → Sem Value} {g : Int → Int → Int}
    (rule : ∀ (i j : Int) (t u : Tok) (s : Shared) (Q : Value → Shared → Prop) (E : Value → Shared → Prop), Q (.int (g i j) s.toks) { s with toks := s.toks + 1 } → wpAny (model X.prog X.w) X.A (f (.int i t) (.int j u)) Q E s) :
    OpR X f (rI0 fun i j => .int (g i j)) := by
  intro pins s σ H x y v u Q I rx ry h
  obtain ⟨i, j, rfl, rfl, q⟩ := h
  obtain ⟨t, rfl⟩ := rx
  obtain ⟨t', rfl⟩ := ry
  exact rule i j t t' s _ _ ⟨.int (g i j), H, I.tok _, ⟨_, rfl⟩, q⟩
theorem opB0 {f : Value → Value → Sem Value} {g : Int → Int → Bool}
    (rule : ∀ (i j : Int) (t u : Tok) (s : Shared) (Q : Value → Shared → Prop) (E : Value → Shared → Prop), Q (.bool (g i j)) s → wpAny (model X.prog X.w) X.A (f (.int i t) (.int j u)) Q E s) :
    OpR X f (rI0 fun i j => .bl (g i j)) := by
  intro pins s σ H x y v u Q I rx ry h
  obtain ⟨i, j, rfl, rfl, q⟩ := h
  obtain ⟨t, rfl⟩ := rx
  obtain ⟨t', rfl⟩ := ry
  exact rule i j t t' s _ _ ⟨.bl (g i j), H, I, rfl, q⟩
def CDiv (i j : Int) : Prop := 0 < j ∧ j < 1073741824
def CMul (i j : Int) : Prop := (-(2 ^ 64) < i ∧ i < 2 ^ 64) ∨ (-(2 ^ 64) < j ∧ j < 2 ^ 64)
theorem CMul.ok {i j : Int} (h : CMul i j) : IntMulOk i j := by
  rcases h with ⟨h1, h2⟩ | ⟨h1, h2⟩
  · exact .of_left (intBits_le_64 h1 h2)
  · exact .of_right (intBits_le_64 h1 h2)
theorem op_add : OpR X (binaryOp .Add) (rI0 fun i j => .int (i + j)) := opI0 fun _ _ _ _ _ _ _ q => add_int q
theorem op_sub : OpR X (binaryOp .Sub) (rI0 fun i j => .int (i - j)) := opI0 fun _ _ _ _ _ _ _ q => sub_int q
theorem op_mul : OpR X (binaryOp .Mult) (rI CMul fun i j => .int (i * j)) := opI fun _ _ _ _ _ _ _ hc q => mul_int q hc.ok
theorem op_fdiv : OpR X (binaryOp .FloorDiv) (rI CDiv fun i j => .int (i / j)) := opI fun i j _ _ _ _ _ hc q => by
  have h1 : (0 : Int) < j := hc.1
  have h2 : j < 1073741824 := hc.2
  exact floordiv_int (by omega) (by rw [Int.fdiv_eq_ediv_of_nonneg i (by omega)]; exact q) (.inl (PyProof.noPylong_small (by omega)))
theorem op_mod : OpR X (binaryOp .Mod) (rI (fun _ j => 0 < j) fun i j => .int (i % j)) := opI fun i j _ _ _ _ _ hc q => by
  have h1 : (0 : Int) < j := hc
  exact mod_int' (by omega) (by rw [Int.fmod_eq_emod_of_nonneg i (by omega)]; exact q)
theorem unI {f : Value → Sem Value} {g : Int → Int}
    (rule : ∀ (i : Int) (t : Tok) (s : Shared) (Q : Value → Shared → Prop) (E : Value → Shared → Prop), Q (.int (g i) s.toks) { s with toks := s.toks + 1 } → wpAny (model X.prog X.w) X.A (f (.int i t)) Q E s) :
    UnR X f (rU fun i => .int (g i)) := by
  intro pins s σ H x v Q I rx h
  obtain ⟨i, rfl, q⟩ := h
  obtain ⟨t, rfl⟩ := rx
  exact rule i t s _ _ ⟨.int (g i), H, I.tok _, ⟨_, rfl⟩, q⟩
theorem un_neg : UnR X (unaryOp .USub) (rU fun i => .int (-i)) := unI fun _ _ _ _ _ q => neg_int q
end
def scal : V → V → Bool
  | .non, .non => true | .non, .int _ => true | .int _, .non => true | .non, .bl _ => true | .bl _, .non => true | .non, .str _ => true | .str _, .non => true
  | .int _, .int _ => true | .bl _, .bl _ => true | .str _, .str _ => true | .byt _, .byt _ => true
  | .int _, .str _ => true | .str _, .int _ => true | .bl _, .str _ => true | .str _, .bl _ => true
  | _, _ => false
def rEq : R2 := fun x y H Q => scal x y = true ∧ Q (.bl (decide (x = y))) H
def rNe : R2 := fun x y H Q => scal x y = true ∧ Q (.bl (!decide (x = y))) H
theorem dec_int {i j : Int} : decide (V.int i = V.int j) = (i == j) := by
  rw [Bool.eq_iff_iff]
  simp
theorem dec_bl {i j : Bool} : decide (V.bl i = V.bl j) = (i == j) := by
  rw [Bool.eq_iff_iff]
  simp
theorem dec_str {i j : Str} : decide (V.str i = V.str j) = (i == j) := by
  rw [Bool.eq_iff_iff]
  simp
theorem dec_byt {i j : Array UInt8} : decide (V.byt i = V.byt j) = (i.toList == j.toList) := by
  rw [Bool.eq_iff_iff]
  cases i
  cases j
  simp
section
variable {X : Cx} {a b c : Expr} {ta tb tc : TE} {pos : Pos}
theorem fin_bl {pins : List (Addr × Obj)} {σ : St} {H : Hp} {s : Shared} {Q : VK} {k k' : Bool} (I : Inv X pins σ H s) (q : Q (.bl k) H) (e : k = k') : EP X pins σ Q (.bool k') s := by
  subst e
  exact ⟨.bl k, H, I, rfl, q⟩
theorem op_eq : OpR X (compareOp .Eq) rEq := by
  intro pins s σ H x y v u Q I rx ry h
  obtain ⟨hs, q⟩ := h
  cases x with
  | non =>
    cases rx
    cases y with
    | non => cases ry; exact PySem.EqNone.eq_none_none (fin_bl I q (by simp))
    | bl j => cases ry; exact PySem.EqNone.eq_none_bool (fin_bl I q (by simp))
    | int j => obtain ⟨t', rfl⟩ := ry; exact PySem.EqNone.eq_none_int (fin_bl I q (by simp))
    | str j => obtain ⟨t', rfl⟩ := ry; exact PySem.EqNone.eq_none_str (fin_bl I q (by simp))
    | _ => exact absurd (show false = true from hs) Bool.false_ne_true
  | bl i =>
    cases rx
    cases y with
    | non => cases ry; exact PySem.EqNone.eq_bool_none (fin_bl I q (by simp))
    | bl j => cases ry; exact eq_bool (fin_bl I q dec_bl)
    | str j => obtain ⟨t', rfl⟩ := ry; exact PySem.EqMixed.eq_bool_str (fin_bl I q (by simp))
    | _ => exact absurd (show false = true from hs) Bool.false_ne_true
  | int i =>
    obtain ⟨t, rfl⟩ := rx
    cases y with
    | non => cases ry; exact PySem.EqNone.eq_int_none (fin_bl I q (by simp))
    | int j => obtain ⟨t', rfl⟩ := ry; exact eq_int (fin_bl I q dec_int)
    | str j => obtain ⟨t', rfl⟩ := ry; exact PySem.EqMixed.eq_int_str (fin_bl I q (by simp))
    | _ => exact absurd (show false = true from hs) Bool.false_ne_true
  | str i =>
    obtain ⟨t, rfl⟩ := rx
    cases y with
    | non => cases ry; exact PySem.EqNone.eq_str_none (fin_bl I q (by simp))
    | bl j => cases ry; exact PySem.EqMixed.eq_str_bool (fin_bl I q (by simp))
    | int j => obtain ⟨t', rfl⟩ := ry; exact PySem.EqMixed.eq_str_int (fin_bl I q (by simp))
    | str j => obtain ⟨t', rfl⟩ := ry; exact eq_str (fin_bl I q dec_str)
    | _ => exact absurd (show false = true from hs) Bool.false_ne_true
  | byt i =>
    obtain ⟨t, rfl⟩ := rx
    cases y with
    | byt j => obtain ⟨t', rfl⟩ := ry; exact PySem.W.eq_bytes (fin_bl I q dec_byt)
    | _ => exact absurd (show false = true from hs) Bool.false_ne_true
  | _ => cases y <;> exact absurd (show false = true from hs) Bool.false_ne_true
theorem op_ne : OpR X (compareOp .NotEq) rNe := by
  intro pins s σ H x y v u Q I rx ry h
  obtain ⟨hs, q⟩ := h
  cases x with
  | non =>
    cases rx
    cases y with
    | non => cases ry; exact PySem.EqNone.ne_none_none (fin_bl I q (by simp))
    | bl j => cases ry; exact PySem.EqNone.ne_none_bool (fin_bl I q (by simp))
    | int j => obtain ⟨t', rfl⟩ := ry; exact PySem.EqNone.ne_none_int (fin_bl I q (by simp))
    | str j => obtain ⟨t', rfl⟩ := ry; exact PySem.EqNone.ne_none_str (fin_bl I q (by simp))
    | _ => exact absurd (show false = true from hs) Bool.false_ne_true
  | bl i =>
    cases rx
    cases y with
    | non => cases ry; exact PySem.EqNone.ne_bool_none (fin_bl I q (by simp))
    | bl j => cases ry; exact ne_bool (fin_bl I q (congrArg not dec_bl))
    | str j => obtain ⟨t', rfl⟩ := ry; exact PySem.EqMixed.ne_bool_str (fin_bl I q (by simp))
    | _ => exact absurd (show false = true from hs) Bool.false_ne_true
  | int i =>
    obtain ⟨t, rfl⟩ := rx
    cases y with
    | non => cases ry; exact PySem.EqNone.ne_int_none (fin_bl I q (by simp))
    | int j => obtain ⟨t', rfl⟩ := ry; exact ne_int (fin_bl I q (congrArg not dec_int))
    | str j => obtain ⟨t', rfl⟩ := ry; exact PySem.EqMixed.ne_int_str (fin_bl I q (by simp))
    | _ => exact absurd (show false = true from hs) Bool.false_ne_true
  | str i =>
    obtain ⟨t, rfl⟩ := rx
    cases y with
    | non => cases ry; exact PySem.EqNone.ne_str_none (fin_bl I q (by simp))
    | bl j => cases ry; exact PySem.EqMixed.ne_str_bool (fin_bl I q (by simp))
    | int j => obtain ⟨t', rfl⟩ := ry; exact PySem.EqMixed.ne_str_int (fin_bl I q (by simp))
    | str j => obtain ⟨t', rfl⟩ := ry; exact ne_str (fin_bl I q (congrArg not dec_str))
    | _ => exact absurd (show false = true from hs) Bool.false_ne_true
  | byt i =>
    obtain ⟨t, rfl⟩ := rx
    cases y with
    | byt j => obtain ⟨t', rfl⟩ := ry; exact PySem.W.ne_bytes (fin_bl I q (congrArg not dec_byt))
    | _ => exact absurd (show false = true from hs) Bool.false_ne_true
  | _ => cases y <;> exact absurd (show false = true from hs) Bool.false_ne_true
theorem op_lt : OpR X (compareOp .Lt) (rI0 fun i j => .bl (decide (i < j))) := opB0 fun _ _ _ _ _ _ _ q => lt_int q
theorem op_le : OpR X (compareOp .LtE) (rI0 fun i j => .bl (decide (i ≤ j))) := opB0 fun _ _ _ _ _ _ _ q => le_int q
theorem op_gt : OpR X (compareOp .Gt) (rI0 fun i j => .bl (decide (j < i))) := opB0 fun _ _ _ _ _ _ _ q => gt_int q
theorem nomark (b : Expr) {op : CmpOp} (h : op ≠ .In := by decide) (h2 : op ≠ .NotIn := by decide) : behindInMarks op b = false := by
  have e1 : (op == CmpOp.In) = false := by cases op <;> first | rfl | exact absurd rfl h
  have e2 : (op == CmpOp.NotIn) = false := by cases op <;> first | rfl | exact absurd rfl h2
  cases b <;> simp [behindInMarks, e1, e2]
theorem pe_cmpR {op : CmpOp} {r : R2} (ho : OpR X (compareOp op) r) (ha : PE X a ta) (hb : PE X b tb) (hm : behindInMarks op b = false) : PE X (.Compare a [op] [b] pos) (tOp r ta tb) := by
  intro pins s σ H Q I h
  exact wpAny_Compare1 (binT ha hb I h fun v u s2 x y H2 I2 rx ry q => ho pins s2 σ H2 x y v u Q I2 rx ry q) hm
def tTest (t : TE) : TT := fun σ H Q => t σ H fun x H' => ∃ k, x = .bl k ∧ Q k H'
theorem pt_cmpR {op : CmpOp} {r : R2} (ho : OpR X (compareOp op) r) (ha : PE X a ta) (hb : PE X b tb) (hm : behindInMarks op b = false) : PT X (.Compare a [op] [b] pos) (tTest (tOp r ta tb)) := by
  intro pins s σ H Q I h
  refine wpAny_isTrue_Compare1 (thn (ha pins s σ H _ I h) fun v s1 ⟨x, H1, I1, r1, q1⟩ => thn (hb pins s1 σ H1 _ I1 q1) fun u s2 ⟨y, H2, I2, r2, q2⟩ =>
    thn (ho pins s2 σ H2 x y v u _ I2 r1 r2 q2) fun c s3 ⟨z, H3, I3, r3, k, e, q3⟩ => ?_) hm
  subst e
  cases r3
  exact wpAny_truthy_bool ⟨H3, I3, q3⟩
def tChain (r r' : R2) (ta tb tc : TE) : TE := fun σ H Q => ta σ H fun x H1 => tb σ H1 fun y H2 => r x y H2 fun z H3 => ∃ k, z = .bl k ∧
  (if k = true then tc σ H3 fun w' H4 => r' y w' H4 Q else Q (.bl false) H3)
theorem pt_chain {op op' : CmpOp} {r r' : R2} (ho : OpR X (compareOp op) r) (ho' : OpR X (compareOp op') r') (ha : PE X a ta) (hb : PE X b tb) (hc : PE X c tc)
    (hm : lastMarks [op, op'] [b, c] = false := by with_unfolding_all rfl) : PT X (.Compare a [op, op'] [b, c] pos) (tTest (tChain r r' ta tb tc)) := by
  intro pins s σ H Q I h
  refine isTrue_chain (thn (ha pins s σ H _ I h) fun v s1 ⟨x, H1, I1, r1, q1⟩ => test_link (thn (hb pins s1 σ H1 _ I1 q1) fun u s2 ⟨y, H2, I2, r2, q2⟩ =>
    thn (ho pins s2 σ H2 x y v u _ I2 r1 r2 q2) fun d s3 ⟨z, H3, I3, r3, k, e, q3⟩ => ?_)) hm
  subst e
  cases r3
  refine wpAny_truthy_bool ?_
  cases k with
  | false =>
    obtain ⟨k', e', q'⟩ := q3
    cases e'
    exact ite_ff ⟨H3, I3, q'⟩
  | true =>
    refine ite_tt (test_last (thn (hc pins s3 σ H3 _ I3 q3) fun w' s4 ⟨z', H4, I4, r4, q4⟩ => thn (ho' pins s4 σ H4 y z' u w' _ I4 r2 r4 q4) fun d' s5 ⟨z2, H5, I5, r5, k2, e2, q5⟩ => ?_))
    subst e2
    cases r5
    exact wpAny_truthy_bool ⟨H5, I5, q5⟩
theorem line63 : (sizeLine : Nat) < 2 ^ 63 := by rw [sizeLine_eq]; decide
theorem op_add_str : OpR X (binaryOp .Add) (fun x y H Q => ∃ i j, x = .str i ∧ y = .str j ∧ i.length + j.length ≤ sizeLine ∧ Q (.str (i ++ j)) H) := by
  intro pins s σ H x y v u Q I rx ry h
  obtain ⟨i, j, rfl, rfl, hz, q⟩ := h
  obtain ⟨t, rfl⟩ := rx
  obtain ⟨t', rfl⟩ := ry
  exact add_str (fun t' tk => ⟨.str (i ++ j), H, I.tok _, ⟨_, rfl⟩, q⟩) hz
theorem vals1 {x : V} {us : List Value} (r : Vals [x] us) : ∃ u, us = [u] ∧ RelV x u := by
  cases r with
  | cons r1 r2 => cases r2; exact ⟨_, rfl, r1⟩
theorem call_abs : CallR X (.builtin "abs") (fun xs H Q => ∃ i, xs = [.int i] ∧ Q (.int (if i < 0 then -i else i)) H) := by
  intro pins s σ H xs us Q I r h
  obtain ⟨i, rfl, q⟩ := h
  obtain ⟨u, rfl, t, rfl⟩ := vals1 r
  exact call_abs_int fun u tk => ⟨.int (if i < 0 then -i else i), H, I.tok _, ⟨_, rfl⟩, q⟩
end
end L2
namespace L2
open PySem PySem.Spec PyProof.Rows
structure ObjM (h : Heap) (x dx C : Addr) (mA : Str → Option Value) : Prop where
  obj : h.get? x = some (PySem.W.instObj C dx)
  ns : h.Ns1 dx mA
  ne : dx ≠ x
theorem lookIn_ns {h : Heap} {dx : Addr} {mA : Str → Option Value} (n : h.Ns1 dx mA) : ∃ od, h.get? dx = some od ∧ ∀ name, PySem.W.lookIn name od = some (mA name) := by
  obtain ⟨o, es, ep, ho, hd, hk, _, hm⟩ := n
  refine ⟨o, ho, fun name => ?_⟩
  have e := hm name
  unfold nsFind findBy at e
  rw [← Array.find?_toList] at e
  unfold PySem.W.lookIn
  rw [hd]
  dsimp only
  split
  · rename_i y q
    rw [q] at e
    exact congrArg some e
  · rename_i q
    rw [q] at e
    have a : es.toList.any (·.refKey) = false := by
      rw [List.any_eq_false]
      intro y hy
      obtain ⟨z, t, hkey⟩ := hk y (Array.mem_toList_iff.mp hy)
      simp [DictEntry.refKey, hkey]
    have a' : ¬ es.toList.any (·.refKey) = true := by rw [a]; exact Bool.false_ne_true
    rw [if_neg a']
    exact congrArg some e
theorem ObjM.look {h : Heap} {x dx C : Addr} {mA : Str → Option Value} (I : ObjM h x dx C mA) : ∃ od, PySem.W.InstAt h x (PySem.W.instObj C dx) C (some od) ∧ ∀ name, PySem.W.lookIn name od = some (mA name) :=
  let ⟨od, ho, hl⟩ := lookIn_ns I.ns
  ⟨od, ⟨I.obj, rfl, rfl, ho⟩, hl⟩
section
variable {prog : Program} {w : World} {A : Around} {E : Value → Shared → Prop} {s : Shared} {K : PySem.W.Frag} {x dx C f : Addr} {mA : Str → Option Value} {name : Str} {v : Value}
theorem get_map {expr : Bool} {Q : Value → Shared → Prop} (X : K.In s.heap) (I : ObjM s.heap x dx C mA) (hg : PySem.W.plainGet K C name = true) (hh : PySem.W.hasDictIn K C = true)
    (ha : PySem.W.findIn K (.ref C) name = some none) (hv : mA name = some v) (hv' : PySem.W.handedIn v = true) (h : Q v { s with toks := s.toks + 1 }) :
    wpAny (model prog w) A (getAttr (.ref x) name expr) Q E s := by
  obtain ⟨od, J, hl⟩ := I.look
  exact PySem.W.get_value X J (PySem.W.plainGet_of hg).1 (PySem.W.findObj_own hh ha rfl (by rw [hl, hv])) hv' h
theorem get_meth {pl : Sem Bool} {Q : Value × List Value → Shared → Prop} (X : K.In s.heap) (I : ObjM s.heap x dx C mA) (hg : PySem.W.plainGet K C name = true)
    (hf : PySem.W.findIn K (.ref C) name = some (some (.ref f))) (ht : PySem.W.isFn K (.ref f) = true) (hv : mA name = none) (h : Q (.ref f, [.ref x]) s) :
    wpAny (model prog w) A (getMethod (.ref x) name pl) Q E s := by
  obtain ⟨od, J, hl⟩ := I.look
  exact PySem.W.method_fn X J (PySem.W.plainGet_of hg).1 (PySem.W.plainGet_of hg).2 hf (beq_iff_eq.mp ht) (by show (PySem.W.lookIn name od).map (·.isSome) = some false; rw [hl, hv]; rfl) h
theorem set_map {ns : List Str} {Q : Unit → Shared → Prop} (X : K.In s.heap) (I : ObjM s.heap x dx C mA)
    (hs : PySem.W.findIn K (.ref C) "__setattr__" = some (some (.builtin "object.__setattr__"))) (hp : PySem.W.plainOver K C = true) (ht : PySem.W.takerIn K C name = some none) (hh : PySem.W.hasDictIn K C = true)
    (hw : PySem.Within mA ns) (hsz : ns.length ≤ sizeLine)
    (h : ∀ h', ObjM h' x dx C (fun y => if y = name then some v else mA y) → Heap.SameBut dx s.heap h' → Q () { s with heap := h', toks := s.toks + 2 }) :
    wpAny (model prog w) A (setAttr (.ref x) name v) Q E s := by
  obtain ⟨od, J, hl⟩ := I.look
  refine PySem.W.set_plain X J hs (PySem.W.osa_open (s := { s with toks := s.toks + 1 }) (r := none) X J hp ht fun b => ?_)
  obtain ⟨cd, hc, hd'⟩ := PySem.W.any_some hh
  have hx : s.heap.get? x = some ⟨.ref C, some dx, .plain, #[]⟩ := I.obj
  refine wpAny_bind (wpAny_pure (wpAny_bind (wpAny_bind (wpAny_loadPart hx (wpAny_bind (PySem.W.Looks.here (s := { s with toks := s.toks + 1 }) (PySem.W.looks_clsIn X hc) ?_))))))
  rw [hd']
  refine wpAny_pure (a := some dx) (wpAny_bind (wpAny_pure (wpAny_bind ?_)))
  refine wpAny_nsSet1 (s := { s with toks := s.toks + 1 }) I.ns fun h' hn2 hs2 => ?_
  obtain ⟨oD, esD, epD, hoD, hdD, hcD⟩ := hn2.count (PySem.Within.cons name v hw)
  refine wpAny_bind (wpAny_lookBehind hoD (by rw [hdD]; exact pastItsLine_dict (Nat.le_trans hcD (by rw [List.length_cons]; omega))) ?_)
  exact wpAny_pure (h _ ⟨(hs2.2 _ (Ne.symm I.ne)).trans I.obj, hn2, I.ne⟩ hs2)
theorem make_map {R : Result → Shared → Prop} {vs : List Value} {kw : List (Str × Value)} (X : K.In s.heap) (hm : PySem.W.makesIn K C = true)
    (hi : PySem.W.findIn K (.ref C) "__init__" = some (some (.ref f))) (hf : PySem.W.typeIn K (.ref f) = some (.type "function"))
    (h : codeAny (model prog w) (A.under (.builtin "type.__call__" ⟨.ref C :: vs, kw⟩)) (.call (.ref f) ⟨.ref (s.heap.objs.size + 1) :: vs, kw⟩) (PySem.W.InitBack (s.heap.objs.size + 1) R)
      { s with heap := (s.heap.push PySem.W.emptyDict).push (PySem.W.instObj C s.heap.objs.size) }) :
    codeAny (model prog w) A (.call (.ref C) ⟨vs, kw⟩) R s := by
  obtain ⟨hh, g, d, t, os⟩ := s
  exact PySem.W.make_core (PySem.W.makes_of X hm) (PySem.W.looks_findIn X hi) (fun self => PySem.W.bind_fn X self hf) (.inl rfl) h
end
def putF (f : Str) (v : V) : List (Str × V) → List (Str × V)
  | [] => [(f, v)]
  | (g, x) :: r => if g = f then (g, v) :: r else (g, x) :: putF f v r
theorem lookup_putF (f g : Str) (v : V) : ∀ fs : List (Str × V), (putF f v fs).lookup g = if g = f then some v else fs.lookup g
  | [] => by
    show List.lookup g [(f, v)] = _
    by_cases h : g = f
    · have hb : (g == f) = true := beq_iff_eq.mpr h
      simp only [List.lookup, hb, if_pos h]
    · have hb : (g == f) = false := beq_eq_false_iff_ne.mpr h
      simp only [List.lookup, hb, if_neg h]
  | (k, x) :: r => by
    have ih := lookup_putF f g v r
    rw [show putF f v ((k, x) :: r) = (if k = f then (k, v) :: r else (k, x) :: putF f v r) from rfl]
    by_cases hk : k = f
    · rw [if_pos hk]
      by_cases h : g = k
      · have hb : (g == k) = true := beq_iff_eq.mpr h
        simp only [List.lookup, hb, if_pos (h.trans hk)]
      · have hb : (g == k) = false := beq_eq_false_iff_ne.mpr h
        simp only [List.lookup, hb, if_neg (fun e : g = f => h (e.trans hk.symm))]
    · rw [if_neg hk]
      by_cases h : g = k
      · have hb : (g == k) = true := beq_iff_eq.mpr h
        simp only [List.lookup, hb, if_neg (fun e : g = f => hk (h.symm.trans e))]
      · have hb : (g == k) = false := beq_eq_false_iff_ne.mpr h
        simp only [List.lookup, hb]
        exact ih
theorem keys_putF (f : Str) (v : V) : ∀ fs : List (Str × V), f ∈ (putF f v fs).map (·.1) ∧ ∀ g, g ∈ fs.map (·.1) → g ∈ (putF f v fs).map (·.1)
  | [] => ⟨by simp [putF], fun g h => by simp at h⟩
  | (k, x) :: r => by
    obtain ⟨i1, i2⟩ := keys_putF f v r
    rw [show putF f v ((k, x) :: r) = (if k = f then (k, v) :: r else (k, x) :: putF f v r) from rfl]
    by_cases hk : k = f
    · rw [if_pos hk]
      subst hk
      exact ⟨by simp, fun g h => by simpa using h⟩
    · rw [if_neg hk]
      refine ⟨?_, fun g h => ?_⟩
      · rw [List.map_cons]
        exact List.mem_cons_of_mem _ i1
      · rw [List.map_cons] at h ⊢
        rcases List.mem_cons.mp h with e | e
        · exact List.mem_cons.mpr (.inl e)
        · exact List.mem_cons_of_mem _ (i2 g e)
theorem length_putF (f : Str) (v : V) : ∀ fs : List (Str × V), (putF f v fs).length ≤ fs.length + 1
  | [] => by simp [putF]
  | (k, x) :: r => by
    have ih := length_putF f v r
    rw [show putF f v ((k, x) :: r) = (if k = f then (k, v) :: r else (k, x) :: putF f v r) from rfl]
    by_cases hk : k = f
    · rw [if_pos hk, List.length_cons, List.length_cons]; omega
    · rw [if_neg hk, List.length_cons, List.length_cons]; omega
theorem RelO.some_of {v : V} {o : Option Value} (r : RelO (some v) o) : ∃ u, o = some u ∧ RelV v u := by
  cases o with
  | none => exact (show False from r).elim
  | some u => exact ⟨u, rfl, r⟩
theorem RelO.none_of {o : Option Value} (r : RelO none o) : o = none := by
  cases o with
  | none => rfl
  | some u => exact (show False from r).elim
theorem handed_of {v : V} {u : Value} (r : RelV v u) : PySem.W.handedIn u = true := by
  cases v with
  | non => cases (show u = Value.none from r); rfl
  | bl b => cases (show u = Value.bool b from r); rfl
  | int i => obtain ⟨t, e⟩ := (show ∃ t, u = Value.int i t from r); cases e; rfl
  | str x => obtain ⟨t, e⟩ := (show ∃ t, u = Value.str x t from r); cases e; rfl
  | byt b => obtain ⟨t, e⟩ := (show ∃ t, u = Value.bytes b t from r); cases e; rfl
  | flt b => obtain ⟨t, e⟩ := (show ∃ t, u = Value.float b t from r); cases e; rfl
  | ref a => cases (show u = Value.ref a from r); rfl
  | ty n => cases (show u = Value.type n from r); rfl
section
variable {P : Program} {w : World} {H H' : Hp} {h h' : Heap} {a C dx : Addr} {fs fs' : List (Str × V)}
theorem ins_get (hok : HOk P w H h) (e : H a = some (.ins C dx fs)) : ∃ mA, ObjM h a dx C mA ∧ (∀ f, RelO (fs.lookup f) (mA f)) ∧ PySem.Within mA (fs.map (·.1)) ∧ fs.length ≤ 1000 ∧ H dx = some (.own a) := by
  obtain ⟨d, z, ne, ob, mA, n, r, q⟩ := (show ObjOk P w H h a (.ins C dx fs) from hok a _ e)
  exact ⟨mA, ⟨ob, n, ne⟩, r, q, z, d⟩
end
structure Cls (K : PySem.W.Frag) (C : Addr) : Prop where
  pg : PySem.W.plainGet K C Str.empty = true
  hd : PySem.W.hasDictIn K C = true
  po : PySem.W.plainOver K C = true
  sa : PySem.W.findIn K (.ref C) "__setattr__" = some (some (.builtin "object.__setattr__"))
theorem Cls.get {K : PySem.W.Frag} {C : Addr} (c : Cls K C) (f : Str) : PySem.W.plainGet K C f = true := c.pg
def NoAttr (K : PySem.W.Frag) (C : Addr) (f : Str) : Prop := PySem.W.findIn K (.ref C) f = some none
theorem NoAttr.taker {K : PySem.W.Frag} {C : Addr} {f : Str} (n : NoAttr K C f) : PySem.W.takerIn K C f = some none := by
  unfold PySem.W.takerIn
  rw [show PySem.W.findIn K (.ref C) f = some none from n]
  rfl
structure Meth (K : PySem.W.Frag) (C : Addr) (m : Str) (f : Addr) : Prop where
  at_ : PySem.W.findIn K (.ref C) m = some (some (.ref f))
  fn : PySem.W.isFn K (.ref f) = true
  kp : PySem.W.keepIn K (.ref f) = true
section
variable {X : Cx} {pins : List (Addr × Obj)} {σ : St} {H : Hp} {s : Shared} {a C dx : Addr} {fs : List (Str × V)} {f : Str} {v : V} {A : Around} {E : Value → Shared → Prop}
theorem getattr_ok {b : Bool} {Q : Value → Shared → Prop} (I : Inv X pins σ H s) (e : H a = some (.ins C dx fs)) (c : Cls X.K C) (n : NoAttr X.K C f) (l : fs.lookup f = some v)
    (h : ∀ u s', Inv X pins σ H s' → RelV v u → Q u s') : wpAny (model X.prog X.w) A (getAttr (.ref a) f b) Q E s := by
  obtain ⟨mA, O, r, _, _, _⟩ := ins_get I.hok e
  obtain ⟨u, hu, ru⟩ := RelO.some_of (v := v) (o := mA f) (by rw [← l]; exact r f)
  exact get_map I.kIn O (c.get f) c.hd n hu (handed_of ru) (h u _ (I.tok _) ru)
theorem getmeth_ok {m : Str} {g : Addr} {pl : Sem Bool} {Q : Value × List Value → Shared → Prop} (I : Inv X pins σ H s) (e : H a = some (.ins C dx fs)) (c : Cls X.K C) (k : Meth X.K C m g) (l : fs.lookup m = none)
    (h : Q (.ref g, [.ref a]) s) : wpAny (model X.prog X.w) A (getMethod (.ref a) m pl) Q E s := by
  obtain ⟨mA, O, r, _, _, _⟩ := ins_get I.hok e
  have hn : mA m = none := RelO.none_of (by rw [← l]; exact r m)
  exact get_meth I.kIn O (c.get m) k.at_ k.fn hn h
theorem setattr_ok {y : V} {u : Value} {Q : Unit → Shared → Prop} (I : Inv X pins σ H s) (e : H a = some (.ins C dx fs)) (c : Cls X.K C) (n : NoAttr X.K C f) (hl : fs.length < 1000) (ry : RelV y u)
    (h : ∀ s', Inv X pins σ (upd H a (.ins C dx (putF f y fs))) s' → Q () s') : wpAny (model X.prog X.w) A (setAttr (.ref a) f u) Q E s := by
  obtain ⟨mA, O, r, wi, _, ho⟩ := ins_get I.hok e
  have hz : (fs.map (·.1)).length ≤ sizeLine := by rw [List.length_map, sizeLine_eq]; omega
  refine set_map I.kIn O c.sa c.po n.taker c.hd wi hz fun h' O' sb => h _ ?_
  have hd : ∃ o, h'.get? dx = some o := let ⟨o, _, _, e', _⟩ := O'.ns; ⟨o, e'⟩
  refine I.write (x := a) (e := dx) (by rw [e]; exact True.intro) (.inr ho) (fun b q hb z => (sb.2 b hb).trans z) hd ?_
  refine ⟨by rw [upd_ne O.ne]; exact ho, ?_, O.ne, O'.obj, _, O'.ns, fun g => ?_, fun g hg => ?_⟩
  · have := length_putF f y fs; omega
  · show RelO ((putF f y fs).lookup g) (if g = f then some u else mA g)
    rw [lookup_putF]
    by_cases q : g = f
    · rw [if_pos q, if_pos q]; exact ry
    · rw [if_neg q, if_neg q]; exact r g
  · by_cases q : g = f
    · rw [q]; exact (keys_putF f y fs).1
    · refine (keys_putF f y fs).2 g (wi g fun z => hg ?_)
      show (if g = f then some u else mA g) = none
      rw [if_neg q]; exact z
theorem Inv.made (I : Inv X pins σ H s) : Inv X pins σ (upd (upd H s.heap.objs.size (.own (s.heap.objs.size + 1))) (s.heap.objs.size + 1) (.ins C s.heap.objs.size []))
    { s with heap := (s.heap.push PySem.W.emptyDict).push (PySem.W.instObj C s.heap.objs.size) } := by
  have e1 : (s.heap.push PySem.W.emptyDict).get? s.heap.objs.size = some PySem.W.emptyDict := Heap.get?_push_size s.heap rfl
  have e2 : ((s.heap.push PySem.W.emptyDict).push (PySem.W.instObj C s.heap.objs.size)).get? (s.heap.objs.size + 1) = some (PySem.W.instObj C s.heap.objs.size) := by
    have := Heap.get?_push_size (s.heap.push PySem.W.emptyDict) (o := PySem.W.instObj C s.heap.objs.size) rfl
    rwa [Heap.size_push] at this
  have e3 : (s.heap.push PySem.W.emptyDict).Ns s.heap.objs.size (fun _ => none) := ⟨PySem.W.emptyDict, #[], _, e1, rfl, (fun e he => absurd he (by simp)), fun _ => rfl⟩
  have I1 := I.laid (a := s.heap.objs.size) (o := .own (s.heap.objs.size + 1)) (h' := s.heap.push PySem.W.emptyDict) (t' := s.toks) (fun b u q => Heap.get?_push_of_some _ q) (Nat.le_refl _) ⟨_, e1⟩
  refine I1.laid (a := s.heap.objs.size + 1) (o := .ins C s.heap.objs.size []) (t' := s.toks) (fun b u q => Heap.get?_push_of_some _ q) (Nat.le_of_eq (Heap.size_push _ _)) ?_
  have ne : s.heap.objs.size ≠ s.heap.objs.size + 1 := Nat.ne_of_lt (Nat.lt_succ_self _)
  refine ⟨by rw [upd_ne ne, upd_same], Nat.zero_le _, ne, e2, fun _ => none, (Heap.Ns1.of_empty e3).at fun o q => Heap.get?_push_of_some _ q, fun _ => True.intro, fun y hy => absurd rfl hy⟩
theorem attr_of {prog : Program} {w : World} {env : Env} {e : Expr} {f : Str} {pos : Pos} {s : Shared} {Q : Value → Shared → Prop} (hb : attributeBase e f env (eval e env) = eval e env)
    (h : wpAny (model prog w) A (eval e env) (fun o s₁ => wpAny (model prog w) A (getAttr o f true) Q E s₁) E s) : wpAny (model prog w) A (eval (.Attribute e f pos) env) Q E s :=
  Attribute_any_ h (by rw [arm_eval_Attribute, hb])
end
def tFld (K : PySem.W.Frag) (ta : TE) (f : Str) : TE := fun σ H Q => ta σ H fun x H1 => ∃ a C dx fs v, x = .ref a ∧ H1 a = some (.ins C dx fs) ∧ Cls K C ∧ NoAttr K C f ∧ fs.lookup f = some v ∧ Q v H1
def sFld (K : PySem.W.Frag) (ta tv : TE) (f : Str) : TS := fun D σ H => tv σ H fun y H1 => ta σ H1 fun x H2 => ∃ a C dx fs, x = .ref a ∧ H2 a = some (.ins C dx fs) ∧ Cls K C ∧ NoAttr K C f ∧ fs.length < 1000 ∧
  D.nx σ (upd H2 a (.ins C dx (putF f y fs)))
def InOp (X : Cx) (op : Operator) (rd : V → V → Hp → VK → Prop) : Prop :=
  ∀ (pins : List (Addr × Obj)) (s : Shared) (σ : St) (H : Hp) (x y : V) (u v : Value) (Q : VK), Inv X pins σ H s → RelV x u → RelV y v → rd x y H Q → wpAny (model X.prog X.w) X.A (inplaceOp op u v) (EP X pins σ Q) X.xe s
def sFldAug (K : PySem.W.Frag) (ta tv : TE) (rd : V → V → Hp → VK → Prop) (f : Str) : TS := fun D σ H => ta σ H fun x H1 => ∃ a C dx fs v, x = .ref a ∧ H1 a = some (.ins C dx fs) ∧ Cls K C ∧ NoAttr K C f ∧ fs.lookup f = some v ∧
  tv σ H1 fun y H2 => rd v y H2 fun z H3 => ∃ dx' fs', H3 a = some (.ins C dx' fs') ∧ fs'.length < 1000 ∧ D.nx σ (upd H3 a (.ins C dx' (putF f z fs')))
section
variable {X : Cx} {o e value : Expr} {f : Str} {pos pos' tpos : Pos} {ta tv : TE}
theorem pe_fld (he : PE X e ta) (hb : attributeBase e f X.env (eval e X.env) = eval e X.env) : PE X (.Attribute e f pos) (tFld X.K ta f) := by
  intro pins s σ H Q I h
  refine attr_of hb (thn (he pins s σ H _ I h) fun u s1 ⟨x, H1, I1, rx, a, C, dx, fs, v, ex, ea, c, n, l, q⟩ => ?_)
  subst ex
  obtain rfl : u = Value.ref a := rx
  exact getattr_ok I1 ea c n l fun u' s2 I2 ru => ⟨v, H1, I2, ru, q⟩
theorem ps_fld (ha : PE X o ta) (hv : PE X value tv) (hs : swapsWith value (some (.Attribute o f pos')) pos.line X.env = pure false) : PS X (.Assign [.Attribute o f pos'] value pos) (sFld X.K ta tv f) := by
  intro pins s σ H D I h
  refine plainObj_wpAny_Assign_Attribute (thn (hv pins s σ H _ I h) fun u s1 ⟨y, H1, I1, ry, q⟩ => thn (ha pins s1 σ H1 _ I1 q) fun ov s2 ⟨x, H2, I2, rx, a, C, dx, fs, ex, ea, c, n, l, q2⟩ => ?_) hs
  subst ex
  obtain rfl : ov = Value.ref a := rx
  exact setattr_ok I2 ea c n l ry fun s3 I3 => ⟨σ, _, I3, q2⟩
theorem ps_fldaug {op : Operator} {rd : V → V → Hp → VK → Prop} (ha : PE X o ta) (hv : PE X value tv) (hop : InOp X op rd) : PS X (.AugAssign (.Attribute o f tpos) op value pos) (sFldAug X.K ta tv rd f) := by
  intro pins s σ H D I h
  refine wpAny_AugAssign_AttributeAny (thn (ha pins s σ H _ I h) fun ov s1 ⟨x, H1, I1, rx, a, C, dx, fs, v, ex, ea, c, n, l, q⟩ => ?_)
  subst ex
  obtain rfl : ov = Value.ref a := rx
  refine getattr_ok I1 ea c n l fun u s2 I2 ru => thn (hv pins s2 σ H1 _ I2 q) fun w3 s3 ⟨y, H2, I3, ry, q3⟩ => thn (hop pins s3 σ H2 v y u w3 _ I3 ru ry q3) fun w4 s4 ⟨z, H3, I4, rz, dx', fs', ea', l', q4⟩ => ?_
  exact setattr_ok I4 ea' c n l' rz fun s5 I5 => ⟨σ, _, I5, q4⟩
def rAdd : V → V → Hp → VK → Prop := fun x y H Q => ∃ i j, x = .int i ∧ y = .int j ∧ Q (.int (i + j)) H
theorem in_add : InOp X .Add rAdd := by
  rintro pins s σ H x y u v Q I rx ry ⟨i, j, rfl, rfl, q⟩
  obtain ⟨t, rfl⟩ := (show ∃ t, u = Value.int i t from rx)
  obtain ⟨t', rfl⟩ := (show ∃ t', v = Value.int j t' from ry)
  exact PyProof.Rows.iadd_int ⟨.int (i + j), H, I.tok _, ⟨_, rfl⟩, q⟩
end
end L2
namespace L2
open PySem PySem.Spec PyProof.Rows
structure Room (k : Nat) (A : Around) : Prop where
  hd : A.handled = none
  dp : A.depth + 3 * k + 5 < recursionLimit
  un : A.units + 16 * k + 200 < cLine
theorem Room.mono {j k : Nat} {A : Around} (r : Room k A) (h : j ≤ k) : Room j A := ⟨r.hd, by have := r.dp; omega, by have := r.un; omega⟩
theorem Room.deeper {k : Nat} {A : Around} (r : Room (k + 1) A) (env : Env) : Room k (A.deeper env) :=
  ⟨r.hd, by have := r.dp; show A.depth + 1 + 3 * k + 5 < _; omega, by have := r.un; show A.units + 3 + 16 * k + 200 < _; omega⟩
theorem make_depth {A : Around} {C : Addr} {us : List Value} {kw : List (Str × Value)} : (A.under (.builtin "type.__call__" ⟨.ref C :: us, kw⟩)).depth = A.depth + 1 := by
  first | rfl | simp [Around.under, Code.weight, Code.isCreation, Code.isGuard, Code.isCaller, Code.frames, Code.isFrame, guardIds]
theorem make_units {A : Around} {C : Addr} {us : List Value} {kw : List (Str × Value)} : (A.under (.builtin "type.__call__" ⟨.ref C :: us, kw⟩)).units = A.units + 1 := by
  first | rfl | simp [Around.under, Code.cUnits, Code.frames, Code.isFrame]
theorem Room.make {k : Nat} {A : Around} (r : Room (k + 1) A) (C : Addr) (us : List Value) (kw : List (Str × Value)) : Room k (A.under (.builtin "type.__call__" ⟨.ref C :: us, kw⟩)) :=
  ⟨r.hd, by have := r.dp; rw [make_depth]; omega, by have := r.un; rw [make_units]; omega⟩
theorem Room.depth {k : Nat} {A : Around} (r : Room k A) : A.depth < recursionLimit := by have := r.dp; omega
theorem Room.units {k : Nat} {A : Around} (r : Room k A) : A.units + 64 < cLine := by have := r.un; omega
def tNil : TA := fun _ H Q => Q [] H
def tCons (ta : TE) (tr : TA) : TA := fun σ H Q => ta σ H fun x H1 => tr σ H1 fun xs H2 => Q (x :: xs) H2
section
variable {X : Cx} {e : Expr} {es : List Expr} {te : TE} {t : TA} {pos : Pos}
theorem pa_nil : PA X [] tNil := fun _ _ _ _ H Q I h => Calls.spliced_nil ⟨[], H, I, .nil, h⟩
theorem pa_cons (ha : PE X e te) (hr : PA X es t) (hs : starEach (e :: es) X.env = (false, eval e X.env) :: starEach es X.env := by rfl) : PA X (e :: es) (tCons te t) := by
  intro pos pins s σ H Q I h
  rw [hs]
  show wpAny _ _ (spliced ((false, eval e X.env) :: backTo pos (starEach es X.env))) _ _ s
  refine Calls.spliced_cons (thn (ha pins s σ H _ I h) fun u s1 ⟨x, H1, I1, r1, q1⟩ => ?_)
  exact thn (hr pos pins s1 σ H1 _ I1 q1) fun us s2 ⟨xs, H2, I2, r2, q2⟩ => ⟨x :: xs, H2, I2, .cons r1 r2, q2⟩
def tTup (t : TA) : TE := fun σ H Q => t σ H fun xs H1 => xs.length ≤ sizeLine ∧ ∀ p, H1 p = none → Q (.ref p) (upd H1 p (.tup xs))
def tLst (t : TA) : TE := fun σ H Q => t σ H fun xs H1 => xs.length ≤ sizeLine ∧ ∀ p, H1 p = none → Q (.ref p) (upd H1 p (.lst xs))
theorem pe_tup {x1} (h : PA X es t) : PE X (.Tuple es x1 pos) (tTup t) := by
  intro pins s σ H Q I hq
  refine wpAny_Tuple_spliced (thn (h pos pins s σ H _ I hq) fun us s1 ⟨xs, H1, I1, r, z, q⟩ => ⟨by rw [← r.length]; exact z, ?_⟩)
  have hf : H1 s1.heap.objs.size = none := I1.hok.fresh (Nat.le_refl _)
  refine ⟨.ref s1.heap.objs.size, upd H1 s1.heap.objs.size (.tup xs), I1.laid (t' := s1.toks) (fun b u e => Heap.get?_push_of_some _ e) (Nat.le_refl _) ?_, rfl, q _ hf⟩
  exact ⟨z, us, r, ⟨_, Heap.get?_push_size _ rfl, rfl, _, rfl⟩⟩
theorem pe_lst (h : PA X es t) : PE X (.List es pos) (tLst t) := by
  intro pins s σ H Q I hq
  refine wpAny_List_spliced (thn (h pos pins s σ H _ I hq) fun us s1 ⟨xs, H1, I1, r, z, q⟩ => ⟨by rw [← r.length]; exact z, ?_⟩)
  have hf : H1 s1.heap.objs.size = none := I1.hok.fresh (Nat.le_refl _)
  refine ⟨.ref s1.heap.objs.size, upd H1 s1.heap.objs.size (.lst xs), I1.laid (t' := s1.toks) (fun b u e => Heap.get?_push_of_some _ e) (Nat.le_refl _) ?_, rfl, q _ hf⟩
  exact ⟨z, us, 0, r, Heap.get?_push_size _ rfl⟩
end
abbrev Sp := List V → Hp → VK → XK → Prop
abbrev CXT := List Env → Hp → Shared → XK → Value → Shared → Prop
structure Env0 (P : Program) (w : World) (K : PySem.W.Frag) (mg : Str → Option Value) (base : Heap) (A : Around) (outer : List Env) (s : Shared) (H : Hp) : Prop where
  frames : A.frames = some outer
  mod : Mod K mg base
  bs : ∀ b o, base.get? b = some o → s.heap.get? b = some o ∧ H b = none
  bsz : base.objs.size ≤ s.heap.objs.size
  funs : s.heap.FunFrames base outer
  frf : ∀ b ∈ frs outer, H b = none
  hok : HOk P w H s.heap
  bare : AllBare s.gens
def CE (outer : List Env) (P : Program) (w : World) (H : Hp) (s : Shared) (Q : VK) (u : Value) (s' : Shared) : Prop :=
  ∃ v H', s'.os = s.os ∧ AllBare s'.gens ∧ Un (frs outer) [] H H' s.heap s'.heap ∧ HOk P w H' s'.heap ∧ RelV v u ∧ Q v H'
def CR (CX : CXT) (outer : List Env) (P : Program) (w : World) (H : Hp) (s : Shared) (Q : VK) (E : XK) (r : Result) (s' : Shared) : Prop :=
  match r with
  | .ok (.ret u) => CE outer P w H s Q u s'
  | .ok _ => False
  | .error e => CX outer H s E e s'
structure FnOk (P : Program) (w : World) (K : PySem.W.Frag) (mg : Str → Option Value) (base : Heap) (CX : CXT) (k : Nat) (f : Addr) (fd : FuncData) (ps : List Str) (sp : Sp) : Prop where
  len : ∀ vs H Q E, sp vs H Q E → vs.length = ps.length
  run : ∀ (A : Around) (outer : List Env) (s : Shared) (H : Hp) (args : Args) (us : List Value) (vs : List V) (Q : VK) (E : XK), Room k A → Env0 P w K mg base A outer s H → BindsTo s fd args (ps.zip us) → Vals vs us → sp vs H Q E →
    codeAny (model P w) A (.call (.ref f) args) (CR CX outer P w H s Q E) s
theorem Env0.make {P : Program} {w : World} {K : PySem.W.Frag} {mg : Str → Option Value} {base : Heap} {A : Around} {outer : List Env} {s : Shared} {H : Hp} (e : Env0 P w K mg base A outer s H) (C : Addr) (us : List Value) (kw : List (Str × Value)) :
    Env0 P w K mg base (A.under (.builtin "type.__call__" ⟨.ref C :: us, kw⟩)) outer s H := ⟨by first | exact e.frames | (simpa [Around.under, Code.envs, Code.isFrame, pushEnvs] using e.frames), e.mod, e.bs, e.bsz, e.funs, e.frf, e.hok, e.bare⟩
section
variable {X : Cx} {pins : List (Addr × Obj)} {σ : St} {H : Hp} {s s' : Shared}
theorem Inv.env0 (I : Inv X pins σ H s) : Env0 X.prog X.w X.K X.mg X.base X.A X.stack s H :=
  ⟨I.ok.frames, I.ok.mod, I.bs, Nat.le_trans I.ok.bsz I.sz, I.stack, I.stkFree, I.hok, I.bare⟩
theorem Inv.after {Q : VK} {u : Value} (I : Inv X pins σ H s) (h : CE X.stack X.prog X.w H s Q u s') : EP X pins σ Q u s' := by
  obtain ⟨v, H', os, bare, un, hok, r, q⟩ := h
  obtain ⟨hh, g, d, t, os'⟩ := s'
  obtain rfl : os' = s.os := os
  exact ⟨v, H', I.call (h' := hh) (g' := g) (d' := d) (t' := t) (ch := []) un hok bare (fun b z => absurd z (by simp)), r, q⟩
end
def tCall (sp : Sp) (dvs : List V) (E : XK) (t : TA) : TE := fun σ H Q => t σ H fun vs H1 => sp (vs ++ dvs) H1 Q E
def tMeth (C : Addr) (m : Str) (sp : Sp) (dvs : List V) (E : XK) (ta : TE) (t : TA) : TE := fun σ H Q => ta σ H fun x H1 => ∃ a dx fs, x = .ref a ∧ H1 a = some (.ins C dx fs) ∧ fs.lookup m = none ∧
  t σ H1 fun vs H2 => sp (x :: (vs ++ dvs)) H2 Q E
def tMake (C : Addr) (sp : Sp) (dvs : List V) (E : XK) (t : TA) : TE := fun σ H Q => t σ H fun vs H1 => ∀ x dx, H1 x = none → H1 dx = none → dx ≠ x →
  sp (.ref x :: (vs ++ dvs)) (upd (upd H1 dx (.own x)) x (.ins C dx [])) (fun v H2 => v = .non ∧ Q (.ref x) H2) E
def Binds (K : PySem.W.Frag) (fd : FuncData) (ps : List Str) (ds : List Value) : Prop :=
  ∀ (s : Shared) (us : List Value), K.In s.heap → (us ++ ds).length = ps.length → BindsTo s fd ⟨us, []⟩ (ps.zip (us ++ ds))
theorem Binds.all {K : PySem.W.Frag} {fd : FuncData} {ps : List Str} (h : ∀ us : List Value, us.length = ps.length → bindArgs fd ⟨us, []⟩ = pure (ps.zip us)) : Binds K fd ps [] := fun s us _ hl => by
  rw [List.append_nil] at hl ⊢
  exact .of_eq (h us hl)
def Passes (CX : CXT) (X : Cx) (E : XK) : Prop := ∀ (pins : List (Addr × Obj)) (σ : St) (H : Hp) (s : Shared) (e : Value) (s' : Shared), Inv X pins σ H s → CX X.stack H s E e s' → X.xe e s'
section
variable {X : Cx} {CX : CXT} {k : Nat} {f C : Addr} {fd : FuncData} {ps : List Str} {sp : Sp} {dvs : List V} {ds : List Value} {E : XK} {x m : Str} {p pos apos : Pos} {e o : Expr} {es : List Expr} {ta : TE} {t : TA}
theorem run_fn {pins : List (Addr × Obj)} {σ : St} {H : Hp} {s : Shared} {Q : VK} {us : List Value} {vs : List V} (F : FnOk X.prog X.w X.K X.mg X.base CX k f fd ps sp) (hr : Room k X.A) (hb : Binds X.K fd ps ds) (hd : Vals dvs ds) (hx : Passes CX X E)
    (I : Inv X pins σ H s) (r : Vals vs us) (h : sp (vs ++ dvs) H Q E) : wpAny (model X.prog X.w) X.A (call (.ref f) us) (EP X pins σ Q) X.xe s := by
  have r2 : Vals (vs ++ dvs) (us ++ ds) := r.append hd
  have hl : (us ++ ds).length = ps.length := by rw [← r2.length]; exact F.len _ _ _ _ h
  refine wpAny_call (codeAny_mono (F.run X.A X.stack s H ⟨us, []⟩ (us ++ ds) (vs ++ dvs) Q E hr I.env0 (hb s us I.kIn hl) r2 h) fun r s' hq => ?_)
  cases r with
  | error e => exact hx pins σ H s e s' I hq
  | ok fl =>
    cases fl with
    | ret u => exact I.after hq
    | next => exact False.elim hq
    | brk => exact False.elim hq
    | cont => exact False.elim hq
theorem pe_call (F : FnOk X.prog X.w X.K X.mg X.base CX k f fd ps sp) (hr : Room k X.A) (hg : Gl X x) (hm : X.mg x = some (.ref f)) (hk : PySem.W.keepIn X.K (.ref f) = true) (hb : Binds X.K fd ps ds) (hd : Vals dvs ds) (hx : Passes CX X E)
    (ha : PA X (e :: es) t) (hdb : (x == ("__debug__" : Str)) = false := by decide) (he : starEach (e :: es) X.env = (false, eval e X.env) :: starEach es X.env := by rfl) (hpl : (backTo pos (starEach es X.env)).any (·.1) = false := by rfl) :
    PE X (.Call (.Name x p) (e :: es) [] pos) (tCall sp dvs E t) := by
  intro pins s σ H Q I h
  refine wpAny_Call_Name_kw (ld_glob I hg hm ?_ hdb)
  refine PySem.W.callWith_K (h₀ := X.base) I.ok.mod.kin hk (thn (ha pos pins s σ H _ I h) fun us s1 ⟨vs, H1, I1, r, q⟩ => ⟨I1.kIn, ?_⟩) he hpl
  exact run_fn F hr hb hd hx I1 r q
theorem pe_meth {pl : Sem Bool} (he : PE X o ta) (c : Cls X.K C) (hm : Meth X.K C m f) (F : FnOk X.prog X.w X.K X.mg X.base CX k f fd ps sp) (hr : Room k X.A) (hb : Binds X.K fd ps ds) (hd : Vals dvs ds) (hx : Passes CX X E) (ha : PA X (e :: es) t)
    (hst : starEach (e :: es) X.env = (false, eval e X.env) :: starEach es X.env := by rfl) (hpl : (backTo pos (starEach es X.env)).any (·.1) = false := by rfl)
    (ht : eval (.Call (.Attribute o m apos) (e :: es) [] pos) X.env = (do
      let ov ← eval o X.env
      standAt apos.atName
      let (f, first) ← holding [ov] (getMethod ov m pl)
      callWith pos f first (backTo pos (starEach (e :: es) X.env)) (backToKw pos (keywordEach [] X.env))) := by rfl) :
    PE X (.Call (.Attribute o m apos) (e :: es) [] pos) (tMeth C m sp dvs E ta t) := by
  intro pins s σ H Q I h
  refine PySem.W.methodCall_KW (pl := pl) (thn (he pins s σ H _ I h) fun u s1 ⟨x, H1, I1, rx, a, dx, fs, ex, ea, l, q⟩ => ?_) ht
  subst ex
  obtain rfl : u = Value.ref a := rx
  refine getmeth_ok I1 ea c hm l ?_
  refine PySem.W.callWith_K (first := [.ref a]) (h₀ := X.base) I.ok.mod.kin hm.kp (thn (ha pos pins s1 σ H1 _ I1 q) fun us s2 ⟨vs, H2, I2, r, q2⟩ => ⟨I2.kIn, ?_⟩) hst hpl
  exact run_fn (us := .ref a :: us) (vs := .ref a :: vs) F hr hb hd hx I2 (.cons rfl r) q2
theorem pe_meth0 {pl : Sem Bool} (he : PE X o ta) (c : Cls X.K C) (hm : Meth X.K C m f) (F : FnOk X.prog X.w X.K X.mg X.base CX k f fd ps sp) (hr : Room k X.A) (hb : Binds X.K fd ps ds) (hd : Vals dvs ds) (hx : Passes CX X E)
    (ht : eval (.Call (.Attribute o m apos) [] [] pos) X.env = (do
      let ov ← eval o X.env
      standAt apos.atName
      let (f, first) ← holding [ov] (getMethod ov m pl)
      callWith pos f first (backTo pos (starEach [] X.env)) (backToKw pos (keywordEach [] X.env))) := by rfl) :
    PE X (.Call (.Attribute o m apos) [] [] pos) (tMeth C m sp dvs E ta tNil) := by
  intro pins s σ H Q I h
  refine PySem.W.methodCall_KW (pl := pl) (thn (he pins s σ H _ I h) fun u s1 ⟨x, H1, I1, rx, a, dx, fs, ex, ea, l, q⟩ => ?_) ht
  subst ex
  obtain rfl : u = Value.ref a := rx
  refine getmeth_ok I1 ea c hm l ?_
  exact PySem.W.callWith_K0 (first := [.ref a]) I1.kIn hm.kp (run_fn (us := [.ref a]) (vs := [.ref a]) F hr hb hd hx I1 (.cons rfl .nil) q)
structure Mk (K : PySem.W.Frag) (C f : Addr) : Prop where
  makes : PySem.W.makesIn K C = true
  init : PySem.W.findIn K (.ref C) "__init__" = some (some (.ref f))
  fn : PySem.W.isFn K (.ref f) = true
  kp : PySem.W.keepIn K (.ref C) = true
theorem run_make {pins : List (Addr × Obj)} {σ : St} {H : Hp} {s : Shared} {Q : VK} {us : List Value} {vs : List V} (M : Mk X.K C f) (F : FnOk X.prog X.w X.K X.mg X.base CX k f fd ps sp) (hr : Room (k + 1) X.A) (hb : Binds X.K fd ps ds) (hd : Vals dvs ds)
    (hx : Passes CX X E) (I : Inv X pins σ H s) (r : Vals vs us)
    (h : ∀ x dx, H x = none → H dx = none → dx ≠ x → sp (.ref x :: (vs ++ dvs)) (upd (upd H dx (.own x)) x (.ins C dx [])) (fun v H2 => v = .non ∧ Q (.ref x) H2) E) :
    wpAny (model X.prog X.w) X.A (call (.ref C) us) (EP X pins σ Q) X.xe s := by
  have hq := h (s.heap.objs.size + 1) s.heap.objs.size (I.hok.fresh (Nat.le_succ _)) (I.hok.fresh (Nat.le_refl _)) (Nat.ne_of_lt (Nat.lt_succ_self _))
  have I2 := Inv.made (C := C) I
  have r2 : Vals (V.ref (s.heap.objs.size + 1) :: (vs ++ dvs)) (Value.ref (s.heap.objs.size + 1) :: (us ++ ds)) := .cons rfl (r.append hd)
  have hl : (Value.ref (s.heap.objs.size + 1) :: us ++ ds).length = ps.length := by
    have e := r2.length
    rw [F.len _ _ _ _ hq] at e
    exact e.symm
  refine wpAny_call (make_map (f := f) I.kIn M.makes M.init (beq_iff_eq.mp M.fn) (codeAny_mono (F.run _ X.stack _ _ ⟨Value.ref (s.heap.objs.size + 1) :: us, []⟩ (Value.ref (s.heap.objs.size + 1) :: (us ++ ds)) _ _ E (hr.make C us [])
    (I2.env0.make C us []) (hb _ (Value.ref (s.heap.objs.size + 1) :: us) I2.kIn hl) r2 hq) fun r s' hq' => ?_))
  cases r with
  | error e => exact hx pins σ _ _ e s' I2 hq'
  | ok fl =>
    cases fl with
    | ret u =>
      obtain ⟨v, H', I3, rv, ev, q3⟩ := I2.after hq'
      subst ev
      exact ⟨rv, ⟨V.ref (s.heap.objs.size + 1), H', I3, rfl, q3⟩⟩
    | next => exact False.elim hq'
    | brk => exact False.elim hq'
    | cont => exact False.elim hq'
theorem pe_make (M : Mk X.K C f) (F : FnOk X.prog X.w X.K X.mg X.base CX k f fd ps sp) (hr : Room (k + 1) X.A) (hg : Gl X x) (hm : X.mg x = some (.ref C)) (hb : Binds X.K fd ps ds) (hd : Vals dvs ds) (hx : Passes CX X E)
    (ha : PA X (e :: es) t) (hdb : (x == ("__debug__" : Str)) = false := by decide) (he : starEach (e :: es) X.env = (false, eval e X.env) :: starEach es X.env := by rfl) (hpl : (backTo pos (starEach es X.env)).any (·.1) = false := by rfl) :
    PE X (.Call (.Name x p) (e :: es) [] pos) (tMake C sp dvs E t) := by
  intro pins s σ H Q I h
  refine wpAny_Call_Name_kw (ld_glob I hg hm ?_ hdb)
  refine PySem.W.callWith_K (h₀ := X.base) I.ok.mod.kin M.kp (thn (ha pos pins s σ H _ I h) fun us s1 ⟨vs, H1, I1, r, q⟩ => ⟨I1.kIn, ?_⟩) he hpl
  exact run_make M F hr hb hd hx I1 r q
theorem pe_make0 (M : Mk X.K C f) (F : FnOk X.prog X.w X.K X.mg X.base CX k f fd ps sp) (hr : Room (k + 1) X.A) (hg : Gl X x) (hm : X.mg x = some (.ref C)) (hb : Binds X.K fd ps ds) (hd : Vals dvs ds) (hx : Passes CX X E)
    (hdb : (x == ("__debug__" : Str)) = false := by decide) : PE X (.Call (.Name x p) [] [] pos) (tMake C sp dvs E tNil) := by
  intro pins s σ H Q I h
  refine wpAny_Call_Name_kw (ld_glob I hg hm ?_ hdb)
  exact PySem.W.callWith_K0 I.kIn M.kp (run_make (us := []) M F hr hb hd hx I .nil h)
end
structure FnScope (N P : List Str) (sc : Scope) : Prop where
  kind : sc.kind = .function
  co : sc.isCoroutine = false
  gen : sc.isGenerator = false
  nd : N.Nodup
  pre : N.take P.length = P
  par : ∀ x ∈ P, sc.names.lookup x = some .local ∨ sc.names.lookup x = some .cell
  nofree : ∀ y ∈ sc.names, y.2 ≠ .free
theorem bindL_out {kindOf : Str → Option NameKind} {x : Str} : ∀ {binds : List (Str × Value)} {m : Str → Option Value}, (∀ v, (x, v) ∉ binds) → bindL kindOf binds m x = m x
  | [], _, _ => rfl
  | (n, v) :: r, m, h => by
    unfold bindL
    rw [bindL_out fun w hw => h w (List.mem_cons_of_mem _ hw)]
    split
    · have : x ≠ n := by rintro rfl; exact h v List.mem_cons_self
      simp [this]
    · rfl
theorem bindC_out {kindOf : Str → Option NameKind} {x : Str} : ∀ {binds : List (Str × Value)} {m : Str → Option Value}, (∀ v, (x, v) ∉ binds) → bindC kindOf binds m x = m x
  | [], _, _ => rfl
  | (n, v) :: r, m, h => by
    unfold bindC
    rw [bindC_out fun w hw => h w (List.mem_cons_of_mem _ hw)]
    split
    · rfl
    · have : x ≠ n := by rintro rfl; exact h v List.mem_cons_self
      simp [this]
theorem bindL_get {kindOf : Str → Option NameKind} {x : Str} {v : Value} : ∀ {P : List Str} {vs : List Value} {i : Nat} {m : Str → Option Value}, P.Nodup → P[i]? = some x → vs[i]? = some v → kindOf x = some .local →
    bindL kindOf (P.zip vs) m x = some v
  | [], _, _, _, _, h, _, _ => by simp at h
  | _ :: _, [], _, _, _, _, h, _ => by simp at h
  | p :: P, w :: vs, 0, m, nd, h1, h2, hk => by
    simp at h1 h2; subst h1; subst h2
    show bindL kindOf ((p, w) :: P.zip vs) m p = _
    unfold bindL
    rw [bindL_out fun v hv => (List.nodup_cons.mp nd).1 (List.of_mem_zip hv).1, if_pos hk]
    simp
  | p :: P, w :: vs, i + 1, m, nd, h1, h2, hk => by
    show bindL kindOf ((p, w) :: P.zip vs) m x = _
    unfold bindL
    exact bindL_get (i := i) (List.nodup_cons.mp nd).2 (by simpa using h1) (by simpa using h2) hk
theorem bindC_get {kindOf : Str → Option NameKind} {x : Str} {v : Value} : ∀ {P : List Str} {vs : List Value} {i : Nat} {m : Str → Option Value}, P.Nodup → P[i]? = some x → vs[i]? = some v → kindOf x ≠ some .local →
    bindC kindOf (P.zip vs) m x = some v
  | [], _, _, _, _, h, _, _ => by simp at h
  | _ :: _, [], _, _, _, _, h, _ => by simp at h
  | p :: P, w :: vs, 0, m, nd, h1, h2, hk => by
    simp at h1 h2; subst h1; subst h2
    show bindC kindOf ((p, w) :: P.zip vs) m p = _
    unfold bindC
    rw [bindC_out fun v hv => (List.nodup_cons.mp nd).1 (List.of_mem_zip hv).1, if_neg hk]
    simp
  | p :: P, w :: vs, i + 1, m, nd, h1, h2, hk => by
    show bindC kindOf ((p, w) :: P.zip vs) m x = _
    unfold bindC
    exact bindC_get (i := i) (List.nodup_cons.mp nd).2 (by simpa using h1) (by simpa using h2) hk
def start (N : List Str) (vs : List V) : St := vs.map some ++ List.replicate (N.length - vs.length) none
def cxOf (CX : CXT) (P : Program) (w : World) (K : PySem.W.Frag) (mg : Str → Option Value) (base : Heap) (N : List Str) (qual : Str) (scope : Scope) (f : Addr) (cd : Value) (A : Around) (outer : List Env) (s : Shared) (H : Hp) (E : XK) : Cx where
  prog := P
  w := w
  K := K
  mg := mg
  base := base
  A := A.deeper (envOfC qual scope s.heap.objs.size f cd)
  N := N
  s₀ := s
  H₀ := H
  env := envOfC qual scope s.heap.objs.size f cd
  outer := outer
  stack := envOfC qual scope s.heap.objs.size f cd :: outer
  ex := []
  calm := true
  fn := fun _ => true
  pn := []
  xe := fun e s' => wpAny (model P w) (A.deeper (envOfC qual scope s.heap.objs.size f cd)) (leaving (envOfC qual scope s.heap.objs.size f cd) e) (fun _ s'' => CX outer H s E e s'') (fun e' s'' => CX outer H s E e' s'') s'
theorem cell_has {sc : Scope} {n : Nat} {x : Str} (h : sc.names.lookup x = some .cell) : ∃ c, (cellsFrom n sc.names []).lookup x = some c := by
  have q := PySem.W.cellsFrom_some sc.names n [] (.inl h)
  exact Option.isSome_iff_exists.mp q
theorem inv_start {CX : CXT} {P : Program} {w : World} {K : PySem.W.Frag} {mg : Str → Option Value} {base : Heap} {N ps : List Str} {qual : Str} {scope : Scope} {f : Addr} {cd : Value} {A : Around} {outer : List Env} {s s1 : Shared} {H : Hp} {E : XK} {us : List Value} {vs : List V}
    (S : FnScope N ps scope) (hd : A.handled = none) (e0 : Env0 P w K mg base A outer s H) (hl : vs.length = ps.length) (r : Vals vs us)
    (x : InCallC s s.heap.objs.size (bindL (envOfC qual scope s.heap.objs.size f cd).kindOf (ps.zip us) fun _ => none) (cellsFrom (s.heap.objs.size + 1) scope.names []) (bindC (envOfC qual scope s.heap.objs.size f cd).kindOf (ps.zip us) fun _ => none) s1) :
    Inv (cxOf CX P w K mg base N qual scope f cd A outer s H E) [] (start N vs) H s1 := by
  have hpl : ps.length ≤ N.length := by have := congrArg List.length S.pre; rw [List.length_take] at this; omega
  obtain ⟨h1, tk, rfl, hk⟩ := x.done
  have noA : ∀ b : Addr, b ∉ (cxOf CX P w K mg base N qual scope f cd A outer s H E).ex := fun b z => absurd (show b ∈ ([] : List Addr) from z) (by simp)
  refine ⟨⟨e0.mod, S.kind, rfl, rfl, Nat.le_refl _, fun y z c h1 h2 => ?_, fun y hy => ?_, fun y c _ h => ?_, fun _ => hd, Around.frames_deeper e0.frames, .inr ⟨rfl, rfl⟩, fun b z => absurd z (noA b), e0.bs, e0.bsz, fun b _ _ => noA b, fun b z => absurd z (noA b), e0.funs, e0.frf⟩,
    rfl, e0.bare, Un.kept hk, ⟨_, x.toInCall.ns, fun i y v h1 h2 h3 => ?_⟩, fun y c h => ⟨_, x.cell y c h⟩, e0.hok.fresh (Nat.le_refl _), fun y c h => ?_, fun p hp => absurd (show p ∈ ([] : List (Addr × Obj)) from hp) (by simp), e0.hok.kept hk, ?_⟩
  · exact name_of_addr x.apart (PySem.mem_of_lookup h1) (PySem.mem_of_lookup h2)
  · have hy : scope.names.lookup y = some .cell ∨ scope.names.lookup y = some .free := hy
    rcases hy with hy | hy
    · exact cell_has hy
    · exact absurd rfl (S.nofree _ (PySem.mem_of_lookup hy))
  · exact Nat.le_of_lt (x.above y c (PySem.mem_of_lookup h))
  · have hi : i < vs.length := by
      unfold start at h2
      by_cases hi : i < vs.length
      · exact hi
      · rw [List.getElem?_append_right (by simpa using hi)] at h2
        rw [List.getElem?_replicate] at h2
        split at h2 <;> cases h2
    have ha : vs[i]? = some v := by
      unfold start at h2
      rw [List.getElem?_append_left (by simpa using hi), List.getElem?_map] at h2
      cases e : vs[i]? with
      | none => rw [e] at h2; cases h2
      | some a => rw [e] at h2; cases h2; rfl
    obtain ⟨u, hu, rv⟩ := r.get ha
    have hp : ps[i]? = some y := by
      rw [← S.pre, List.getElem?_take_of_lt (by omega)]; exact h1
    have ndP : ps.Nodup := by rw [← S.pre]; exact S.nd.sublist (List.take_sublist _ _)
    refine ⟨u, rv, ?_⟩
    rcases S.par y (List.mem_of_getElem? hp) with k | k
    · exact .inl ⟨k, bindL_get ndP hp hu k⟩
    · obtain ⟨c, e⟩ := cell_has (n := s.heap.objs.size + 1) k
      refine .inr ⟨.inl k, c, e, ?_⟩
      have q := x.cell y c e
      rw [bindC_get ndP hp hu (by show scope.names.lookup y ≠ _; rw [k]; decide)] at q
      exact q
  · exact e0.hok.fresh (Nat.le_of_lt (x.above y c (PySem.mem_of_lookup h)))
  · unfold start
    show _ = N.length
    rw [List.length_append, List.length_map, List.length_replicate]
    omega
theorem fn_of {CX : CXT} {P : Program} {w : World} {K : PySem.W.Frag} {mg : Str → Option Value} {base : Heap} {k : Nat} {f : Addr} {name qual : Str} {params : Arguments} {body : List Stmt} {scope : Scope} {dV kV doc pm cdv ct oc : Value} {an od : Option Addr}
    {osl : Array (Option Value)} {N ps : List Str} {sp : Sp} (lk : K.lookup f = some ⟨oc, od, .func (PySem.W.fnOf name qual params body scope dV kV doc pm an cdv ct), osl⟩) (hcd : PySem.W.codeIn K cdv qual = true) (S : FnScope N ps scope)
    (len : ∀ vs H Q E, sp vs H Q E → vs.length = ps.length)
    (hbody : ∀ (A : Around) (outer : List Env) (s : Shared) (H : Hp) (vs : List V) (Q : VK) (E : XK), Room k (A.deeper (envOfC qual scope s.heap.objs.size f cdv)) → sp vs H Q E →
      ∃ t, PSs (cxOf CX P w K mg base N qual scope f cdv A outer s H E) body t ∧ t { nx := fun _ H' => Q .non H', rt := Q } (start N vs) H) :
    FnOk P w K mg base CX (k + 1) f (PySem.W.fnOf name qual params body scope dV kV doc pm an cdv ct) ps sp := by
  refine ⟨len, fun A outer s H args us vs Q E hr e0 hb r hsp => ?_⟩
  have hl := len _ _ _ _ hsp
  have KX : K.In s.heap := e0.mod.kin.keeps fun b o e => (e0.bs b o e).1
  have lim : s.heap.NoLimit := e0.mod.nolimit.keeps fun b o e => (e0.bs b o e).1
  have hkind : ∀ y ∈ ps.zip us, scope.names.lookup y.1 = some .local ∨ (scope.names.lookup y.1 = some .cell ∧ ((cellsFrom (s.heap.objs.size + 1) scope.names []).lookup y.1).isSome = true) := fun ⟨n, v⟩ hy => by
    rcases S.par n (List.of_mem_zip hy).1 with q | q
    · exact .inl q
    · exact .inr ⟨q, PySem.W.cellsFrom_some _ _ _ (.inl q)⟩
  refine codeAny_call_function hr.depth (KX _ _ lk) rfl S.co S.gen rfl (PySem.W.codeRec_of KX hcd) (hb _ _ _ _ ?_)
  refine wpAny_newFunctionEnv_cells S.kind hkind fun env he s1 x => ?_
  subst he
  refine ⟨lim.keeps x.toInCall.keep, codeAny_func ?_⟩
  obtain ⟨t, ht, hq⟩ := hbody A outer s H vs Q E (hr.deeper _) hsp
  have I : Inv (cxOf CX P w K mg base N qual scope f cdv A outer s H E) [] (start N vs) H s1 := inv_start S hr.hd e0 hl r x
  refine wpAny_mono (ht [] s1 (start N vs) H _ I hq) (fun fl s' hs => ?_) fun e s' hs => hs
  have fin : ∀ {σ' : St} {H' : Hp} {v : V} {u : Value}, Inv (cxOf CX P w K mg base N qual scope f cdv A outer s H E) [] σ' H' s' → RelV v u → Q v H' → CE outer P w H s Q u s' :=
    fun {σ' H' v u} J rv q => ⟨v, H', J.os, J.bare, J.base, J.hok, rv, q⟩
  cases fl with
  | ret u =>
    obtain ⟨v, σ', H', J, rv, q⟩ := hs
    exact fin J rv q
  | next =>
    obtain ⟨σ', H', J, q⟩ := hs
    exact fin (v := V.non) (u := Value.none) J rfl q
  | brk =>
    obtain ⟨_, _, _, q⟩ := hs
    exact False.elim q
  | cont =>
    obtain ⟨_, _, _, q⟩ := hs
    exact False.elim q
end L2
namespace L2
open PySem PySem.Spec PyProof.Rows
section
variable {X : Cx} {x : Str} {p pos : Pos} {e : Expr} {es : List Expr} {t : TA} {id T : String} {r : List V → Hp → VK → Prop}
def tCB (r : List V → Hp → VK → Prop) (t : TA) : TE := fun σ H Q => t σ H fun vs H1 => r vs H1 Q
theorem pe_callB (hc : CallR X (.builtin id) r) (hg : Gl X x) (hm : X.mg x = none) (hv : bootBuiltins x = some (.builtin id)) (ha : PA X (e :: es) t) (hn : x ≠ "__name__" := by decide) (hdb : (x == ("__debug__" : Str)) = false := by decide)
    (he : starEach (e :: es) X.env = (false, eval e X.env) :: starEach es X.env := by rfl) (hpl : (backTo pos (starEach es X.env)).any (·.1) = false := by rfl) : PE X (.Call (.Name x p) (e :: es) [] pos) (tCB r t) := by
  intro pins s σ H Q I h
  refine wpAny_Call_Name_kw (ld_blt I hg hm hv ?_ hn hdb)
  exact PyProof.Rows.callWith_builtin1 (thn (ha pos pins s σ H _ I h) fun us s1 ⟨vs, H1, I1, r1, q1⟩ => hc pins s1 σ H1 vs us Q I1 r1 q1) he hpl
theorem pe_callTy (hc : CallR X (.type T) r) (hg : Gl X x) (hm : X.mg x = none) (hv : bootBuiltins x = some (.type T)) (ha : PA X (e :: es) t) (hn : x ≠ "__name__" := by decide) (hdb : (x == ("__debug__" : Str)) = false := by decide)
    (he : starEach (e :: es) X.env = (false, eval e X.env) :: starEach es X.env := by rfl) (hpl : (backTo pos (starEach es X.env)).any (·.1) = false := by rfl) : PE X (.Call (.Name x p) (e :: es) [] pos) (tCB r t) := by
  intro pins s σ H Q I h
  refine wpAny_Call_Name_kw (ld_blt I hg hm hv ?_ hn hdb)
  exact PyProof.Rows.callWith_type1 (thn (ha pos pins s σ H _ I h) fun us s1 ⟨vs, H1, I1, r1, q1⟩ => hc pins s1 σ H1 vs us Q I1 r1 q1) he hpl
end
end L2
namespace HT
open PySem PyProof.Rows
section
variable {prog : Program} {w : World} {A : Around} {E : Value → Shared → Prop} {s : Shared}
def sIx (n d : Nat) : Option Int → Nat
  | none => d
  | some v => if v < 0 then (v + (n : Int)).toNat else min v.toNat n
theorem sIx_nat (n d k : Nat) : sIx n d (some (k : Int)) = min k n := by
  show (if (k : Int) < 0 then ((k : Int) + (n : Int)).toNat else min (k : Int).toNat n) = min k n
  rw [if_neg (by omega), Int.toNat_natCast]
theorem sIx_le (n d : Nat) (hd : d ≤ n) (o : Option Int) : sIx n d o ≤ n := by
  cases o with
  | none => exact hd
  | some v =>
    show (if v < 0 then (v + (n : Int)).toNat else min v.toNat n) ≤ n
    by_cases hv : v < 0
    · rw [if_pos hv]; omega
    · rw [if_neg hv]; exact Nat.min_le_right _ _
theorem clip_eq (v : Int) (n d : Nat) : (if v < 0 then max (v + (n : Int)) 0 else min v (n : Int)) = ((sIx n d (some v) : Nat) : Int) := by
  show (if v < 0 then max (v + (n : Int)) 0 else min v (n : Int)) = (((if v < 0 then (v + (n : Int)).toNat else min v.toNat n) : Nat) : Int)
  by_cases hv : v < 0
  · simp only [if_pos hv]; omega
  · simp only [if_neg hv]; omega
theorem adjust_gen (lo hi : Option Int) (n : Nat) : Builtin.Slice.sliceAdjust lo hi 1 (n : Int) = (((sIx n 0 lo : Nat) : Int), ((sIx n n hi : Nat) : Int)) := by
  have h1 : ¬ ((1 : Int) < 0) := by omega
  unfold Builtin.Slice.sliceAdjust
  simp only [h1, if_false]
  refine Prod.ext ?_ ?_
  · cases lo with
    | none => rfl
    | some v => exact clip_eq v n 0
  · cases hi with
    | none => rfl
    | some v => exact clip_eq v n n
theorem places_gen (i j : Nat) : Builtin.Slice.slicePlaces (i : Int) (j : Int) 1 = j - i := by
  unfold Builtin.Slice.slicePlaces
  have h1 : (1 : Int) > 0 := by omega
  simp only [h1, if_true, Int.ediv_one]
  split <;> omega
theorem slicePart_ {v : Value} {o : Option Int} {Q : Option Int → Shared → Prop} (p : IsPart v o) (h : Q o s) : wpAny (model prog w) A (Builtin.Slice.slicePartIndex v) Q E s := by
  cases p with
  | none => exact slicePart_none h
  | int i t => exact slicePart_int h
theorem sliceApplied_gen {sl : Addr} {vl vu : Value} {lo hi : Option Int} {n : Nat} {Q : Int × Int × Nat → Shared → Prop} (hs : s.heap.IsSliceOf sl vl vu .none) (pl : IsPart vl lo) (pu : IsPart vu hi)
    (h : Q (((sIx n 0 lo : Nat) : Int), 1, sIx n n hi - sIx n 0 lo) s) : wpAny (model prog w) A (Builtin.Slice.sliceApplied (.ref sl) (pure (n : Int))) Q E s := by
  obtain ⟨os, hos, hcs, hds⟩ := id hs
  unfold Builtin.Slice.sliceApplied Builtin.Slice.sliceFields
  refine wpAny_bind (wpAny_bind (wpAny_field hos hds (x := vl) rfl (wpAny_bind (wpAny_field hos hds (x := vu) rfl (wpAny_bind (wpAny_field hos hds (x := .none) rfl (wpAny_pure ?_)))))))
  refine wpAny_bind (slicePart_none ?_)
  show wpAny _ _ (if ((1 : Int) == 0) = true then _ else _) _ _ s
  rw [if_neg (by decide)]
  refine wpAny_bind (slicePart_ pl (wpAny_bind (slicePart_ pu (wpAny_bind (wpAny_pure ?_)))))
  show wpAny _ _ (match Builtin.Slice.sliceAdjust lo hi 1 (n : Int) with | (lo, hi) => pure (lo, (1 : Int), Builtin.Slice.slicePlaces lo hi 1)) _ _ s
  rw [adjust_gen lo hi n]
  show wpAny _ _ (pure (((sIx n 0 lo : Nat) : Int), (1 : Int), Builtin.Slice.slicePlaces ((sIx n 0 lo : Nat) : Int) ((sIx n n hi : Nat) : Int) 1)) _ _ s
  rw [places_gen]
  exact wpAny_pure h
theorem pick_gen (xs : Array Value) (i k : Nat) : ((List.range k).filterMap fun (m : Nat) => xs[((i : Int) + (m : Int) * 1).toNat]?).toArray = ((xs.toList.drop i).take k).toArray := by
  have e : (fun (m : Nat) => xs[((i : Int) + (m : Int) * 1).toNat]?) = fun m => xs[i + m]? := by
    funext m
    have : ((i : Int) + (m : Int) * 1).toNat = i + m := by omega
    rw [this]
  rw [e]
  have := pick_run xs i k
  rw [List.filterMap_map] at this
  have e2 : ((fun x => xs[x]?) ∘ fun x => i + x) = fun m => xs[i + m]? := rfl
  rw [e2] at this
  rw [this]
theorem getItem_tuple_cut {t sl : Addr} {items : Array Value} {vl vu : Value} {lo hi : Option Int} {Q : Value → Shared → Prop} (ht : IsTup s.heap t items) (hs : s.heap.IsSliceOf sl vl vu .none) (pl : IsPart vl lo) (pu : IsPart vu hi)
    (hw : ¬ (sIx items.size 0 lo = 0 ∧ sIx items.size items.size hi = items.size))
    (h : Q (.ref s.heap.objs.size) { s with heap := s.heap.push { cls := .type "tuple", data := .seq ((items.toList.drop (sIx items.size 0 lo)).take (sIx items.size items.size hi - sIx items.size 0 lo)).toArray } })
    (hsz : items.size ≤ sizeLine) : wpAny (model prog w) A (getItem (.ref t) (.ref sl)) Q E s := by
  have htake : sizeOk (.seq ((items.toList.drop (sIx items.size 0 lo)).take (sIx items.size items.size hi - sIx items.size 0 lo)).toArray) := by
    show ((items.toList.drop (sIx items.size 0 lo)).take (sIx items.size items.size hi - sIx items.size 0 lo)).toArray.size ≤ sizeLine
    rw [List.size_toArray, List.length_take, List.length_drop, Array.length_toList]
    omega
  have hj : sIx items.size items.size hi ≤ items.size := sIx_le _ _ (Nat.le_refl _) hi
  obtain ⟨os, hos, hcs, hds⟩ := id hs
  have hTs : s.TypeIs (.ref sl) "slice" := ⟨os, hos, hcs⟩
  unfold getItem
  try with_reducible refine wpAny_holding ?_
  first | refine wpAny_bind (wpAny_pure ?_) | skip
  refine wpAny_bind (wpAny_sequenceKey ht.typeIs (by decide) ?_)
  refine wpAny_bind (wpAny_callSpecial?_slot (name := Str.ofString "__getitem__") ht.typeIs PyProof.Rows.slot_tuple_getitem
    (wpAny_call_entry PyProof.Rows.slot_tuple_getitem ht.typeIs entry_tuple_getitem ?_ (args_tuple_getitem _ _)))
  show wpAny _ _ (Builtin.Tuple.tupleItemsOf (.ref t) >>= _) _ _ s
  refine wpAny_bind (tupleItemsOf_ ht ?_)
  refine wpAny_bind (wpAny_typeOf hTs ?_)
  rw [if_pos (by decide)]
  refine wpAny_bind (sliceApplied_gen hs pl pu ?_)
  have hno : ¬ ((((sIx items.size 0 lo : Nat) : Int) == 0 && (1 : Int) == 1 && (sIx items.size items.size hi - sIx items.size 0 lo) == items.size) = true) := by
    intro q
    rw [Bool.and_eq_true, Bool.and_eq_true] at q
    have q1 : ((sIx items.size 0 lo : Nat) : Int) = 0 := eq_of_beq q.1.1
    have q2 : sIx items.size items.size hi - sIx items.size 0 lo = items.size := eq_of_beq q.2
    exact hw ⟨by omega, by omega⟩
  show wpAny _ _ (if (((sIx items.size 0 lo : Nat) : Int) == 0 && (1 : Int) == 1 && (sIx items.size items.size hi - sIx items.size 0 lo) == items.size) = true then _ else _) _ _ s
  rw [if_neg hno, pick_gen]
  first
    | exact wpAny_bind (m := Builtin.Tuple.tupleExact _) (wpAny_newObj_type (wpAny_pure ⟨_, rfl, wpAny_pure h⟩) htake)
    | exact wpAny_bind (m := Builtin.Tuple.tupleExact _) (wpAny_newObj_type (wpAny_bind (wpAny_pure (wpAny_pure ⟨_, rfl, wpAny_pure h⟩))) htake)
    | exact wpAny_bind (wpAny_bind (m := Builtin.Tuple.tupleExact _) (wpAny_newObj_type (wpAny_pure (wpAny_pure ⟨_, rfl, wpAny_pure h⟩)) htake))
    | exact wpAny_bind (wpAny_bind (m := Builtin.Tuple.tupleExact _) (wpAny_newObj_type (wpAny_pure ⟨_, rfl, wpAny_pure h⟩) htake))
end
end HT
namespace L2
open PySem PySem.Spec PyProof.Rows
abbrev TO := St → Hp → (Option Int → Hp → Prop) → Prop
def PO (X : Cx) (e : Option Expr) (t : TO) : Prop :=
  ∀ (pins : List (Addr × Obj)) (s : Shared) (σ : St) (H : Hp) (Q : Option Int → Hp → Prop), Inv X pins σ H s → t σ H Q →
    wpAny (model X.prog X.w) X.A (evalPart e X.env) (fun u s' => ∃ o H', Inv X pins σ H' s' ∧ IsPart u o ∧ Q o H') X.xe s
def tNoPart : TO := fun _ H Q => Q none H
def tPart (t : TE) : TO := fun σ H Q => t σ H fun x H1 => ∃ i, x = .int i ∧ Q (some i) H1
theorem intsAre_of {ns : List Int} : ∀ {us : List Value}, Vals (ns.map V.int) us → IntsAre us ns := by
  induction ns with
  | nil => intro us r; rw [List.map_nil] at r; cases r; exact .nil
  | cons n ns ih =>
    intro us r
    rw [List.map_cons] at r
    cases r with
    | cons r1 r2 =>
      obtain ⟨t, e⟩ := r1
      subst e
      exact .cons n t (ih r2)
section
variable {X : Cx} {e : Expr} {te : TE} {lo hi : Option Expr} {tl th : TO} {pos p2 : Pos}
theorem po_none : PO X none tNoPart := by
  intro pins s σ H Q I h
  rw [evalPart_none]
  exact wpAny_pure ⟨none, H, I, .none, h⟩
theorem po_some (h : PE X e te) : PO X (some e) (tPart te) := by
  intro pins s σ H Q I hw
  rw [evalPart_some]
  refine thn (h pins s σ H _ I hw) fun u s1 ⟨x, H1, I1, r1, q1⟩ => ?_
  obtain ⟨i, rfl, q⟩ := q1
  obtain ⟨t, rfl⟩ := r1
  exact ⟨some i, H1, I1, .int i t, q⟩
def SlR (X : Cx) (r : V → Option Int → Option Int → Hp → VK → Prop) : Prop :=
  ∀ (pins : List (Addr × Obj)) (s : Shared) (σ : St) (H : Hp) (x : V) (v vl vu : Value) (lo hi : Option Int) (sl : Addr) (Q : VK), Inv X pins σ H s → RelV x v → s.heap.IsSliceOf sl vl vu .none → IsPart vl lo → IsPart vu hi → r x lo hi H Q →
    ∃ T id, typeLookup (.type T) "__getitem__" = pure (some (.builtin id)) ∧ s.TypeIs v T ∧ wpAny (model X.prog X.w) X.A (getItem v (.ref sl)) (EP X pins σ Q) X.xe s
def tSl (r : V → Option Int → Option Int → Hp → VK → Prop) (te : TE) (tl th : TO) : TE := fun σ H Q => te σ H fun x H1 => tl σ H1 fun l H2 => th σ H2 fun u H3 => r x l u H3 Q
theorem pe_slice {r : V → Option Int → Option Int → Hp → VK → Prop} (hr : SlR X r) (he : PE X e te) (hl : PO X lo tl) (hu : PO X hi th) : PE X (.Subscript e (.Slice lo hi none p2) pos) (tSl r te tl th) := by
  intro pins s σ H Q I h
  refine Subscript_ (thn (he pins s σ H _ I h) fun v s1 ⟨x, H1, I1, r1, q1⟩ => ?_)
  refine wpAny_Slice (thn (hl pins s1 σ H1 _ I1 q1) fun vl s2 ⟨l, H2, I2, pl, q2⟩ => thn (hu pins s2 σ H2 _ I2 q2) fun vu s3 ⟨u, H3, I3, pu, q3⟩ => ?_)
  rw [evalPart_none]
  refine wpAny_pure ?_
  have I4 : Inv X pins σ H3 { s3 with heap := s3.heap.push { cls := .type "slice", data := .fields #[vl, vu, .none] } } := I3.kept (t' := s3.toks) fun b ob q => Heap.get?_push_of_some _ q
  obtain ⟨T, id, hT, ht, hg⟩ := hr pins { s3 with heap := s3.heap.push { cls := .type "slice", data := .fields #[vl, vu, .none] } } σ H3 x v vl vu l u s3.heap.objs.size Q I4 r1 (Heap.IsSliceOf.new ..) pl pu q3
  show wpAny (model X.prog X.w) X.A (subscriptTail e (.Slice lo hi none p2) v (.ref s3.heap.objs.size)) (EP X pins σ Q) X.xe { s3 with heap := s3.heap.push { cls := .type "slice", data := .fields #[vl, vu, .none] } }
  exact tail_any (ops := [.ref s3.heap.objs.size, v]) ht hT hg (by with_unfolding_all rfl)
def cutV (xs : List V) (lo hi : Option Int) : List V := (xs.drop (HT.sIx xs.length 0 lo)).take (HT.sIx xs.length xs.length hi - HT.sIx xs.length 0 lo)
theorem cutV_length (xs : List V) (lo hi : Option Int) : (cutV xs lo hi).length ≤ xs.length := by
  unfold cutV
  rw [List.length_take, List.length_drop]
  omega
def rSlT (K : PySem.W.Frag) : V → Option Int → Option Int → Hp → VK → Prop := fun x lo hi H Q => ∃ a xs, x = .ref a ∧ SqT K H a xs ∧
  ¬ (HT.sIx xs.length 0 lo = 0 ∧ HT.sIx xs.length xs.length hi = xs.length) ∧ ∀ p, H p = none → Q (.ref p) (upd H p (.tup (cutV xs lo hi)))
theorem sl_tup : SlR X (rSlT X.K) := by
  intro pins s σ H x v vl vu lo hi sl Q I rx hs pl pu h
  obtain ⟨a, xs, rfl, hx, hw, q⟩ := h
  cases rx
  obtain ⟨its, r, ht, hz⟩ := I.tuple hx
  have hlen : its.toArray.size = xs.length := by rw [List.size_toArray]; exact r.length.symm
  refine ⟨"tuple", _, PyProof.Rows.slot_tuple_getitem.lookup, ht.typeIs, ?_⟩
  refine HT.getItem_tuple_cut ht hs pl pu (by rw [hlen]; exact hw) ?_ (by rw [hlen]; exact hz)
  rw [hlen]
  refine ⟨.ref s.heap.objs.size, _, I.laid (t' := s.toks) (o := .tup (cutV xs lo hi)) (fun b ob q => Heap.get?_push_of_some _ q) (Nat.le_refl _) ?_, rfl, q _ (I.hok.fresh (Nat.le_refl _))⟩
  exact ⟨Nat.le_trans (cutV_length xs lo hi) hz, _, (r.drop (HT.sIx xs.length 0 lo)).take (HT.sIx xs.length xs.length hi - HT.sIx xs.length 0 lo), IsTup.new _ _⟩
end
end L2
namespace L2
open PySem PySem.Spec PyProof.Rows
def ixN (n : Nat) (i : Int) : Option Nat := if 0 ≤ i then (if i < n then some i.toNat else none) else if -(n : Int) ≤ i then some (i + n).toNat else none
def atI {α : Type} (xs : List α) (i : Int) : Option α := (ixN xs.length i).bind fun j => xs[j]?
theorem ixN_seq {n : Nat} {i : Int} {j : Nat} (h : ixN n i = some j) : seqIndex? i n = some j ∧ j < n ∧ -(n : Int) ≤ i ∧ i < n := by
  unfold ixN at h
  by_cases h0 : 0 ≤ i
  · rw [if_pos h0] at h
    by_cases h1 : i < n
    · rw [if_pos h1] at h
      have e : i.toNat = j := Option.some.inj h
      exact ⟨by rw [seqIndex_of h0 h1, e], by omega, by omega, h1⟩
    · rw [if_neg h1] at h; cases h
  · rw [if_neg h0] at h
    by_cases h1 : -(n : Int) ≤ i
    · rw [if_pos h1] at h
      have e : (i + n).toNat = j := Option.some.inj h
      exact ⟨by rw [seqIndex_neg (by omega) h1, e], by omega, h1, by omega⟩
    · rw [if_neg h1] at h; cases h
theorem atI_get {α : Type} {xs : List α} {i : Int} {v : α} (h : atI xs i = some v) : ∃ j, seqIndex? i xs.length = some j ∧ xs[j]? = some v ∧ j < xs.length ∧ -(xs.length : Int) ≤ i ∧ i < xs.length := by
  unfold atI at h
  cases e : ixN xs.length i with
  | none => rw [e] at h; cases h
  | some j =>
    rw [e] at h
    obtain ⟨h1, h2, h3, h4⟩ := ixN_seq e
    exact ⟨j, h1, h, h2, h3, h4⟩
theorem atI_nat {α : Type} {xs : List α} {j : Nat} {v : α} (h : xs[j]? = some v) : atI xs (j : Int) = some v := by
  have hj : j < xs.length := (List.getElem?_eq_some_iff.mp h).1
  have e : ixN xs.length (j : Int) = some j := by
    unfold ixN
    rw [if_pos (by omega), if_pos (by omega)]; simp
  unfold atI; rw [e]; exact h
theorem atI_last {α : Type} (xs : List α) (v : α) : atI (xs ++ [v]) (-1) = some v := by
  have hl : (xs ++ [v]).length = xs.length + 1 := by simp
  have e : ixN (xs ++ [v]).length (-1) = some xs.length := by
    unfold ixN
    rw [hl, if_neg (by decide), if_pos (by omega)]
    congr 1
    omega
  unfold atI
  rw [e]
  show (xs ++ [v])[xs.length]? = some v
  simp
def PlainIx (b : Expr) : Prop := ∀ o i, subscripted b false o i = operate [o, i] (getItem o i)
def IxR (X : Cx) (r : R2) : Prop :=
  ∀ (value slice : Expr) (pins : List (Addr × Obj)) (s : Shared) (σ : St) (H : Hp) (x y : V) (v u : Value) (Q : VK), Inv X pins σ H s → RelV x v → RelV y u → r x y H Q →
    subscripted slice false v u = operate [v, u] (getItem v u) → wpAny (model X.prog X.w) X.A (subscriptTail value slice v u) (EP X pins σ Q) X.xe s
def MtR (X : Cx) (id : String) (r : V → List V → Hp → VK → Prop) : Prop :=
  ∀ (pins : List (Addr × Obj)) (s : Shared) (σ : St) (H : Hp) (x : V) (xs : List V) (v : Value) (us : List Value) (Q : VK), Inv X pins σ H s → RelV x v → Vals xs us → r x xs H Q →
    wpAny (model X.prog X.w) X.A (call (.builtin id) (v :: us)) (EP X pins σ Q) X.xe s
section
variable {X : Cx} {a b : Expr} {ta tb : TE} {pos : Pos}
theorem pe_ix {r : R2} (hr : IxR X r) (ha : PE X a ta) (hb : PE X b tb) (hs : PlainIx b) : PE X (.Subscript a b pos) (tOp r ta tb) := by
  intro pins s σ H Q I h
  exact Subscript_ (binT ha hb I h fun v u s2 x y H2 I2 rx ry q => hr a b pins s2 σ H2 x y v u Q I2 rx ry q (hs _ _))
def rIxL (K : PySem.W.Frag) : R2 := fun x y H Q => ∃ p xs i v, x = .ref p ∧ y = .int i ∧ SqL K H p xs ∧ atI xs i = some v ∧ Q v H
def rIxT (K : PySem.W.Frag) : R2 := fun x y H Q => ∃ p xs i v, x = .ref p ∧ y = .int i ∧ SqT K H p xs ∧ atI xs i = some v ∧ Q v H
def rIxS : R2 := fun x y H Q => ∃ z i c, x = .str z ∧ y = .int i ∧ z.length ≤ sizeLine ∧ atI z.cps.toList i = some c ∧ Q (.str ⟨#[c]⟩) H
theorem ix_list : IxR X (rIxL X.K) := by
  intro value slice pins s σ H x y v u Q I rx ry h hs
  obtain ⟨p, xs, i, z, rfl, rfl, hq, he, q⟩ := h
  cases rx
  obtain ⟨t, rfl⟩ := ry
  obtain ⟨its, r, pl, hz⟩ := I.list hq
  obtain ⟨j, h1, h2, h3, h4, h5⟩ := atI_get he
  obtain ⟨w, ew, rw'⟩ := r.get h2
  have hl := r.length
  have hn := line63
  have fin : EP X pins σ Q w s := ⟨z, H, I, rw', q⟩
  by_cases h0 : 0 ≤ i
  · have hj : i.toNat = j := by
      rw [seqIndex_of h0 h5] at h1
      exact Option.some.inj h1
    exact item_listR pl.isList h0 (by omega) (by rw [hj]; simpa using ew) fin hs
  · have hj : (i + (its.toArray.size : Int)).toNat = j := by
      rw [seqIndex_neg (by omega) h4] at h1
      rw [List.size_toArray, ← hl]
      exact Option.some.inj h1
    exact subscriptTail_builtinR (x := w) pl.isList.typeIs slot_list_getitem.lookup
      (wpAny_getItem_list_neg (Q := fun r s' => r = w ∧ EP X pins σ Q r s') pl.isList (by omega) (by rw [List.size_toArray] <;> omega) (by omega) (by rw [hj]; simpa using ew) ⟨rfl, fin⟩) hs
theorem ix_tup : IxR X (rIxT X.K) := by
  intro value slice pins s σ H x y v u Q I rx ry h hs
  obtain ⟨p, xs, i, z, rfl, rfl, hq, he, q⟩ := h
  cases rx
  obtain ⟨t, rfl⟩ := ry
  obtain ⟨its, r, pl, hz⟩ := I.tuple hq
  obtain ⟨j, h1, h2, h3, h4, h5⟩ := atI_get he
  obtain ⟨w, ew, rw'⟩ := r.get h2
  have hl := r.length
  have hn := line63
  have fin : EP X pins σ Q w s := ⟨z, H, I, rw', q⟩
  exact subscriptTail_builtinR (x := w) pl.typeIs slot_tuple_getitem.lookup
    (getItem_tuple (j := j) (Q := fun r s' => r = w ∧ EP X pins σ Q r s') pl (by omega) (by omega) (by rw [List.size_toArray, ← hl]; exact h1) (by simpa using ew) ⟨rfl, fin⟩) hs
theorem ix_str : IxR X rIxS := by
  intro value slice pins s σ H x y v u Q I rx ry h hs
  obtain ⟨z, i, c, rfl, rfl, hz, he, q⟩ := h
  obtain ⟨t, rfl⟩ := rx
  obtain ⟨t', rfl⟩ := ry
  obtain ⟨j, h1, h2, h3, h4, h5⟩ := atI_get he
  have hl : z.cps.toList.length = z.length := by simp [Str.length]
  rw [hl] at h1 h4 h5
  have hn := line63
  exact tail_any (typeIs_str s z t) slot_str_getitem.lookup (getItem_str (c := c) (by
    have e1 : decide (i < -(2 ^ 63 : Int)) = false := decide_eq_false (by omega)
    have e2 : decide (i ≥ 2 ^ 63) = false := decide_eq_false (by omega)
    rw [e1, e2, Bool.or_false]) (by rw [h1]; simpa using h2) ⟨.str ⟨#[c]⟩, H, I.tok _, ⟨_, rfl⟩, q⟩) hs
theorem slice_bounds (lo hi : Option Int) (n : Nat) : (sliceBounds lo hi none n).1 = ((HT.sIx n 0 lo : Nat) : Int) ∧ (sliceBounds lo hi none n).2.1 = ((HT.sIx n n hi : Nat) : Int) ∧ (sliceBounds lo hi none n).2.2 = 1 := by
  refine ⟨?_, ?_, rfl⟩
  · cases lo with
    | none => simp [sliceBounds, HT.sIx]
    | some i =>
      simp only [sliceBounds, HT.sIx, Option.getD_none, show (1 : Int) > 0 by decide, if_true]
      by_cases h : i < 0
      · simp only [h, if_true] <;> omega
      · simp only [h, if_false] <;> omega
  · cases hi with
    | none => simp [sliceBounds, HT.sIx]
    | some i =>
      simp only [sliceBounds, HT.sIx, Option.getD_none, show (1 : Int) > 0 by decide, if_true]
      by_cases h : i < 0
      · simp only [h, if_true] <;> omega
      · simp only [h, if_false] <;> omega
theorem slicePick_cut (its : List Value) (lo hi : Option Int) : slicePick its.toArray lo hi none = ((its.drop (HT.sIx its.length 0 lo)).take (HT.sIx its.length its.length hi - HT.sIx its.length 0 lo)).toArray := by
  obtain ⟨h1, h2, h3⟩ := slice_bounds lo hi its.toArray.size
  unfold slicePick
  rw [h1, h2, h3]
  simp only [sliceRange_one, pick_run, List.size_toArray] <;> rfl
def rSlL (K : PySem.W.Frag) : V → Option Int → Option Int → Hp → VK → Prop := fun x lo hi H Q => ∃ a xs, x = .ref a ∧ SqL K H a xs ∧ ∀ p, H p = none → Q (.ref p) (upd H p (.lst (cutV xs lo hi)))
theorem sl_list : SlR X (rSlL X.K) := by
  intro pins s σ H x v vl vu lo hi sl Q I rx hs pl pu h
  obtain ⟨a, xs, rfl, hx, q⟩ := h
  cases rx
  obtain ⟨its, r, ht, hz⟩ := I.list hx
  have hlen := r.length
  refine ⟨"list", _, slot_list_getitem.lookup, ht.isList.typeIs, ?_⟩
  refine wpAny_getItem_list_slice ht.isList hs pl pu .none (by simp) ?_ (by rw [List.size_toArray] <;> omega)
  rw [slicePick_cut, ← hlen]
  refine ⟨.ref s.heap.objs.size, _, I.laid (t' := s.toks) (o := .lst (cutV xs lo hi)) (fun b ob q => Heap.get?_push_of_some _ q) (Nat.le_refl _) ?_, rfl, q _ (I.hok.fresh (Nat.le_refl _))⟩
  exact ⟨Nat.le_trans (cutV_length xs lo hi) hz, _, 0, (r.drop (HT.sIx xs.length 0 lo)).take (HT.sIx xs.length xs.length hi - HT.sIx xs.length 0 lo), Heap.get?_push_size _ rfl⟩
def flatV : V → Bool
  | .non => true
  | .bl _ => true
  | .int _ => true
  | .str _ => true
  | _ => false
def eqV : V → V → Bool
  | .non, .non => true
  | .bl a, .bl b => a == b
  | .bl a, .int b => (if a then 1 else 0) == b
  | .int a, .bl b => a == (if b then 1 else 0)
  | .int a, .int b => a == b
  | .str a, .str b => a == b
  | _, _ => false
theorem eqAt_V {A : Around} {s : Shared} {y x : V} {u v : Value} (ry : RelV y u) (rx : RelV x v) (fy : flatV y = true) (fx : flatV x = true) : SeqAt.EqAt A s u v (eqV y x) := by
  cases y with
  | non =>
    cases ry
    cases x with
    | non => cases rx; exact SeqAt.EqAt.same _
    | bl b => cases rx; exact SeqAt.EqAt.none_bool b
    | int b => obtain ⟨t, rfl⟩ := rx; exact SeqAt.EqAt.none_int b t
    | str b => obtain ⟨t, rfl⟩ := rx; exact SeqAt.EqAt.none_str b t
    | _ => exact absurd (show false = true from fx) Bool.false_ne_true
  | bl a =>
    cases ry
    cases x with
    | non => cases rx; exact SeqAt.EqAt.bool_none a
    | bl b => cases rx; exact SeqAt.EqAt.bool_bool a b
    | int b => obtain ⟨t, rfl⟩ := rx; exact SeqAt.EqAt.bool_int a b t
    | str b => obtain ⟨t, rfl⟩ := rx; exact SeqAt.EqAt.bool_str a b t
    | _ => exact absurd (show false = true from fx) Bool.false_ne_true
  | int a =>
    obtain ⟨t', rfl⟩ := ry
    cases x with
    | non => cases rx; exact SeqAt.EqAt.int_none a t'
    | bl b => cases rx; exact SeqAt.EqAt.int_bool a t' b
    | int b => obtain ⟨t, rfl⟩ := rx; exact SeqAt.EqAt.int_int a t' b t
    | str b => obtain ⟨t, rfl⟩ := rx; exact SeqAt.EqAt.int_str a t' b t
    | _ => exact absurd (show false = true from fx) Bool.false_ne_true
  | str a =>
    obtain ⟨t', rfl⟩ := ry
    cases x with
    | non => cases rx; exact SeqAt.EqAt.str_none a t'
    | bl b => cases rx; exact SeqAt.EqAt.str_bool a t' b
    | int b => obtain ⟨t, rfl⟩ := rx; exact SeqAt.EqAt.str_int a t' b t
    | str b => obtain ⟨t, rfl⟩ := rx; exact SeqAt.EqAt.str_str a t' b t
    | _ => exact absurd (show false = true from fx) Bool.false_ne_true
  | _ => exact absurd (show false = true from fy) Bool.false_ne_true
def eqU (x : V) (u : Value) : Bool := match u with
  | .none => eqV .non x
  | .bool b => eqV (.bl b) x
  | .int i _ => eqV (.int i) x
  | .str z _ => eqV (.str z) x
  | _ => false
theorem eqU_of {x y : V} {u : Value} (r : RelV y u) (f : flatV y = true) : eqU x u = eqV y x := by
  cases y with
  | non => cases r; rfl
  | bl b => cases r; rfl
  | int i => obtain ⟨t, rfl⟩ := r; rfl
  | str z => obtain ⟨t, rfl⟩ := r; rfl
  | _ => exact absurd (show false = true from f) Bool.false_ne_true
theorem any_eqU {x : V} : ∀ {xs : List V} {us : List Value}, Vals xs us → xs.all flatV = true → us.any (eqU x) = xs.any fun y => eqV y x
  | _, _, .nil, _ => rfl
  | y :: xs, u :: us, .cons r t, f => by
    rw [List.all_cons, Bool.and_eq_true] at f
    rw [List.any_cons, List.any_cons, eqU_of r f.1, any_eqU t f.2]
theorem mem_eqAt {A : Around} {s : Shared} {x : V} {v : Value} (rx : RelV x v) (fx : flatV x = true) : ∀ {xs : List V} {us : List Value}, Vals xs us → xs.all flatV = true → ∀ u ∈ us, SeqAt.EqAt A s u v (eqU x u)
  | _, _, .nil, _ => fun u hu => by cases hu
  | y :: xs, u :: us, .cons r t, f => fun u' hu => by
    rw [List.all_cons, Bool.and_eq_true] at f
    rcases List.mem_cons.mp hu with rfl | hu
    · rw [eqU_of r f.1]; exact eqAt_V r rx f.1 fx
    · exact mem_eqAt rx fx t f.2 u' hu
def inV (x : V) (xs : List V) : Bool := xs.any fun y => eqV y x
def rIn (K : PySem.W.Frag) (neg : Bool) : R2 := fun x y H Q => ∃ p xs, y = .ref p ∧ (SqL K H p xs ∨ SqT K H p xs) ∧ flatV x = true ∧ xs.all flatV = true ∧ Q (.bl (if neg then !inV x xs else inV x xs)) H
theorem op_in_seq : OpR X (compareOp .In) (rIn X.K false) := by
  intro pins s σ H x y v u Q I rx ry h
  obtain ⟨p, xs, rfl, hq, fx, fs, q⟩ := h
  cases ry
  rcases hq with hq | hq
  · obtain ⟨its, r, pl, hz⟩ := I.list hq
    refine SeqAt.in_listAt (eqU x) pl.isList (fun w hw => mem_eqAt rx fx r fs w (by simpa using hw)) ⟨.bl _, H, I, rfl, ?_⟩
    rw [show its.toArray.any (eqU x) = its.any (eqU x) by simp, any_eqU r fs]
    exact q
  · obtain ⟨its, r, pl, hz⟩ := I.tuple hq
    refine SeqAt.in_tupleAt (eqU x) pl (fun w hw => mem_eqAt rx fx r fs w (by simpa using hw)) ⟨.bl _, H, I, rfl, ?_⟩
    rw [show its.toArray.any (eqU x) = its.any (eqU x) by simp, any_eqU r fs]
    exact q
theorem op_notIn_seq : OpR X (compareOp .NotIn) (rIn X.K true) := by
  intro pins s σ H x y v u Q I rx ry h
  obtain ⟨p, xs, rfl, hq, fx, fs, q⟩ := h
  cases ry
  rcases hq with hq | hq
  · obtain ⟨its, r, pl, hz⟩ := I.list hq
    refine SeqAt.notIn_listAt (eqU x) pl.isList (fun w hw => mem_eqAt rx fx r fs w (by simpa using hw)) ⟨.bl _, H, I, rfl, ?_⟩
    rw [show its.toArray.any (eqU x) = its.any (eqU x) by simp, any_eqU r fs]
    exact q
  · obtain ⟨its, r, pl, hz⟩ := I.tuple hq
    refine SeqAt.notIn_tupleAt (eqU x) pl (fun w hw => mem_eqAt rx fx r fs w (by simpa using hw)) ⟨.bl _, H, I, rfl, ?_⟩
    rw [show its.toArray.any (eqU x) = its.any (eqU x) by simp, any_eqU r fs]
    exact q
theorem call_len_seq : CallR X (.builtin "len") (fun xs H Q => ∃ p ys, xs = [.ref p] ∧ (SqL X.K H p ys ∨ SqT X.K H p ys) ∧ Q (.int ys.length) H) := by
  intro pins s σ H xs us Q I r h
  obtain ⟨p, ys, rfl, hq, q⟩ := h
  obtain ⟨u, rfl, rx⟩ := vals1 r
  cases rx
  have hn := line63
  rcases hq with hq | hq
  · obtain ⟨its, r', pl, hz⟩ := I.list hq
    have hlen := r'.length
    exact Calls.call_len_list pl.isList (by simp only [List.size_toArray] <;> omega) ⟨.int ys.length, H, I.tok _, ⟨s.toks + 1, by rw [List.size_toArray, hlen]⟩, q⟩
  · obtain ⟨its, r', pl, hz⟩ := I.tuple hq
    have hlen := r'.length
    exact len_tuple pl (by simp only [List.size_toArray] <;> omega) ⟨.int ys.length, H, I.tok _, ⟨s.toks + 1, by rw [List.size_toArray, hlen]⟩, q⟩
theorem call_len_str : CallR X (.builtin "len") (fun xs H Q => ∃ z, xs = [.str z] ∧ z.length ≤ sizeLine ∧ Q (.int z.length) H) := by
  intro pins s σ H xs us Q I r h
  obtain ⟨z, rfl, hz, q⟩ := h
  obtain ⟨u, rfl, t, rfl⟩ := vals1 r
  have hn := line63
  exact len_str (by omega) ⟨.int z.length, H, I.tok _, ⟨_, rfl⟩, q⟩
theorem call_tuple_of : CallR X (.type "tuple") (fun xs H Q => ∃ p ys, xs = [.ref p] ∧ ((SqL X.K H p ys ∧ ∀ l, H l = none → Q (.ref l) (upd H l (.tup ys))) ∨ (SqT X.K H p ys ∧ Q (.ref p) H))) := by
  intro pins s σ H xs us Q I r h
  obtain ⟨p, ys, rfl, h⟩ := h
  obtain ⟨u, rfl, rx⟩ := vals1 r
  cases rx
  rcases h with ⟨hq, q⟩ | ⟨hq, q⟩
  · obtain ⟨its, r', pl, hz⟩ := I.list hq
    have hlen := r'.length
    refine call_tuple_list pl.isList (fun h' kp => ?_) (by simp only [List.size_toArray] <;> omega)
    have I1 : Inv X pins σ H { s with heap := h' } := I.kept (t' := s.toks) kp
    have I2 : Inv X pins σ (upd H h'.objs.size (.tup ys)) { s with heap := h'.push { cls := .type "tuple", data := .seq its.toArray } } :=
      I1.laid (t' := s.toks) (fun b o e => Heap.get?_push_of_some _ e) (Nat.le_refl _) (show ObjOk X.prog X.w _ _ _ (.tup ys) from ⟨hz, its, r', IsTup.new _ _⟩)
    exact ⟨.ref h'.objs.size, _, I2, rfl, q _ (I1.hok.fresh (Nat.le_refl _))⟩
  · obtain ⟨its, r', pl, hz⟩ := I.tuple hq
    exact call_tuple_same pl ⟨.ref p, H, I, rfl, q⟩
def tyV (K : PySem.W.Frag) (T : String) (x : V) (H : Hp) : Prop := match x with
  | .str _ => T = "str"
  | .int _ => T = "int"
  | .ref p => (T = "list" ∧ ∃ xs, SqL K H p xs) ∨ (T = "tuple" ∧ ∃ o, K.lookup p = some o ∧ o.cls = .type "tuple" ∧ o.dict = none) ∨
      (T = "dict" ∧ ((∃ kvs, H p = some (.dK kvs)) ∨ ∃ kvs, H p = some (.dT kvs))) ∨ (T = "set" ∧ ∃ S n, H p = some (.set S n))
  | _ => False
theorem tyV_is {pins : List (Addr × Obj)} {σ : St} {H : Hp} {s : Shared} {T : String} {x : V} {v : Value} (I : Inv X pins σ H s) (r : RelV x v) (ty : tyV X.K T x H) :
    s.TypeIs v T ∧ ∀ a, v = .ref a → ∃ ob, s.heap.get? a = some ob ∧ ob.dict = none := by
  cases x with
  | str z =>
    obtain ⟨t, rfl⟩ := r
    cases (show T = "str" from ty)
    exact ⟨typeIs_str s z t, fun _ e => nomatch e⟩
  | int i =>
    obtain ⟨t, rfl⟩ := r
    cases (show T = "int" from ty)
    exact ⟨typeIs_int s i t, fun _ e => nomatch e⟩
  | ref p =>
    cases r
    rcases ty with ⟨rfl, xs, hq⟩ | ⟨rfl, o, hk, hc, hd⟩ | ⟨rfl, hk⟩ | ⟨rfl, S, n, hk⟩
    · obtain ⟨its, _, pl, _⟩ := I.list hq
      refine ⟨pl.isList.typeIs, fun a e => ?_⟩
      cases e
      obtain ⟨o, n, e, c, hd, _⟩ := pl
      exact ⟨o, e, hd⟩
    · refine ⟨⟨o, I.kIn p o hk, hc⟩, fun a e => ?_⟩
      cases e
      exact ⟨o, I.kIn _ o hk, hd⟩
    · have z : ∃ o, s.heap.get? p = some o ∧ o.ExactDict := by
        rcases hk with ⟨kvs, hk⟩ | ⟨kvs, hk⟩
        · obtain ⟨_, _, _, _, o, _, _, e, ex, _⟩ := I.hok p _ hk
          exact ⟨o, e, ex⟩
        · obtain ⟨_, _, _, _, o, _, _, e, ex, _⟩ := I.hok p _ hk
          exact ⟨o, e, ex⟩
      obtain ⟨o, e, ex⟩ := z
      refine ⟨⟨o, e, ex.1⟩, fun a e2 => ?_⟩
      cases e2
      exact ⟨o, e, ex.2.1⟩
    · obtain ⟨o, _, _, _, e, ex, _⟩ := I.hok p _ hk
      refine ⟨⟨o, e, ex.1⟩, fun a e2 => ?_⟩
      cases e2
      exact ⟨o, e, ex.2.1⟩
  | _ => exact False.elim ty
def tBM0 (K : PySem.W.Frag) (T : String) (r : V → List V → Hp → VK → Prop) (to : TE) : TE := fun σ H Q => to σ H fun x H1 => tyV K T x H1 ∧ r x [] H1 Q
def tBM (K : PySem.W.Frag) (T : String) (r : V → List V → Hp → VK → Prop) (to : TE) (t : TA) : TE := fun σ H Q => to σ H fun x H1 => tyV K T x H1 ∧ t σ H1 fun xs H2 => r x xs H2 Q
variable {o e : Expr} {es : List Expr} {to : TE} {t : TA} {name : Str} {apos cpos : Pos} {T id : String} {r : V → List V → Hp → VK → Prop}
theorem pe_bm0 (pa : PlainAttrs T) (slot : Slot T name id) (hty : typeOf (.builtin id) = pure (.type "method_descriptor")) (hm : MtR X id r) (ho : PE X o to)
    (hbase : attributeBase o name X.env (eval o X.env) = eval o X.env := by rfl) (hline : (apos.endLine == cpos.line) = true := by rfl) : PE X (.Call (.Attribute o name apos) [] [] cpos) (tBM0 X.K T r to) := by
  intro pins s σ H Q I h
  refine wpAny_Call_method0_late hbase hline (thn (ho pins s σ H _ I h) fun v s1 ⟨x, H1, I1, r1, ty, q1⟩ => ?_)
  obtain ⟨h1, h2⟩ := tyV_is I1 r1 ty
  exact ⟨T, id, pa, slot, hty, h1, h2, Calls.callWith_builtin rfl (PySem.evalArgs_none (hm pins s1 σ H1 x [] v [] Q I1 r1 .nil q1))⟩
theorem pe_bm (pa : PlainAttrs T) (slot : Slot T name id) (hty : typeOf (.builtin id) = pure (.type "method_descriptor")) (hm : MtR X id r) (ho : PE X o to) (ha : PA X (e :: es) t)
    (hbase : attributeBase o name X.env (eval o X.env) = eval o X.env := by rfl)
    (hfew : ((backTo cpos (starEach (e :: es) X.env)).all (fun x => !x.1) && (backToKw cpos (keywordEach [] X.env)).all (fun x => x.1.isSome)
      && decide ((e :: es).length + ([] : List Keyword).length + (if ([] : List Keyword).isEmpty then 0 else 1) < 30)) = true := by rfl)
    (hline : (apos.endLine == cpos.line) = true := by rfl) (hs : starEach (e :: es) X.env = (false, eval e X.env) :: starEach es X.env := by rfl) (hplain : (backTo cpos (starEach es X.env)).any (·.1) = false := by rfl) :
    PE X (.Call (.Attribute o name apos) (e :: es) [] cpos) (tBM X.K T r to t) := by
  intro pins s σ H Q I h
  refine wpAny_Call_method_late hbase hfew hline rfl (thn (ho pins s σ H _ I h) fun v s1 ⟨x, H1, I1, r1, ty, q1⟩ => ?_)
  obtain ⟨h1, h2⟩ := tyV_is I1 r1 ty
  refine ⟨T, id, pa, slot, hty, h1, h2, ?_⟩
  have hA := ha cpos pins s1 σ H1 _ I1 q1
  rw [hs] at hA ⊢
  refine Calls.callWith_builtin (by show (false || (backTo cpos (starEach es X.env)).any (·.1)) = false; rw [hplain] <;> rfl) (Calls.evalArgs_plain ?_)
  exact thn hA fun us s2 ⟨vs, H2, I2, r2, q2⟩ => hm pins s2 σ H2 x vs v us Q I2 r1 r2 q2
end
end L2
namespace L2
open PySem PySem.Spec PyProof.Rows
def MtM (X : Cx) (id : String) (r : V → List V → Hp → VK → Prop) : Prop :=
  ∀ (pins : List (Addr × Obj)) (s : Shared) (σ : St) (H : Hp) (x : V) (xs : List V) (v : Value) (us : List Value) (Q : VK), Inv X pins σ H s → RelV x v → Vals xs us → r x xs H Q →
    wpAny (model X.prog X.w) X.A (call (.builtin id) (v :: us)) (EP X pins σ Q) X.xe s
theorem Vals.one : ∀ {x : V} {us : List Value}, Vals [x] us → ∃ u, us = [u] ∧ RelV x u
  | _, _, .cons r .nil => ⟨_, rfl, r⟩
theorem Vals.two : ∀ {x y : V} {us : List Value}, Vals [x, y] us → ∃ u v, us = [u, v] ∧ RelV x u ∧ RelV y v
  | _, _, _, .cons r (.cons q .nil) => ⟨_, _, rfl, r, q⟩
theorem Vals.zero : ∀ {us : List Value}, Vals [] us → us = []
  | _, .nil => rfl
theorem Vals.dropLast {xs : List V} {us : List Value} (h : Vals xs us) : Vals xs.dropLast us.dropLast := by
  induction h with
  | nil => exact .nil
  | cons r t ih =>
    cases t with
    | nil => exact .nil
    | cons q t' => exact .cons r ih
theorem erase_last {α : Type} (l : List α) : l.eraseIdx (l.length - 1) = l.dropLast := by
  induction l with
  | nil => rfl
  | cons a r ih =>
    cases r with
    | nil => rfl
    | cons b r =>
      have e : (a :: b :: r).length - 1 = ((b :: r).length - 1) + 1 := by
        have h1 : (a :: b :: r).length = r.length + 2 := rfl
        have h2 : (b :: r).length = r.length + 1 := rfl
        omega
      rw [e, List.eraseIdx_cons_succ, ih]
      all_goals rfl
section
variable {X : Cx} {pins : List (Addr × Obj)} {σ : St} {H : Hp} {s : Shared} {l b : Addr} {xs ys zs : List V}
theorem Inv.lset {its its' : List Value} {n : Nat} {f : Array Value → Array Value} {t' : Nat} (I : Inv X pins σ H s) (hH : H l = some (.lst xs))
    (e : s.heap.get? l = some { cls := .type "list", data := .seq its.toArray n }) (hf : f its.toArray = its'.toArray) (hv : Vals ys its') (hz : ys.length ≤ sizeLine) :
    Inv X pins σ (upd H l (.lst ys)) { s with heap := s.heap.update l (Obj.mapSeq f), toks := t' } := by
  have q := PySem.IsL.update e f
  rw [hf] at q
  refine I.write (x := l) (e := l) (by rw [hH]; exact trivial) (.inl rfl) (fun b' u hb hu => (Heap.get?_update_other s.heap (Obj.mapSeq f) (Ne.symm hb)).trans hu) ⟨_, q⟩ ?_
  exact ⟨hz, its', _, hv, q⟩
theorem Inv.lnew {its : List Value} {t' : Nat} (I : Inv X pins σ H s) (hv : Vals ys its) (hz : ys.length ≤ sizeLine) :
    Inv X pins σ (upd H s.heap.objs.size (.lst ys)) { s with heap := s.heap.push { cls := .type "list", data := .seq its.toArray }, toks := t' } :=
  I.laid (fun _ _ q => Heap.get?_push_of_some _ q) (Nat.le_refl _) ⟨hz, its, 0, hv, Heap.get?_push_size _ rfl⟩
theorem Inv.fresh (I : Inv X pins σ H s) : H s.heap.objs.size = none := I.hok.fresh (Nat.le_refl _)
theorem Inv.lstM (I : Inv X pins σ H s) (hH : H l = some (.lst xs)) : xs.length ≤ sizeLine ∧ ∃ (its : List Value) (n : Nat), Vals xs its ∧ xs.length = its.length ∧ s.heap.get? l = some { cls := .type "list", data := .seq its.toArray n } := by
  obtain ⟨z, its, n, r, e⟩ := I.hok l _ hH
  exact ⟨z, its, n, r, r.length, e⟩
end
section
variable {X : Cx}
def rAppend : V → List V → Hp → VK → Prop := fun x vs H Q => ∃ l xs y, x = .ref l ∧ vs = [y] ∧ H l = some (.lst xs) ∧ xs.length < sizeLine ∧ Q .non (upd H l (.lst (xs ++ [y])))
theorem mt_append : MtM X "list.append" rAppend := by
  intro pins s σ H x vs v us Q I rx rv h
  obtain ⟨l, xs, y, rfl, rfl, hH, hz, q⟩ := h
  cases rx
  obtain ⟨u, rfl, ru⟩ := rv.one
  obtain ⟨z, its, n, r, hl, e⟩ := I.lstM hH
  refine call_meets F.slot_list_append ⟨_, e, rfl⟩ F.entry_list_append (F.args_list_append_2 _ _) (PySem.list_append l its.toArray n u (by rw [List.size_toArray]; omega)) ⟨e, ?_⟩
  refine ⟨.non, _, I.lset (its' := its ++ [u]) hH e (by simp) (r.append (.cons ru .nil)) ?_, rfl, q⟩
  rw [List.length_append, List.length_singleton]
  omega
def rPop : V → List V → Hp → VK → Prop := fun x vs H Q => ∃ l xs y, x = .ref l ∧ vs = [] ∧ H l = some (.lst xs) ∧ xs[xs.length - 1]? = some y ∧ Q y (upd H l (.lst xs.dropLast))
theorem mt_pop : MtM X "list.pop" rPop := by
  intro pins s σ H x vs v us Q I rx rv h
  obtain ⟨l, xs, y, rfl, rfl, hH, hy, q⟩ := h
  cases rx
  have hus := rv.zero
  subst hus
  obtain ⟨z, its, n, r, hl, e⟩ := I.lstM hH
  obtain ⟨u, hu, ru⟩ := r.get hy
  have hy' : its.toArray[its.toArray.size - 1]? = some u := by
    show its.toArray[its.length - 1]? = some u
    rw [← Array.getElem?_toList, ← hl]
    exact hu
  refine call_meets F.slot_list_pop ⟨_, e, rfl⟩ F.entry_list_pop (F.args_list_pop_1 _) (MeetsSeq.list_pop_last l its.toArray n u hy' (by rw [List.size_toArray]; omega)) ⟨e, ?_⟩
  refine ⟨y, _, I.lset (its' := its.dropLast) hH e ?_ r.dropLast ?_, ru, q⟩
  · show its.toArray.eraseIdxIfInBounds (its.toArray.size - 1) = its.dropLast.toArray
    rw [List.size_toArray, List.eraseIdxIfInBounds_toArray, erase_last]
  · rw [List.length_dropLast]
    omega
def rCat : R2 := fun x y H Q => ∃ l b xs zs, x = .ref l ∧ y = .ref b ∧ H l = some (.lst xs) ∧ H b = some (.lst zs) ∧ xs.length + zs.length ≤ sizeLine ∧ ∀ p, H p = none → Q (.ref p) (upd H p (.lst (xs ++ zs)))
theorem op_cat : OpR X (binaryOp .Add) rCat := by
  intro pins s σ H x y v u Q I rx ry h
  obtain ⟨l, b, xs, zs, rfl, rfl, hH, hB, hz, q⟩ := h
  cases rx
  cases ry
  obtain ⟨z, its, n, r, hl, e⟩ := I.lstM hH
  obtain ⟨z2, its2, n2, r2, hl2, e2⟩ := I.lstM hB
  refine PySem.P.add_list e e2 ?_ (by rw [List.size_toArray, List.size_toArray]; omega)
  have ea : its.toArray ++ its2.toArray = (its ++ its2).toArray := by simp
  rw [ea]
  exact ⟨.ref _, _, I.lnew (t' := s.toks) (r.append r2) (by rw [List.length_append]; omega), rfl, q _ I.fresh⟩
end
section
variable {prog : Program} {w : World} {A : Around} {E : Value → Shared → Prop} {s : Shared}
set_option maxRecDepth 100000 in
end
end L2
namespace L2
open PySem PySem.Spec PyProof.Rows
theorem Vals.ints : ∀ {ns : List Int} {us : List Value}, Vals (ns.map V.int) us → IntsAre us ns
  | [], us, h => by
    rw [List.map_nil] at h
    cases h
    exact IntsAre.nil
  | n :: ns, us, h => by
    rw [List.map_cons] at h
    cases h with
    | cons r t =>
      obtain ⟨k, rfl⟩ := r
      exact IntsAre.cons n k (Vals.ints t)
theorem Vals.ref1 {a : Addr} {us : List Value} (r : Vals [V.ref a] us) : us = [Value.ref a] := by
  cases r with
  | cons r t =>
    cases t
    cases r
    rfl
section
variable {prog : Program} {w : World} {A : Around} {E : Value → Shared → Prop} {s : Shared} {l : Addr} {its : List Value} {ns : List Int} {Q : Value → Shared → Prop}
theorem sum_raw (hh : A.handled = none) (hl : s.heap.IsList l its.toArray) (hi : IntsAre its ns)
    (h : ∀ h' tk t', (∀ b o, s.heap.get? b = some o → h'.get? b = some o) → Q (.int ns.sum t') { s with heap := h', toks := tk }) : wpAny (model prog w) A (call (.builtin "sum") [.ref l]) Q E s := by
  obtain ⟨xs, e⟩ := hi.allInts.items
  have hn : numsOf (intItems xs).toList = ns := by rw [← e]; exact hi.numsOf
  rw [nums_intItems] at hn
  rw [e] at hl
  refine PySem.sum_intListG hh hl fun h' tk t' hk => ?_
  have := h h' tk t' hk
  rw [preSum_eq, List.take_of_length_le (by simp), hn]; exact this
theorem max_raw (hh : A.handled = none) (hl : s.heap.IsList l its.toArray) (hi : IntsAre its ns) (hne : 0 < ns.length)
    (h : ∀ h' tk M t', (∀ b o, s.heap.get? b = some o → h'.get? b = some o) → M ∈ ns → (∀ a, a ∈ ns → a ≤ M) → Q (.int M t') { s with heap := h', toks := tk }) : wpAny (model prog w) A (call (.builtin "max") [.ref l]) Q E s := by
  obtain ⟨xs, e⟩ := hi.allInts.items
  have hn : numsOf (intItems xs).toList = ns := by rw [← e]; exact hi.numsOf
  rw [nums_intItems] at hn
  subst hn
  rw [e] at hl
  have hsz : 0 < xs.size := by simpa using hne
  refine PySem.max_intList hh hl hsz fun v h' tk hv hk => ?_
  obtain ⟨t, rfl⟩ := intItems_at hv
  obtain ⟨h1, h2⟩ := argBest_gt (numAt xs) (xs.size - 1)
  refine h h' tk _ t hk ?_ fun a ha => ?_
  · rw [numAt_eq]; exact PySem.getD_mem (by rw [List.length_map, Array.length_toList]; omega)
  · obtain ⟨j, hj, rfl⟩ := mem_getD ha
    rw [List.length_map, Array.length_toList] at hj
    rw [← numAt_eq]; exact h2 j (by omega)
end
section
variable {X : Cx}
def rSum (K : PySem.W.Frag) : List V → Hp → VK → Prop := fun vs H Q => ∃ (a : Addr) (ns : List Int), vs = [V.ref a] ∧ SqL K H a (ns.map V.int) ∧ Q (.int ns.sum) H
def rMax (K : PySem.W.Frag) : List V → Hp → VK → Prop := fun vs H Q => ∃ (a : Addr) (ns : List Int), vs = [V.ref a] ∧ SqL K H a (ns.map V.int) ∧ 0 < ns.length ∧ ∀ m, m ∈ ns → (∀ y, y ∈ ns → y ≤ m) → Q (.int m) H
theorem cr_sum (hc : X.calm = true) : CallR X (.builtin "sum") (rSum X.K) := by
  intro pins s σ H vs us Q I r h
  obtain ⟨a, ns, rfl, hs, q⟩ := h
  obtain ⟨its, rv, hl, _⟩ := I.list hs
  rw [Vals.ref1 r]
  exact sum_raw (I.ok.hd hc) hl.isList rv.ints fun h' tk t' hk => ⟨.int _, H, I.kept hk, ⟨_, rfl⟩, q⟩
theorem cr_max (hc : X.calm = true) : CallR X (.builtin "max") (rMax X.K) := by
  intro pins s σ H vs us Q I r h
  obtain ⟨a, ns, rfl, hs, hne, q⟩ := h
  obtain ⟨its, rv, hl, _⟩ := I.list hs
  rw [Vals.ref1 r]
  exact max_raw (I.ok.hd hc) hl.isList rv.ints hne fun h' tk m t' hk h1 h2 => ⟨.int _, H, I.kept hk, ⟨_, rfl⟩, q m h1 h2⟩
end
end L2
namespace L2
open PySem PySem.Spec PyProof.Rows
abbrev CellAt (h : Heap) (c : Addr) (v : Option Value) : Prop := h.IsCell c v
def relS (scope sc : Scope) : Scope :=
  { scope with names := scope.names.map fun (n, k) => if (k == .free && sc.kind == .function && sc.names.lookup n == some .cell) then (n, .cell) else (n, k) }
def cloFrom (cells : List (Str × Addr)) : List (Str × NameKind) → List (Str × Addr) → List (Str × Addr)
  | [], acc => acc
  | (n, k) :: r, acc => if k == .free then cloFrom cells r ((n, (cells.lookup n).getD 0) :: acc) else cloFrom cells r acc
theorem closure_loop (env : Env) (f : Str × NameKind → List (Str × Addr) → Sem (ForInStep (List (Str × Addr))))
    (hf : ∀ n k c, f (n, k) c = if k == .free then (do let a ← cellOf env n; pure (.yield ((n, a) :: c))) else pure (.yield c)) :
    ∀ (names : List (Str × NameKind)) (acc : List (Str × Addr)), (∀ y ∈ names, y.2 = .free → ∃ c, env.cells.lookup y.1 = some c) → forIn names acc f = pure (cloFrom env.cells names acc)
  | [], acc, _ => by rw [List.forIn_nil]; rfl
  | (n, k) :: r, acc, h => by
    rw [List.forIn_cons, hf]
    have ih := fun acc => closure_loop env f hf r acc fun y hy => h y (List.mem_cons_of_mem _ hy)
    unfold cloFrom
    by_cases hk : (k == NameKind.free) = true
    · rw [if_pos hk, if_pos hk]
      obtain ⟨c, hc⟩ := h (n, k) List.mem_cons_self (by simpa using hk)
      have e : cellOf env n = pure c := by unfold cellOf; rw [hc]
      rw [e]
      have e2 : (env.cells.lookup n).getD 0 = c := by rw [hc]; rfl
      rw [e2]
      exact ih _
    · rw [if_neg hk, if_neg hk]
      exact ih _
theorem closure_ok {scope : Scope} {env : Env} (h : ∀ y ∈ scope.names, y.2 = .free → ∃ c, env.cells.lookup y.1 = some c) : closureFor scope env = pure (cloFrom env.cells scope.names []) := by
  simp only [closureFor]
  rw [closure_loop env _ (fun n k c => rfl) scope.names [] h]
  rfl
theorem mem_lookup {α : Type} : ∀ {l : List (Str × α)} {n : Str} {c : α}, (n, c) ∈ l → ∃ c', l.lookup n = some c'
  | (k, v) :: r, n, c, h => by
    rw [List.lookup_cons]
    cases hb : n == k with
    | true => exact ⟨_, rfl⟩
    | false =>
      rcases List.mem_cons.mp h with e | h
      · cases e; simp at hb
      · exact mem_lookup h
theorem cloFrom_mem {cells : List (Str × Addr)} : ∀ {names : List (Str × NameKind)} {acc : List (Str × Addr)} {n : Str} {c : Addr}, (n, c) ∈ cloFrom cells names acc → (n, c) ∈ acc ∨ ((n, .free) ∈ names ∧ c = (cells.lookup n).getD 0)
  | [], _, _, _, h => .inl h
  | (m, k) :: r, acc, n, c, h => by
    unfold cloFrom at h
    split at h
    · rename_i hk
      have hk : k = .free := by simpa using hk
      rcases cloFrom_mem h with h | ⟨h1, h2⟩
      · rcases List.mem_cons.mp h with e | h
        · cases e; exact .inr ⟨hk ▸ List.mem_cons_self, rfl⟩
        · exact .inl h
      · exact .inr ⟨List.mem_cons_of_mem _ h1, h2⟩
    · rcases cloFrom_mem h with h | ⟨h1, h2⟩
      · exact .inl h
      · exact .inr ⟨List.mem_cons_of_mem _ h1, h2⟩
theorem cloFrom_acc {cells : List (Str × Addr)} : ∀ {names : List (Str × NameKind)} {acc : List (Str × Addr)} {p : Str × Addr}, p ∈ acc → p ∈ cloFrom cells names acc
  | [], _, _, h => h
  | (m, k) :: r, acc, p, h => by
    unfold cloFrom
    split
    · exact cloFrom_acc (List.mem_cons_of_mem _ h)
    · exact cloFrom_acc h
theorem cloFrom_has {cells : List (Str × Addr)} : ∀ {names : List (Str × NameKind)} {acc : List (Str × Addr)} {n : Str}, (n, .free) ∈ names → (n, (cells.lookup n).getD 0) ∈ cloFrom cells names acc
  | (m, k) :: r, acc, n, h => by
    unfold cloFrom
    rcases List.mem_cons.mp h with e | h
    · cases e
      exact cloFrom_acc List.mem_cons_self
    · split
      · exact cloFrom_has h
      · exact cloFrom_has h
theorem cells_mem : ∀ {names : List (Str × NameKind)} {h : Heap} {acc : List (Str × Addr)} {x : Str} {c : Addr}, (x, c) ∈ cellsFrom h.objs.size names acc →
    (x, c) ∈ acc ∨ ((x, .cell) ∈ names ∧ h.objs.size ≤ c ∧ CellAt (pushCells h names) c none)
  | [], _, _, _, _, h => .inl h
  | (n, k) :: r, h, acc, x, c, hm => by
    unfold cellsFrom at hm
    unfold pushCells
    split at hm
    · rename_i hk
      rw [if_pos hk]
      have hk : k = .cell := by simpa using hk
      rw [← Heap.size_push h { cls := .type "cell", data := .cell none }] at hm
      rcases cells_mem hm with hm | ⟨h1, h2, h3⟩
      · rcases List.mem_cons.mp hm with e | hm
        · cases e
          exact .inr ⟨hk ▸ List.mem_cons_self, Nat.le_refl _, _, pushCells_keeps r _ _ _ (Heap.get?_push_size _ rfl), rfl⟩
        · exact .inl hm
      · rw [Heap.size_push] at h2
        exact .inr ⟨List.mem_cons_of_mem _ h1, Nat.le_of_succ_le h2, h3⟩
    · rename_i hk
      rw [if_neg hk]
      rcases cells_mem hm with hm | ⟨h1, h2, h3⟩
      · exact .inl hm
      · exact .inr ⟨List.mem_cons_of_mem _ h1, h2, h3⟩
theorem cells_acc : ∀ {names : List (Str × NameKind)} {n : Nat} {acc : List (Str × Addr)} {p : Str × Addr}, p ∈ acc → p ∈ cellsFrom n names acc
  | [], _, _, _, h => h
  | (m, k) :: r, n, acc, p, h => by
    unfold cellsFrom
    split
    · exact cells_acc (List.mem_cons_of_mem _ h)
    · exact cells_acc h
theorem cells_has : ∀ {names : List (Str × NameKind)} {n : Nat} {acc : List (Str × Addr)} {x : Str}, (x, .cell) ∈ names → ∃ c, (x, c) ∈ cellsFrom n names acc
  | (m, k) :: r, n, acc, x, h => by
    unfold cellsFrom
    rcases List.mem_cons.mp h with e | h
    · cases e
      exact ⟨n, cells_acc List.mem_cons_self⟩
    · split
      · exact cells_has h
      · exact cells_has h
theorem cells_inj : ∀ {names : List (Str × NameKind)} {h : Heap} {acc : List (Str × Addr)} {x y : Str} {c : Addr}, (∀ p ∈ acc, p.2 < h.objs.size) → (∀ x y c, (x, c) ∈ acc → (y, c) ∈ acc → x = y) →
    (x, c) ∈ cellsFrom h.objs.size names acc → (y, c) ∈ cellsFrom h.objs.size names acc → x = y
  | [], _, _, _, _, _, _, hi, h1, h2 => hi _ _ _ h1 h2
  | (n, k) :: r, h, acc, x, y, c, hl, hi, h1, h2 => by
    unfold cellsFrom at h1 h2
    split at h1
    · rename_i hk
      rw [if_pos hk] at h2
      rw [← Heap.size_push h { cls := .type "cell", data := .cell none }] at h1 h2
      refine cells_inj (h := h.push _) (fun p hp => ?_) (fun x y c a b => ?_) h1 h2
      · rw [Heap.size_push]
        rcases List.mem_cons.mp hp with rfl | hp
        · exact Nat.lt_succ_self _
        · exact Nat.lt_succ_of_lt (hl p hp)
      · rcases List.mem_cons.mp a with e | a <;> rcases List.mem_cons.mp b with e' | b
        · cases e; cases e'; rfl
        · cases e; exact absurd (hl _ b) (Nat.lt_irrefl _)
        · cases e'; exact absurd (hl _ a) (Nat.lt_irrefl _)
        · exact hi _ _ _ a b
    · rename_i hk
      rw [if_neg hk] at h2
      exact cells_inj hl hi h1 h2
theorem newEnv_comp {M : Model} {A : Around} {E : Value → Shared → Prop} {s : Shared} {scope : Scope} {globals : Addr} {closure : List (Str × Addr)} {qual : Str} {func : Option Addr} {code : Value} {around : Env} {builtins : Addr} {Q : Env → Shared → Prop}
    (h : Q (newEnv scope s.heap.objs.size globals (cellsFrom (s.heap.objs.size + 1) scope.names closure) qual func code (some around) builtins)
      { s with heap := pushCells (s.heap.push { cls := .type "dict", data := .dict #[] }) scope.names }) :
    wpAny M A (newFunctionEnv scope globals closure [] qual func code (some around) builtins) Q E s := by
  simp only [newFunctionEnv, Option.isSome_some, if_true]
  refine wpAny_bind (wpAny_alloc ?_)
  refine wpAny_bind (wpAny_layCells _ (fun n k c => rfl) scope.names closure _ _ ?_)
  rw [show ({ s with heap := s.heap.push { cls := .type "dict", data := .dict #[] } } : Shared).heap.objs.size = s.heap.objs.size + 1 from Heap.size_push ..]
  rw [List.forIn_nil]
  exact wpAny_bind (wpAny_pure (wpAny_pure h))
theorem lookup_relS {sc : Scope} : ∀ {names : List (Str × NameKind)} {x : Str} {k : NameKind},
    (names.map fun (n, k) => if (k == NameKind.free && sc.kind == .function && sc.names.lookup n == some .cell) then (n, NameKind.cell) else (n, k)).lookup x = some k →
    ∃ k', names.lookup x = some k' ∧ (k = k' ∨ (k' = .free ∧ k = .cell))
  | [], _, _, h => by simp at h
  | (n, k₀) :: r, x, k, h => by
    have ih := @lookup_relS sc r x k
    have h' : List.lookup x ((if (k₀ == NameKind.free && sc.kind == .function && sc.names.lookup n == some .cell) = true then (n, NameKind.cell) else (n, k₀)) :: (r.map _)) = some k := h
    cases hx : x == n with
    | true =>
      simp only [List.lookup_cons, hx]
      by_cases hc : (k₀ == NameKind.free && sc.kind == .function && sc.names.lookup n == some .cell) = true
      · rw [if_pos hc] at h'
        simp only [List.lookup_cons, hx] at h'
        cases h'
        simp only [Bool.and_eq_true, beq_iff_eq] at hc
        exact ⟨k₀, rfl, .inr ⟨hc.1.1, rfl⟩⟩
      · rw [if_neg hc] at h'
        simp only [List.lookup_cons, hx] at h'
        cases h'
        exact ⟨_, rfl, .inl rfl⟩
    | false =>
      simp only [List.lookup_cons, hx]
      by_cases hc : (k₀ == NameKind.free && sc.kind == .function && sc.names.lookup n == some .cell) = true
      · rw [if_pos hc] at h'
        simp only [List.lookup_cons, hx] at h'
        exact ih h'
      · rw [if_neg hc] at h'
        simp only [List.lookup_cons, hx] at h'
        exact ih h'
structure BlkOk (N : List Str) (sc scope : Scope) (own : List (Str × Nat)) : Prop where
  kind : scope.kind = .function
  uniq : ∀ y ∈ scope.names, scope.names.lookup y.1 = some y.2
  ix : ∀ p ∈ own, N[p.2]? = some p.1
  free : ∀ y ∈ scope.names, y.2 = .free → sc.names.lookup y.1 = some .cell ∨ sc.names.lookup y.1 = some .free
  own : ∀ y ∈ scope.names, y.2 = .local ∨ y.2 = .cell → y.1 ∈ own.map (·.1) ∨ y.1 ∉ N
def wipe (σ : St) : List Nat → St
  | [] => σ
  | v :: vs => (wipe σ vs).set v none
theorem wipe_length (σ : St) : ∀ vs : List Nat, (wipe σ vs).length = σ.length
  | [] => rfl
  | v :: vs => by unfold wipe; rw [List.length_set, wipe_length σ vs]
theorem wipe_some {σ : St} {i : Nat} {x : V} : ∀ {vs : List Nat}, (wipe σ vs)[i]? = some (some x) → σ[i]? = some (some x) ∧ i ∉ vs
  | [], h => ⟨h, by simp⟩
  | v :: vs, h => by
    unfold wipe at h
    by_cases hi : v = i
    · subst hi
      by_cases hv : v < (wipe σ vs).length
      · rw [List.getElem?_set_self hv] at h; cases h
      · rw [List.getElem?_eq_none (by simpa using hv)] at h; cases h
    · rw [List.getElem?_set_ne hi] at h
      obtain ⟨h1, h2⟩ := wipe_some h
      exact ⟨h1, by simp only [List.mem_cons, not_or]; exact ⟨fun e => hi e.symm, h2⟩⟩
abbrev Cx.blk (X : Cx) (s : Shared) (H : Hp) (scope : Scope) (cenv : Env) (fp : List Addr) : Cx := { X with s₀ := s, H₀ := H, env := cenv, outer := X.stack, ex := fp, fn := fun x => scope.names.lookup x == some .cell, pn := [], xe := fun _ _ => False }
section
variable {X : Cx} {pins : List (Addr × Obj)} {σ : St} {H : Hp} {s : Shared}
theorem block_start {scope : Scope} {own : List (Str × Nat)} {fp : List Addr} (I : Inv X pins σ H s) (ok : BlkOk X.N X.env.scope scope own) (hN : X.N.Nodup) (hfp : ∀ b ∈ fp, FpOk X pins H b ∧ b < s.heap.objs.size) :
    Inv (X.blk s H scope (compEnvC scope (cellsFrom (s.heap.objs.size + 1) scope.names (cloFrom X.env.cells scope.names [])) s.heap.objs.size X.env) fp) [] (wipe σ (own.map (·.2))) H { s with heap := pushCells (s.heap.push { cls := .type "dict", data := .dict #[] }) scope.names } := by
  have hfree : ∀ y ∈ scope.names, y.2 = .free → ∃ c, X.env.cells.lookup y.1 = some c := fun y hy e => by
    rcases ok.free y hy e with k | k
    · exact I.ok.has _ (.inl k)
    · exact I.ok.has _ (.inr k)
  generalize hcenv : compEnvC scope (cellsFrom (s.heap.objs.size + 1) scope.names (cloFrom X.env.cells scope.names [])) s.heap.objs.size X.env = cenv
  have kp : ∀ b o, s.heap.get? b = some o → (pushCells (s.heap.push { cls := .type "dict", data := .dict #[] }) scope.names).get? b = some o := fun b o e => pushCells_keeps _ _ _ _ (Heap.get?_push_of_some _ e)
  have hL : cenv.locals = s.heap.objs.size := by rw [← hcenv]; rfl
  have hcl : cenv.cells = cellsFrom (s.heap.objs.size + 1) scope.names (cloFrom X.env.cells scope.names []) := by rw [← hcenv]; rfl
  have hsc : cenv.scope = relS scope X.env.scope := by rw [← hcenv]; rfl
  rw [← Heap.size_push s.heap { cls := .type "dict", data := .dict #[] }] at hcl
  have cm : ∀ {y c}, (y, c) ∈ cloFrom X.env.cells scope.names [] → X.env.cells.lookup y = some c ∧ c < s.heap.objs.size := fun {y c} hm => by
    rcases cloFrom_mem hm with hm | ⟨h1, rfl⟩
    · cases hm
    · obtain ⟨c, hc⟩ := hfree _ h1 rfl
      rw [hc]
      obtain ⟨w, z⟩ := I.cell _ _ hc
      exact ⟨rfl, z.lt⟩
  have mem : ∀ {y c}, cenv.cells.lookup y = some c → (X.env.cells.lookup y = some c ∧ c < s.heap.objs.size) ∨ (s.heap.objs.size + 1 ≤ c ∧ CellAt (pushCells (s.heap.push { cls := .type "dict", data := .dict #[] }) scope.names) c none) := fun {y c} e => by
    rw [hcl] at e
    rcases cells_mem (PySem.mem_of_lookup e) with hm | ⟨_, h2, h3⟩
    · exact .inl (cm hm)
    · rw [Heap.size_push] at h2; exact .inr ⟨h2, h3⟩
  have look : ∀ {y}, scope.names.lookup y = some .free → ∃ c, cenv.cells.lookup y = some c ∧ X.env.cells.lookup y = some c := fun {y} hl => by
    have hy : (y, NameKind.free) ∈ scope.names := PySem.mem_of_lookup hl
    obtain ⟨c', e'⟩ := mem_lookup (cells_acc (names := scope.names) (n := (s.heap.push { cls := .type "dict", data := .dict #[] }).objs.size) (cloFrom_has (cells := X.env.cells) (acc := []) hy))
    rw [← hcl] at e'
    refine ⟨c', e', ?_⟩
    rw [hcl] at e'
    rcases cells_mem (PySem.mem_of_lookup e') with hm | ⟨h1, _, _⟩
    · exact (cm hm).1
    · have := ok.uniq _ h1
      rw [hl] at this; cases this
  have okB : (X.blk s H scope cenv fp).Ok := by
    refine ⟨I.ok.mod, by show cenv.scope.kind = _; rw [hsc]; exact ok.kind, by show cenv.globals = _; rw [← hcenv]; exact I.ok.glob, by show cenv.builtins = _; rw [← hcenv]; exact I.ok.blt, by show s.heap.objs.size ≤ cenv.locals; rw [hL]; exact Nat.le_refl _,
      fun y z c e1 e2 => ?_, fun y hy => ?_, fun y c z e => ?_, I.ok.hd, I.ok.frames, .inl rfl, fun b hb => ⟨?_, fun y c e z => ?_⟩, I.bs, Nat.le_trans I.ok.bsz I.sz, fun b o e hb => ?_, fun b hb z => ?_, I.stack, I.stkFree⟩
    · have e1 : cenv.cells.lookup y = some c := e1
      have e2 : cenv.cells.lookup z = some c := e2
      rw [hcl] at e1 e2
      refine cells_inj (fun p hp => ?_) (fun y z c a b => I.ok.inj y z c (cm a).1 (cm b).1) (PySem.mem_of_lookup e1) (PySem.mem_of_lookup e2)
      rw [Heap.size_push]
      exact Nat.lt_succ_of_lt (cm (y := p.1) (c := p.2) hp).2
    · show ∃ c, cenv.cells.lookup y = some c
      have key : ∀ k, cenv.kindOf y = some k → (k = .cell ∨ k = .free) → ∃ c, cenv.cells.lookup y = some c := fun k hk hk' => by
        unfold Env.kindOf at hk
        rw [hsc] at hk
        obtain ⟨k', e, r⟩ := lookup_relS hk
        have : k' = .cell ∨ k' = .free := by
          rcases r with rfl | ⟨rfl, _⟩
          · exact hk'
          · exact .inr rfl
        rcases this with rfl | rfl
        · obtain ⟨c, hm⟩ := cells_has (n := (s.heap.push { cls := .type "dict", data := .dict #[] }).objs.size) (acc := cloFrom X.env.cells scope.names []) (PySem.mem_of_lookup e)
          obtain ⟨c', e'⟩ := mem_lookup hm
          exact ⟨c', by rw [hcl]; exact e'⟩
        · obtain ⟨c, h1, _⟩ := look e
          exact ⟨c, h1⟩
      rcases hy with hy | hy
      · exact key _ hy (.inl rfl)
      · exact key _ hy (.inr rfl)
    · have z : (scope.names.lookup y == some NameKind.cell) = true := z
      have z : scope.names.lookup y = some .cell := by simpa using z
      have e : cenv.cells.lookup y = some c := e
      rw [hcl] at e
      rcases cells_mem (PySem.mem_of_lookup e) with hm | ⟨_, h2, _⟩
      · rcases cloFrom_mem hm with hm | ⟨h1, _⟩
        · cases hm
        · have q := ok.uniq _ h1
          rw [z] at q; cases q
      · rw [Heap.size_push] at h2
        exact Nat.le_of_succ_le h2
    · show b ≠ cenv.locals
      rw [hL]; exact Nat.ne_of_lt (hfp b hb).2
    · have e : cenv.cells.lookup y = some c := e
      rcases mem e with ⟨h1, _⟩ | ⟨h1, _⟩
      · exact (hfp b hb).1.2.2.2.2.1 y c h1 z
      · have h2 : s.heap.objs.size + 1 ≤ b := by rw [← z]; exact h1
        exact absurd (Nat.lt_of_lt_of_le (hfp b hb).2 (Nat.le_of_succ_le h2)) (Nat.lt_irrefl _)
    · rcases (hfp b hb).1.2.2.2.1 with z | z
      · exact I.ok.noex b o e z
      · exact absurd (Nat.lt_of_lt_of_le (Heap.lt_size e) (Nat.le_trans I.ok.bsz z)) (Nat.lt_irrefl _)
    · rcases List.mem_cons.mp (I.stkSub b z) with z | z
      · exact (hfp b hb).1.2.1 z
      · exact (hfp b hb).1.2.2.1 z
  refine ⟨okB, rfl, I.bare, Un.kept kp, ⟨fun _ => none, ?_, fun i y av e1 e2 e3 => ?_⟩, fun y c e => ?_, ?_, fun y c e => ?_, fun p hp => ?_, I.hok.kept kp, by rw [wipe_length]; exact I.len⟩
  · show Heap.Ns _ cenv.locals _
    rw [hL]
    exact Heap.Ns.keeps (Heap.Ns.new ..) fun b o e => pushCells_keeps _ _ _ _ e
  · obtain ⟨e2, hne⟩ := wipe_some e2
    have hfr : scope.names.lookup y = some .free ∧ (cenv.kindOf y = some .cell ∨ cenv.kindOf y = some .free) := by
      have key : ∀ k, cenv.scope.names.lookup y = some k → k = .local ∨ k = .cell ∨ k = .free → scope.names.lookup y = some .free ∧ (cenv.kindOf y = some .cell ∨ cenv.kindOf y = some .free) := fun k hk hk' => by
        have hk0 := hk
        rw [hsc] at hk
        obtain ⟨k', e, r⟩ := lookup_relS hk
        have no : ¬ (k' = .local ∨ k' = .cell) := fun hh => by
          rcases ok.own _ (PySem.mem_of_lookup e) hh with e' | e'
          · obtain ⟨p, hp, hpy⟩ := List.mem_map.mp e'
            have e3 := ok.ix p hp
            have : p.1 = y := hpy
            rw [this] at e3
            exact hne (List.mem_map.mpr ⟨p, hp, nodup_ix hN e3 e1⟩)
          · exact e' (List.mem_of_getElem? e1)
        rcases r with rfl | ⟨rfl, rfl⟩
        · rcases hk' with rfl | rfl | rfl
          · exact absurd (.inl rfl) no
          · exact absurd (.inr rfl) no
          · exact ⟨e, .inr hk0⟩
        · exact ⟨e, .inl hk0⟩
      have e3 : Vis cenv.scope y := e3
      rcases e3 with e3 | e3 | e3
      · exact key _ e3 (.inl rfl)
      · exact key _ e3 (.inr (.inl rfl))
      · exact key _ e3 (.inr (.inr rfl))
    obtain ⟨m, hn, hl⟩ := I.loc
    have hvis : Vis X.env.scope y := (ok.free _ (PySem.mem_of_lookup hfr.1) rfl).elim (fun k => .inr (.inl k)) (fun k => .inr (.inr k))
    obtain ⟨w, r, q⟩ := hl i y av e1 e2 hvis
    refine ⟨w, r, .inr ⟨hfr.2, ?_⟩⟩
    obtain ⟨c, h1, h2⟩ := look hfr.1
    rcases q with ⟨k, _⟩ | ⟨_, c', e', z⟩
    · have k : X.env.scope.names.lookup y = some .local := k
      rcases ok.free _ (PySem.mem_of_lookup hfr.1) rfl with k' | k' <;> rw [show X.env.scope.names.lookup y = _ from k'] at k <;> cases k
    · rw [h2] at e'; cases e'
      exact ⟨c, h1, z.keeps kp⟩
  · have e : cenv.cells.lookup y = some c := e
    rcases mem e with ⟨h1, _⟩ | ⟨_, z⟩
    · obtain ⟨w, z⟩ := I.cell y c h1
      exact ⟨w, z.keeps kp⟩
    · exact ⟨_, z⟩
  · show H cenv.locals = none
    rw [hL]; exact I.hok.fresh (Nat.le_refl _)
  · have e : cenv.cells.lookup y = some c := e
    rcases mem e with ⟨h1, _⟩ | ⟨h1, _⟩
    · exact I.freeC y c h1
    · exact I.hok.fresh (Nat.le_of_succ_le h1)
  · exact absurd (show p ∈ ([] : List (Addr × Obj)) ++ [] from hp) (by simp)
theorem app_ok {E : Value → Shared → Prop} {D : Addr} {xs : List V} {y : V} {v : Value} {Q : Value → Shared → Prop} (I : Inv X pins σ H s) (hD : H D = some (.lst xs)) (hz : xs.length < sizeLine) (r : RelV y v)
    (h : ∀ s', Inv X pins σ (upd H D (.lst (xs ++ [y]))) s' → Q .none s') : wpAny (model X.prog X.w) X.A (call (.builtin "list.append") [.ref D, v]) Q E s := by
  obtain ⟨hz', its, n, ri, e⟩ := I.hok D _ hD
  have hl := ri.length
  refine append_at (hsz := by rw [List.size_toArray]; omega) e fun h' sb ho' => ?_
  refine h { s with heap := h' } (I.write (t' := s.toks) (by rw [hD]; trivial) (.inl rfl) (fun b u hb q => (sb.2 b hb).trans q) ⟨_, ho'⟩ ⟨by rw [List.length_append]; exact hz, its ++ [v], n + 1, ri.append (.cons r .nil), ?_⟩)
  rw [ho']
  simp
def PTs (X : Cx) (ifs : List Expr) (t : TT) : Prop :=
  ∀ (pins : List (Addr × Obj)) (s : Shared) (σ : St) (H : Hp) (Q : Bool → Hp → Prop), Inv X pins σ H s → t σ H Q →
    wpAny (model X.prog X.w) X.A (forIn ifs true fun c r => if r = true then do let ok ← isTrue c X.env (eval c X.env); pure (ForInStep.yield ok) else pure (ForInStep.yield r)) (TP X pins σ Q) X.xe s
def tYes : TT := fun _ H Q => Q true H
theorem pts_nil : PTs X [] tYes := fun _ _ _ H _ I h => wpAny_tests_nil ⟨H, I, h⟩
end
theorem thnF {α : Type} {t : Sem α} {Q Q' : α → Shared → Prop} {M : Model} {A : Around} {E : Value → Shared → Prop} {s : Shared} (h : wpAny M A t Q (fun _ _ => False) s) (hQ : ∀ a s, Q a s → Q' a s) : wpAny M A t Q' E s := wpAny_mono h hQ fun _ _ z => False.elim z
theorem compLoop_any {prog : Program} {w : World} {A : Around} {R : Result → Shared → Prop} {s : Shared} {elt target iter : Expr} {ifs : List Expr} {scope : Scope} {pos : Pos} {it acc : Value} {env : Env} (I : Nat → Shared → Prop)
    (turn : ∀ n s, I n s → wpAny (model prog w) A (pyNext it) (fun r s₁ => match r with
      | none => R (.ok .next) s₁
      | some v => wpAny (model prog w) A (letOwnedTupleGo target it v) (fun _ s₁' => wpAny (model prog w) A (assign target env v) (fun _ s₂ =>
          wpAny (model prog w) A (forIn ifs true fun c r => if r = true then do let ok ← isTrue c env (eval c env); pure (ForInStep.yield ok) else pure (ForInStep.yield r)) (fun ok s₃ =>
            if ok = true then wpAny (model prog w) A (eval elt env) (fun x s₄ =>
              wpAny (model prog w) A (call (.builtin "list.append") [acc, x]) (fun _ s₅ => ∃ m, m < n ∧ I m s₅) (notedBy (model prog w) A env fun e s' => R (.error e) s') s₄) (notedBy (model prog w) A env fun e s' => R (.error e) s') s₃
            else ∃ m, m < n ∧ I m s₃) (notedBy (model prog w) A env fun e s' => R (.error e) s') s₂) (notedBy (model prog w) A env fun e s' => R (.error e) s') s₁') (notedBy (model prog w) A env fun e s' => R (.error e) s') s₁) (notedBy (model prog w) A env fun e s' => R (.error e) s') s)
    (n : Nat) (h : I n s) :
    codeAny (model prog w) A (.compLoop (.ListComp elt [⟨target, iter, ifs, 0⟩] scope pos) 0 it acc env) R s := by
  refine codeAny_loop rfl I (fun n s hI => ?_) n h
  show wpAny _ A ((compTurn (.ListComp elt [⟨target, iter, ifs, 0⟩] scope pos) 0 it acc env).onRaise (fun x => do noteFrame x env; theTreesLotGoes x)) _ _ s
  refine wpAny_noted ?_
  rw [compTurn_list]
  refine wpAny_bind (wpAny_standAt (wpAny_bind (wpAny_mono (turn n s hI) (fun r s₁ h₁ => ?_) fun _ _ h' => h')))
  cases r with
  | none => exact wpAny_pure h₁
  | some v =>
    refine wpAny_bind (wpAny_mono h₁ (fun _ s₁' h₁' => ?_) fun _ _ h' => h')
    refine wpAny_bind (wpAny_mono h₁' (fun _ s₂ h₂ => wpAny_bind (wpAny_mono h₂ (fun ok s₃ h₃ => ?_) fun _ _ h' => h')) fun _ _ h' => h')
    cases ok with
    | false => exact wpAny_pure ⟨rfl, h₃⟩
    | true =>
      exact wpAny_bind (wpAny_bind (wpAny_mono h₃ (fun x s₄ h₄ => wpAny_bind (wpAny_mono h₄ (fun _ s₅ h₅ => wpAny_pure (wpAny_pure ⟨rfl, h₅⟩)) fun _ _ h' => h')) fun _ _ h' => h'))
section
variable {X : Cx}
def tLc (wi : TI) (g : TG) (tt : TT) (te : TE) (vs : List Nat) : TE := fun σ H Q => wi σ H fun J H1 => ∀ D, H1 D = none → ∃ W : Nat → Nat → Hp → Prop, (∃ m, W 0 m (upd H1 D (.lst []))) ∧ ∀ i m H, W i m H →
  (J.stop i H ∧ Q (.ref D) H) ∨ (J.go i H ∧ ∃ Nx : Hp → Prop, (∀ H', Nx H' → ∃ m', m' < m ∧ W (i + 1) m' H') ∧ ∀ x H', J.yld i H x H' → g x (wipe σ vs) H' fun σ2 H2 => wipe σ2 vs = wipe σ vs ∧ tt σ2 H2 fun b H3 =>
    if b = true then te σ2 H3 fun y H4 => ∃ acc, H4 D = some (.lst acc) ∧ acc.length < sizeLine ∧ Nx (upd H4 D (.lst (acc ++ [y]))) else Nx H3)
theorem lc_core {pins : List (Addr × Obj)} {s : Shared} {σ : St} {H : Hp} {Q : VK} {elt tg iter : Expr} {ifs : List Expr} {scope : Scope} {own : List (Str × Nat)} {pos pos' : Pos} {wi : TI} {g : TG} {tt : TT} {te : TE} {use : Option (Value → Sem Unit)} {Qf : Value → Shared → Prop}
    (hc : X.calm = true) (hN : X.N.Nodup) (I : Inv X pins σ H s) (hi : PI X tg iter wi) (ok : BlkOk X.N X.env.scope scope own)
    (hg : ∀ (s : Shared) (H : Hp) (C : Addr) (cl : List (Str × Addr)) (fp : List Addr), PG (X.blk s H scope (compEnvC scope cl C X.env) fp) tg g) (ht : ∀ (s : Shared) (H : Hp) (C : Addr) (cl : List (Str × Addr)) (fp : List Addr), PTs (X.blk s H scope (compEnvC scope cl C X.env) fp) ifs tt)
    (he : ∀ (s : Shared) (H : Hp) (C : Addr) (cl : List (Str × Addr)) (fp : List Addr), PE (X.blk s H scope (compEnvC scope cl C X.env) fp) elt te) (hs : ∀ x, foldedSetIterable iter X.env x = pure x)
    (h : tLc wi g tt te (own.map (·.2)) σ H Q)
    (hRR : ∀ D C s' m H', Inv X pins σ H' s' → Q (.ref D) H' → s'.heap.Ns C m → FpOk X pins H' C → compPost (model X.prog X.w) X.A X.xe use Qf (.ref D) C (.ok .next) s') :
    wpAny (model X.prog X.w) X.A (comprehension (.ListComp elt [⟨tg, iter, ifs, 0⟩] scope pos) scope X.env pos' (newList []) false (eval iter X.env) use) Qf X.xe s := by
  have hfree : ∀ y ∈ scope.names, y.2 = .free → ∃ c, X.env.cells.lookup y.1 = some c := fun y hy e => by
    rcases ok.free y hy e with k | k
    · exact I.ok.has _ (.inl k)
    · exact I.ok.has _ (.inr k)
  refine wpAny_comprehension_free (use := use) rfl hs (closure_ok hfree) ok.kind (fun y hy e => by rw [ok.uniq y hy, e])
    (thn (hi pins s σ H _ I h) fun xv s1 hx => thn hx fun itv s2 h2 => ?_)
  obtain ⟨it, fp, tn, J, H2, e, I2, T, st2, f2, q⟩ := h2
  subst e
  refine wpAny_newObj_type (newEnv_comp ?_) (by show 0 ≤ sizeLine; decide)
  generalize hD : s2.heap.objs.size = D
  have hDn : H2 D = none := I2.hok.fresh (Nat.le_of_eq hD)
  obtain ⟨W, ⟨m0, w0⟩, turn⟩ := q D hDn
  -- the new list
  generalize hs3 : ({ s2 with heap := s2.heap.push { cls := .type "list", data := .seq ([] : List Value).toArray } } : Shared) = s3
  have I3 : Inv X pins σ (upd H2 D (.lst [])) s3 := by
    rw [← hs3]
    refine I2.laid (t' := s2.toks) (fun b o e => Heap.get?_push_of_some _ e) (Nat.le_of_eq hD) ⟨Nat.zero_le _, [], 0, .nil, ?_⟩
    rw [← hD]
    exact Heap.get?_push_size _ rfl
  have h3 : s3.heap = s2.heap.push { cls := .type "list", data := .seq ([] : List Value).toArray } := by rw [← hs3]
  have sz : ∀ b ∈ fp, b < s2.heap.objs.size := fun b hb => by
    obtain ⟨o, e, _⟩ := T.obj _ _ st2 b hb
    exact Heap.lt_size e
  have f3 : ∀ b ∈ fp, FpOk X pins (upd H2 D (.lst [])) b ∧ b < s3.heap.objs.size := fun b hb => by
    have hlt := sz b hb
    refine ⟨⟨?_, (f2 b hb).2⟩, by rw [h3, Heap.size_push]; exact Nat.lt_succ_of_lt hlt⟩
    rw [upd_ne (by rw [← hD]; exact Nat.ne_of_lt hlt)]
    exact (f2 b hb).1
  have st3 : tn 0 s3.heap := T.keep _ _ _ st2 fun b _ o e => by rw [h3]; exact Heap.get?_push_of_some _ e
  have I4 := block_start I3 ok hN f3
  have pg := hg s3 (upd H2 D (.lst [])) s3.heap.objs.size (cellsFrom (s3.heap.objs.size + 1) scope.names (cloFrom X.env.cells scope.names [])) fp
  have pt := ht s3 (upd H2 D (.lst [])) s3.heap.objs.size (cellsFrom (s3.heap.objs.size + 1) scope.names (cloFrom X.env.cells scope.names [])) fp
  have pe := he s3 (upd H2 D (.lst [])) s3.heap.objs.size (cellsFrom (s3.heap.objs.size + 1) scope.names (cloFrom X.env.cells scope.names [])) fp
  show codeAny _ _ (.compStart (.ListComp elt [⟨tg, iter, ifs, 0⟩] scope pos) 0 (.ref it) (.ref D) (compEnvC scope (cellsFrom (s3.heap.objs.size + 1) scope.names (cloFrom X.env.cells scope.names [])) s3.heap.objs.size X.env)) (compPost (model X.prog X.w) X.A X.xe use Qf (.ref D) s3.heap.objs.size) { s3 with heap := pushCells (s3.heap.push { cls := .type "dict", data := .dict #[] }) scope.names }
  have nfp : ∀ b ∈ fp, (upd H2 D (.lst [])) b = none := fun b hb => (f3 b hb).1.1
  generalize hce : compEnvC scope (cellsFrom (s3.heap.objs.size + 1) scope.names (cloFrom X.env.cells scope.names [])) s3.heap.objs.size X.env = ce at I4 pg pt pe ⊢
  have cL : ce.locals = s3.heap.objs.size := by subst hce; rfl
  generalize hH3 : upd H2 D (.lst []) = H3 at I3 I4 pg pt pe w0 nfp f3
  generalize hs4 : ({ s3 with heap := pushCells (s3.heap.push { cls := .type "dict", data := .dict #[] }) scope.names } : Shared) = s4 at I4 ⊢
  have st4 : tn 0 s4.heap := T.keep _ _ _ st3 fun b _ o e => by rw [← hs4]; exact pushCells_keeps _ _ _ _ (Heap.get?_push_of_some _ e)
  have stat : ∀ {σ' : St} {H' : Hp} {s' : Shared}, Inv (X.blk s3 H3 scope ce fp) [] σ' H' s' → (∀ b ∈ fp, H' b = none) → ∀ b ∈ fp, FpOk (X.blk s3 H3 scope ce fp) [] H' b := fun {σ' H' s'} I' hn b hb =>
    ⟨hn b hb, (I'.ok.exf b hb).1, I'.ok.exfs b hb, .inl hb, fun x c e => (I'.ok.exf b hb).2 x c e, fun p hp => absurd (show p ∈ ([] : List (Addr × Obj)) ++ [] from hp) (by simp)⟩
  have loop : codeAny (model X.prog X.w) X.A (.compLoop (.ListComp elt [⟨tg, iter, ifs, 0⟩] scope pos) 0 (.ref it) (.ref D) ce) (compPost (model X.prog X.w) X.A X.xe use Qf (.ref D) s3.heap.objs.size) s4 := by
    refine compLoop_any (fun n s' => ∃ i H', Inv (X.blk s3 H3 scope ce fp) [] (wipe σ (own.map (·.2))) H' s' ∧ tn i s'.heap ∧ (∀ b ∈ fp, H' b = none) ∧ W i n H') ?_ m0 ⟨0, H3, I4, st4, nfp, w0⟩
    rintro n s5 ⟨i, H5, I5, st5, n5, w5⟩
    rcases turn i n H5 w5 with ⟨stop, qq⟩ | ⟨go, Nx, hNx, step⟩
    · have td := T.done (X.blk s3 H3 scope ce fp) rfl rfl rfl hc i [] s5 _ H5 (fun _ _ => False) I5 (stat I5 n5) st5 stop
      refine thnF td fun r s6 ⟨hr, I6⟩ => ?_
      subst hr
      -- back in the def's context
      have I7 : Inv X pins σ H5 s6 := I3.call' (ch := fp) I6.os I6.base I6.hok I6.bare fun b hb => ⟨(f3 b hb).1.2.2.2.1, (f3 b hb).1.2.1, (f3 b hb).1.2.2.2.2.1, (f3 b hb).1.2.2.2.2.2⟩
      have nC : H5 s3.heap.objs.size = none := by
        have z : H5 ce.locals = none := I6.free
        rw [cL] at z
        exact z
      obtain ⟨m, hn, _⟩ := I6.loc
      have hn : s6.heap.Ns ce.locals m := hn
      rw [cL] at hn
      exact hRR D s3.heap.objs.size s6 m H5 I7 qq hn (I3.fpOk (Nat.le_refl _) nC)
    · have ti := T.item (X.blk s3 H3 scope ce fp) rfl rfl rfl hc i [] s5 _ H5 (fun _ _ => False) I5 (stat I5 n5) st5 go
      refine thnF ti fun r s6 ⟨u, hr, h6⟩ => ?_
      subst hr
      refine thnF h6 fun _ s7 ⟨x, H7, I7, r7, y7, st7, n7⟩ => ?_
      have I7' := I7.pinned (stat I7 n7) (T.obj _ _ st7)
      refine thnF (pg _ s7 _ H7 x u _ I7' r7 (step x H7 y7)) fun _ s8 ⟨σ8, H8, I8, hw8, q8⟩ => ?_
      refine thnF (pt _ s8 σ8 H8 _ I8 q8) fun b s9 ⟨H9, I9, q9⟩ => ?_
      -- the turn's end
      have fin : ∀ {s' : Shared} {H' : Hp}, Inv (X.blk s3 H3 scope ce fp) ([] ++ pinsAt fp s7.heap) σ8 H' s' → Nx H' → ∃ m, m < n ∧ ∃ i H', Inv (X.blk s3 H3 scope ce fp) [] (wipe σ (own.map (·.2))) H' s' ∧ tn i s'.heap ∧ (∀ b ∈ fp, H' b = none) ∧ W i m H' := fun {s' H'} I' nx => by
        obtain ⟨m', hm, w'⟩ := hNx H' nx
        have pin' : ∀ b ∈ fp, ∀ o, s7.heap.get? b = some o → s'.heap.get? b = some o ∧ H' b = none := fun b hb o e =>
          let z := I'.pin (b, o) (List.mem_append_right _ (List.mem_append_right _ (mem_pinsAt hb e)))
          ⟨z.1, z.2.1⟩
        have hl : (wipe σ (own.map (·.2))).length = σ8.length := by rw [← hw8, wipe_length]
        refine ⟨m', hm, i + 1, H', (I'.unpinned (pins := [])).weak hl (fun j v e => ?_), T.keep _ _ _ st7 fun b hb o e => (pin' b hb o e).1, fun b hb => ?_, w'⟩
        · rw [← hw8] at e
          exact (wipe_some e).1
        · obtain ⟨o, e, _⟩ := T.obj _ _ st7 b hb
          exact (pin' b hb o e).2
      cases b with
      | false =>
        simp only [Bool.false_eq_true, if_false] at q9 ⊢
        exact fin I9 q9
      | true =>
        simp only [if_true] at q9 ⊢
        refine thnF (pe _ s9 σ8 H9 _ I9 q9) fun z s10 ⟨yv, H10, I10, r10, acc, hD10, hz10, nx⟩ => ?_
        exact app_ok (X := X.blk s3 H3 scope ce fp) I10 hD10 hz10 r10 fun s11 I11 => fin I11 nx
  exact codeAny_compStart_list loop (T.self X.A 0 _ _ _ st4 loop)
theorem pe_lc {elt tg iter : Expr} {ifs : List Expr} {scope : Scope} {own : List (Str × Nat)} {pos : Pos} {wi : TI} {g : TG} {tt : TT} {te : TE} (hc : X.calm = true) (hN : X.N.Nodup) (hi : PI X tg iter wi) (ok : BlkOk X.N X.env.scope scope own)
    (hg : ∀ (s : Shared) (H : Hp) (C : Addr) (cl : List (Str × Addr)) (fp : List Addr), PG (X.blk s H scope (compEnvC scope cl C X.env) fp) tg g) (ht : ∀ (s : Shared) (H : Hp) (C : Addr) (cl : List (Str × Addr)) (fp : List Addr), PTs (X.blk s H scope (compEnvC scope cl C X.env) fp) ifs tt)
    (he : ∀ (s : Shared) (H : Hp) (C : Addr) (cl : List (Str × Addr)) (fp : List Addr), PE (X.blk s H scope (compEnvC scope cl C X.env) fp) elt te) (hs : ∀ x, foldedSetIterable iter X.env x = pure x := by intro _; rfl) :
    PE X (.ListComp elt [⟨tg, iter, ifs, 0⟩] scope pos) (tLc wi g tt te (own.map (·.2))) := by
  intro pins s σ H Q I h
  rw [eval_ListComp]
  refine lc_core hc hN I hi ok hg ht he hs h fun D C s' m H' I' q hn f => ⟨m, hn, fun h'' sb => ?_⟩
  obtain ⟨f0, f1, f2, f3, f4, f5⟩ := f
  exact ⟨.ref D, H', I'.turned (t' := s'.toks) (fun b o hb e => (sb.2 b hb).trans e) f0 f1 f3 f4 f5, rfl, q⟩
end
theorem lc_tup {K : PySem.W.Frag} {a : Addr} {xs : List V} {g : TG} {tt : TT} {te : TE} {vs : List Nat} {σ : St} {H1 : Hp} {D : Addr} {Qd : Hp → Prop} (Pv : Nat → Hp → Prop) (h0 : Pv 0 (upd H1 D (.lst []))) (hl : ∀ i H, i ≤ xs.length → Pv i H → SqT K H a xs)
    (hs : ∀ i x H, xs[i]? = some x → Pv i H → g x (wipe σ vs) H fun σ2 H2 => wipe σ2 vs = wipe σ vs ∧ tt σ2 H2 fun b H3 =>
      if b = true then te σ2 H3 fun y H4 => ∃ acc, H4 D = some (.lst acc) ∧ acc.length < sizeLine ∧ Pv (i + 1) (upd H4 D (.lst (acc ++ [y]))) else Pv (i + 1) H3) (hd : ∀ H, Pv xs.length H → Qd H) :
    ∃ W : Nat → Nat → Hp → Prop, (∃ m, W 0 m (upd H1 D (.lst []))) ∧ ∀ i m H, W i m H →
      ((Itt K a).stop i H ∧ Qd H) ∨ ((Itt K a).go i H ∧ ∃ Nx : Hp → Prop, (∀ H', Nx H' → ∃ m', m' < m ∧ W (i + 1) m' H') ∧ ∀ x H', (Itt K a).yld i H x H' → g x (wipe σ vs) H' fun σ2 H2 => wipe σ2 vs = wipe σ vs ∧ tt σ2 H2 fun b H3 =>
        if b = true then te σ2 H3 fun y H4 => ∃ acc, H4 D = some (.lst acc) ∧ acc.length < sizeLine ∧ Nx (upd H4 D (.lst (acc ++ [y]))) else Nx H3) := by
  refine ⟨fun i m H => m = xs.length - i ∧ i ≤ xs.length ∧ Pv i H, ⟨xs.length, by simp, Nat.zero_le _, h0⟩, ?_⟩
  rintro i m H ⟨rfl, hi, p⟩
  have q := hl i H hi p
  by_cases hlt : i < xs.length
  · refine .inr ⟨⟨xs, xs[i], q, by simp [hlt]⟩, Pv (i + 1), fun H' p' => ⟨xs.length - (i + 1), by omega, rfl, hlt, p'⟩, fun x H' y => ?_⟩
    obtain ⟨e, y⟩ := y
    subst e
    exact hs i x _ (y xs q) p
  · have e : i = xs.length := by omega
    subst e
    exact .inl ⟨⟨xs, q, Nat.le_refl _⟩, hd H p⟩
def blkC (N : List Str) (sc scope : Scope) (own : List (Str × Nat)) : Bool :=
  (match scope.kind with | .function => true | _ => false) && (scope.names.all fun y => decide (scope.names.lookup y.1 = some y.2)) && (own.all fun p => decide (N[p.2]? = some p.1)) &&
    (scope.names.all fun y => match y.2 with
      | .free => (match sc.names.lookup y.1 with | some .cell => true | some .free => true | _ => false)
      | .local => decide (y.1 ∈ own.map (·.1)) || decide (y.1 ∉ N)
      | .cell => decide (y.1 ∈ own.map (·.1)) || decide (y.1 ∉ N)
      | _ => true)
theorem blkOk_by {N : List Str} {sc scope : Scope} {own : List (Str × Nat)} (h : blkC N sc scope own = true) : BlkOk N sc scope own := by
  unfold blkC at h
  simp only [Bool.and_eq_true, List.all_eq_true, decide_eq_true_eq] at h
  obtain ⟨⟨⟨h1, h2⟩, h3⟩, h4⟩ := h
  refine ⟨?_, h2, h3, fun y hy e => ?_, fun y hy e => ?_⟩
  · split at h1
    · assumption
    · cases h1
  · have q := h4 y hy
    simp only [e] at q
    split at q <;> first | exact .inl (by assumption) | exact .inr (by assumption) | cases q
  · have q := h4 y hy
    rcases e with e | e <;> (simp only [e, Bool.or_eq_true, decide_eq_true_eq] at q; exact q)
end L2
namespace L2
open PySem PySem.Spec PyProof.Rows
end L2
namespace L2
open PySem PySem.Spec PyProof.Rows
section
variable {κ : Type} [DecidableEq κ]
def valV (kvs : List (κ × V)) (k : κ) : Option V := (kvs.find? fun kv => decide (kv.1 = k)).map (·.2)
def putK (kvs : List (κ × V)) (k : κ) (v : V) : List (κ × V) :=
  if (kvs.any fun kv => decide (kv.1 = k)) = true then kvs.map (fun kv => if kv.1 = k then (kv.1, v) else kv) else kvs ++ [(k, v)]
theorem valV_pos {p : κ × V} {r : List (κ × V)} {k : κ} (e : p.1 = k) : valV (p :: r) k = some p.2 := by simp [valV, List.find?_cons, e]
theorem valV_neg {p : κ × V} {r : List (κ × V)} {k : κ} (e : ¬ p.1 = k) : valV (p :: r) k = valV r k := by simp [valV, List.find?_cons, e]
theorem valV_any (k : κ) : ∀ kvs : List (κ × V), (kvs.any fun kv => decide (kv.1 = k)) = (valV kvs k).isSome
  | [] => rfl
  | p :: r => by
    rw [List.any_cons]
    by_cases e : p.1 = k
    · simp only [valV_pos e, decide_eq_true e, Bool.true_or, Option.isSome_some]
    · rw [valV_neg e, decide_eq_false e, Bool.false_or]; exact valV_any k r
theorem length_putK (kvs : List (κ × V)) (k : κ) (v : V) : (putK kvs k v).length ≤ kvs.length + 1 := by
  unfold putK
  split
  · rw [List.length_map]; omega
  · rw [List.length_append, List.length_cons, List.length_nil]; omega
theorem putK_new {kvs : List (κ × V)} {k : κ} (v : V) (h : valV kvs k = none) : putK kvs k v = kvs ++ [(k, v)] := by
  unfold putK
  rw [valV_any, h]
  exact if_neg (by decide)
theorem RelO.isSome_eq {o : Option V} {u : Option Value} (r : RelO o u) : o.isSome = u.isSome := by
  cases o with
  | none => cases u with
    | none => rfl
    | some _ => exact (show False from r).elim
  | some _ => cases u with
    | none => exact (show False from r).elim
    | some _ => rfl
theorem RelO.getD {o : Option V} {u : Option Value} {d : V} {d' : Value} (r : RelO o u) (rd : RelV d d') : RelV (o.getD d) (u.getD d') := by
  cases o with
  | none => cases u with
    | none => exact rd
    | some _ => exact (show False from r).elim
  | some _ => cases u with
    | none => exact (show False from r).elim
    | some _ => exact r
theorem KV.val {kvs : List (κ × V)} {vs : List (κ × Value)} (r : KV kvs vs) (k : κ) : RelO (valV kvs k) (valueAt vs k) := by
  unfold KV at r
  induction r with
  | nil => exact True.intro
  | @cons p q ps qs h t ih =>
    obtain ⟨h1, h2⟩ := h
    by_cases e : p.1 = k
    · have e' : q.1 = k := h1.symm.trans e
      have b : valueAt (q :: qs) k = some q.2 := by simp [valueAt, List.find?_cons, e']
      rw [valV_pos e, b]; exact h2
    · have e' : ¬ q.1 = k := fun z => e (h1.trans z)
      have b : valueAt (q :: qs) k = valueAt qs k := by simp [valueAt, List.find?_cons, e']
      rw [valV_neg e, b]; exact ih
theorem KV.any {kvs : List (κ × V)} {vs : List (κ × Value)} (r : KV kvs vs) (k : κ) : (kvs.any fun kv => decide (kv.1 = k)) = vs.any fun kv => decide (kv.1 = k) := by
  unfold KV at r
  induction r with
  | nil => rfl
  | cons h t ih => rw [List.any_cons, List.any_cons, ih, h.1]
theorem KV.repl {kvs : List (κ × V)} {vs : List (κ × Value)} (r : KV kvs vs) (k : κ) {y : V} {u : Value} (ry : RelV y u) :
    KV (kvs.map fun kv => if kv.1 = k then (kv.1, y) else kv) (vs.map fun kv => if kv.1 = k then (kv.1, u) else kv) := by
  unfold KV at r ⊢
  induction r with
  | nil => exact .nil
  | @cons p q ps qs h t ih =>
    rw [List.map_cons, List.map_cons]
    refine .cons ?_ ih
    obtain ⟨h1, h2⟩ := h
    by_cases e : p.1 = k
    · rw [if_pos e, if_pos (h1.symm.trans e)]; exact ⟨h1, ry⟩
    · rw [if_neg e, if_neg (fun z => e (h1.trans z))]; exact ⟨h1, h2⟩
theorem KV.put {kvs : List (κ × V)} {vs : List (κ × Value)} (r : KV kvs vs) (k : κ) {y : V} {u : Value} (ry : RelV y u) : KV (putK kvs k y) (stored vs k u) := by
  unfold putK stored
  rw [r.any k]
  by_cases e : (vs.any fun kv => decide (kv.1 = k)) = true
  · rw [if_pos e, if_pos e]; exact r.repl k ry
  · rw [if_neg e, if_neg e]; exact Paired.snoc r ⟨rfl, ry⟩
theorem KV.length {kvs : List (κ × V)} {vs : List (κ × Value)} (r : KV kvs vs) : kvs.length = vs.length := Paired.length r
end
theorem kV_is {P : Program} {w : World} {k : Key} {u : Value} (r : RelV (kV k) u) : (mixKind P w).is k u = true := by
  cases k with
  | inl i => obtain ⟨t, e⟩ := (show ∃ t, u = Value.int i t from r); subst e; exact mixKind_int P w i t
  | inr x => obtain ⟨t, e⟩ := (show ∃ t, u = Value.str x t from r); subst e; exact mixKind_str P w x t
theorem items_are {P : Program} {w : World} : ∀ {ks : List Key} {us : List Value}, Vals (ks.map kV) us → ItemsAre (mixKind P w) ks us
  | [], _, r => by rw [List.map_nil] at r; cases r; exact .nil
  | k :: ks, _, r => by
    rw [List.map_cons] at r
    cases r with
    | cons h t => exact .cons (kV_is h) (items_are t)
abbrev KT (H : Hp) : List (List Key × V) → List (List Key × Addr × Value) → Prop := Paired fun p q => p.1 = q.1 ∧ H q.2.1 = some (.tup (p.1.map kV)) ∧ RelV p.2 q.2.2
theorem KT.val {H : Hp} {kvs : List (List Key × V)} {xs : List (List Key × Addr × Value)} (r : KT H kvs xs) (k : List Key) : RelO (valV kvs k) ((atKey xs k).map (·.2)) := by
  induction r with
  | nil => exact True.intro
  | @cons p q ps qs h t ih =>
    obtain ⟨h1, _, h2⟩ := h
    by_cases e : p.1 = k
    · have e' : q.1 = k := h1.symm.trans e
      have b : atKey (q :: qs) k = some q.2 := by simp [atKey, List.find?_cons, e']
      rw [valV_pos e, b]; exact h2
    · have e' : ¬ q.1 = k := fun z => e (h1.trans z)
      have b : atKey (q :: qs) k = atKey qs k := by simp [atKey, List.find?_cons, e']
      rw [valV_neg e, b]; exact ih
theorem KT.repl {H : Hp} {kvs : List (List Key × V)} {xs : List (List Key × Addr × Value)} (r : KT H kvs xs) (k : List Key) {y : V} {u : Value} (ry : RelV y u) :
    KT H (kvs.map fun kv => if kv.1 = k then (kv.1, y) else kv) (xs.map (putAt k u)) := by
  induction r with
  | nil => exact .nil
  | @cons p q ps qs h t ih =>
    rw [List.map_cons, List.map_cons]
    refine .cons ?_ ih
    obtain ⟨h1, h2, h3⟩ := h
    unfold putAt
    by_cases e : p.1 = k
    · rw [if_pos e, if_pos (h1.symm.trans e)]; exact ⟨h1, h2, ry⟩
    · rw [if_neg e, if_neg (fun z => e (h1.trans z))]; exact ⟨h1, h2, h3⟩
theorem KT.put {H : Hp} {kvs : List (List Key × V)} {xs : List (List Key × Addr × Value)} (r : KT H kvs xs) (k : List Key) {b : Addr} {y : V} {u : Value} (hb : H b = some (.tup (k.map kV))) (ry : RelV y u) :
    KT H (putK kvs k y) (storedH xs k b u) := by
  have e : (kvs.any fun kv => decide (kv.1 = k)) = (atKey xs k).isSome := by
    rw [valV_any, (r.val k).isSome_eq, Option.isSome_map]
  unfold putK storedH
  rw [e]
  by_cases q : (atKey xs k).isSome = true
  · rw [if_pos q, if_pos q]; exact r.repl k ry
  · rw [if_neg q, if_neg q]; exact Paired.snoc r ⟨rfl, hb, ry⟩
theorem KT.keeps {H H' : Hp} {kvs : List (List Key × V)} {xs : List (List Key × Addr × Value)} (r : KT H kvs xs) (ht : ∀ b ys, H b = some (.tup ys) → H' b = some (.tup ys)) : KT H' kvs xs :=
  Paired.mapP r fun _ _ z => ⟨z.1, ht _ _ z.2.1, z.2.2⟩
section
variable {P : Program} {w : World} {H : Hp} {h : Heap} {a : Addr}
theorem rd_of {u : HO} (ok : HOk P w H h) (e : Rd H a u) : ObjOk P w H h a u := e.ok ok
theorem dk_rd {kvs : List (Key × V)} (ok : HOk P w H h) (e : Rd H a (.dK kvs)) : kvs.length ≤ sizeLine ∧ (a == sysModules) = false ∧ ∃ vs, KV kvs vs ∧ h.DictOf (mixKind P w) a vs :=
  show ObjOk P w H h a (.dK kvs) from rd_of ok e
theorem dk_of {kvs : List (Key × V)} (ok : HOk P w H h) (e : H a = some (.dK kvs)) : kvs.length ≤ sizeLine ∧ (a == sysModules) = false ∧ ∃ vs, KV kvs vs ∧ h.DictOf (mixKind P w) a vs := dk_rd ok (.inl e)
theorem key_of {ks : List Key} (ok : HOk P w H h) (e : H a = some (.tup (ks.map kV))) : (tupleKind (mixKind P w)).is h ks a := by
  obtain ⟨_, its, r, o, h1, h2, n, h3⟩ := (show ObjOk P w H h a (.tup (ks.map kV)) from ok a _ e)
  exact ⟨o, its.toArray, n, h1, h2, h3, by simpa using items_are r⟩
theorem dt_rd {kvs : List (List Key × V)} (ok : HOk P w H h) (e : Rd H a (.dT kvs)) : kvs.length ≤ sizeLine ∧ (a == sysModules) = false ∧
    ∃ xs, KT H kvs xs ∧ h.DictOfH (tupleKind (mixKind P w)) a xs := by
  obtain ⟨z, y, xs, r, o, es, ep, h1, h2, h3, h4, h5⟩ := (show ObjOk P w H h a (.dT kvs) from rd_of ok e)
  refine ⟨z, y, xs, r, o, es, ep, h1, h2, h3, h4, fun x hx => ?_, h5⟩
  have all : ∀ {l : List (List Key × V)} {m : List (List Key × Addr × Value)}, KT H l m → ∀ x ∈ m, (tupleKind (mixKind P w)).is h x.1 x.2.1 := by
    intro l m q
    induction q with
    | nil => intro x hx; exact nomatch hx
    | @cons p q ps qs hq t ih =>
      intro x hx
      rcases List.mem_cons.mp hx with e | hx
      · subst e
        exact key_of ok (by rw [← hq.1]; exact hq.2.1)
      · exact ih x hx
  exact all r x hx
theorem dt_of {kvs : List (List Key × V)} (ok : HOk P w H h) (e : H a = some (.dT kvs)) : kvs.length ≤ sizeLine ∧ (a == sysModules) = false ∧
    ∃ xs, KT H kvs xs ∧ h.DictOfH (tupleKind (mixKind P w)) a xs := dt_rd ok (.inl e)
end
def DGet (H : Hp) (a : Addr) (y : V) (r : Option V) : Prop :=
  (∃ kvs k, Rd H a (.dK kvs) ∧ y = kV k ∧ r = valV kvs k) ∨ ∃ kvs k b, Rd H a (.dT kvs) ∧ y = .ref b ∧ H b = some (.tup (k.map kV)) ∧ r = valV kvs k
def DPut (H : Hp) (a : Addr) (y v : V) (H' : Hp) : Prop :=
  (∃ kvs k, H a = some (.dK kvs) ∧ y = kV k ∧ kvs.length < sizeLine ∧ H' = upd H a (.dK (putK kvs k v))) ∨
  ∃ kvs k b, H a = some (.dT kvs) ∧ y = .ref b ∧ H b = some (.tup (k.map kV)) ∧ kvs.length < sizeLine ∧ H' = upd H a (.dT (putK kvs k v))
theorem DGet.k {H : Hp} {a : Addr} {kvs : List (Key × V)} {k : Key} (e : H a = some (.dK kvs)) : DGet H a (kV k) (valV kvs k) := .inl ⟨kvs, k, .inl e, rfl, rfl⟩
theorem DPut.k {H : Hp} {a : Addr} {kvs : List (Key × V)} {k : Key} {v : V} (e : H a = some (.dK kvs)) (hl : kvs.length < sizeLine) : DPut H a (kV k) v (upd H a (.dK (putK kvs k v))) := .inl ⟨kvs, k, e, rfl, hl, rfl⟩
section
variable {X : Cx} {pins : List (Addr × Obj)} {σ : St} {H : Hp} {s : Shared} {a : Addr} {y v : V} {u r : Value} {o : Option V} {A : Around} {E : Value → Shared → Prop}
theorem Inv.big (I : Inv X pins σ H s) : sysModules < s.heap.objs.size := by
  have h : mainGlobals < s.heap.objs.size := (I.mod.glob.keeps I.bk).lt
  exact Nat.lt_trans (by decide) h
theorem d_getItem {Q : Value → Shared → Prop} (hu : A.units + 1 < cLine) (I : Inv X pins σ H s) (g : DGet H a y (some v)) (ry : RelV y u) (h : ∀ w' s', Inv X pins σ H s' → RelV v w' → Q w' s') :
    wpAny (model X.prog X.w) A (getItem (.ref a) u) Q E s := by
  rcases g with ⟨kvs, k, e, ey, l⟩ | ⟨kvs, k, b, e, ey, eb, l⟩
  · subst ey
    obtain ⟨z, hd, vs, rel, dd⟩ := dk_rd I.hok e
    obtain ⟨w', hw, rw'⟩ := RelO.some_of (v := v) (o := valueAt vs k) (by rw [l]; exact rel.val k)
    exact wpAny_getItem_of (kV_is ry) dd.mapOf hw (h w' _ (I.tok _) rw')
  · subst ey
    cases (show u = Value.ref b from ry)
    obtain ⟨z, hd, xs, rel, dd⟩ := dt_rd I.hok e
    obtain ⟨w', hw, rw'⟩ := RelO.some_of (v := v) (o := (atKey xs k).map (·.2)) (by rw [l]; exact rel.val k)
    obtain ⟨p, hp, hp2⟩ := Option.map_eq_some_iff.mp hw
    refine wpAny_getItem_heap (tupleKind_room_in1 hu) (key_of I.hok eb) dd hp ?_
    rw [hp2]
    exact h w' _ (I.tok _) rw'
theorem d_in {Q : Value → Shared → Prop} (hu : A.units + 1 < cLine) (I : Inv X pins σ H s) (g : DGet H a y o) (ry : RelV y u) (h : ∀ s', Inv X pins σ H s' → Q (.bool o.isSome) s') :
    wpAny (model X.prog X.w) A (compareOp .In u (.ref a)) Q E s := by
  rcases g with ⟨kvs, k, e, ey, l⟩ | ⟨kvs, k, b, e, ey, eb, l⟩
  · subst ey
    obtain ⟨z, hd, vs, rel, dd⟩ := dk_rd I.hok e
    refine wpAny_in_of (kV_is ry) hd dd.mapOf ?_
    rw [← (rel.val k).isSome_eq, ← l]
    exact h _ (I.tok _)
  · subst ey
    cases (show u = Value.ref b from ry)
    obtain ⟨z, hd, xs, rel, dd⟩ := dt_rd I.hok e
    refine wpAny_in_heap (tupleKind_room_in1 hu) (key_of I.hok eb) hd dd ?_
    have q := (rel.val k).isSome_eq
    rw [Option.isSome_map] at q
    rw [← q, ← l]
    exact h _ (I.tok _)
theorem d_notIn {Q : Value → Shared → Prop} (hu : A.units + 1 < cLine) (I : Inv X pins σ H s) (g : DGet H a y o) (ry : RelV y u) (h : ∀ s', Inv X pins σ H s' → Q (.bool (!o.isSome)) s') :
    wpAny (model X.prog X.w) A (compareOp .NotIn u (.ref a)) Q E s := by
  rcases g with ⟨kvs, k, e, ey, l⟩ | ⟨kvs, k, b, e, ey, eb, l⟩
  · subst ey
    obtain ⟨z, hd, vs, rel, dd⟩ := dk_rd I.hok e
    refine wpAny_notIn_of (kV_is ry) hd dd.mapOf ?_
    rw [← (rel.val k).isSome_eq, ← l]
    exact h _ (I.tok _)
  · subst ey
    cases (show u = Value.ref b from ry)
    obtain ⟨z, hd, xs, rel, dd⟩ := dt_rd I.hok e
    refine wpAny_notIn_heap (tupleKind_room_in1 hu) (key_of I.hok eb) hd dd ?_
    have q := (rel.val k).isSome_eq
    rw [Option.isSome_map] at q
    rw [← q, ← l]
    exact h _ (I.tok _)
theorem d_write {h' : Heap} {t' : Nat} {ob : HO} (I : Inv X pins σ H s) (mu : Mut (H a)) (hs : Heap.SameBut a s.heap h') (he : ∃ q, h'.get? a = some q) (new : ObjOk X.prog X.w (upd H a ob) h' a ob) :
    Inv X pins σ (upd H a ob) { s with heap := h', toks := t' } :=
  I.write (x := a) (e := a) mu (.inl rfl) (fun b q hb z => (hs.2 b hb).trans z) he new
theorem dk_new {P : Program} {w : World} {H' : Hp} {h' : Heap} {kvs : List (Key × V)} {vs : List (Key × Value)} (z : kvs.length ≤ sizeLine) (hd : (a == sysModules) = false) (rel : KV kvs vs) (dd : h'.DictOf (mixKind P w) a vs) :
    ObjOk P w H' h' a (.dK kvs) := ⟨z, hd, vs, rel, dd⟩
theorem d_setItem {H' : Hp} {Q : Unit → Shared → Prop} (hu : A.units + 1 < cLine) (I : Inv X pins σ H s) (g : DPut H a y v H') (ry : RelV y u) (rv : RelV v r) (h : ∀ s', Inv X pins σ H' s' → Q () s') :
    wpAny (model X.prog X.w) A (setItem (.ref a) u r) Q E s := by
  rcases g with ⟨kvs, k, e, ey, l, eH⟩ | ⟨kvs, k, b, e, ey, eb, l, eH⟩
  · subst ey eH
    obtain ⟨z, hd, vs, rel, dd⟩ := dk_of I.hok e
    have hz : vs.length ≤ sizeLine := by rw [← rel.length]; exact z
    have hl : (putK kvs k v).length ≤ sizeLine := by have := length_putK kvs k v; omega
    refine wpAny_setItem_pairs (hsz := hz) (kV_is ry) dd fun h' dd' hs => h _ ?_
    have he : ∃ q, h'.get? a = some q := let ⟨q, _, _, hq, _⟩ := dd'; ⟨q, hq⟩
    exact d_write I (by rw [e]; exact True.intro) hs he (dk_new hl hd (rel.put k rv) dd')
  · subst ey eH
    cases (show u = Value.ref b from ry)
    obtain ⟨z, hd, xs, rel, dd⟩ := dt_of I.hok e
    have hz : xs.length ≤ sizeLine := by rw [← Paired.length rel]; exact z
    have hl : (putK kvs k v).length ≤ sizeLine := by have := length_putK kvs k v; omega
    refine wpAny_setItem_heap (hsz := hz) (tupleKind_room_in1 hu) (key_of I.hok eb) dd fun h' dd' hs => h _ ?_
    obtain ⟨q, es, ep, hq, h2, h3, h4, _, h5⟩ := dd'
    refine d_write I (by rw [e]; exact True.intro) hs ⟨q, hq⟩ ⟨hl, hd, _, (rel.put k eb rv).keeps fun c ys ec => ?_, q, es, ep, hq, h2, h3, h4, h5⟩
    rw [upd_ne (ne_of ec e (fun z => nomatch z))]
    exact ec
end
def NoSl (i : Expr) : Prop := ∀ ov iv, subscripted i false ov iv = operate [ov, iv] (getItem ov iv)
theorem subD_of {prog : Program} {w : World} {A : Around} {E : Value → Shared → Prop} {s : Shared} {env : Env} {value slice : Expr} {pos : Pos} {T id : String} {Q : Value → Shared → Prop}
    (hl : typeLookup (.type T) "__getitem__" = pure (some (.builtin id))) (hs : NoSl slice)
    (h : wpAny (model prog w) A (eval value env) (fun o s₁ => wpAny (model prog w) A (eval slice env) (fun i s₂ => s₂.TypeIs o T ∧ wpAny (model prog w) A (getItem o i) Q E s₂) E s₁) E s) :
    wpAny (model prog w) A (eval (.Subscript value slice pos) env) Q E s := by
  refine Subscript_ (wpAny_mono h (fun o s₁ h₁ => wpAny_mono h₁ (fun i s₂ h₂ => ?_) fun _ _ x => x) fun _ _ x => x)
  obtain ⟨hT, h₂⟩ := h₂
  unfold subscriptTail
  refine wpAny_bind ?_
  rw [getitemInPython_of_ne hT.not_modules]
  refine wpAny_bind (wpAny_specialOf hT hl ?_)
  have fin : wpAny (model prog w) A (subscripted slice false o i) (fun r s₃ => wpAny (model prog w) A (letTemporaryGo value o r >>= fun _ => pure r) Q E s₃) E s₂ := by
    rw [hs o i]
    exact wpAny_operating (wpAny_mono h₂ (fun r s₃ h₃ => wpAny_bind (wpAny_letTemporaryGo (wpAny_pure h₃))) fun _ _ x => x)
  first
    | exact wpAny_pure (wpAny_bind fin)
    | exact wpAny_bind (wpAny_pure (wpAny_bind fin))
    | exact wpAny_bind fin
theorem dict_typeIs {X : Cx} {pins : List (Addr × Obj)} {σ : St} {H : Hp} {s : Shared} {a : Addr} {y : V} {o : Option V} (I : Inv X pins σ H s) (g : DGet H a y o) : s.TypeIs (.ref a) "dict" := by
  rcases g with ⟨kvs, k, e, _, _⟩ | ⟨kvs, k, b, e, _, _, _⟩
  · obtain ⟨_, _, vs, _, dd⟩ := dk_rd I.hok e
    exact dd.typeIs
  · obtain ⟨_, _, xs, _, dd⟩ := dt_rd I.hok e
    exact dd.typeIs
def tDGet (td ty : TE) : TE := fun σ H Q => td σ H fun x H1 => ty σ H1 fun y H2 => ∃ a v, x = .ref a ∧ DGet H2 a y (some v) ∧ Q v H2
def tDIn (ty td : TE) : TE := fun σ H Q => ty σ H fun y H1 => td σ H1 fun x H2 => ∃ a o, x = .ref a ∧ DGet H2 a y o ∧ Q (.bl o.isSome) H2
def tDNotIn (ty td : TE) : TE := fun σ H Q => ty σ H fun y H1 => td σ H1 fun x H2 => ∃ a o, x = .ref a ∧ DGet H2 a y o ∧ Q (.bl (!o.isSome)) H2
def sDPut (td ty tv : TE) : TS := fun D σ H => tv σ H fun v H1 => td σ H1 fun x H2 => ty σ H2 fun y H3 => ∃ a H4, x = .ref a ∧ DPut H3 a y v H4 ∧ D.nx σ H4
section
variable {X : Cx} {o i e value : Expr} {pos pos' tpos : Pos} {td ty tv : TE}
theorem pe_dget (hu : X.A.units + 1 < cLine) (ho : PE X o td) (hi : PE X i ty) (hs : NoSl i) : PE X (.Subscript o i pos) (tDGet td ty) := by
  intro pins s σ H Q I h
  refine subD_of PySem.F.slot_dict_getitem.lookup hs (thn (ho pins s σ H _ I h) fun u s1 ⟨x, H1, I1, rx, q1⟩ => thn (hi pins s1 σ H1 _ I1 q1) fun iv s2 ⟨y, H2, I2, ry, a, v, ex, g, q2⟩ => ?_)
  subst ex
  obtain rfl : u = Value.ref a := rx
  exact ⟨dict_typeIs I2 g, d_getItem hu I2 g ry fun w' s3 I3 rw' => ⟨v, H2, I3, rw', q2⟩⟩
theorem pc_din (hu : X.A.units + 1 < cLine) (hi : PE X i ty) (ho : PE X o td) : PC X .In i o (tDIn ty td) := by
  intro pins s σ H Q I h
  refine thn (hi pins s σ H _ I h) fun iv s1 ⟨y, H1, I1, ry, q1⟩ => thn (ho pins s1 σ H1 _ I1 q1) fun u s2 ⟨x, H2, I2, rx, a, ov, ex, g, q2⟩ => ?_
  subst ex
  obtain rfl : u = Value.ref a := rx
  exact d_in hu I2 g ry fun s3 I3 => ⟨.bl ov.isSome, H2, I3, rfl, q2⟩
theorem pc_dnotin (hu : X.A.units + 1 < cLine) (hi : PE X i ty) (ho : PE X o td) : PC X .NotIn i o (tDNotIn ty td) := by
  intro pins s σ H Q I h
  refine thn (hi pins s σ H _ I h) fun iv s1 ⟨y, H1, I1, ry, q1⟩ => thn (ho pins s1 σ H1 _ I1 q1) fun u s2 ⟨x, H2, I2, rx, a, ov, ex, g, q2⟩ => ?_
  subst ex
  obtain rfl : u = Value.ref a := rx
  exact d_notIn hu I2 g ry fun s3 I3 => ⟨.bl (!ov.isSome), H2, I3, rfl, q2⟩
theorem ps_dput (hu : X.A.units + 1 < cLine) (ho : PE X o td) (hi : PE X i ty) (hv : PE X value tv) (hs : swapsWith value (some (.Subscript o i pos')) pos.line X.env = pure false) :
    PS X (.Assign [.Subscript o i pos'] value pos) (sDPut td ty tv) := by
  intro pins s σ H D I h
  refine wpAny_Assign_Subscript (thn (hv pins s σ H _ I h) fun r s1 ⟨v, H1, I1, rv, q1⟩ => thn (ho pins s1 σ H1 _ I1 q1) fun u s2 ⟨x, H2, I2, rx, q2⟩ => thn (hi pins s2 σ H2 _ I2 q2) fun iv s3 ⟨y, H3, I3, ry, a, H4, ex, g, q3⟩ => ?_) hs
  subst ex
  obtain rfl : u = Value.ref a := rx
  exact d_setItem hu I3 g ry rv fun s4 I4 => ⟨σ, H4, I4, q3⟩
end
theorem dk_empty {P : Program} {w : World} {H : Hp} (h : Heap) (hb : sysModules < h.objs.size) : ObjOk P w H (h.push { cls := .type "dict", data := .dict #[] }) h.objs.size (.dK []) :=
  ⟨Nat.zero_le _, beq_eq_false_iff_ne.mpr (Ne.symm (Nat.ne_of_lt hb)), [], .nil, Heap.DictOf.new h⟩
def tDNewK : TE := fun _ H Q => ∀ p, H p = none → Q (.ref p) (upd H p (.dK []))
section
variable {X : Cx} {pos : Pos}
theorem pe_dnewK : PE X (.Dict [] [] pos) tDNewK := fun pins s σ H Q I h =>
  wpAny_Dict_empty ⟨.ref s.heap.objs.size, _, I.laid (a := s.heap.objs.size) (o := .dK []) (t' := s.toks) (fun _ _ q => Heap.get?_push_of_some _ q) (Nat.le_refl _) (dk_empty s.heap I.big), rfl, h _ (I.hok.fresh (Nat.le_refl _))⟩
end
structure M2 (X : Cx) (o : Expr) (m : Str) (apos : Pos) (e f : Expr) (cpos : Pos) : Prop where
  base : attributeBase o m X.env (eval o X.env) = eval o X.env
  few : ((backTo cpos (starEach [e, f] X.env)).all (fun x => !x.1) && (backToKw cpos (keywordEach [] X.env)).all (fun x => x.1.isSome)
    && decide (([e, f] : List Expr).length + ([] : List Keyword).length + (if ([] : List Keyword).isEmpty then 0 else 1) < 30)) = true
  line : (apos.endLine == cpos.line) = true
  trees : backTo cpos (starEach [e, f] X.env) = [(false, eval e X.env), (false, eval f X.env)]
def IsD (H : Hp) (a : Addr) : Prop := (∃ kvs, Rd H a (.dK kvs)) ∨ ∃ kvs, Rd H a (.dT kvs)
theorem isD_at {X : Cx} {pins : List (Addr × Obj)} {σ : St} {H : Hp} {s : Shared} {a : Addr} (I : Inv X pins σ H s) (d : IsD H a) :
    s.TypeIs (.ref a) "dict" ∧ (∀ b, Value.ref a = .ref b → ∃ ob, s.heap.get? b = some ob ∧ ob.dict = none) ∧ (a == sysModules) = false := by
  rcases d with ⟨kvs, e⟩ | ⟨kvs, e⟩
  · obtain ⟨_, hd, vs, _, dd⟩ := dk_rd I.hok e
    refine ⟨dd.typeIs, fun b q => ?_, hd⟩
    cases q
    obtain ⟨ob, _, _, h1, h2, _⟩ := dd
    exact ⟨ob, h1, h2.2.1⟩
  · obtain ⟨_, hd, xs, _, dd⟩ := dt_rd I.hok e
    refine ⟨dd.typeIs, fun b q => ?_, hd⟩
    cases q
    obtain ⟨ob, _, _, h1, h2, _⟩ := dd
    exact ⟨ob, h1, h2.2.1⟩
section
variable {X : Cx} {pins : List (Addr × Obj)} {σ : St} {H : Hp} {s : Shared} {a : Addr} {y d : V} {u r : Value} {o : Option V} {A : Around} {E : Value → Shared → Prop}
theorem d_get2 {Q : Value → Shared → Prop} (hu : A.units + 1 < cLine) (I : Inv X pins σ H s) (g : DGet H a y o) (ry : RelV y u) (rd : RelV d r) (h : ∀ w' s', Inv X pins σ H s' → RelV (o.getD d) w' → Q w' s') :
    wpAny (model X.prog X.w) A (call (.builtin "dict.get") [.ref a, u, r]) Q E s := by
  rcases g with ⟨kvs, k, e, ey, l⟩ | ⟨kvs, k, b, e, ey, eb, l⟩
  · subst ey
    obtain ⟨z, hd, vs, rel, dd⟩ := dk_rd I.hok e
    refine call_meetsIn PySem.F.slot_dict_get dd.typeIs PySem.F.entry_dict_get (PySem.F.args_dict_get_3 _ _ _) (meets_dict_get_default (mixKind X.prog X.w) a (kV_is ry) hd r) ⟨_, dd.mapOf, h _ _ (I.tok _) ?_⟩
    rw [l]
    exact (rel.val k).getD rd
  · subst ey
    cases (show u = Value.ref b from ry)
    obtain ⟨z, hd, xs, rel, dd⟩ := dt_rd I.hok e
    refine call_meetsIn PySem.F.slot_dict_get dd.typeIs PySem.F.entry_dict_get (PySem.F.args_dict_get_3 _ _ _) (meetsH_dict_get_default (tupleKind (mixKind X.prog X.w)) a b hd r) ⟨tupleKind_room_in1 hu, k, xs, key_of I.hok eb, dd, h _ _ (I.tok _) ?_⟩
    rw [l]
    exact (rel.val k).getD rd
end
def tDGet2 (td ty tx : TE) : TE := fun σ H Q => td σ H fun x H1 => ∃ a, x = .ref a ∧ IsD H1 a ∧ ty σ H1 fun y H2 => tx σ H2 fun z H3 => ∃ o, DGet H3 a y o ∧ Q (o.getD z) H3
section
variable {X : Cx} {o e f : Expr} {apos cpos : Pos} {td ty tx : TE}
theorem pe_dget2 (hu : X.A.units + 1 < cLine) (ho : PE X o td) (he : PE X e ty) (hf : PE X f tx) (m : M2 X o "get" apos e f cpos) : PE X (.Call (.Attribute o "get" apos) [e, f] [] cpos) (tDGet2 td ty tx) := by
  intro pins s σ H Q I h
  refine wpAny_Call_method m.base m.few m.line PySem.F.plainAttrs_dict PySem.F.slot_dict_get PySem.F.type_dict_get (thn (ho pins s σ H _ I h) fun u s1 ⟨x, H1, I1, rx, a, ex, d, q1⟩ => ?_)
  subst ex
  obtain rfl : u = Value.ref a := rx
  obtain ⟨t1, t2, _⟩ := isD_at I1 d
  refine ⟨t1, t2, ?_⟩
  rw [m.trees]
  refine Calls.callWith_builtin rfl (Calls.evalArgs_plain (Calls.spliced_cons (thn (he pins s1 σ H1 _ I1 q1) fun iv s2 ⟨y, H2, I2, ry, q2⟩ =>
    Calls.spliced_cons (thn (hf pins s2 σ H2 _ I2 q2) fun fv s3 ⟨z, H3, I3, rz, ov, g, q3⟩ => Calls.spliced_nil ?_))))
  exact d_get2 hu I3 g ry rz fun w' s4 I4 rw' => ⟨_, H3, I4, rw', q3⟩
end
end L2
namespace L2
open PySem PySem.Spec PyProof.Rows
end L2
namespace L2
open PySem PySem.Spec PyProof.Rows
section
variable {X : Cx} {pins : List (Addr × Obj)} {σ : St} {H : Hp} {s : Shared} {h' : Heap}
theorem Inv.turnedL {t' : Nat} {ch : List Addr} (I : Inv X pins σ H s) (k : ∀ b o, b ∉ ch → s.heap.get? b = some o → h'.get? b = some o) (hf : ∀ b ∈ ch, FpOk X pins H b) : Inv X pins σ H { s with heap := h', toks := t' } := by
  have nit : ∀ b u, H b = some u → b ∉ ch := fun b u e z => by
    have q := (hf b z).1
    rw [q] at e; cases e
  refine I.step (g' := s.gens) (d' := s.drawn) (ch := ch) (fun b hb => ⟨(hf b hb).2.2.2.1, (hf b hb).2.1, (hf b hb).2.2.2.2.1, (hf b hb).2.2.2.2.2⟩) (fun b o _ _ hc e _ => k b o hc e) (fun b o _ _ hc e _ => ⟨o.slots, k b o hc e⟩)
    (fun _ _ _ _ n => n) (fun b o hc e => ⟨o, k b o hc e⟩) (fun _ _ e => e) (fun _ _ _ e => e) (fun b ps e => ⟨#[], by rw [e]; simp⟩) (fun m hm => ?_) (fun b u e => ?_) I.bare
  · obtain ⟨o, es, ep, ho, r⟩ := hm
    exact ⟨o, es, ep, k _ o (fun z => (hf _ z).2.1 rfl) ho, r⟩
  · refine (I.hok b u e).stay (fun c v hc q => k c v ?_ q) (fun _ q => q) fun _ _ q => q
    rcases hc with z | z
    · rw [z]; exact nit b u e
    · exact nit c _ z
theorem Inv.turnedNew {t' : Nat} {ch : List Addr} {T : Addr} {ob : HO} (I : Inv X pins σ H s) (k : ∀ b o, b ∉ ch → s.heap.get? b = some o → h'.get? b = some o) (hf : ∀ b ∈ ch, FpOk X pins H b) (hT : s.heap.objs.size ≤ T)
    (new : ObjOk X.prog X.w (upd H T ob) h' T ob) : Inv X pins σ (upd H T ob) { s with heap := h', toks := t' } := by
  have hn : H T = none := I.hok.fresh hT
  have nit : ∀ b u, H b = some u → b ∉ ch := fun b u e z => by
    have q := (hf b z).1
    rw [q] at e; cases e
  refine I.step (g' := s.gens) (d' := s.drawn) (ch := ch) (fun b hb => ⟨(hf b hb).2.2.2.1, (hf b hb).2.1, (hf b hb).2.2.2.2.1, (hf b hb).2.2.2.2.2⟩) (fun b o _ _ hc e _ => k b o hc e) (fun b o _ _ hc e _ => ⟨o.slots, k b o hc e⟩)
    (fun b o _ e n => ?_) (fun b o hc e => ⟨o, k b o hc e⟩) (fun b xs e => ?_) (fun b o u e => ?_) (fun b ps e => ⟨#[], ?_⟩) (fun m hm => ?_) (fun b u e => ?_) I.bare
  · rw [upd_ne (Nat.ne_of_lt (Nat.lt_of_lt_of_le (Heap.lt_size e) hT))]; exact n
  · rw [upd_ne (ne_of_none e hn)]; exact e
  · rw [upd_ne (ne_of_none e hn)]; exact e
  · rw [upd_ne (ne_of_none e hn), e]; simp
  · obtain ⟨o, es, ep, ho, r⟩ := hm
    exact ⟨o, es, ep, k _ o (fun z => (hf _ z).2.1 rfl) ho, r⟩
  · by_cases hb : b = T
    · subst hb
      rw [upd_same] at e
      cases e
      exact new
    · rw [upd_ne hb] at e
      refine (I.hok b u e).stay (fun c v hc q => k c v ?_ q) (fun c q => by rw [upd_ne (ne_of_none q hn)]; exact q) fun c xs q => by rw [upd_ne (ne_of_none q hn)]; exact q
      rcases hc with z | z
      · rw [z]; exact nit b u e
      · exact nit c _ z
end
section
variable {X : Cx}
theorem pi_one {tg : Expr} {pins : List (Addr × Obj)} {σ : St} {H : Hp} {s : Shared} {R : It → Hp → Prop} {J : It} {tn : Nat → Heap → Prop} {tk : Nat} (I : Inv X pins σ H s) (o : Obj)
    (T : Turn X.prog X.w X.K tg J [s.heap.objs.size] s.heap.objs.size tn) (st : tn 0 (s.heap.push o)) (q : R J H) : PIE X pins σ tg R (.ref s.heap.objs.size) { s with heap := s.heap.push o, toks := tk } := by
  refine ⟨s.heap.objs.size, [s.heap.objs.size], tn, J, H, rfl, I.kept fun b ob e => Heap.get?_push_of_some _ e, T, st, fun b hb => ?_, q⟩
  have e : b = s.heap.objs.size := by simpa using hb
  subst e
  exact I.fpOk (Nat.le_refl _) (I.hok.fresh (Nat.le_refl _))
end
def Itc (lo c : Int) (n : Nat) : It := ⟨fun i _ => i < n, fun i H x H' => H' = H ∧ x = .int (lo + (i : Nat) * c), fun i _ => n ≤ i⟩
theorem turn_rangeC {P : Program} {w : World} {K : PySem.W.Frag} {tg : Expr} (it : Addr) (lo c : Int) (n : Nat) : Turn P w K tg (Itc lo c n) [it] it (fun i h => IsRangeIter h it (lo + (i : Nat) * c) ((n : Int) - (i : Nat)) c) where
  mem := by simp
  obj := fun i h st b hb => by
    have e : b = it := by simpa using hb
    subst e
    exact ⟨_, st, fun v z => nomatch z⟩
  keep := fun i h h' st k => k it (by simp) _ st
  item := by
    intro X hP hw hK hc i pins s σ H E I hf st hg
    subst hP hw hK
    obtain ⟨f0, f1, f2, f3, f4, f5⟩ := hf it (by simp)
    have W := Walks.range (prog := X.prog) (w := X.w) (I.ok.hd hc) it lo c n
    refine W.item i s _ _ hg st fun v h' tk hv st' kk => ?_
    obtain ⟨t, rfl⟩ := hv
    have I1 : Inv X pins σ H { s with heap := h', toks := tk } := I.turned (fun b o hb e => kk b o (by simpa using hb) e) f0 f1 f3 f4 f5
    exact ⟨_, rfl, go_of (s := { s with heap := h', toks := tk }) (n := "range_iterator") st' rfl rfl (by decide) ⟨.int (lo + (i : Nat) * c), H, I1, ⟨t, rfl⟩, ⟨rfl, rfl⟩, st', fun b hb => (hf b hb).1⟩⟩
  done := by
    intro X hP hw hK hc i pins s σ H E I hf st hg
    subst hP hw hK
    obtain ⟨f0, f1, f2, f3, f4, f5⟩ := hf it (by simp)
    exact wpAny_pyNext_range_end (I.ok.hd hc) st (by have : n ≤ i := hg; omega) fun h' eb => ⟨rfl, I.turned (t' := s.toks) (fun b o hb e => eb b o hb e) f0 f1 f3 f4 f5⟩
  self := fun A i s Q E st h => wpAny_pyIter_rangeiter st h
def RgC (i j c : Int) (n : Nat) : Prop := c ≠ 0 ∧ c.natAbs < 1073741824 ∧ Builtin.Range.small i j c = true ∧ Builtin.Range.rangeSize i j c = n
def iRng3 (ta : TA) : TI := fun σ H R => ta σ H fun vs H1 => ∃ (i j c : Int) (n : Nat), vs = [.int i, .int j, .int c] ∧ RgC i j c n ∧ R (Itc i c n) H1
section
variable {X : Cx} {tg : Expr}
theorem pi_range3 {a b c : Expr} {ta : TA} {p pos : Pos} (hg : Gl X "range") (hm : X.mg "range" = none) (ha : PA X [a, b, c] ta)
    (hs : starEach [a, b, c] X.env = (false, eval a X.env) :: starEach [b, c] X.env := by rfl) (hpl : (backTo pos (starEach [b, c] X.env)).any (·.1) = false := by rfl) :
    PI X tg (.Call (.Name "range" p) [a, b, c] [] pos) (iRng3 ta) := by
  intro pins s σ H R I h
  refine Call_ (ld_blt I hg hm boot_range (PyProof.Rows.callWith_type1 (thn (ha pos pins s σ H _ I h) fun us s1 ⟨vs, H1, I1, r1, q1⟩ => ?_) hs hpl))
  obtain ⟨i, j, k, n, e, ⟨c0, c1, c2, c3⟩, q⟩ := q1
  subst e
  cases r1 with
  | cons r rr =>
    cases rr with
    | cons r' rr =>
      cases rr with
      | cons r'' rr =>
        cases rr
        obtain ⟨t, rfl⟩ := r
        obtain ⟨t', rfl⟩ := r'
        obtain ⟨t'', rfl⟩ := r''
        refine call_range_3 c0 ?_ (.inl (PyProof.noPylong_small c1))
        refine wpAny_pyIter_range (IsRange.new ..) c2 ?_
        have I2 : Inv X pins σ H1 { s1 with heap := s1.heap.push { cls := .type "range", data := .fields #[.int i t, .int j t', .int k t''] } } := I1.kept (t' := s1.toks) fun b o e => Heap.get?_push_of_some _ e
        refine pi_one (tk := s1.toks) I2 _ (turn_rangeC _ i k n) ?_ q
        have e1 : i + ((0 : Nat) : Int) * k = i := by simp
        have e2 : (n : Int) - ((0 : Nat) : Int) = Builtin.Range.rangeSize i j k := by rw [c3]; simp
        show IsRangeIter _ _ (i + ((0 : Nat) : Int) * k) ((n : Int) - ((0 : Nat) : Int)) k
        rw [e1, e2]
        exact Heap.get?_push_size _ rfl
end
def Its (x : Str) : It := ⟨fun i _ => i < x.cps.size, fun i H v H' => H' = H ∧ ∃ c, x.cps[i]? = some c ∧ v = .str ⟨#[c]⟩, fun i _ => x.cps.size ≤ i⟩
theorem turn_str {P : Program} {w : World} {K : PySem.W.Frag} {tg : Expr} (it : Addr) (x : Str) (t : Tok) (ty : String) (hty : ty = "str_ascii_iterator" ∨ ty = "str_iterator") :
    Turn P w K tg (Its x) [it] it (fun i h => h.IsStrIter it ty x t i) where
  mem := by simp
  obj := fun i h st b hb => by
    have e : b = it := by simpa using hb
    subst e
    obtain ⟨o, e, c, d⟩ := st
    exact ⟨o, e, fun v z => by rw [d] at z; cases z⟩
  keep := fun i h h' st k => let ⟨o, ho, r⟩ := st; ⟨o, k it (by simp) o ho, r⟩
  item := by
    intro X hP hw hK hc i pins s σ H E I hf st hg
    subst hP hw hK
    obtain ⟨f0, f1, f2, f3, f4, f5⟩ := hf it (by simp)
    have W : Walks X.prog X.w X.A it [it] [it] x.cps.size (SignAt x) (fun i h => h.IsStrIter it ty x t i) := by
      rcases hty with e | e
      · rw [e]; exact Walks.strAscii (I.ok.hd hc) it x t
      · rw [e]; exact Walks.strWide (I.ok.hd hc) it x t
    have hno : ["enumerate", "zip", "dict_itemiterator", "dict_reverseitemiterator", "odict_iterator", "itertools.zip_longest", "itertools.pairwise"].contains ty = false := by
      rcases hty with e | e
      · rw [e]; decide
      · rw [e]; decide
    refine W.item i s _ _ hg st fun v h' tk hv st' kk => ?_
    obtain ⟨c, u, hcx, rfl⟩ := hv
    have I1 : Inv X pins σ H { s with heap := h', toks := tk } := I.turned (fun b o hb e => kk b o (by simpa using hb) e) f0 f1 f3 f4 f5
    obtain ⟨oi, e, cc, dd⟩ := id st'
    exact ⟨_, rfl, go_of (s := { s with heap := h', toks := tk }) e cc dd hno ⟨.str ⟨#[c]⟩, H, I1, ⟨u, rfl⟩, ⟨rfl, c, hcx, rfl⟩, st', fun b hb => (hf b hb).1⟩⟩
  done := by
    intro X hP hw hK hc i pins s σ H E I hf st hg
    subst hP hw hK
    obtain ⟨f0, f1, f2, f3, f4, f5⟩ := hf it (by simp)
    have hx : x.cps[i]? = none := Array.getElem?_eq_none hg
    rcases hty with e | e
    · rw [e] at st
      exact wpAny_pyNext_ascii_end (I.ok.hd hc) st hx fun h' eb => ⟨rfl, I.turned (t' := s.toks) (fun b o hb e => eb b o hb e) f0 f1 f3 f4 f5⟩
    · rw [e] at st
      exact wpAny_pyNext_wide_end (I.ok.hd hc) st hx fun h' eb => ⟨rfl, I.turned (t' := s.toks) (fun b o hb e => eb b o hb e) f0 f1 f3 f4 f5⟩
  self := fun A i s Q E st h => by
    rcases hty with e | e
    · rw [e] at st; exact wpAny_pyIter_striter_ascii st h
    · rw [e] at st; exact wpAny_pyIter_striter_wide st h
def iStr (te : TE) : TI := fun σ H R => te σ H fun v H1 => ∃ x, v = .str x ∧ R (Its x) H1
theorem pi_str {X : Cx} {tg e : Expr} {te : TE} (he : PE X e te) : PI X tg e (iStr te) := by
  intro pins s σ H R I h
  refine thn (he pins s σ H _ I h) fun v s1 ⟨y, H1, I1, r1, x, ex, q⟩ => ?_
  subst ex
  obtain ⟨t, rfl⟩ := r1
  cases ha : x.cps.all (· < 128)
  · exact wpAny_pyIter_wide ha (pi_one (tk := s1.toks) I1 _ (turn_str _ x t "str_iterator" (.inr rfl)) ⟨_, Heap.get?_push_size _ rfl, rfl, rfl⟩ q)
  · exact wpAny_pyIter_ascii ha (pi_one (tk := s1.toks) I1 _ (turn_str _ x t "str_ascii_iterator" (.inl rfl)) ⟨_, Heap.get?_push_size _ rfl, rfl, rfl⟩ q)
theorem boot_zip5 : bootBuiltins "zip" = some (.type "zip") := by decide +kernel
end L2
section 
namespace Bits
open PySem PyProof.Rows
end Bits
end 
section 
namespace TL
open PySem PySem.Builtin PySem.Builtin.Str PySem.StrLaws
abbrev tl (x : Str) : List Nat := x.cps.toList
theorem len_tl (x : Str) : x.length = (tl x).length := by simp [tl, Str.length]
theorem ext_tl {x y : Str} (h : tl x = tl y) : x = y := Str.ext' (Array.toList_inj.mp h)
theorem tl_append (x y : Str) : tl (x ++ y) = tl x ++ tl y := by
  show (x ++ y).cps.toList = _
  rw [Str.cps_append, Array.toList_append]
def pre (S l : List Nat) : Bool := l.take S.length == S
theorem at_iff {x y : Str} (hy : tl y ≠ []) (i : Nat) : At x y x.length i ↔ pre (tl y) ((tl x).drop i) = true := by
  have hx := len_tl x
  have hl := len_tl y
  constructor
  · intro h
    have h2 := h.2
    rw [subAt_eq, hl] at h2
    exact h2
  · intro h
    have e : ((tl x).drop i).take (tl y).length = tl y := eq_of_beq h
    have e1 := congrArg List.length e
    rw [List.length_take, List.length_drop] at e1
    have e2 : 0 < (tl y).length := List.length_pos_iff.mpr hy
    refine ⟨by omega, ?_⟩
    rw [subAt_eq, hl]
    exact h
theorem no_at {x y : Str} (hy : tl y ≠ []) {i : Nat} (h : ¬ At x y x.length i) : pre (tl y) ((tl x).drop i) = false := by
  cases hp : pre (tl y) ((tl x).drop i) with
  | false => rfl
  | true => exact absurd ((at_iff hy i).mpr hp) h
def joinL (S : List Nat) : List (List Nat) → List Nat
  | [] => []
  | [p] => p
  | p :: q :: r => p ++ (S ++ joinL S (q :: r))
theorem tl_join (y : Str) : ∀ parts : List Str, tl (Str.join y parts) = joinL (tl y) (parts.map tl)
  | [] => rfl
  | [_] => rfl
  | x :: z :: r => by
    show tl (x ++ y ++ Str.join y (z :: r)) = tl x ++ (tl y ++ joinL (tl y) ((z :: r).map tl))
    rw [tl_append, tl_append, tl_join y (z :: r), List.append_assoc]
theorem join_eq (y : Str) (parts : List Str) : Txt.join y parts = Str.join y parts := glued_eq_join y parts
end TL
end 
namespace L2
open PySem PySem.Spec PyProof.Rows
theorem notLong {n : Nat} (h : n ≤ 16777216) : Builtin.Str.tooLong n = false := by
  have e : (2 : Nat) ^ 24 = 16777216 := by decide
  unfold Builtin.Str.tooLong sizeLine
  exact decide_eq_false (by omega)
theorem strs_of_vals : ∀ {ys : List Str} {us : List Value}, Vals (ys.map V.str) us → StrsAre us ys
  | [], _, .nil => .nil
  | y :: ys, _, .cons r t => by
    obtain ⟨k, rfl⟩ := r
    exact .cons y k (strs_of_vals t)
section
variable {X : Cx}
theorem mt_join : MtR X "str.join" (fun x xs H Q => ∃ a p, ∃ ys : List Str, x = .str a ∧ xs = [.ref p] ∧ (SqL X.K H p (ys.map V.str) ∨ SqT X.K H p (ys.map V.str)) ∧
    (ys.map (·.length)).sum + ys.length * a.length ≤ 16777216 ∧ Q (.str (Txt.join a ys)) H) := by
  intro pins s σ H x xs v us Q I rx rs h
  obtain ⟨a, p, ys, rfl, rfl, hp, hz, h⟩ := h
  obtain ⟨t, rfl⟩ := rx
  cases rs with
  | cons r1 rs =>
    cases rs
    cases r1
    rcases hp with hp | hp
    · obtain ⟨its, r, ⟨o, n, ho, hc, _, hd⟩, _⟩ := I.list hp
      exact PyProof.Rows.join_list (items := its.toArray) ⟨o, ho, hc, n, hd⟩ (by rw [List.toList_toArray]; exact strs_of_vals r) hz fun t' k => ⟨.str _, H, I.tok k, ⟨t', rfl⟩, h⟩
    · obtain ⟨its, r, ht, _⟩ := I.tuple hp
      exact PyProof.Rows.join_tuple (items := its.toArray) ht (by rw [List.toList_toArray]; exact strs_of_vals r) hz fun t' k => ⟨.str _, H, I.tok k, ⟨t', rfl⟩, h⟩
theorem mt0 {id : String} {C : Str → Prop} {g : Str → V} (rule : ∀ (a : Str) (t : Tok) (s : Shared) (Q : Value → Shared → Prop), C a → (∀ (u : Value) (k : Nat), RelV (g a) u → Q u { s with toks := k }) →
    wpAny (model X.prog X.w) X.A (call (.builtin id) [.str a t]) Q X.xe s) : MtR X id (fun x xs H Q => ∃ a, x = .str a ∧ xs = [] ∧ C a ∧ Q (g a) H) := by
  intro pins s σ H x xs v us Q I rx rs h
  obtain ⟨a, rfl, rfl, hc, h⟩ := h
  obtain ⟨t, rfl⟩ := rx
  cases rs
  exact rule a t s _ hc fun u k r => ⟨g a, H, I.tok k, r, h⟩
theorem mt_lower : MtR X "str.lower" (fun x xs H Q => ∃ a, x = .str a ∧ xs = [] ∧ a.length ≤ 5592405 ∧ Q (.str (Txt.lower a)) H) :=
  mt0 (C := fun a => a.length ≤ 5592405) (g := fun a => .str (Txt.lower a)) fun a _ s _ hc h =>
    PySem.SC.lower (notLong (by have h1 : a.length ≤ 5592405 := hc; have := PyProof.Rows.len_lower a; omega)) (h _ (s.toks + 1) ⟨_, rfl⟩)
theorem mt_upper : MtR X "str.upper" (fun x xs H Q => ∃ a, x = .str a ∧ xs = [] ∧ a.length ≤ 5592405 ∧ Q (.str (Txt.upper a)) H) :=
  mt0 (C := fun a => a.length ≤ 5592405) (g := fun a => .str (Txt.upper a)) fun a _ s _ hc h =>
    PySem.SC.upper (notLong (by have h1 : a.length ≤ 5592405 := hc; have := PyProof.Rows.len_upper a; omega)) (h _ (s.toks + 1) ⟨_, rfl⟩)
theorem mt1 {id : String} {g : Str → Str → V} (rule : ∀ (a b : Str) (t u : Tok) (s : Shared) (Q : Value → Shared → Prop), (∀ (v : Value) (k : Nat), RelV (g a b) v → Q v { s with toks := k }) →
    wpAny (model X.prog X.w) X.A (call (.builtin id) [.str a t, .str b u]) Q X.xe s) : MtR X id (fun x xs H Q => ∃ a b, x = .str a ∧ xs = [.str b] ∧ Q (g a b) H) := by
  intro pins s σ H x xs v us Q I rx rs h
  obtain ⟨a, b, rfl, rfl, h⟩ := h
  obtain ⟨t, rfl⟩ := rx
  cases rs with
  | cons r1 rs =>
    cases rs
    obtain ⟨u, rfl⟩ := r1
    exact rule a b t u s _ fun v k r => ⟨g a b, H, I.tok k, r, h⟩
theorem mt_find : MtR X "str.find" (fun x xs H Q => ∃ a b, x = .str a ∧ xs = [.str b] ∧ Q (.int (Txt.find a b)) H) :=
  mt1 (g := fun a b => .int (Txt.find a b)) fun _ _ _ _ s _ h => PySem.SC.find (h _ (s.toks + 1) ⟨_, rfl⟩)
theorem call_int_str : CallR X (.type "int") (fun xs H Q => ∃ a n, xs = [.str a] ∧ PySem.intText? a = some n ∧ a.length ≤ 640 ∧ Q (.int n) H) := by
  intro pins s σ H xs us Q I rs h
  obtain ⟨a, n, rfl, hn, hl, h⟩ := h
  cases rs with
  | cons r1 rs =>
    cases rs
    obtain ⟨t, rfl⟩ := r1
    exact PySem.W.KIN.call_text hn hl ⟨.int n, H, I.tok _, ⟨_, rfl⟩, h⟩
end
end L2
namespace L2
open PySem PySem.Spec PyProof.Rows
section
variable {X : Cx}
theorem op_in_sign : OpR X (compareOp .In) (fun x y H Q => ∃ (c : Nat) (z : Str), x = .str ⟨#[c]⟩ ∧ y = .str z ∧ Q (.bl (decide (c ∈ z.cps.toList))) H) := by
  intro pins s σ H x y v u Q I rx ry h
  obtain ⟨c, z, rfl, rfl, q⟩ := h
  obtain ⟨t, rfl⟩ := rx
  obtain ⟨t', rfl⟩ := ry
  exact PyProof.Rows.in_str (fin_bl I q (PySem.StrLaws.found_one z c).symm)
end
theorem IsPart.raw {v : Value} {o : Option Int} (p : IsPart v o) : ∃ l : Option (Int × Tok), v = partValue l ∧ l.map (·.1) = o := by
  cases p with
  | none => exact ⟨none, rfl, rfl⟩
  | int i t => exact ⟨some (i, t), rfl, rfl⟩
def clipS (n d : Nat) : Option Int → Int
  | none => (d : Int)
  | some i => max 0 (min (if i < 0 then i + (n : Int) else i) (n : Int))
theorem clipS_eq (n d : Nat) (o : Option Int) : clipS n d o = ((HT.sIx n d o : Nat) : Int) := by
  cases o with
  | none => rfl
  | some v =>
    show max (0 : Int) (min (if v < 0 then v + (n : Int) else v) (n : Int)) = (((if v < 0 then (v + (n : Int)).toNat else min v.toNat n) : Nat) : Int)
    by_cases hv : v < 0
    · simp only [if_pos hv]
      omega
    · simp only [if_neg hv]
      omega
theorem sidx_clip (a b : Option Int) (n : Nat) : Builtin.Str.strSliceIndices a b 1 n = sliceRange (clipS n 0 a) (clipS n n b) 1 := by
  have h1 : ((1 : Int) > 0) = True := by simp
  cases a <;> cases b <;> first
    | rfl
    | (simp only [Builtin.Str.strSliceIndices, clipS, h1, if_true]; rfl)
    | simp [Builtin.Str.strSliceIndices, clipS]
theorem sidx (a b : Option Int) (n : Nat) : Builtin.Str.strSliceIndices a b 1 n = (List.range (HT.sIx n n b - HT.sIx n 0 a)).map (fun k => HT.sIx n 0 a + k) := by
  rw [sidx_clip, clipS_eq, clipS_eq]
  generalize HT.sIx n 0 a = p
  generalize HT.sIx n n b = q
  simp only [sliceRange, show ((1 : Int) > 0) = True from by simp, if_true]
  by_cases hlt : (p : Int) < q
  · have e3 : (((q : Int) - p + 1 - 1) / 1).toNat = q - p := by first | omega | (simp; done) | (simp; omega)
    simp only [hlt, if_true, e3]
    refine List.map_congr_left fun k _ => ?_
    omega
  · have : q - p = 0 := by omega
    simp [hlt, this]
def cutS (z : Str) (lo hi : Option Int) : Str :=
  ⟨((z.cps.toList.drop (HT.sIx z.length 0 lo)).take (HT.sIx z.length z.length hi - HT.sIx z.length 0 lo)).toArray⟩
theorem sliceText_cut (z : Str) (lo hi : Option Int) : PySem.StrLaws.sliceText z lo hi = cutS z lo hi := by
  have h1 : HT.sIx z.length 0 lo ≤ z.length := HT.sIx_le _ _ (Nat.zero_le _) _
  have h2 : HT.sIx z.length z.length hi ≤ z.length := HT.sIx_le _ _ (Nat.le_refl _) _
  have hp : HT.sIx z.length 0 lo ≤ max (HT.sIx z.length 0 lo) (HT.sIx z.length z.length hi) := Nat.le_max_left _ _
  have hq : max (HT.sIx z.length 0 lo) (HT.sIx z.length z.length hi) ≤ z.length := Nat.max_le.mpr ⟨h1, h2⟩
  have hd : max (HT.sIx z.length 0 lo) (HT.sIx z.length z.length hi) - HT.sIx z.length 0 lo = HT.sIx z.length z.length hi - HT.sIx z.length 0 lo := by omega
  have e : Builtin.Str.strSliceIndices lo hi 1 z.length =
      Builtin.Str.strSliceIndices (some ((HT.sIx z.length 0 lo : Nat) : Int)) (some ((max (HT.sIx z.length 0 lo) (HT.sIx z.length z.length hi) : Nat) : Int)) 1 z.length := by
    rw [PySem.StrLaws.strSliceIndices_plain hp hq, hd, sidx]
  have e2 : PySem.StrLaws.sliceText z lo hi =
      PySem.StrLaws.sliceText z (some ((HT.sIx z.length 0 lo : Nat) : Int)) (some ((max (HT.sIx z.length 0 lo) (HT.sIx z.length z.length hi) : Nat) : Int)) := by
    unfold PySem.StrLaws.sliceText
    rw [e]
  rw [e2, PySem.StrLaws.sliceText_nat z hp hq, hd]
  rfl
theorem cutS_length (z : Str) (lo hi : Option Int) : (cutS z lo hi).length ≤ z.length := by
  show (((z.cps.toList.drop (HT.sIx z.length 0 lo)).take (HT.sIx z.length z.length hi - HT.sIx z.length 0 lo)).toArray).size ≤ z.cps.size
  rw [List.size_toArray, List.length_take, List.length_drop, Array.length_toList]
  omega
def rSlS : V → Option Int → Option Int → Hp → VK → Prop := fun x lo hi H Q => ∃ z, x = .str z ∧ z.length ≤ sizeLine ∧ Q (.str (cutS z lo hi)) H
theorem sl_str {X : Cx} : SlR X rSlS := by
  intro pins s σ H x v vl vu lo hi sl Q I rx hs pl pu h
  obtain ⟨z, rfl, hz, q⟩ := h
  obtain ⟨t, rfl⟩ := rx
  obtain ⟨os, hos, hcs, hds⟩ := hs
  obtain ⟨l, rfl, rfl⟩ := IsPart.raw pl
  obtain ⟨u, rfl, rfl⟩ := IsPart.raw pu
  refine ⟨"str", _, F.slot_str_getitem.lookup, typeIs_str _ _ _, ?_⟩
  refine wpAny_getItem_str_slice (l := l) (u := u) (st := none) ⟨os, hos, hcs, hds⟩ rfl ?_
  have hl : (PySem.StrLaws.sliceText z (l.map (·.1)) (u.map (·.1))).length ≤ sizeLine := by
    rw [sliceText_cut]
    exact Nat.le_trans (cutS_length z _ _) hz
  rw [← sliceText_cut] at q
  unfold PySem.StrLaws.sliceText at q hl
  show Made.post (if ((1 : Int) == 1 && (Builtin.Str.strSliceIndices (l.map (·.1)) (u.map (·.1)) 1 z.length).length == z.length) = true then Made.val (.str z t)
    else Made.str ⟨((Builtin.Str.strSliceIndices (l.map (·.1)) (u.map (·.1)) 1 z.length).filterMap (z.cps[·]?)).toArray⟩) (EP X pins σ Q) s
  by_cases c : ((1 : Int) == 1 && (Builtin.Str.strSliceIndices (l.map (·.1)) (u.map (·.1)) 1 z.length).length == z.length) = true
  · rw [if_pos c] at q ⊢
    exact ⟨.str z, H, I, ⟨t, rfl⟩, q⟩
  · rw [if_neg c] at q hl ⊢
    exact ⟨hl, .str _, H, I.tok _, ⟨_, rfl⟩, q⟩
end L2
namespace Att
open PySem PySem.W PySem.Calls PyProof.Rows
theorem ints_of_wellAll {P : Params} {h : Heap} : ∀ (ns : List Int) (vs : List Value), WellAll P h vs (ns.map WData.int) → IntsAre vs ns := by
  intro ns
  induction ns with
  | nil =>
    intro vs w
    rw [List.map_nil] at w
    cases w
    exact .nil
  | cons n ns ih =>
    intro vs w
    rw [List.map_cons] at w
    cases w with
    | cons a b =>
      cases a
      exact .cons _ _ (ih _ b)
end Att
namespace L2
open PySem PySem.Spec PyProof.Rows
theorem vals_ints : ∀ {vs : List Value} {ns : List Int}, IntsAre vs ns → Vals (ns.map V.int) vs
  | _, _, .nil => .nil
  | _, _, .cons n t h => .cons ⟨t, rfl⟩ (vals_ints h)
def Only (H : Hp) : Prop := ∀ b, H b = none ∨ ∃ o xs, H b = some (.frz o (.lst xs))
end L2
namespace L2
open PySem PySem.Spec PyProof.Rows
end L2
namespace L2
open PySem PySem.Spec PyProof.Rows
def inClass (s : Stmt) (j : Nat) : Stmt := match s with
  | .ClassDef _ _ _ body _ _ _ _ _ _ _ => body.getD j (.Pass ⟨0, 0, 0, 0⟩)
  | _ => .Pass ⟨0, 0, 0, 0⟩
def defArgs (s : Stmt) : Arguments := match s with
  | .FunctionDef _ a _ _ _ _ _ _ _ _ => a
  | _ => { posonlyargs := [], args := [], vararg := none, kwonlyargs := [], kw_defaults := [], kwarg := none, defaults := [] }
def defBody (s : Stmt) : List Stmt := match s with
  | .FunctionDef _ _ b _ _ _ _ _ _ _ => b
  | _ => []
def defScope (s : Stmt) : Scope := match s with
  | .FunctionDef _ _ _ _ _ _ sc _ _ _ => sc
  | _ => { kind := .function, names := [], isGenerator := false, isCoroutine := false }
abbrev CX0 : CXT := fun _ _ _ _ _ _ => False
abbrev E0 : XK := fun _ _ _ => False
theorem pass0 {X : Cx} : Passes CX0 X E0 := fun _ _ _ _ _ _ _ h => h.elim
structure Fun (K : PySem.W.Frag) (x qual : Str) (st : Stmt) (f : Addr) (fd : FuncData) : Prop where
  ex : ∃ (oc : Value) (od : Option Addr) (kV doc pm : Value) (an : Option Addr) (cdv ct : Value) (osl : Array (Option Value)),
    fd = PySem.W.fnOf x qual (defArgs st) (defBody st) (defScope st) .none kV doc pm an cdv ct ∧ K.lookup f = some ⟨oc, od, .func fd, osl⟩ ∧ PySem.W.codeIn K cdv qual = true
  kp : PySem.W.keepIn K (.ref f) = true
section
variable {P : Program} {w : World} {K : PySem.W.Frag} {mg : Str → Option Value} {base : Heap}
theorem Fun.ok {x qual : Str} {st : Stmt} {f : Addr} {fd : FuncData} {N ps : List Str} {k : Nat} {sp : Sp} (F : Fun K x qual st f fd) (S : FnScope N ps (defScope st)) (len : ∀ vs H Q E, sp vs H Q E → vs.length = ps.length)
    (hbody : ∀ (cdv : Value) (A : Around) (outer : List Env) (s : Shared) (H : Hp) (vs : List V) (Q : VK) (E : XK), Room k (A.deeper (envOfC qual (defScope st) s.heap.objs.size f cdv)) → sp vs H Q E →
      ∃ t, PSs (cxOf CX0 P w K mg base N qual (defScope st) f cdv A outer s H E).nox (defBody st) t ∧ t { nx := fun _ H' => Q .non H', rt := Q } (start N vs) H) : FnOk P w K mg base CX0 (k + 1) f fd ps sp := by
  obtain ⟨oc, od, kV, doc, pm, an, cdv, ct, osl, rfl, lk, hcd⟩ := F.ex
  refine fn_of lk hcd S len fun A outer s H vs Q E hr hsp => ?_
  obtain ⟨t, h, q⟩ := hbody cdv A outer s H vs Q E hr hsp
  exact ⟨t, h.nox, q⟩
theorem Fun.binds {x qual : Str} {st : Stmt} {f : Addr} {fd : FuncData} {ps : List Str} (F : Fun K x qual st f fd)
    (h : ∀ (kV doc pm : Value) (an : Option Addr) (cdv ct : Value) (us : List Value), us.length = ps.length → bindArgs (PySem.W.fnOf x qual (defArgs st) (defBody st) (defScope st) .none kV doc pm an cdv ct) ⟨us, []⟩ = pure (ps.zip us)) : Binds K fd ps [] := by
  obtain ⟨oc, od, kV, doc, pm, an, cdv, ct, osl, rfl, lk, hcd⟩ := F.ex
  exact .all (h kV doc pm an cdv ct)
theorem fun_mk {x qual : Str} {st : Stmt} {f : Addr} {oc : Value} {od an : Option Addr} {osl : Array (Option Value)} {kV doc pm cdv ct : Value} (l : K.lookup f = some ⟨oc, od, .func (PySem.W.fnOf x qual (defArgs st) (defBody st) (defScope st) .none kV doc pm an cdv ct), osl⟩)
    (c : PySem.W.codeIn K cdv qual = true) (k : PySem.W.keepIn K (.ref f) = true) : Fun K x qual st f (PySem.W.fnOf x qual (defArgs st) (defBody st) (defScope st) .none kV doc pm an cdv ct) := ⟨⟨oc, od, kV, doc, pm, an, cdv, ct, osl, rfl, l, c⟩, k⟩
end
theorem hu_of {A : Around} {k : Nat} (hr : Room k A) : A.units + 1 < cLine := Nat.lt_of_le_of_lt (Nat.add_le_add_left (by decide : 1 ≤ 64) _) hr.units
section
variable {X : Cx}
theorem pv (i : Nat) {x : Str} {pos : Pos} (hN : X.N[i]? = some x := by rfl) (hv : Vis X.env.scope x := by first | exact Or.inl rfl | exact Or.inr (Or.inl rfl) | exact Or.inr (Or.inr rfl)) (hd : (x == ("__debug__" : Str)) = false := by decide)
    (hcd : (x == ("__classdict__" : Str)) = false := by decide) : PE X (.Name x pos) (tVar i) := pe_var hN hv hd hcd
end
theorem iteF {A B : Prop} (h : B) : if false = true then A else B := by
  rw [if_neg Bool.false_ne_true]
  exact h
theorem iteT {A B : Prop} (h : A) : if true = true then A else B := by
  rw [if_pos rfl]
  exact h
section
variable {κ : Type} [DecidableEq κ]
theorem nd_snoc : ∀ {l : List κ} {k : κ}, l.Nodup → ¬ k ∈ l → (l ++ [k]).Nodup
  | [], k, _, _ => by simp
  | a :: r, k, h, hk => by
    obtain ⟨h1, h2⟩ := List.nodup_cons.mp h
    show (a :: (r ++ [k])).Nodup
    refine List.nodup_cons.mpr ⟨fun m => ?_, nd_snoc h2 fun m => hk (List.mem_cons.mpr (Or.inr m))⟩
    rcases List.mem_append.mp m with q | q
    · exact h1 q
    · exact hk (List.mem_cons.mpr (Or.inl (List.mem_singleton.mp q).symm))
end
end L2
namespace L2
open PySem PySem.Spec PyProof.Rows
theorem ObjOk.there {P : Program} {w : World} {H : Hp} {h : Heap} {a : Addr} {o : HO} (x : ObjOk P w H h a o) : ∃ u, h.get? a = some u := by
  cases o with
  | lst xs => obtain ⟨_, _, _, _, e⟩ := x; exact ⟨_, e⟩
  | tup xs => obtain ⟨_, _, _, _, e, _⟩ := x; exact ⟨_, e⟩
  | dK kvs => obtain ⟨_, _, _, _, o, _, _, e, _⟩ := x; exact ⟨_, e⟩
  | dT kvs => obtain ⟨_, _, _, _, o, _, _, e, _⟩ := x; exact ⟨_, e⟩
  | set S n => obtain ⟨o, _, _, _, e, _⟩ := x; exact ⟨_, e⟩
  | ins C dx fs => obtain ⟨_, _, _, e, _⟩ := x; exact ⟨_, e⟩
  | own y => obtain ⟨_, e⟩ := x; exact ⟨_, e⟩
  | xd fs => obtain ⟨_, ⟨_, _, _, e, _⟩, _⟩ := x; exact ⟨_, e⟩
  | rng lo hi => obtain ⟨_, _, _, e⟩ := x; exact ⟨_, e⟩
  | frz ob u => obtain ⟨e, _⟩ := x; exact ⟨_, e⟩
  | tbl ps => exact ⟨_, (show h.get? a = some _ from x)⟩
  | met f y => exact ⟨_, (show h.get? a = some _ from x)⟩
  | ext φ => obtain ⟨_, ⟨_, e⟩, _⟩ := x; exact ⟨_, e⟩
structure Flies (P : Program) (w : World) (C : Addr) (outer : List Env) (H : Hp) (s : Shared) (ea t : Addr) (B : Heap) (H' : Hp) (s' : Shared) : Prop where
  os : s'.os = s.os
  bare : AllBare s'.gens
  free : ∀ b o, s.heap.get? b = some o → H b = none → H' b = none
  tups : ∀ b xs, H b = some (.tup xs) → H' b = some (.tup xs)
  frzs : ∀ b o u, H b = some (.frz o u) → H' b = some (.frz o u)
  tbls : ∀ b ps, H b = some (.tbl ps) → ∃ more, H' b = some (.tbl (ps ++ more))
  slot : ∀ b o, s.heap.get? b = some o → H b = none → b ∈ frs outer → ∃ sl, s'.heap.get? b = some { o with slots := sl }
  hok : HOk P w H' s'.heap
  fl : Heap.FlyingW B outer ea (.ref C) (.ref t) s'.heap
  old : ∀ b o, s.heap.get? b = some o → H b = none → b ∉ frs outer → B.get? b = some o
  thr : ∀ b o, s.heap.get? b = some o → b ∉ frs outer → ∃ o', B.get? b = some o'
  trk : ∀ b o, H' b = some o → ∃ u, B.get? b = some u
def CXW (P : Program) (w : World) (C : Addr) : CXT := fun outer H s E e s' => ∃ ea t B H', e = .ref ea ∧ Flies P w C outer H s ea t B H' s' ∧ E (.ref C) none H'
section
variable {P : Program} {w : World} {C : Addr} {outer : List Env} {H H' : Hp} {s s' : Shared} {ea t : Addr} {B h' : Heap}
theorem Flies.hokOn (F : Flies P w C outer H s ea t B H' s') (k : B.StaysIn h') : HOk P w H' h' := fun a o e =>
  (F.hok a o e).stay (fun b u hb q => by
    have tr : ∃ v, B.get? b = some v := by
      rcases hb with rfl | hb
      · exact F.trk _ _ e
      · exact F.trk _ _ hb
    obtain ⟨v, hv⟩ := tr
    have e1 := F.fl.1 b v hv
    rw [q] at e1; cases e1
    exact k b u hv) (fun _ q => q) fun _ _ q => q
theorem Flies.slotOn (F : Flies P w C outer H s ea t B H' s') (sm : s'.heap.UpToSlots h') : ∀ b o, s.heap.get? b = some o → H b = none → b ∈ frs outer → ∃ sl, h'.get? b = some { o with slots := sl } := fun b o e n hb => by
  obtain ⟨sl, e1⟩ := F.slot b o e n hb
  obtain ⟨_, o2, e2, hd⟩ := F.fl.2.2.1.mem hb
  obtain ⟨sl2, e3⟩ := sm b o2 e2 hd
  rw [e1] at e2; cases e2
  exact ⟨sl2, e3⟩
theorem Flies.un (F : Flies P w C outer H s ea t B H' s') (k : B.StaysIn h') (sl : ∀ b o, s.heap.get? b = some o → H b = none → b ∈ frs outer → ∃ sl, h'.get? b = some { o with slots := sl })
    (fr : ∀ b ∈ frs outer, ∃ o, h'.get? b = some o) : Un (frs outer) [] H H' s.heap h' where
  keep := fun b o e n hb _ => k b o (F.old b o e n hb)
  slot := fun b o e n hb _ => sl b o e n hb
  free := fun b o e n _ => F.free b o e n
  there := fun b o e _ => by
    by_cases hb : b ∈ frs outer
    · exact fr b hb
    · obtain ⟨o', e'⟩ := F.thr b o e hb
      exact ⟨o', k _ _ e'⟩
  tups := F.tups
  frzs := F.frzs
  tbls := F.tbls
theorem Flies.frOn (F : Flies P w C outer H s ea t B H' s') (sm : s'.heap.UpToSlots h') : ∀ b ∈ frs outer, ∃ o, h'.get? b = some o := fun b hb => by
  obtain ⟨_, o2, e2, hd⟩ := F.fl.2.2.1.mem hb
  obtain ⟨sl2, e3⟩ := sm b o2 e2 hd
  exact ⟨_, e3⟩
theorem Flies.unOn (F : Flies P w C outer H s ea t B H' s') (k : B.StaysIn h') (sm : s'.heap.UpToSlots h') : Un (frs outer) [] H H' s.heap h' := F.un k (F.slotOn sm) (F.frOn sm)
end
section
variable {P : Program} {w : World} {K : PySem.W.Frag} {mg : Str → Option Value} {base : Heap} {N : List Str} {qual : Str} {scope : Scope} {f C : Addr} {cd : Value} {A : Around} {outer : List Env} {s0 : Shared} {H0 : Hp} {E : XK}
theorem passW : Passes (CXW P w C) (cxOf (CXW P w C) P w K mg base N qual scope f cd A outer s0 H0 E) E := by
  intro pins σ H s e s' I h
  obtain ⟨ea, t, B, H', rfl, F, q⟩ := h
  have nL : ∀ b o, s0.heap.get? b = some o → b ∉ frs outer → b ∉ frs (envOfC qual scope s0.heap.objs.size f cd :: outer) := fun b o e hb z => by
    rcases List.mem_cons.mp (I.stkSub b z) with z | z
    · exact absurd (Nat.lt_of_lt_of_le (Heap.lt_size e) I.ok.above) (by rw [z]; exact Nat.lt_irrefl _)
    · exact hb z
  have nx : ∀ b : Addr, b ∉ ([] : List Addr) := fun b z => by simp at z
  show wpAny (model P w) (A.deeper (envOfC qual scope s0.heap.objs.size f cd)) (leaving (envOfC qual scope s0.heap.objs.size f cd) (.ref ea)) (fun _ s'' => CXW P w C outer H0 s0 E (.ref ea) s'') (fun e' s'' => CXW P w C outer H0 s0 E e' s'') s'
  refine wpAny_leaves_onW I.ok.frames rfl F.fl fun h'' x1 x2 => ?_
  refine ⟨ea, t, B, H', rfl, ⟨F.os.trans I.os, F.bare, fun b o e n => ?_, fun b xs e => F.tups b xs (I.base.tups b xs e), fun b o u e => F.frzs b o u (I.base.frzs b o u e), fun b ps e => ?_, fun b o e n hb => ?_, F.hokOn x1.1, x1, fun b o e n hb => ?_, fun b o e hb => ?_, F.trk⟩, q⟩
  · obtain ⟨o', e'⟩ := I.base.there b o e (nx b)
    exact F.free b o' e' (I.base.free b o e n (nx b))
  · obtain ⟨m1, e1⟩ := I.base.tbls b ps e
    obtain ⟨m2, e2⟩ := F.tbls b _ e1
    exact ⟨m1 ++ m2, by rw [e2, Array.append_assoc]⟩
  · obtain ⟨sl, e1⟩ := I.base.slot b o e n hb (nx b)
    have hb' : b ∈ frs (envOfC qual scope s0.heap.objs.size f cd :: outer) := List.mem_cons_of_mem _ hb
    obtain ⟨sl2, e2⟩ := F.slotOn x2 b _ e1 (I.base.free b o e n (nx b)) hb'
    exact ⟨sl2, e2⟩
  · exact F.old b o (I.base.keep b o e n hb (nx b)) (I.base.free b o e n (nx b)) (nL b o e hb)
  · obtain ⟨o', e'⟩ := I.base.there b o e (nx b)
    exact F.thr b o' e' (nL b o e hb)
structure XCls (K : PySem.W.Frag) (mg : Str → Option Value) (x : Str) (C : Addr) : Prop where
  ns : PySem.W.nsIn K mainGlobals x = some (some (.ref C))
  ex : PySem.W.excIn K C [.type "ValueError", .type "Exception", .type "BaseException", .type "object"] "ValueError.__new__" = true
theorem XCls.own {K : PySem.W.Frag} {mg : Str → Option Value} {x : Str} {C : Addr} {h : Heap} (T : XCls K mg x C) (X : K.In h) (G : h.Ns mainGlobals mg) : OwnCls x C [.type "ValueError", .type "Exception", .type "BaseException", .type "object"] "ValueError.__new__" mg h := by
  refine ⟨PySem.W.mg_of X G T.ns, ?_⟩
  have q := T.ex
  unfold PySem.W.excIn at q
  split at q
  · rename_i dd cd sl ho
    split at q
    · rename_i C' bm k0 k1 k2 k3 n k5 hm hs
      simp only [Bool.and_eq_true, beq_iff_eq, Bool.not_eq_true'] at q
      obtain ⟨⟨⟨⟨⟨rfl, rfl⟩, hdel⟩, ht⟩, hok⟩, hni⟩ := q
      obtain ⟨nm, bs, mro, ns, qn, hd, sn, sub, ab, col, del⟩ := cd
      dsimp only at hm hdel hok hni
      subst hm hdel
      have hsl : sl = #[k0, k1, k2, k3, some (.builtin "ValueError.__new__"), k5] := by
        obtain ⟨l⟩ := sl
        simp only at hs
        rw [hs]
      subst hsl
      exact ⟨bm, ns, nm, qn, bs, hd, sn, sub, ab, col, dd, k0, k1, k2, k3, k5, _, X _ _ ho, .of_isNs (PySem.W.isNs_of_in X hok), PySem.W.nsMap_none_of_in X hok hni, PySem.W.tail_of_in X ht⟩
    · cases q
  · cases q
def tRaise (E : XK) (C : Addr) : TS := fun _ _ H => E (.ref C) none H
theorem ps_raise {x : Str} {np cpos pos : Pos} (T : XCls K mg x C)
    (hg : Gl (cxOf (CXW P w C) P w K mg base N qual scope f cd A outer s0 H0 E) x) (hd : (x == ("__debug__" : Str)) = false := by decide) :
    PS (cxOf (CXW P w C) P w K mg base N qual scope f cd A outer s0 H0 E) (.Raise (some (.Call (.Name x np) [] [] cpos)) none pos) (tRaise E C) := by
  intro pins s σ H D I q
  have G : s.heap.Ns mainGlobals mg := I.mod.glob.keeps I.bk
  obtain ⟨bnd, tl, NN, nm, qn, bs, hdct, sn, sub, ab, col, dd, k0, k1, k2, k3, k5, mN, hC, hN, hni, TL⟩ := T.own I.kIn G
  have nL : ∀ b o, s0.heap.get? b = some o → b ∉ frs outer → b ∉ frs (envOfC qual scope s0.heap.objs.size f cd :: outer) := fun b o e hb z => by
    rcases List.mem_cons.mp (I.stkSub b z) with z | z
    · exact absurd (Nat.lt_of_lt_of_le (Heap.lt_size e) I.ok.above) (by rw [z]; exact Nat.lt_irrefl _)
    · exact hb z
  have nx : ∀ b : Addr, b ∉ ([] : List Addr) := fun b z => by simp at z
  refine wpAny_Raise_call_subT (C := C) (nm := nm) (q := qn) (N := NN) (bs := bs) (bm := tl) (hdct := hdct) (sn := sn) (sub := sub) (ab := ab) (col := col) (dd := dd) (k0 := k0) (k1 := k1) (k2 := k2) (k3 := k3) (k5 := k5)
    F.excBase_ValueError (mN := mN) (TL.hasType F.excBase_ValueError.hasBase) (I.ok.hd rfl) rfl hni (ld_glob I hg bnd ⟨rfl, ?_⟩ hd)
  refine PyProof.Rows.evalArgs_empty ⟨rfl, Nat.zero_le _, hC, hN, TL, fun h1 e hm => ?_⟩
  show wpAny (model P w) (A.deeper (envOfC qual scope s0.heap.objs.size f cd)) (leaving (envOfC qual scope s0.heap.objs.size f cd) (.ref e)) (fun _ s'' => CXW P w C outer H0 s0 E (.ref e) s'') (fun e' s'' => CXW P w C outer H0 s0 E e' s'') { s with heap := h1 }
  have hin : ∀ env ∈ (envOfC qual scope s0.heap.objs.size f cd :: outer), ∀ b, env.frame = some b → b ∈ frs (envOfC qual scope s0.heap.objs.size f cd :: outer) := fun env he b hb => List.mem_filterMap.mpr ⟨env, he, hb⟩
  refine wpAny_leaves_madeW (base := PySem.W.hideAll s.heap (frs (envOfC qual scope s0.heap.objs.size f cd :: outer))) (h := s.heap) I.ok.frames rfl (fun b o z => PySem.W.of_hideAll _ z) (PySem.W.funFrames_hide I.stack hin) hm fun h2 t x1 _ x3 x4 => ?_
  have inB : ∀ b o, s.heap.get? b = some o → b ∉ frs (envOfC qual scope s0.heap.objs.size f cd :: outer) → (PySem.W.hideAll s.heap (frs (envOfC qual scope s0.heap.objs.size f cd :: outer))).get? b = some o := fun b o z nz => PySem.W.hideAll_get _ z nz
  have tr : ∀ b o, H b = some o → ∃ u, s.heap.get? b = some u ∧ (PySem.W.hideAll s.heap (frs (envOfC qual scope s0.heap.objs.size f cd :: outer))).get? b = some u := fun b o z => by
    obtain ⟨u, hu⟩ := (I.hok b o z).there
    exact ⟨u, hu, inB b u hu fun nz => by rw [I.stkFree b nz] at z; cases z⟩
  have fl : Heap.FlyingW (PySem.W.hideAll s.heap (frs (envOfC qual scope s0.heap.objs.size f cd :: outer))) outer e (.ref C) (.ref t) h2 := x1
  refine ⟨e, t, _, H, rfl, ⟨I.os, I.bare, fun b o z n => I.base.free b o z n (nx b), I.base.tups, I.base.frzs, I.base.tbls, fun b o z n hb => ?_, fun a o z => ?_, fl, fun b o z n hb => ?_, fun b o z hb => ?_, fun b o z => ?_⟩, q⟩
  · obtain ⟨sl, e1⟩ := I.base.slot b o z n hb (nx b)
    obtain ⟨_, o2, e2, hd2⟩ := I.funs.mem hb
    obtain ⟨sl2, e3⟩ := x4 b o2 (hm.keeps b o2 e2) hd2
    have e2' : s.heap.get? b = some o2 := e2
    rw [e1] at e2'; cases e2'
    exact ⟨sl2, e3⟩
  · refine (I.hok a o z).stay (fun b u hb q2 => ?_) (fun _ q2 => q2) fun _ _ q2 => q2
    have tr2 : ∃ v, s.heap.get? b = some v ∧ (PySem.W.hideAll s.heap (frs (envOfC qual scope s0.heap.objs.size f cd :: outer))).get? b = some v := by
      rcases hb with rfl | hb
      · exact tr _ _ z
      · exact tr _ _ hb
    obtain ⟨v, hv, hv2⟩ := tr2
    rw [q2] at hv; cases hv
    exact fl.1 b u hv2
  · exact inB b o (I.base.keep b o z n hb (nx b)) (nL b o z hb)
  · obtain ⟨o', e'⟩ := I.base.there b o z (nx b)
    exact ⟨o', inB b o' e' (nL b o z hb)⟩
  · obtain ⟨u, _, hu⟩ := tr b o z
    exact ⟨u, hu⟩
end
theorem Fun.okX {P : Program} {w : World} {K : PySem.W.Frag} {mg : Str → Option Value} {base : Heap} {C : Addr} {x qual : Str} {st : Stmt} {f : Addr} {fd : FuncData} {N ps : List Str} {k : Nat} {sp : Sp} (F : Fun K x qual st f fd) (S : FnScope N ps (defScope st)) (len : ∀ vs H Q E, sp vs H Q E → vs.length = ps.length)
    (hbody : ∀ (cdv : Value) (A : Around) (outer : List Env) (s : Shared) (H : Hp) (vs : List V) (Q : VK) (E : XK), Room k (A.deeper (envOfC qual (defScope st) s.heap.objs.size f cdv)) → sp vs H Q E →
      ∃ t, PSs (cxOf (CXW P w C) P w K mg base N qual (defScope st) f cdv A outer s H E) (defBody st) t ∧ t { nx := fun _ H' => Q .non H', rt := Q } (start N vs) H) : FnOk P w K mg base (CXW P w C) (k + 1) f fd ps sp := by
  obtain ⟨oc, od, kV, doc, pm, an, cdv, ct, osl, rfl, lk, hcd⟩ := F.ex
  exact fn_of lk hcd S len fun A outer s H vs Q E hr hsp => hbody cdv A outer s H vs Q E hr hsp
end L2
namespace L2
open PySem PySem.Spec PyProof.Rows
abbrev Cx.tryX (X : Cx) (pn : List (Addr × Obj)) (E' : Value → Shared → Prop) : Cx := { X with pn := pn, xe := E' }
abbrev Cx.suiteX (X : Cx) (e : Addr) : Cx := { X with A := X.A.mark (some (.ref e)), calm := false, xe := fun _ _ => False }
section
variable {X : Cx} {pins pins' : List (Addr × Obj)} {σ : St} {H : Hp} {s : Shared} {E' : Value → Shared → Prop} {e : Addr}
theorem Cx.Ok.tryX (ok : X.Ok) (pn : List (Addr × Obj)) (E' : Value → Shared → Prop) : (X.tryX pn E').Ok :=
  ⟨ok.mod, ok.kind, ok.glob, ok.blt, ok.above, ok.inj, ok.has, ok.cab, ok.hd, ok.frames, ok.stk, ok.exf, ok.bs, ok.bsz, ok.noex, ok.exfs, ok.funs, ok.frf⟩
theorem Cx.Ok.untryX {pn : List (Addr × Obj)} (ok : (X.tryX pn E').Ok) : X.Ok :=
  ⟨ok.mod, ok.kind, ok.glob, ok.blt, ok.above, ok.inj, ok.has, ok.cab, ok.hd, ok.frames, ok.stk, ok.exf, ok.bs, ok.bsz, ok.noex, ok.exfs, ok.funs, ok.frf⟩
theorem Inv.tryX (I : Inv X pins σ H s) (E' : Value → Shared → Prop) : Inv (X.tryX (X.pn ++ pins) E') [] σ H s :=
  ⟨I.ok.tryX _ _, I.os, I.bare, I.base, I.loc, I.cell, I.free, I.freeC, fun p hp => I.pin p (by simpa using hp), I.hok, I.len⟩
theorem Inv.untryX (I : Inv (X.tryX (X.pn ++ pins) E') pins' σ H s) : Inv X pins σ H s :=
  ⟨I.ok.untryX, I.os, I.bare, I.base, I.loc, I.cell, I.free, I.freeC, fun p hp => I.pin p (List.mem_append_left _ hp), I.hok, I.len⟩
theorem Inv.suiteX (I : Inv X pins σ H s) (e : Addr) : Inv (X.suiteX e) pins σ H s :=
  ⟨⟨I.ok.mod, I.ok.kind, I.ok.glob, I.ok.blt, I.ok.above, I.ok.inj, I.ok.has, I.ok.cab, (fun z => by cases z), I.ok.frames, I.ok.stk, I.ok.exf, I.ok.bs, I.ok.bsz, I.ok.noex, I.ok.exfs, I.ok.funs, I.ok.frf⟩,
    I.os, I.bare, I.base, I.loc, I.cell, I.free, I.freeC, I.pin, I.hok, I.len⟩
theorem Inv.unsuiteX (ok : X.Ok) (I : Inv (X.suiteX e) pins σ H s) : Inv X pins σ H s := ⟨ok, I.os, I.bare, I.base, I.loc, I.cell, I.free, I.freeC, I.pin, I.hok, I.len⟩
theorem SP.unsuiteX {D : Ends} {f : Flow} (ok : X.Ok) (h : SP (X.suiteX e) pins D f s) : SP X pins D f s := by
  cases f with
  | next => obtain ⟨σ', H', I, q⟩ := h; exact ⟨σ', H', I.unsuiteX ok, q⟩
  | brk => obtain ⟨σ', H', I, q⟩ := h; exact ⟨σ', H', I.unsuiteX ok, q⟩
  | cont => obtain ⟨σ', H', I, q⟩ := h; exact ⟨σ', H', I.unsuiteX ok, q⟩
  | ret u => obtain ⟨v, σ', H', I, r, q⟩ := h; exact ⟨v, σ', H', I.unsuiteX ok, r, q⟩
theorem SP.untryX {D : Ends} {f : Flow} (h : SP (X.tryX (X.pn ++ pins) E') [] D f s) : SP X pins D f s := by
  cases f with
  | next => obtain ⟨σ', H', I, q⟩ := h; exact ⟨σ', H', I.untryX, q⟩
  | brk => obtain ⟨σ', H', I, q⟩ := h; exact ⟨σ', H', I.untryX, q⟩
  | cont => obtain ⟨σ', H', I, q⟩ := h; exact ⟨σ', H', I.untryX, q⟩
  | ret u => obtain ⟨v, σ', H', I, r, q⟩ := h; exact ⟨v, σ', H', I.untryX, r, q⟩
end
section
variable {X : Cx} {C : Addr} {x : Str} {body suite : List Stmt} {b₀ : Stmt} {np hpos pos : Pos} {tb : XK → TS} {ts : TS}
def tCatch (X : Cx) (ts : TS) (D : Ends) : XK := fun _ _ H' => ∀ σ' : St, σ'.length = X.N.length → ts D σ' H'
theorem ps_try (T : XCls X.K X.mg x C) (hst : X.stack = X.env :: X.outer) (hfr : X.env.frame = some X.env.locals)
    (hb : ∀ (pn : List (Addr × Obj)) (E : XK) (E' : Value → Shared → Prop), Passes (CXW X.prog X.w C) (X.tryX pn E') E → PSs (X.tryX pn E') body (tb E)) (hs : ∀ e, PSs (X.suiteX e) (b₀ :: suite) ts) (hg : Gl X x)
    (hd : (x == ("__debug__" : Str)) = false := by decide) :
    PS X (.Try body [.ExceptHandler (some (.Name x np)) none (b₀ :: suite) hpos] [] [] pos) (fun D σ H => tb (tCatch X ts D) D σ H) := by
  intro pins s σ H D I h
  refine wpAny_Try_except (wpAny_mono (hb (X.pn ++ pins) (tCatch X ts D) (fun e s₁ => wpAny (model X.prog X.w) X.A (noteFrame e X.env) (fun _ s₂ => wpAny (model X.prog X.w) X.A (setFlight e none) (fun _ s₃ =>
    wpAny (model X.prog X.w) X.A (handleBy e X.env [.ExceptHandler (some (.Name x np)) none (b₀ :: suite) hpos]) (SP X pins D) X.xe s₃) X.xe s₂) X.xe s₁) ?_ [] s σ H D (I.tryX _) h) (fun f s1 q => ?_) fun e s1 q => q)
  · intro pins' σ' H1 s1 e s2 J q
    obtain ⟨ea, t, B, H2, rfl, F, q⟩ := q
    have ok : X.Ok := I.ok
    have J1 : Inv X pins σ' H1 s1 := J.untryX
    have hfrm : X.A.frames = some (X.env :: X.outer) := by rw [ok.frames, hst]
    have F' : Flies X.prog X.w C (X.env :: X.outer) H1 s1 ea t B H2 s2 := by rw [← hst]; exact F
    show wpAny (model X.prog X.w) X.A (noteFrame (.ref ea) X.env) (fun _ s₂ => wpAny (model X.prog X.w) X.A (setFlight (.ref ea) none) (fun _ s₃ =>
      wpAny (model X.prog X.w) X.A (handleBy (.ref ea) X.env [.ExceptHandler (some (.Name x np)) none (b₀ :: suite) hpos]) (SP X pins D) X.xe s₃) X.xe s₂) X.xe s2
    refine wpAny_looks_onW hfrm hfr F'.fl fun h4 held4 sm4 => ?_
    refine wpAny_landsW held4 fun h5 fl5 sm5 => ?_
    have sm45 := sm4.trans sm5
    have inv : ∀ (h' : Heap), B.StaysIn h' → s2.heap.UpToSlots h' → Inv X pins σ' H2 { s2 with heap := h' } := fun h' k sm =>
      J1.call' (s' := { s2 with heap := h' }) (ch := []) F.os (F.unOn k sm) (F.hokOn k) F.bare (fun b z => by simp at z)
    have J5 := inv h5 fl5.1 sm45
    obtain ⟨bnd, tl, NN, nm, qn, bs, hdct, sn, sub, ab, col, dd, k0, k1, k2, k3, k5, mN, hC, hN, hni, TL⟩ := T.own J5.kIn (J5.mod.glob.keeps J5.bk)
    obtain ⟨ob, hob, hobc⟩ := fl5.there
    refine wpAny_handleBy_cons (codeAny_handlers_test (ld_glob (X := X.suiteX ea) (J5.suiteX ea) hg bnd ?_ hd)) (by intro z; cases z)
    refine wpAny_excMatches_sub_self hC hob hobc (TL.hasType PySem.F.excBase_ValueError.hasBase) (codeAny_handlers_suite ?_)
    refine lands_againW fl5 fun h6 fl6 sm6 => ?_
    have J6 := inv h6 fl6.1 (sm45.trans sm6)
    refine wpAny_mono (hs ea pins { s2 with heap := h6 } σ' H2 D (J6.suiteX ea) (q σ' J6.len)) (fun f s7 z => z.unsuiteX ok) fun _ _ z => False.elim z
  · have q := SP.untryX q
    cases f with
    | next =>
      obtain ⟨σ', H', I', q'⟩ := q
      exact wpAny_execs_nil ⟨σ', H', I', q'⟩
    | brk => exact q
    | cont => exact q
    | ret u => exact q
end
end L2
namespace L2
open PySem PySem.Spec PyProof.Rows TL
def Glob (mg : Str → Option Value) (x : Str) (v : V) : Prop := ∃ u, mg x = some u ∧ RelV v u
theorem pe_globV {X : Cx} {x : Str} {v : V} {pos : Pos} (hg : Gl X x) (h : Glob X.mg x v) (hd : (x == ("__debug__" : Str)) = false := by decide) : PE X (.Name x pos) (tC v) := by
  obtain ⟨u, hm, r⟩ := h
  exact pe_glob hg hm r hd
theorem lk_here {k : Str} {v : V} {r : List (Str × V)} : ((k, v) :: r).lookup k = some v := by simp [List.lookup]
theorem lk_next {k j : Str} {v : V} {r : List (Str × V)} (h : (k == j) = false) : ((j, v) :: r).lookup k = r.lookup k := by simp [List.lookup, h]
theorem pf_nil {k : Str} {v : V} : putF k v [] = [(k, v)] := rfl
theorem pf_here {k : Str} {v x : V} {r : List (Str × V)} : putF k v ((k, x) :: r) = (k, v) :: r := by
  show (if k = k then (k, v) :: r else (k, x) :: putF k v r) = _
  rw [if_pos rfl]
theorem pf_next {k j : Str} {v x : V} {r : List (Str × V)} (h : ¬ j = k) : putF k v ((j, x) :: r) = (j, x) :: putF k v r := by
  show (if j = k then (j, v) :: r else (j, x) :: putF k v r) = _
  rw [if_neg h]
section
variable {X : Cx}
theorem mt_startswith3 : MtR X "str.startswith" (fun x xs H Q => ∃ a b i, x = .str a ∧ xs = [.str b, .int i] ∧ Q (.bl (Txt.startswith3 a b i)) H) := by
  intro pins s σ H x xs v us Q I rx rs h
  obtain ⟨a, b, i, rfl, rfl, h⟩ := h
  obtain ⟨t, rfl⟩ := rx
  obtain ⟨u1, u2, rfl, ⟨t1, rfl⟩, ⟨t2, rfl⟩⟩ := rs.two
  exact PySem.SC.startswith3 ⟨.bl _, H, I, rfl, h⟩
theorem mt_find3 : MtR X "str.find" (fun x xs H Q => ∃ a b i, x = .str a ∧ xs = [.str b, .int i] ∧ Q (.int (Txt.find3 a b i)) H) := by
  intro pins s σ H x xs v us Q I rx rs h
  obtain ⟨a, b, i, rfl, rfl, h⟩ := h
  obtain ⟨t, rfl⟩ := rx
  obtain ⟨u1, u2, rfl, ⟨t1, rfl⟩, ⟨t2, rfl⟩⟩ := rs.two
  exact PySem.SC.find3 ⟨.int _, H, I.tok _, ⟨_, rfl⟩, h⟩
end
theorem pre_iff {S l : List Nat} : pre S l = true ↔ l.take S.length = S := by unfold pre; exact beq_iff_eq
theorem fromIndex_nat {n p : Nat} : fromIndex n (p : Int) = p := by
  unfold fromIndex
  rw [if_neg (by omega)]
  omega
theorem starts_is {x y : Str} {p : Nat} (hy : tl y ≠ []) : Txt.startswith3 x y (p : Int) = pre (tl y) ((tl x).drop p) := by
  unfold Txt.startswith3
  rw [fromIndex_nat]
  have h := at_iff (x := x) (y := y) hy p
  rw [Bool.eq_iff_iff, ← h]
  show (decide (p + y.length ≤ x.length) && _) = true ↔ _
  rw [Bool.and_eq_true, decide_eq_true_eq]
  rfl
theorem find_is {x y : Str} {p : Nat} (hy : tl y ≠ []) : (Txt.find3 x y (p : Int) = -1 ∧ ∀ i, p ≤ i → pre (tl y) ((tl x).drop i) = false) ∨
    ∃ k, p ≤ k ∧ Txt.find3 x y (p : Int) = (k : Int) ∧ pre (tl y) ((tl x).drop k) = true ∧ ∀ i, p ≤ i → i < k → pre (tl y) ((tl x).drop i) = false := by
  unfold Txt.find3
  rw [fromIndex_nat, StrLaws.occ_eq]
  rcases StrLaws.occ_first x y x.length 1 (Nat.le_refl 1) (List.range' p (x.length + 1 - p)) p (fun i hi => (List.mem_range'_1.mp hi).1) with ⟨h, hn⟩ | ⟨pr, c, post, hl, h, hc, hn⟩
  · left
    rw [h]
    refine ⟨rfl, fun i hi => no_at hy fun z => ?_⟩
    by_cases hi2 : i < x.length + 1
    · exact hn i (List.mem_range'_1.mpr ⟨hi, by omega⟩) z
    · have := z.1
      omega
  · right
    have hmem : c ∈ List.range' p (x.length + 1 - p) := by rw [hl]; simp
    have hcp := (List.mem_range'_1.mp hmem).1
    refine ⟨c, hcp, ?_, (at_iff hy c).mp hc, fun i hi hic => no_at hy fun z => ?_⟩
    · generalize (forIn (List.range' p (x.length + 1 - p)) ((#[] : Array Nat), p) (StrLaws.occBody x y x.length 1)).run.fst = arr at h
      cases hal : arr.toList with
      | nil =>
        have : arr = #[] := by rw [← Array.toList_inj, hal]
        rw [this] at h
        simp at h
      | cons d r =>
        have h2 : arr.toList[0]? = some c := by rw [Array.getElem?_toList]; exact h
        rw [hal] at h2
        cases h2
        rfl
    · have hpl : pr.length = c - p := by
        have e1 : (List.range' p (x.length + 1 - p))[pr.length]? = some c := by rw [hl]; simp
        have e1' := List.getElem?_eq_some_iff.mp e1
        obtain ⟨h9, e9⟩ := e1'
        rw [List.getElem_range'] at e9
        omega
      have hin : i ∈ pr := by
        have e2 : (List.range' p (x.length + 1 - p))[i - p]? = some i := by
          have hlt : i - p < x.length + 1 - p := by
            have h3 := (List.mem_range'_1.mp hmem).2
            omega
          rw [List.getElem?_eq_getElem (by rw [List.length_range']; exact hlt), List.getElem_range']
          congr 1
          omega
        rw [hl, List.getElem?_append_left (by omega)] at e2
        exact List.mem_of_getElem? e2
      exact hn i hin z
theorem cutS_nat {z : Str} {p q : Nat} (h : p ≤ q) (hq : q ≤ z.length) : tl (cutS z (some (p : Int)) (some (q : Int))) = ((tl z).drop p).take (q - p) := by
  unfold cutS
  rw [HT.sIx_nat, HT.sIx_nat, Nat.min_eq_left hq, Nat.min_eq_left (Nat.le_trans h hq)]
end L2
namespace L2
open PySem PySem.Spec PyProof.Rows TL
theorem mt_islower {X : Cx} : MtR X "str.islower" (fun x xs H Q => ∃ a, x = .str a ∧ xs = [] ∧ True ∧ Q (.bl (Txt.islower a)) H) :=
  mt0 (C := fun _ => True) (g := fun a => .bl (Txt.islower a)) fun _ _ _ _ _ hq => PySem.SC.islower (hq _ _ rfl)
def tCallL (i : Nat) (f : Addr) (sp : Sp) (E : XK) (t : TA) : TE := fun σ H Q => σ[i]? = some (some (.ref f)) ∧ t σ H fun vs H1 => sp vs H1 Q E
section
variable {X : Cx} {CX : CXT} {k : Nat} {f : Addr} {fd : FuncData} {ps : List Str} {sp : Sp} {E : XK} {x : Str} {p pos : Pos} {e : Expr} {es : List Expr} {t : TA}
theorem pe_callL (i : Nat) (F : FnOk X.prog X.w X.K X.mg X.base CX k f fd ps sp) (hr : Room k X.A) (hk : PySem.W.keepIn X.K (.ref f) = true) (hb : Binds X.K fd ps []) (hx : Passes CX X E) (ha : PA X (e :: es) t)
    (hN : X.N[i]? = some x := by rfl) (hv : Vis X.env.scope x := by first | exact Or.inl rfl | exact Or.inr (Or.inl rfl) | exact Or.inr (Or.inr rfl)) (hd : (x == ("__debug__" : Str)) = false := by decide) (hcd : (x == ("__classdict__" : Str)) = false := by decide)
    (he : starEach (e :: es) X.env = (false, eval e X.env) :: starEach es X.env := by rfl) (hpl : (backTo pos (starEach es X.env)).any (·.1) = false := by rfl) :
    PE X (.Call (.Name x p) (e :: es) [] pos) (tCallL i f sp E t) := by
  intro pins s σ H Q I h
  obtain ⟨hs, h⟩ := h
  refine wpAny_Call_Name_kw ?_
  obtain ⟨m, hn, hl⟩ := I.loc
  obtain ⟨u, r, l⟩ := hl i x _ hN hs hv
  obtain rfl : u = Value.ref f := r
  have go : wpAny (model X.prog X.w) X.A (callWith pos (.ref f) [] (backTo pos (starEach (e :: es) X.env)) []) (EP X pins σ Q) X.xe s := by
    refine PySem.W.callWith_K (h₀ := X.base) I.ok.mod.kin hk (thn (ha pos pins s σ H _ I h) fun us s1 ⟨vs, H1, I1, r, q⟩ => ⟨I1.kIn, ?_⟩) he hpl
    exact run_fn (dvs := []) F hr hb .nil hx I1 r (by rw [List.append_nil]; exact q)
  rcases l with ⟨hk2, hm⟩ | ⟨hk2, c, hc, hcell⟩
  · exact wpAny_Name (wpAny_loadName_local I.ok.kind hk2 hn hm go) hd
  · rcases hk2 with hk2 | hk2
    · exact wpAny_Name (wpAny_loadName_cell I.ok.kind hk2 hc hcell go) hd
    · exact wpAny_Name (wpAny_loadName_free I.ok.kind hk2 hc hcell go hcd) hd
theorem pe_def (hg : Gl X x) (hm : X.mg x = some (.ref f)) (hd : (x == ("__debug__" : Str)) = false := by decide) : PE X (.Name x pos) (tC (.ref f)) := pe_glob (v := .ref f) hg hm rfl hd
end
def KD (K : PySem.W.Frag) (pr : Params) (g : Addr) (kvs : List (Str × Int)) : Prop := ∀ (P : Program) (w : World) (h : Heap), w.params = pr → K.In h → ∃ vs, KV (kvs.map fun p => ((Sum.inr p.1 : Key), V.int p.2)) vs ∧ h.DictOf (mixKind P w) g vs
def tKD (kvs : List (Str × Int)) (ty : TE) : TE := fun σ H Q => ty σ H fun y H1 => ∃ x n, y = .str x ∧ valV (kvs.map fun p => ((Sum.inr p.1 : Key), V.int p.2)) (Sum.inr x) = some (.int n) ∧ Q (.int n) H1
theorem pe_kd {X : Cx} {x : Str} {g : Addr} {kvs : List (Str × Int)} {i : Expr} {ty : TE} {p pos : Pos} (hg : Gl X x) (hm : X.mg x = some (.ref g)) {pr : Params} (hw : X.w.params = pr) (hd : KD X.K pr g kvs) (hi : PE X i ty) (hs : NoSl i) (hdb : (x == ("__debug__" : Str)) = false := by decide) :
    PE X (.Subscript (.Name x p) i pos) (tKD kvs ty) := by
  intro pins s σ H Q I h
  refine subD_of PySem.F.slot_dict_getitem.lookup hs (ld_glob I hg hm (thn (hi pins s σ H _ I h) fun iv s2 ⟨y, H2, I2, ry, z, n, ey, hv, q⟩ => ?_) hdb)
  subst ey
  obtain ⟨vs, rel, dd⟩ := hd X.prog X.w _ hw I2.kIn
  refine ⟨dd.typeIs, ?_⟩
  obtain ⟨w', hw, rw'⟩ := RelO.some_of (v := V.int n) (o := valueAt vs (Sum.inr z)) (by rw [← hv]; exact rel.val (Sum.inr z))
  exact wpAny_getItem_of (kV_is (k := Sum.inr z) ry) dd.mapOf hw ⟨_, H2, I2.tok _, rw', q⟩
end L2
namespace L2
open PySem PySem.Spec PyProof.Rows TL
section
variable {prog : Program} {w : World} {A : Around} {E : Value → Shared → Prop} {s : Shared}
theorem nextOf_tup {ti tp : Addr} {j : Nat} {vals : Array Value} {y : Value} {Q : Value → Shared → Prop} (hI : IsTupIter s.heap ti tp j) (hT : IsTup s.heap tp vals) (hy : vals[j]? = some y)
    (go : ∀ h', IsTupIter h' ti tp (j + 1) → Heap.SameBut ti s.heap h' → Q y { s with heap := h' }) : wpAny (model prog w) A (Builtin.SmallTypes.nextOf (.ref ti)) Q E s := by
  obtain ⟨oi, hoi, hci, hdi⟩ := id hI
  obtain ⟨ot, hot, _, nt, hdt⟩ := hT
  unfold Builtin.SmallTypes.nextOf
  refine wpAny_bind (wpAny_callSpecial?_slot (name := Str.ofString "__next__") hI.typeIs slot_tupleiter_next (wpAny_call_entry slot_tupleiter_next hI.typeIs entry_tupleiter_next ?_ (args_tupleiter_next _)))
  show wpAny _ _ (field (.ref ti) 0 >>= _) _ _ s
  refine wpAny_bind (wpAny_field hoi hdi (x := .ref tp) rfl ?_)
  show wpAny _ _ (if (Value.ref tp == Value.none) = true then _ else _) _ _ s
  rw [if_neg (show ¬ ((Value.ref tp == Value.none) = true) from Bool.false_ne_true)]
  show wpAny _ _ (field (.ref ti) 1 >>= _) _ _ s
  refine wpAny_bind (wpAny_field hoi hdi (x := .int j 0) rfl ?_)
  show wpAny _ _ (seqItems? (.ref tp) >>= _) _ _ s
  refine wpAny_bind (wpAny_seqItems hot hdt ?_)
  simp only [Int.toNat_natCast, hy]
  refine wpAny_bind (wpAny_setField hoi hdi (by simp) (wpAny_pure ⟨y, rfl, wpAny_pure (go _ ?_ (Heap.SameBut.update ..))⟩))
  exact ⟨_, Heap.get?_update_self _ hoi (Obj.isFreed_of_fields (Obj.data_mapFields hdi _)), (Obj.cls_mapFields ..).trans hci, by rw [Obj.data_mapFields hdi]; simp [rawInt]⟩
theorem IsTupIter.at' {h h' : Heap} {b t : Addr} {i : Nat} (x : IsTupIter h b t i) (k : ∀ o, h.get? b = some o → h'.get? b = some o) : IsTupIter h' b t i := by
  obtain ⟨o, ho, r⟩ := x
  exact ⟨o, k o ho, r⟩
theorem IsTup.at' {h h' : Heap} {t : Addr} {vs : Array Value} (x : IsTup h t vs) (k : ∀ o, h.get? t = some o → h'.get? t = some o) : IsTup h' t vs := by
  obtain ⟨o, ho, r⟩ := x
  exact ⟨o, k o ho, r⟩
theorem zipLT_item {z ta tb i1 i2 l1 l2 : Addr} {k1 k2 : Nat} {xs ys : Array Value} {x y u v : Value} {Q : Value → Shared → Prop} (D : ZipApart z ta tb i1 i2 l1 l2)
    (gz : IsZip s.heap z ta tb .none) (gi : IsPair s.heap ta (.ref i1) (.ref i2)) (gr : IsPair s.heap tb u v) (g1 : s.heap.IsListIter i1 l1 k1) (g2 : IsTupIter s.heap i2 l2 k2) (gl : s.heap.IsList l1 xs) (gt : IsTup s.heap l2 ys) (hx : xs[k1]? = some x) (hy : ys[k2]? = some y)
    (go : ∀ h', IsZip h' z ta tb (rawInt s.heap.objs.size) → IsPair h' tb x y → h'.IsListIter i1 l1 (k1 + 1) → IsTupIter h' i2 l2 (k2 + 1) → IsPair h' s.heap.objs.size x y → h'.objs.size = s.heap.objs.size + 1 →
      (∀ c o, c ≠ z → c ≠ tb → c ≠ i1 → c ≠ i2 → s.heap.get? c = some o → h'.get? c = some o) → Q (.ref s.heap.objs.size) { s with heap := h' }) :
    wpAny (model prog w) A (Builtin.«zip.__next__» ⟨[.ref z], []⟩) (fun fin s' => ∃ r, fin = .done (.ret r) ∧ Q r s') E s := by
  show wpAny _ _ (field (.ref z) 2 >>= _) _ _ _
  refine wpAny_bind (wpAny_field gz rfl (x := .bool false) rfl ?_)
  show wpAny _ _ (field (.ref z) 3 >>= _) _ _ _
  refine wpAny_bind (wpAny_field gz rfl (x := .ref ta) rfl (wpAny_bind (wpAny_seqItems gi rfl ?_)))
  show wpAny _ _ (Builtin.SmallTypes.ownedTupleIsFree (.ref z) >>= _) _ _ _
  refine wpAny_bind ?_
  unfold Builtin.SmallTypes.ownedTupleIsFree
  refine wpAny_bind (wpAny_field gz rfl (x := .none) rfl (wpAny_pure ?_))
  simp only [if_true]
  refine wpAny_bind (wpAny_rule (wpAny_bind (wpAny_field gz rfl (x := .ref tb) rfl (wpAny_bind (wpAny_setField_rec gz (by simp) fun a1 z1 b1 => ?_)))))
  replace z1 : IsZip a1 z ta tb .ellipsis := z1
  refine wpAny_bind ?_
  simp only [List.zipIdx_cons, List.zipIdx_nil, List.forIn_cons, List.forIn_nil]
  refine wpAny_bind (wpAny_bind (wpAny_onRaise ?_))
  show wpAny _ _ (Builtin.SmallTypes.nextOf (.ref i1) >>= _) _ _ _
  refine wpAny_bind (wpAny_nextOf_list_item (g1.extBut b1.extBut D.i1z) (gl.extBut b1.extBut D.l1z) hx fun a2 n2 b2 => wpAny_pure ?_)
  have r2 : IsPair a2 tb u v := b2.extBut _ _ D.TOi1 (b1.extBut _ _ D.TOz gr)
  refine wpAny_bind (wpAny_seqItems r2 rfl (wpAny_bind (wpAny_updateSeq_pair r2 fun a3 r3 b3 => ?_)))
  replace r3 : IsPair a3 tb x v := r3
  refine wpAny_bind (wpAny_letGo (wpAny_pure (wpAny_bind (wpAny_bind (wpAny_onRaise ?_)))))
  show wpAny _ _ (Builtin.SmallTypes.nextOf (.ref i2) >>= _) _ _ _
  have m2 : IsTupIter a3 i2 l2 k2 := IsTupIter.at' g2 fun o q => b3.extBut _ _ D.TOi2.symm (b2.extBut _ _ D.i12.symm (b1.extBut _ _ D.i2z q))
  have mt : IsTup a3 l2 ys := IsTup.at' gt fun o q => b3.extBut _ _ D.l2TO (b2.extBut _ _ D.l2i1 (b1.extBut _ _ D.l2z q))
  refine wpAny_bind (nextOf_tup m2 mt hy fun a4 n4 b4 => wpAny_pure ?_)
  have r4 : IsPair a4 tb x v := b4.extBut _ _ D.TOi2 r3
  refine wpAny_bind (wpAny_seqItems r4 rfl (wpAny_bind (wpAny_updateSeq_pair r4 fun a5 r5 b5 => ?_)))
  replace r5 : IsPair a5 tb x y := r5
  refine wpAny_bind (wpAny_letGo (wpAny_pure (wpAny_pure (wpAny_bind (wpAny_seqItems r5 rfl (wpAny_bind (wpAny_newTuple ?_)))))))
  have sz5 : a5.objs.size = s.heap.objs.size := by rw [b5.1, b4.1, b3.1, b2.1, b1.1]
  have z5 : IsZip a5 z ta tb .ellipsis := b5.extBut _ _ D.TOz.symm (b4.extBut _ _ D.i2z.symm (b3.extBut _ _ D.TOz.symm (b2.extBut _ _ D.i1z.symm z1)))
  have k5 : ∀ c o, c ≠ z → c ≠ tb → c ≠ i1 → c ≠ i2 → s.heap.get? c = some o → a5.get? c = some o := fun c o c1 c2 c3 c4 q =>
    b5.extBut _ _ c2 (b4.extBut _ _ c4 (b3.extBut _ _ c2 (b2.extBut _ _ c3 (b1.extBut _ _ c1 q))))
  have m1 : a5.IsListIter i1 l1 (k1 + 1) := ((n2.extBut b3.extBut D.TOi1.symm).extBut b4.extBut D.i12).extBut b5.extBut D.TOi1.symm
  have m5 : IsTupIter a5 i2 l2 (k2 + 1) := IsTupIter.at' n4 fun o q => b5.extBut _ _ D.TOi2.symm q
  have zlt : z < a5.objs.size := Heap.lt_size z5
  show wpAny _ _ (Builtin.SmallTypes.ownedTupleHandOut (.ref z) (.ref a5.objs.size) >>= _) _ _ _
  refine wpAny_bind ?_
  unfold Builtin.SmallTypes.ownedTupleHandOut
  have z6 : IsZip (a5.push { cls := .type "tuple", data := .seq #[x, y] }) z ta tb .ellipsis := Heap.get?_push_of_some _ z5
  refine wpAny_bind (wpAny_setField_rec z6 (by simp) fun a7 z7 b7 => ?_)
  replace z7 : IsZip a7 z ta tb (rawInt a5.objs.size) := z7
  refine wpAny_setField_rec z7 (by simp) fun a8 z8 b8 => ?_
  replace z8 : IsZip a8 z ta tb (rawInt a5.objs.size) := z8
  have up : ∀ c o, c ≠ z → a5.get? c = some o → a8.get? c = some o := fun c o c1 q => b8.extBut _ _ c1 (b7.extBut _ _ c1 (Heap.get?_push_of_some _ q))
  have t8 : IsPair a8 a5.objs.size x y := b8.extBut _ _ (Nat.ne_of_gt zlt) (b7.extBut _ _ (Nat.ne_of_gt zlt) (Heap.get?_push_size _ rfl))
  have sz8 : a8.objs.size = a5.objs.size + 1 := by rw [b8.1, b7.1, Heap.size_push]
  rw [sz5] at z8 t8 sz8
  refine wpAny_pure ⟨_, rfl, ?_⟩
  show Q (.ref a5.objs.size) _
  rw [sz5]
  exact go a8 z8 (up _ _ D.TOz r5) (m1.at fun o q => up _ o D.i1z q) (IsTupIter.at' m5 fun o q => up _ o D.i2z q) t8 sz8 fun c o c1 c2 c3 c4 q => up c o c1 (k5 c o c1 c2 c3 c4 q)
theorem zipLT_end {z ta tb i1 i2 l1 : Addr} {k1 : Nat} {xs : Array Value} {u v : Value} {Q : Fin → Shared → Prop} (calm : A.handled = none) (n1 : i1 ≠ z) (n2 : l1 ≠ z)
    (gz : IsZip s.heap z ta tb .none) (gi : IsPair s.heap ta (.ref i1) (.ref i2)) (gr : IsPair s.heap tb u v) (g1 : s.heap.IsListIter i1 l1 k1) (gl : s.heap.IsList l1 xs) (hx : xs[k1]? = none)
    (go : ∀ h' e, (∀ c o, c ≠ z → c ≠ i1 → s.heap.get? c = some o → h'.get? c = some o) → (∃ o, h'.get? e = some o ∧ o.cls = .type "StopIteration") → E (.ref e) { s with heap := h' }) :
    wpAny (model prog w) A (Builtin.«zip.__next__» ⟨[.ref z], []⟩) Q E s := by
  show wpAny _ _ (field (.ref z) 2 >>= _) _ _ _
  refine wpAny_bind (wpAny_field gz rfl (x := .bool false) rfl ?_)
  show wpAny _ _ (field (.ref z) 3 >>= _) _ _ _
  refine wpAny_bind (wpAny_field gz rfl (x := .ref ta) rfl (wpAny_bind (wpAny_seqItems gi rfl ?_)))
  show wpAny _ _ (Builtin.SmallTypes.ownedTupleIsFree (.ref z) >>= _) _ _ _
  refine wpAny_bind ?_
  unfold Builtin.SmallTypes.ownedTupleIsFree
  refine wpAny_bind (wpAny_field gz rfl (x := .none) rfl (wpAny_pure ?_))
  simp only [if_true]
  refine wpAny_bind (wpAny_rule (wpAny_bind (wpAny_field gz rfl (x := .ref tb) rfl (wpAny_bind (wpAny_setField_rec gz (by simp) fun a1 z1 b1 => ?_)))))
  replace z1 : IsZip a1 z ta tb .ellipsis := z1
  refine wpAny_bind ?_
  simp only [List.zipIdx_cons, List.zipIdx_nil, List.forIn_cons, List.forIn_nil]
  refine wpAny_bind (wpAny_bind (wpAny_onRaise ?_))
  show wpAny _ _ (Builtin.SmallTypes.nextOf (.ref i1) >>= _) _ _ _
  refine wpAny_bind (wpAny_nextOf_list_end calm (g1.extBut b1.extBut n1) (gl.extBut b1.extBut n2) hx fun a2 e b2 he => ?_)
  obtain ⟨oe, hoe, hce⟩ := he
  have z2 : IsZip a2 z ta tb .ellipsis := b2 _ _ n1.symm z1
  have nez : e ≠ z := fun q => by subst q; rw [z2] at hoe; cases hoe; simp at hce
  exact wpAny_setField_rec z2 (by simp) fun a3 _ b3 => go a3 e (fun c o c1 c3 q => b3.extBut _ _ c1 (b2 _ _ c3 (b1.extBut _ _ c1 q))) ⟨oe, b3.extBut _ _ nez hoe, hce⟩
theorem zipLT_next {z ta tb i1 i2 l1 l2 : Addr} {k1 k2 : Nat} {xs ys : Array Value} {x y u v : Value} {Q : Option Value → Shared → Prop} (D : ZipApart z ta tb i1 i2 l1 l2)
    (gz : IsZip s.heap z ta tb .none) (gi : IsPair s.heap ta (.ref i1) (.ref i2)) (gr : IsPair s.heap tb u v) (g1 : s.heap.IsListIter i1 l1 k1) (g2 : IsTupIter s.heap i2 l2 k2) (gl : s.heap.IsList l1 xs) (gt : IsTup s.heap l2 ys) (hx : xs[k1]? = some x) (hy : ys[k2]? = some y)
    (go : ∀ h', IsZip h' z ta tb (rawInt s.heap.objs.size) → IsPair h' tb x y → h'.IsListIter i1 l1 (k1 + 1) → IsTupIter h' i2 l2 (k2 + 1) → IsPair h' s.heap.objs.size x y → h'.objs.size = s.heap.objs.size + 1 →
      (∀ c o, c ≠ z → c ≠ tb → c ≠ i1 → c ≠ i2 → s.heap.get? c = some o → h'.get? c = some o) → Q (some (.ref s.heap.objs.size)) { s with heap := h' }) : wpAny (model prog w) A (pyNext (.ref z)) Q E s := by
  have ty : s.TypeIs (.ref z) "zip" := ⟨_, gz, rfl⟩
  unfold pyNext
  exact wpAny_bind (wpAny_attempt (wpAny_callSpecial?_slot (name := Str.ofString "__next__") ty F.slot_zip_next (wpAny_call_entry F.slot_zip_next ty F.entry_zip_next
    (zipLT_item D gz gi gr g1 g2 gl gt hx hy fun h' c1 c2 c3 c4 c5 c6 c7 => wpAny_pure (go h' c1 c2 c3 c4 c5 c6 c7)) (F.args_zip_next_1 _))))
theorem zipLT_stop {z ta tb i1 i2 l1 : Addr} {k1 : Nat} {xs : Array Value} {u v : Value} {Q : Option Value → Shared → Prop} (calm : A.handled = none) (n1 : i1 ≠ z) (n2 : l1 ≠ z)
    (gz : IsZip s.heap z ta tb .none) (gi : IsPair s.heap ta (.ref i1) (.ref i2)) (gr : IsPair s.heap tb u v) (g1 : s.heap.IsListIter i1 l1 k1) (gl : s.heap.IsList l1 xs) (hx : xs[k1]? = none)
    (go : ∀ h', (∀ c o, c ≠ z → c ≠ i1 → s.heap.get? c = some o → h'.get? c = some o) → Q none { s with heap := h' }) : wpAny (model prog w) A (pyNext (.ref z)) Q E s := by
  have ty : s.TypeIs (.ref z) "zip" := ⟨_, gz, rfl⟩
  unfold pyNext
  refine wpAny_bind (wpAny_attempt (wpAny_callSpecial?_slot (name := Str.ofString "__next__") ty F.slot_zip_next (wpAny_call_entry F.slot_zip_next ty F.entry_zip_next
    (zipLT_end calm n1 n2 gz gi gr g1 gl hx fun h' e hk he => ?_) (F.args_zip_next_1 _))))
  obtain ⟨o, ho, hc⟩ := he
  exact wpAny_bind (wpAny_isInstance (T := "StopIteration") (b := true) ⟨o, ho, hc⟩ isSubtype_stop (wpAny_pure (go _ hk)))
end
abbrev zl1 (h : Heap) (l1 : Addr) : Heap := h.push { cls := .type "list_iterator", data := .fields #[.ref l1, .int 0 0] }
abbrev zl2 (h : Heap) (l1 l2 : Addr) : Heap := (zl1 h l1).push { cls := .type "tuple_iterator", data := .fields #[.ref l2, .int 0 0] }
abbrev zl3 (h : Heap) (l1 l2 : Addr) : Heap := (zl2 h l1 l2).push { cls := .type "tuple", data := .seq #[.ref h.objs.size, .ref (zl1 h l1).objs.size] }
abbrev zl4 (h : Heap) (l1 l2 : Addr) : Heap := (zl3 h l1 l2).push { cls := .type "tuple", data := .seq #[.none, .none] }
abbrev zl5 (h : Heap) (l1 l2 : Addr) : Heap := (zl4 h l1 l2).push { cls := .type "zip", data := .fields #[.none, .bool false, .bool false, .ref (zl2 h l1 l2).objs.size, .ref (zl3 h l1 l2).objs.size] }
theorem zipLT_new (l1 l2 : Addr) (xs ys : Array Value) :
    Meets (Builtin.«zip.__new__» ⟨[.type "zip", .ref l1, .ref l2], []⟩) (fun _ R s => s.heap.IsList l1 xs ∧ IsTup s.heap l2 ys ∧ R (.ok (.ret (.ref (zl4 s.heap l1 l2).objs.size))) { s with heap := zl5 s.heap l1 l2 }) :=
  .of_wp fun prog w A R s h => by
    obtain ⟨hp, g, d, tk, os⟩ := s
    obtain ⟨gl, gt, h⟩ := h
    have hsub := sub_zip
    have q1 : Heap.IsList (Shared.heap ⟨hp, g, d, tk, os⟩) l1 xs := gl
    have q2 : IsTup (Shared.heap ⟨hp.push { cls := .type "list_iterator", data := .fields #[.ref l1, .int 0 0] }, g, d, tk, os⟩) l2 ys := IsTup.at' gt fun o z => Heap.get?_push_of_some _ z
    wp_walk using wpAny_pyIter_list q1, iter_tuple q2
    exact ⟨_, rfl, h⟩
section
variable {prog : Program} {w : World} {A : Around} {E : Value → Shared → Prop} {s : Shared}
theorem call_zipLT {l1 l2 : Addr} {xs ys : Array Value} {Q : Value → Shared → Prop} (gl : s.heap.IsList l1 xs) (gt : IsTup s.heap l2 ys)
    (go : ∀ h', IsZip h' (s.heap.objs.size + 4) (s.heap.objs.size + 2) (s.heap.objs.size + 3) .none → IsPair h' (s.heap.objs.size + 2) (.ref s.heap.objs.size) (.ref (s.heap.objs.size + 1)) → IsPair h' (s.heap.objs.size + 3) .none .none →
      h'.IsListIter s.heap.objs.size l1 0 → IsTupIter h' (s.heap.objs.size + 1) l2 0 → h'.objs.size = s.heap.objs.size + 5 → (∀ c o, s.heap.get? c = some o → h'.get? c = some o) → Q (.ref (s.heap.objs.size + 4)) { s with heap := h' }) :
    wpAny (model prog w) A (call (.type "zip") [.ref l1, .ref l2]) Q E s := by
  refine callType_new F.called_zip (by decide) (F.typeCall_zip_2 _ _) (F.newCall_zip_2 _ _) (fun ob => F.args_object_init_3 ob _ _) F.entry_zip_new (zipLT_new l1 l2 xs ys) ⟨gl, gt, ?_⟩
  have y1 : (zl1 s.heap l1).objs.size = s.heap.objs.size + 1 := Heap.size_push ..
  have y2 : (zl2 s.heap l1 l2).objs.size = s.heap.objs.size + 2 := by rw [Heap.size_push, y1]
  have y3 : (zl3 s.heap l1 l2).objs.size = s.heap.objs.size + 3 := by rw [Heap.size_push, y2]
  have y4 : (zl4 s.heap l1 l2).objs.size = s.heap.objs.size + 4 := by rw [Heap.size_push, y3]
  have y5 : (zl5 s.heap l1 l2).objs.size = s.heap.objs.size + 5 := by rw [Heap.size_push, y4]
  have e5 : (zl5 s.heap l1 l2).get? (zl4 s.heap l1 l2).objs.size = some _ := Heap.get?_push_size _ rfl
  have e4 : (zl5 s.heap l1 l2).get? (zl3 s.heap l1 l2).objs.size = some _ := Heap.get?_push_of_some _ (Heap.get?_push_size _ rfl)
  have e3 : (zl5 s.heap l1 l2).get? (zl2 s.heap l1 l2).objs.size = some _ := Heap.get?_push_of_some _ (Heap.get?_push_of_some _ (Heap.get?_push_size _ rfl))
  have e2 : (zl5 s.heap l1 l2).get? (zl1 s.heap l1).objs.size = some _ := Heap.get?_push_of_some _ (Heap.get?_push_of_some _ (Heap.get?_push_of_some _ (Heap.get?_push_size _ rfl)))
  have e1 : (zl5 s.heap l1 l2).get? s.heap.objs.size = some _ := Heap.get?_push_of_some _ (Heap.get?_push_of_some _ (Heap.get?_push_of_some _ (Heap.get?_push_of_some _ (Heap.get?_push_size _ rfl))))
  show _ ∧ _
  rw [y2, y3, y4] at e5
  rw [y1, y2] at e3
  rw [y3] at e4
  rw [y1] at e2
  rw [y4]
  exact ⟨⟨_, e5, rfl⟩, go _ e5 e3 e4 ⟨_, e1, rfl, rfl⟩ ⟨_, e2, rfl, rfl⟩ y5 fun c o q => Heap.get?_push_of_some _ (Heap.get?_push_of_some _ (Heap.get?_push_of_some _ (Heap.get?_push_of_some _ (Heap.get?_push_of_some _ q))))⟩
end
def Itlt (K : PySem.W.Frag) (a b : Addr) : It :=
  ⟨fun i H => ∃ (xs ys : List V) (x y : V), SqL K H a xs ∧ SqT K H b ys ∧ xs[i]? = some x ∧ ys[i]? = some y,
    fun i H v H' => ∃ T x y, v = .ref T ∧ H T = none ∧ H' = upd H T (.tup [x, y]) ∧ (∀ xs, SqL K H a xs → xs[i]? = some x) ∧ ∀ ys, SqT K H b ys → ys[i]? = some y,
    fun i H => ∃ xs : List V, SqL K H a xs ∧ xs.length ≤ i⟩
theorem turn_zipLT {P : Program} {w : World} {K : PySem.W.Frag} {elts : List Expr} {kk : Nat} {tpos : Pos} {a b z ti tr i1 i2 : Addr} (D : ZipApart z ti tr i1 i2 a b) :
    Turn P w K (.Tuple elts kk tpos) (Itlt K a b) [z, ti, tr, i1, i2] z (fun i h => IsZip h z ti tr .none ∧ IsPair h ti (.ref i1) (.ref i2) ∧ (∃ x y, IsPair h tr x y) ∧ h.IsListIter i1 a i ∧ IsTupIter h i2 b i) where
  mem := by simp
  obj := fun i h st c hc => by
    obtain ⟨hz, hI, ⟨x, y, hR⟩, ⟨o1, e1, _, d1⟩, ⟨o2, e2, _, d2⟩⟩ := st
    have e' : c = z ∨ c = ti ∨ c = tr ∨ c = i1 ∨ c = i2 := by simpa using hc
    rcases e' with q | q | q | q | q
    · rw [q]; exact ⟨_, hz, fun v q => nomatch q⟩
    · rw [q]; exact ⟨_, hI, fun v q => nomatch q⟩
    · rw [q]; exact ⟨_, hR, fun v q => nomatch q⟩
    · rw [q]; exact ⟨o1, e1, fun v q => by rw [d1] at q; cases q⟩
    · rw [q]; exact ⟨o2, e2, fun v q => by rw [d2] at q; cases q⟩
  keep := fun i h h' st k => by
    obtain ⟨hz, hI, ⟨x, y, hR⟩, h1, h2⟩ := st
    exact ⟨k z (by simp) _ hz, k ti (by simp) _ hI, ⟨x, y, k tr (by simp) _ hR⟩, h1.at fun o q => k i1 (by simp) o q, IsTupIter.at' h2 fun o q => k i2 (by simp) o q⟩
  item := by
    intro X hP hw hK hc i pins s σ H E I hf st hg
    subst hP hw hK
    obtain ⟨hz, hI, ⟨x0, y0, hR⟩, h1, h2⟩ := st
    obtain ⟨xs, ys, x, y, hqx, hqy, hx, hy⟩ := hg
    obtain ⟨its, rv, p, _⟩ := I.list hqx
    obtain ⟨its2, rv2, p2, _⟩ := I.tuple hqy
    obtain ⟨u, hu, ru⟩ := rv.get hx
    obtain ⟨u2, hu2, ru2⟩ := rv2.get hy
    have hzl : z < s.heap.objs.size := Heap.lt_size hz
    refine zipLT_next D hz hI hR h1 h2 p.isList p2 (x := u) (y := u2) (by simpa using hu) (by simpa using hu2) fun h' z' r' h1' h2' hT hsz hk => ?_
    refine ⟨_, rfl, wpAny_letOwnedTupleGo_zip (s := { s with heap := h' }) z' fun h'' z'' sb => ?_⟩
    have hT2 : h''.get? s.heap.objs.size = some { cls := .type "tuple", data := .seq #[u, u2] } := (sb.2 _ (Nat.ne_of_gt hzl)).trans hT
    have new : ObjOk X.prog X.w (upd H s.heap.objs.size (.tup [x, y])) h'' s.heap.objs.size (.tup [x, y]) :=
      ⟨by show 2 ≤ sizeLine; decide, [u, u2], .cons ru (.cons ru2 .nil), ⟨_, hT2, rfl, _, rfl⟩⟩
    have I1 : Inv X pins σ (upd H s.heap.objs.size (.tup [x, y])) { s with heap := h'' } :=
      I.turnedNew (t' := s.toks) (ch := [z, ti, tr, i1, i2]) (fun c o hb q => (sb.2 c (fun q' => hb (by simp [q']))).trans (hk c o (fun q' => hb (by simp [q'])) (fun q' => hb (by simp [q'])) (fun q' => hb (by simp [q'])) (fun q' => hb (by simp [q'])) q)) hf (Nat.le_refl _) new
    refine ⟨.ref s.heap.objs.size, _, I1, rfl, ⟨_, x, y, rfl, I.hok.fresh (Nat.le_refl _), rfl, fun l hl => by rw [I.list_inj hl hqx]; exact hx, fun l hl => by rw [I.tuple_inj hl hqy]; exact hy⟩, ⟨z'', ?_, ⟨u, u2, ?_⟩, ?_, ?_⟩, fun c hcm => ?_⟩
    · exact (sb.2 _ D.TIz).trans (hk _ _ D.TIz D.TITO D.TIi1 D.TIi2 hI)
    · exact (sb.2 _ D.TOz).trans r'
    · exact h1'.at fun o q => (sb.2 _ D.i1z).trans q
    · exact IsTupIter.at' h2' fun o q => (sb.2 _ D.i2z).trans q
    · have hlt : c < s.heap.objs.size := by
        have e' : c = z ∨ c = ti ∨ c = tr ∨ c = i1 ∨ c = i2 := by simpa using hcm
        rcases e' with q | q | q | q | q
        · rw [q]; exact hzl
        · rw [q]; exact Heap.lt_size hI
        · rw [q]; exact Heap.lt_size hR
        · rw [q]; obtain ⟨_, e1, _⟩ := h1; exact Heap.lt_size e1
        · rw [q]; obtain ⟨_, e2, _⟩ := h2; exact Heap.lt_size e2
      rw [upd_ne (Nat.ne_of_lt hlt)]
      exact (hf c hcm).1
  done := by
    intro X hP hw hK hc i pins s σ H E I hf st hg
    subst hP hw hK
    obtain ⟨hz, hI, ⟨x0, y0, hR⟩, h1, h2⟩ := st
    obtain ⟨xs, hqx, hend⟩ := hg
    obtain ⟨its, rv, p, _⟩ := I.list hqx
    have l1 := rv.length
    exact zipLT_stop (I.ok.hd hc) D.i1z D.l1z hz hI hR h1 p.isList (by simp; omega) fun h' hk => ⟨rfl, I.turnedL (t' := s.toks) (ch := [z, ti, tr, i1, i2]) (fun c o hb q =>
      hk c o (fun q' => hb (by simp [q'])) (fun q' => hb (by simp [q'])) q) hf⟩
  self := fun A i s Q E st h => wpAny_pyIter_zip st.1 h
def iZipLT (K : PySem.W.Frag) (ta : TA) : TI := fun σ H R => ta σ H fun vs H1 => ∃ a b xs ys, vs = [.ref a, .ref b] ∧ SqL K H1 a xs ∧ SqT K H1 b ys ∧ R (Itlt K a b) H1
theorem pi_zipLT {X : Cx} {e e2 : Expr} {ta : TA} {p pos tpos : Pos} {elts : List Expr} {kk : Nat} (hg : Gl X "zip") (hm : X.mg "zip" = none) (ha : PA X [e, e2] ta)
    (hs : starEach [e, e2] X.env = (false, eval e X.env) :: starEach [e2] X.env := by rfl) (hpl : (backTo pos (starEach [e2] X.env)).any (·.1) = false := by rfl) :
    PI X (.Tuple elts kk tpos) (.Call (.Name "zip" p) [e, e2] [] pos) (iZipLT X.K ta) := by
  intro pins s σ H R I h
  refine Call_ (ld_blt I hg hm boot_zip5 (PyProof.Rows.callWith_type1 (thn (ha pos pins s σ H _ I h) fun us s1 ⟨vs, H1, I1, r1, q1⟩ => ?_) hs hpl))
  obtain ⟨a, b, xs, ys, ex, hqx, hqy, q⟩ := q1
  subst ex
  cases r1 with
  | cons r rr =>
    cases rr with
    | cons r' rr =>
      cases rr
      cases r
      cases r'
      obtain ⟨its, rv, p1, _⟩ := I1.list hqx
      obtain ⟨its2, rv2, p2, _⟩ := I1.tuple hqy
      have la : a < s1.heap.objs.size := p1.lt
      have lb : b < s1.heap.objs.size := p2.lt
      refine call_zipLT p1.isList p2 fun h' hz hI hR h1 h2 hsz hk => wpAny_pyIter_zip hz ?_
      have I2 : Inv X pins σ H1 { s1 with heap := h' } := I1.kept (t' := s1.toks) hk
      refine ⟨s1.heap.objs.size + 4, [s1.heap.objs.size + 4, s1.heap.objs.size + 2, s1.heap.objs.size + 3, s1.heap.objs.size, s1.heap.objs.size + 1], _, _, H1, rfl, I2, turn_zipLT (PySem.W.ktu_apart s1.heap.objs.size a b la lb), ⟨hz, hI, ⟨_, _, hR⟩, h1, h2⟩, fun c hcm => ?_, q⟩
      have e' : c = s1.heap.objs.size + 4 ∨ c = s1.heap.objs.size + 2 ∨ c = s1.heap.objs.size + 3 ∨ c = s1.heap.objs.size ∨ c = s1.heap.objs.size + 1 := by simpa using hcm
      have hle : s1.heap.objs.size ≤ c := by
        rcases e' with z | z | z | z | z <;> rw [z] <;> first | exact Nat.le_add_right _ _ | exact Nat.le_refl _
      exact I1.fpOk hle (I1.hok.fresh hle)
end L2
namespace Sg35
theorem len_dropWhile (p : Nat → Bool) : ∀ l : List Nat, (l.dropWhile p).length ≤ l.length
  | [] => Nat.le_refl _
  | a :: r => by
    rw [List.dropWhile_cons]
    split
    · exact Nat.le_succ_of_le (len_dropWhile p r)
    · exact Nat.le_refl _
theorem len_takeWhile (p : Nat → Bool) : ∀ l : List Nat, (l.takeWhile p).length ≤ l.length
  | [] => Nat.le_refl _
  | a :: r => by
    rw [List.takeWhile_cons]
    split
    · exact Nat.succ_le_succ (len_takeWhile p r)
    · exact Nat.zero_le _
theorem drop_takeWhile (p : Nat → Bool) : ∀ l : List Nat, l.drop (l.takeWhile p).length = l.dropWhile p
  | [] => rfl
  | a :: r => by
    rw [List.takeWhile_cons, List.dropWhile_cons]
    split
    · simpa using drop_takeWhile p r
    · rfl
theorem len_skip (b : B) : (skip b).length ≤ b.length := len_dropWhile _ _
theorem skip_skip (b : B) : skip (skip b) = skip b := by
  unfold skip
  induction b with
  | nil => rfl
  | cons a r ih =>
    rw [List.dropWhile_cons]
    split
    · exact ih
    · rename_i h
      rw [List.dropWhile_cons, if_neg h]
theorem noteEnd_len : ∀ {r s : B}, noteEnd r = some s → s.length < r.length
  | r, s, h => by
    unfold noteEnd at h
    split at h
    · cases h
      simp only [List.length_cons]
      omega
    · rename_i q _
      have := noteEnd_len h
      simp only [List.length_cons]
      omega
    · cases h
theorem nameAt_some {b n q : B} (h : nameAt b = some (n, q)) : ∃ c r, b = c :: r ∧ letter c = true ∧ n = b.takeWhile inName ∧ q = b.drop n.length := by
  unfold nameAt at h
  split at h
  · rename_i c r
    split at h
    · rename_i hc
      cases h
      exact ⟨c, r, rfl, hc, rfl, rfl⟩
    · cases h
  · cases h
theorem inName_of_letter {c : Nat} (h : letter c = true) : inName c = true := by unfold inName; rw [h]; rfl
theorem nameAt_len {b n q : B} (h : nameAt b = some (n, q)) : q.length < b.length ∧ 0 < n.length ∧ b = n ++ q := by
  obtain ⟨c, r, hb, hc, hn, hq⟩ := nameAt_some h
  have e : 0 < n.length := by
    rw [hn, hb, List.takeWhile_cons, if_pos (inName_of_letter hc)]
    simp
  have l : n.length ≤ b.length := by rw [hn]; exact len_takeWhile _ _
  refine ⟨by rw [hq, List.length_drop]; omega, e, ?_⟩
  rw [hq, hn, drop_takeWhile, List.takeWhile_append_dropWhile]
theorem misc_fuel : ∀ (f g : Nat) (b : B), b.length < f → b.length < g → misc f b = misc g b
  | 0, _, b, h, _ => by omega
  | _, 0, b, _, h => by omega
  | f + 1, g + 1, b, hf, hg => by
    unfold misc
    have hs := len_skip b
    split
    · rename_i r e
      cases hn : noteEnd r with
      | none => rfl
      | some s =>
        have := noteEnd_len hn
        rw [e] at hs
        simp only [List.length_cons] at hs
        exact misc_fuel f g s (by omega) (by omega)
    · rfl
def miscs (b : B) : Option B := misc (b.length + 1) b
theorem misc_is {f : Nat} {b : B} (h : b.length < f) : misc f b = miscs b := misc_fuel _ _ _ h (Nat.lt_succ_self _)
theorem miscs_note {b r : B} (e : skip b = 60 :: 33 :: 45 :: 45 :: r) : miscs b = (noteEnd r).bind miscs := by
  unfold miscs
  rw [misc]
  have hs := len_skip b
  split
  · rename_i r' e'
    rw [e] at e'
    cases e'
    cases hn : noteEnd r with
    | none => rfl
    | some s =>
      have := noteEnd_len hn
      rw [e] at hs
      simp only [List.length_cons] at hs
      exact misc_is (by omega)
  · rename_i hno
    exact absurd e (hno r)
theorem miscs_end {b : B} (e : ∀ r, skip b ≠ 60 :: 33 :: 45 :: 45 :: r) : miscs b = some (skip b) := by
  unfold miscs
  rw [misc]
  split
  · rename_i r' e'
    exact absurd e' (e r')
  · rfl
theorem attrsAt_fuel : ∀ (f g : Nat) (b : B), b.length < f → b.length < g → attrsAt f b = attrsAt g b
  | 0, _, b, h, _ => by omega
  | _, 0, b, _, h => by omega
  | f + 1, g + 1, b, hf, hg => by
    unfold attrsAt
    have hs := len_skip b
    dsimp only
    split
    · rfl
    · rename_i x hx
      obtain ⟨n, q⟩ := x
      have hl := nameAt_len hx
      split
      · rfl
      · split
        · rename_i q' v e
          dsimp only at e
          subst e
          simp only [List.length_cons] at hl
          split
          · have : (v.drop ((v.takeWhile (valueByte q')).length + 1)).length ≤ v.length := by rw [List.length_drop]; omega
            rw [attrsAt_fuel f g (v.drop ((v.takeWhile (valueByte q')).length + 1)) (by omega) (by omega)]
          · rfl
        · rfl
def attrs (b : B) : Option (List (B × B) × B) := attrsAt (b.length + 1) b
theorem attrsAt_is {f : Nat} {b : B} (h : b.length < f) : attrsAt f b = attrs b := attrsAt_fuel _ _ _ h (Nat.lt_succ_self _)
theorem attrs_none {b : B} (h : nameAt (skip b) = none) : attrs b = some ([], skip b) := by
  unfold attrs
  rw [attrsAt]
  dsimp only
  rw [h]
theorem attrs_near {b : B} {x : B × B} (h : nameAt (skip b) = some x) (e : (skip b).length = b.length) : attrs b = none := by
  unfold attrs
  rw [attrsAt]
  dsimp only
  rw [h]
  dsimp only
  rw [if_pos e]
def valueAt (b : B) : Option (B × B) := match b with
  | 61 :: q :: v => if q = 34 ∨ q = 39 then (if (v.drop (v.takeWhile (valueByte q)).length).head? = some q then some (v.takeWhile (valueByte q), v.drop ((v.takeWhile (valueByte q)).length + 1)) else none) else none
  | _ => none
theorem valueAt_cons (q : Nat) (v : B) : valueAt (61 :: q :: v) = if q = 34 ∨ q = 39 then (if (v.drop (v.takeWhile (valueByte q)).length).head? = some q then some (v.takeWhile (valueByte q), v.drop ((v.takeWhile (valueByte q)).length + 1)) else none) else none := rfl
theorem valueAt_no {b : B} (h : ∀ q v, b ≠ 61 :: q :: v) : valueAt b = none := by
  unfold valueAt
  split
  · rename_i q v
    exact absurd rfl (h q v)
  · rfl
theorem valueAt_len {b w r : B} (h : valueAt b = some (w, r)) : r.length < b.length := by
  unfold valueAt at h
  split at h
  · split at h
    · split at h
      · cases h
        rw [List.length_drop]
        simp only [List.length_cons]
        omega
      · cases h
    · cases h
  · cases h
theorem attrs_more {b n q : B} (h : nameAt (skip b) = some (n, q)) (e : (skip b).length ≠ b.length) :
    attrs b = (valueAt q).bind fun v => (attrs v.2).bind fun z => if (z.1.any fun a => a.1 == n) = true then none else some ((n, v.1) :: z.1, z.2) := by
  unfold attrs
  rw [attrsAt]
  have hs := len_skip b
  dsimp only
  rw [h]
  dsimp only
  rw [if_neg e]
  have hl := nameAt_len h
  split
  · rename_i q' v
    simp only [List.length_cons] at hl
    rw [valueAt_cons]
    by_cases hq : q' = 34 ∨ q' = 39
    · rw [if_pos hq, if_pos hq]
      by_cases hv : (v.drop (v.takeWhile (valueByte q')).length).head? = some q'
      · rw [if_pos hv, if_pos hv]
        have : (v.drop ((v.takeWhile (valueByte q')).length + 1)).length ≤ v.length := by rw [List.length_drop]; omega
        rw [attrsAt_is (f := b.length) (by omega)]
        rfl
      · rw [if_neg hv, if_neg hv]
        rfl
    · rw [if_neg hq, if_neg hq]
      rfl
  · rename_i hno
    rw [valueAt_no hno]
    rfl
def unsigned (b : B) : B := if (b.head? == some 45 || b.head? == some 43) = true then b.drop 1 else b
theorem unsigned_len (b : B) : (unsigned b).length ≤ b.length := by
  unfold unsigned
  split
  · rw [List.length_drop]; omega
  · exact Nat.le_refl _
theorem numberAt_eq (b : B) : numberAt b = if (unsigned b).takeWhile digit = [] ∨ 5 < ((unsigned b).takeWhile digit).length ∨ MOST < natOf ((unsigned b).takeWhile digit) then none
    else some (if b.head? = some 45 then -(natOf ((unsigned b).takeWhile digit) : Int) else natOf ((unsigned b).takeWhile digit), (unsigned b).drop ((unsigned b).takeWhile digit).length) := rfl
theorem numberAt_len {b r : B} {z : Int} (h : numberAt b = some (z, r)) : r.length < b.length := by
  rw [numberAt_eq] at h
  split at h
  · cases h
  · rename_i hn
    have h2 := congrArg Prod.snd (Option.some.inj h)
    dsimp only at h2
    rw [← h2, List.length_drop]
    have h0 : 0 < ((unsigned b).takeWhile digit).length := List.length_pos_iff.mpr fun e => hn (Or.inl e)
    have hle := len_takeWhile digit (unsigned b)
    have := unsigned_len b
    omega
theorem between_len {b r : B} (h : between b = some r) : r.length ≤ b.length := by
  unfold between at h
  dsimp only at h
  have hs := len_skip b
  split at h
  · rename_i q e
    cases h
    have := len_skip q
    rw [e] at hs
    simp only [List.length_cons] at hs
    omega
  · split at h
    · cases h
      exact hs
    · cases h
theorem numbersAt_fuel : ∀ (f g : Nat) (b : B), b.length < f → b.length < g → numbersAt f b = numbersAt g b
  | 0, _, b, h, _ => by omega
  | _, 0, b, _, h => by omega
  | f + 1, g + 1, b, hf, hg => by
    unfold numbersAt
    cases hx : numberAt b with
    | none => rfl
    | some x =>
      obtain ⟨z, q⟩ := x
      have hl := numberAt_len hx
      dsimp only [Option.bind_some]
      split
      · cases hb : between q with
        | none => rfl
        | some r =>
          have := between_len hb
          dsimp only [Option.bind_some]
          rw [numbersAt_fuel f g r (by omega) (by omega)]
      · rfl
def numbers (b : B) : Option (List Int × B) := numbersAt (b.length + 1) b
theorem numbersAt_is {f : Nat} {b : B} (h : b.length < f) : numbersAt f b = numbers b := numbersAt_fuel _ _ _ h (Nat.lt_succ_self _)
theorem numbers_eq (b : B) : numbers b = (numberAt b).bind fun x => if beginsNumber (skip x.2) = true ∨ (skip x.2).head? = some 44 then (between x.2).bind fun r => (numbers r).map fun y => (x.1 :: y.1, y.2) else some ([x.1], skip x.2) := by
  unfold numbers
  rw [numbersAt]
  cases hx : numberAt b with
  | none => rfl
  | some x =>
    obtain ⟨z, q⟩ := x
    have hl := numberAt_len hx
    dsimp only [Option.bind_some]
    split
    · cases hb : between q with
      | none => rfl
      | some r =>
        have := between_len hb
        dsimp only [Option.bind_some]
        rw [numbersAt_is (by omega)]
        rfl
    · rfl
theorem len_dropT (p : Nat → Bool) (l : B) : (l.drop (l.takeWhile p).length).length ≤ l.length := by rw [List.length_drop]; omega
def turningAt (r : B) : Option (Mat × B) := match r.drop (r.takeWhile letter).length with
  | 40 :: q => if (q.takeWhile fun c => c != 41).length = q.length then none else (row (q.takeWhile fun c => c != 41)).bind fun l => (turning (r.takeWhile letter) l).map fun t => (t, q.drop ((q.takeWhile fun c => c != 41).length + 1))
  | _ => none
theorem turningAt_cons {r q : B} (e : r.drop (r.takeWhile letter).length = 40 :: q) : turningAt r = if (q.takeWhile fun c => c != 41).length = q.length then none else (row (q.takeWhile fun c => c != 41)).bind fun l => (turning (r.takeWhile letter) l).map fun t => (t, q.drop ((q.takeWhile fun c => c != 41).length + 1)) := by
  unfold turningAt
  rw [e]
  rfl
theorem turningAt_no {r : B} (h : ∀ q, r.drop (r.takeWhile letter).length ≠ 40 :: q) : turningAt r = none := by
  unfold turningAt
  split
  · rename_i q e
    exact absurd e (h q)
  · rfl
theorem turningAt_len {r q : B} {t : Mat} (h : turningAt r = some (t, q)) : q.length < r.length := by
  unfold turningAt at h
  have hl := len_dropT letter r
  split at h
  · rename_i v e
    rw [e] at hl
    simp only [List.length_cons] at hl
    split at h
    · cases h
    · cases hr : row (v.takeWhile fun c => c != 41) with
      | none => rw [hr] at h; cases h
      | some l =>
        rw [hr] at h
        dsimp only [Option.bind_some] at h
        cases ht : turning (r.takeWhile letter) l with
        | none => rw [ht] at h; cases h
        | some m =>
          rw [ht] at h
          cases h
          rw [List.length_drop]
          omega
  · cases h
theorem turnings_step (f : Nat) (m : Mat) (b : B) : turnings (f + 1) m b = if skip b = [] then some m else (turningAt (skip b)).bind fun x => if (m.times x.1).fits = true then turnings f (m.times x.1) x.2 else none := by
  rw [turnings]
  dsimp only
  by_cases h : skip b = []
  · rw [if_pos h, if_pos h]
  · rw [if_neg h, if_neg h]
    split
    · rename_i q e
      rw [turningAt_cons e]
      by_cases hw : (q.takeWhile fun c => c != 41).length = q.length
      · rw [if_pos hw, if_pos hw]
        rfl
      · rw [if_neg hw, if_neg hw]
        cases row (q.takeWhile fun c => c != 41) with
        | none => rfl
        | some l =>
          dsimp only [Option.bind_some]
          cases turning ((skip b).takeWhile letter) l with
          | none => rfl
          | some t => rfl
    · rename_i hno
      rw [turningAt_no hno]
      rfl
theorem turnings_fuel : ∀ (f g : Nat) (m : Mat) (b : B), b.length < f → b.length < g → turnings f m b = turnings g m b
  | 0, _, _, b, h, _ => by omega
  | _, 0, _, b, _, h => by omega
  | f + 1, g + 1, m, b, hf, hg => by
    rw [turnings_step, turnings_step]
    have hs := len_skip b
    split
    · rfl
    · cases hx : turningAt (skip b) with
      | none => rfl
      | some x =>
        obtain ⟨t, q⟩ := x
        have := turningAt_len hx
        dsimp only [Option.bind_some]
        rw [turnings_fuel f g _ q (by omega) (by omega)]
def turned (m : Mat) (b : B) : Option Mat := turnings (b.length + 1) m b
theorem turnings_is {f : Nat} {m : Mat} {b : B} (h : b.length < f) : turnings f m b = turned m b := turnings_fuel _ _ _ _ h (Nat.lt_succ_self _)
theorem turned_eq (m : Mat) (b : B) : turned m b = if skip b = [] then some m else (turningAt (skip b)).bind fun x => if (m.times x.1).fits = true then turned (m.times x.1) x.2 else none := by
  unfold turned
  rw [turnings_step]
  have hs := len_skip b
  split
  · rfl
  · cases hx : turningAt (skip b) with
    | none => rfl
    | some x =>
      obtain ⟨t, q⟩ := x
      have := turningAt_len hx
      dsimp only [Option.bind_some]
      rw [turnings_is (by omega)]
      rfl
theorem numbers_len {b r : B} {l : List Int} (h : numbers b = some (l, r)) : r.length < b.length := by
  rw [numbers_eq] at h
  cases hx : numberAt b with
  | none => rw [hx] at h; cases h
  | some x =>
    obtain ⟨z, q⟩ := x
    have hl := numberAt_len hx
    rw [hx] at h
    dsimp only [Option.bind_some] at h
    split at h
    · cases hb : between q with
      | none => rw [hb] at h; cases h
      | some v =>
        rw [hb] at h
        dsimp only [Option.bind_some] at h
        cases hy : numbers v with
        | none => rw [hy] at h; cases h
        | some y =>
          obtain ⟨l', r'⟩ := y
          have h1 := between_len hb
          have h2 := numbers_len hy
          rw [hy] at h
          cases h
          dsimp only
          omega
    · cases h
      have := len_skip q
      omega
termination_by b.length
decreasing_by omega
def capital (c : Nat) : Nat := if decide (97 ≤ c) = true then c - 32 else c
def Pen.shut (p : Pen) : Pen := { p with x := p.sx, y := p.sy, line := [], done := if p.line = [] then p.done else p.done ++ [p.line.reverse] }
theorem letters_step (f : Nat) (p : Pen) (b : B) : Pen.letters (f + 1) p b = match skip b with
    | [] => some p
    | c :: r => if capital c = 90 then Pen.letters f p.shut r else if letter c = false ∨ arity (capital c) = 0 then none
      else (numbers (skip r)).bind fun x => (Pen.rows (x.1.length + 1) p (capital c) (decide (97 ≤ c)) x.1).bind fun q => Pen.letters f q x.2 := by
  rw [Pen.letters]
  split
  · rename_i e
    rw [e]
  · rename_i c r e
    rw [e]
    dsimp only
    have := len_skip r
    rw [numbersAt_is (by omega)]
    rfl
theorem letters_fuel : ∀ (f g : Nat) (p : Pen) (b : B), b.length < f → b.length < g → Pen.letters f p b = Pen.letters g p b
  | 0, _, _, b, h, _ => by omega
  | _, 0, _, b, _, h => by omega
  | f + 1, g + 1, p, b, hf, hg => by
    rw [letters_step, letters_step]
    have hs := len_skip b
    split
    · rfl
    · rename_i c r e
      rw [e] at hs
      simp only [List.length_cons] at hs
      rw [letters_fuel f g _ r (by omega) (by omega)]
      split
      · rfl
      · split
        · rfl
        · cases hx : numbers (skip r) with
          | none => rfl
          | some x =>
            obtain ⟨l, q⟩ := x
            have h1 := numbers_len hx
            have h2 := len_skip r
            dsimp only [Option.bind_some]
            cases Pen.rows (l.length + 1) p (capital c) (decide (97 ≤ c)) l with
            | none => rfl
            | some pp => exact letters_fuel f g pp q (by omega) (by omega)
def Pen.goes (p : Pen) (b : B) : Option Pen := Pen.letters (b.length + 1) p b
theorem letters_is {f : Nat} {p : Pen} {b : B} (h : b.length < f) : Pen.letters f p b = p.goes b := letters_fuel _ _ _ _ h (Nat.lt_succ_self _)
theorem goes_nil {p : Pen} {b : B} (e : skip b = []) : p.goes b = some p := by
  unfold Pen.goes
  rw [letters_step, e]
theorem goes_cons {p : Pen} {b r : B} {c : Nat} (e : skip b = c :: r) : p.goes b = if capital c = 90 then p.shut.goes r else if letter c = false ∨ arity (capital c) = 0 then none
      else (numbers (skip r)).bind fun x => (Pen.rows (x.1.length + 1) p (capital c) (decide (97 ≤ c)) x.1).bind fun q => q.goes x.2 := by
  unfold Pen.goes
  rw [letters_step, e]
  have hs := len_skip b
  rw [e] at hs
  simp only [List.length_cons] at hs
  dsimp only
  rw [letters_is (b := r) (by omega)]
  split
  · rfl
  · split
    · rfl
    · cases hx : numbers (skip r) with
      | none => rfl
      | some x =>
        obtain ⟨l, q⟩ := x
        have h1 := numbers_len hx
        have h2 := len_skip r
        dsimp only [Option.bind_some]
        cases Pen.rows (l.length + 1) p (capital c) (decide (97 ≤ c)) l with
        | none => rfl
        | some pp => exact letters_is (by omega)
theorem attrs_len {b r : B} {l : List (B × B)} (h : attrs b = some (l, r)) : r.length ≤ b.length := by
  cases hn : nameAt (skip b) with
  | none =>
    rw [attrs_none hn] at h
    cases h
    exact len_skip b
  | some x =>
    by_cases e : (skip b).length = b.length
    · rw [attrs_near hn e] at h
      cases h
    · obtain ⟨n, q⟩ := x
      rw [attrs_more hn e] at h
      have h0 := len_skip b
      have h1 := (nameAt_len hn).1
      cases hv : valueAt q with
      | none => rw [hv] at h; cases h
      | some v =>
        obtain ⟨w, u⟩ := v
        have h2 := valueAt_len hv
        rw [hv] at h
        dsimp only [Option.bind_some] at h
        cases ha : attrs u with
        | none => rw [ha] at h; cases h
        | some z =>
          obtain ⟨l', r'⟩ := z
          have h3 := attrs_len ha
          rw [ha] at h
          dsimp only [Option.bind_some] at h
          split at h
          · cases h
          · cases h
            omega
termination_by b.length
decreasing_by omega
theorem miscs_len {b r : B} (h : miscs b = some r) : r.length ≤ b.length := by
  have h0 := len_skip b
  by_cases e : ∃ q, skip b = 60 :: 33 :: 45 :: 45 :: q
  · obtain ⟨q, e⟩ := e
    rw [miscs_note e] at h
    cases hn : noteEnd q with
    | none => rw [hn] at h; cases h
    | some s =>
      have h1 := noteEnd_len hn
      rw [e] at h0
      simp only [List.length_cons] at h0
      rw [hn] at h
      have hlt : s.length < b.length := by omega
      have h2 := miscs_len (b := s) (r := r) h
      omega
  · rw [miscs_end fun q z => e ⟨q, z⟩] at h
    cases h
    exact h0
termination_by b.length
decreasing_by
  simp_wf
  omega
end Sg35
namespace Sg35
structure Tag where
  name : B
  attrs : List (B × B)
  shut : Bool
  rest : B
def tagEnd (n : B) (a : List (B × B)) (r : B) : Option Tag := match r with
  | 47 :: 62 :: q => some ⟨n, a, true, q⟩
  | 62 :: q => some ⟨n, a, false, q⟩
  | _ => none
def tagAt (b : B) : Option Tag := (nameAt b).bind fun n => (attrs n.2).bind fun a => tagEnd n.1 a.1 a.2
def closeEnd (n m r : B) : Option B := match r with
  | 62 :: q => if m = n then some q else none
  | _ => none
def closeAt (n b : B) : Option B := (nameAt b).bind fun m => closeEnd n m.1 m.2
theorem tagEnd_len {n : B} {a : List (B × B)} {r : B} {t : Tag} (h : tagEnd n a r = some t) : t.rest.length < r.length := by
  unfold tagEnd at h
  split at h
  · cases h; simp only [List.length_cons]; omega
  · cases h; simp only [List.length_cons]; omega
  · cases h
theorem tagAt_len {b : B} {t : Tag} (h : tagAt b = some t) : t.rest.length + 1 < b.length := by
  unfold tagAt at h
  cases hn : nameAt b with
  | none => rw [hn] at h; cases h
  | some n =>
    rw [hn] at h
    dsimp only [Option.bind_some] at h
    obtain ⟨n, q⟩ := n
    have h1 := (nameAt_len hn).1
    cases ha : attrs q with
    | none => rw [ha] at h; cases h
    | some a =>
      obtain ⟨a, r⟩ := a
      rw [ha] at h
      dsimp only [Option.bind_some] at h
      have h2 := attrs_len ha
      have h3 := tagEnd_len h
      omega
theorem closeEnd_len {n m r q : B} (h : closeEnd n m r = some q) : q.length < r.length := by
  unfold closeEnd at h
  split at h
  · split at h
    · cases h; simp only [List.length_cons]; omega
    · cases h
  · cases h
theorem closeAt_len {n b q : B} (h : closeAt n b = some q) : q.length + 1 < b.length := by
  unfold closeAt at h
  cases hn : nameAt b with
  | none => rw [hn] at h; cases h
  | some m =>
    rw [hn] at h
    obtain ⟨m, r⟩ := m
    have h1 := (nameAt_len hn).1
    dsimp only [Option.bind_some] at h
    have h2 := closeEnd_len h
    omega
theorem tagEnd_shut (n : B) (a : List (B × B)) (q : B) : tagEnd n a (47 :: 62 :: q) = some ⟨n, a, true, q⟩ := rfl
theorem tagEnd_open (n : B) (a : List (B × B)) (q : B) : tagEnd n a (62 :: q) = some ⟨n, a, false, q⟩ := rfl
theorem tagEnd_no {n : B} {a : List (B × B)} {r : B} (h1 : ∀ q, r ≠ 47 :: 62 :: q) (h2 : ∀ q, r ≠ 62 :: q) : tagEnd n a r = none := by
  unfold tagEnd
  split
  · exact absurd rfl (h1 _)
  · exact absurd rfl (h2 _)
  · rfl
theorem closeEnd_cons (n m q : B) : closeEnd n m (62 :: q) = if m = n then some q else none := rfl
theorem closeEnd_no {n m r : B} (h : ∀ q, r ≠ 62 :: q) : closeEnd n m r = none := by
  unfold closeEnd
  split
  · exact absurd rfl (h _)
  · rfl
theorem element_step (f : Nat) (b : B) : element (f + 1) b = (tagAt b).bind fun t => if t.shut = true then some (.mk t.name t.attrs [], t.rest)
    else (content f t.rest).bind fun k => (closeAt t.name k.2).map fun q => (.mk t.name t.attrs k.1, q) := by
  rw [element]
  unfold tagAt
  cases hn : nameAt b with
  | none => rfl
  | some n =>
    obtain ⟨n, q⟩ := n
    have h1 := (nameAt_len hn).1
    dsimp only [Option.bind_some]
    rw [attrsAt_is (f := b.length + 1) (by omega)]
    cases attrs q with
    | none => rfl
    | some a =>
      obtain ⟨a, r⟩ := a
      dsimp only [Option.bind_some]
      split
      · rw [tagEnd_shut]
        rfl
      · rename_i q'
        rw [tagEnd_open]
        dsimp only [Option.bind_some]
        rw [if_neg (by decide)]
        cases content f q' with
        | none => rfl
        | some k =>
          dsimp only [Option.bind_some]
          unfold closeAt
          cases nameAt k.2 with
          | none => rfl
          | some m =>
            dsimp only [Option.bind_some]
            split
            · rename_i q2 e2
              rw [e2, closeEnd_cons]
              split
              · rfl
              · rfl
            · rename_i h2
              rw [closeEnd_no h2]
              rfl
      · rename_i h2 h3
        rw [tagEnd_no h2 h3]
        rfl
def kidsEnd (f : Nat) (r : B) : Option (List El × B) := match r with
  | 60 :: 47 :: q => some ([], q)
  | 60 :: q => (element f q).bind fun x => (content f x.2).map fun y => (x.1 :: y.1, y.2)
  | _ => none
theorem content_step (f : Nat) (b : B) : content (f + 1) b = (miscs b).bind fun r => kidsEnd f r := by
  rw [content]
  rfl
mutual
theorem element_len : ∀ {f : Nat} {b q : B} {x : El}, element f b = some (x, q) → q.length + 1 < b.length
  | 0, b, q, x, h => by rw [element] at h; cases h
  | f + 1, b, q, x, h => by
    rw [element_step] at h
    cases ht : tagAt b with
    | none => rw [ht] at h; cases h
    | some t =>
      have h1 := tagAt_len ht
      rw [ht] at h
      dsimp only [Option.bind_some] at h
      split at h
      · cases h
        exact h1
      · cases hc : content f t.rest with
        | none => rw [hc] at h; cases h
        | some k =>
          obtain ⟨ks, r⟩ := k
          have h2 := content_len hc
          rw [hc] at h
          dsimp only [Option.bind_some] at h
          cases hq : closeAt t.name r with
          | none => rw [hq] at h; cases h
          | some v =>
            have h3 := closeAt_len hq
            rw [hq] at h
            cases h
            omega
theorem content_len : ∀ {f : Nat} {b q : B} {x : List El}, content f b = some (x, q) → q.length < b.length
  | 0, b, q, x, h => by rw [content] at h; cases h
  | f + 1, b, q, x, h => by
    rw [content_step] at h
    cases hm : miscs b with
    | none => rw [hm] at h; cases h
    | some r =>
      have h1 := miscs_len hm
      rw [hm] at h
      dsimp only [Option.bind_some] at h
      unfold kidsEnd at h
      split at h
      · cases h
        simp only [List.length_cons] at h1
        omega
      · rename_i v _
        simp only [List.length_cons] at h1
        cases he : element f v with
        | none => rw [he] at h; cases h
        | some y =>
          obtain ⟨y, u⟩ := y
          have h2 := element_len he
          rw [he] at h
          dsimp only [Option.bind_some] at h
          cases hc : content f u with
          | none => rw [hc] at h; cases h
          | some k =>
            obtain ⟨ks, r⟩ := k
            have h3 := content_len hc
            rw [hc] at h
            simp only [Option.map_some, Option.some.injEq, Prod.mk.injEq] at h
            obtain ⟨_, rfl⟩ := h
            omega
      · cases h
end
mutual
theorem element_fuel : ∀ (f g : Nat) (b : B), 2 * b.length + 1 ≤ f → 2 * b.length + 1 ≤ g → element f b = element g b
  | 0, _, b, h, _ => by omega
  | _, 0, b, _, h => by omega
  | f + 1, g + 1, b, hf, hg => by
    rw [element_step, element_step]
    cases ht : tagAt b with
    | none => rfl
    | some t =>
      have h1 := tagAt_len ht
      dsimp only [Option.bind_some]
      rw [content_fuel f g t.rest (by omega) (by omega)]
theorem content_fuel : ∀ (f g : Nat) (b : B), 2 * b.length + 2 ≤ f → 2 * b.length + 2 ≤ g → content f b = content g b
  | 0, _, b, h, _ => by omega
  | _, 0, b, _, h => by omega
  | f + 1, g + 1, b, hf, hg => by
    rw [content_step, content_step]
    cases hm : miscs b with
    | none => rfl
    | some r =>
      have h1 := miscs_len hm
      dsimp only [Option.bind_some]
      unfold kidsEnd
      split
      · rfl
      · rename_i v _
        simp only [List.length_cons] at h1
        rw [element_fuel f g v (by omega) (by omega)]
        cases he : element g v with
        | none => rfl
        | some y =>
          obtain ⟨y, u⟩ := y
          have h2 := element_len he
          dsimp only [Option.bind_some]
          rw [content_fuel f g u (by omega) (by omega)]
      · rfl
end
def kids (b : B) : Option (List El × B) := content (2 * b.length + 2) b
def el (b : B) : Option (El × B) := element (2 * b.length + 1) b
theorem content_is {f : Nat} {b : B} (h : 2 * b.length + 2 ≤ f) : content f b = kids b := content_fuel _ _ _ h (Nat.le_refl _)
theorem element_is {f : Nat} {b : B} (h : 2 * b.length + 1 ≤ f) : element f b = el b := element_fuel _ _ _ h (Nat.le_refl _)
theorem el_eq (b : B) : el b = (tagAt b).bind fun t => if t.shut = true then some (.mk t.name t.attrs [], t.rest) else (kids t.rest).bind fun k => (closeAt t.name k.2).map fun q => (.mk t.name t.attrs k.1, q) := by
  unfold el
  rw [element_step]
  cases ht : tagAt b with
  | none => rfl
  | some t =>
    have h1 := tagAt_len ht
    dsimp only [Option.bind_some]
    rw [content_is (by omega)]
theorem kids_end {b q : B} (h : miscs b = some (60 :: 47 :: q)) : kids b = some ([], q) := by
  unfold kids
  rw [content_step, h]
  rfl
theorem kids_more {b q : B} (h : miscs b = some (60 :: q)) (hq : ∀ v, q ≠ 47 :: v) : kids b = (el q).bind fun x => (kids x.2).map fun y => (x.1 :: y.1, y.2) := by
  unfold kids
  rw [content_step, h]
  have h1 := miscs_len h
  simp only [List.length_cons] at h1
  dsimp only [Option.bind_some]
  unfold kidsEnd
  split
  · rename_i v e
    cases e
    exact absurd rfl (hq v)
  · rename_i v _ e
    cases e
    rw [element_is (by omega)]
    cases he : el q with
    | none => rfl
    | some y =>
      obtain ⟨y, u⟩ := y
      have h2 := element_len he
      dsimp only [Option.bind_some]
      rw [content_is (by omega)]
      rfl
  · rename_i h2
    exact absurd rfl (h2 q)
theorem kids_no {b : B} (h : ∀ q, miscs b ≠ some (60 :: q)) : kids b = none := by
  unfold kids
  rw [content_step]
  cases hm : miscs b with
  | none => rfl
  | some r =>
    dsimp only [Option.bind_some]
    unfold kidsEnd
    split
    · rename_i v
      exact absurd hm (h _)
    · rename_i v _
      exact absurd hm (h _)
    · rfl
structure Fr where
  name : B
  shape : Bool
  k : Nat
  style : Style
def evalKids (h : Fr) (ks : List El) : Option (List Shape) := if h.shape = true then (if ks.isEmpty = true then some [] else none) else allShapes h.k h.style ks
theorem evalKids_group {h : Fr} (e : h.shape = false) (ks : List El) : evalKids h ks = allShapes h.k h.style ks := by
  unfold evalKids
  rw [e, if_neg Bool.false_ne_true]
theorem evalKids_shape {h : Fr} (e : h.shape = true) (ks : List El) : evalKids h ks = if ks.isEmpty = true then some [] else none := by
  unfold evalKids
  rw [if_pos e]
theorem allShapes_nil (k : Nat) (s : Style) : allShapes k s [] = some [] := by rw [allShapes.eq_def]
theorem allShapes_cons (k : Nat) (s : Style) (e : El) (r : List El) : allShapes k s (e :: r) = (shapes k s e).bind fun x => (allShapes k s r).map fun y => x ++ y := by rw [allShapes.eq_def]
theorem evalKids_nil (h : Fr) : evalKids h [] = some [] := by
  unfold evalKids
  split
  · rfl
  · exact allShapes_nil _ _
def child (h : Fr) (n : B) (as : List (B × B)) : Option (Fr × List Shape) :=
  if h.shape = true then none
  else if n = ascii "g" then (if h.k = 0 then none else (styled h.style as true).map fun t => (⟨n, false, h.k - 1, t⟩, []))
  else (kindOf n as).bind fun q => (styled h.style as true).map fun t => (⟨n, true, 0, t⟩, [⟨q, t.fill, t.odd, t.mat⟩])
theorem shapes_g (k : Nat) (s : Style) (as : List (B × B)) (ks : List El) {n : B} (hg : n = ascii "g") : shapes k s (.mk n as ks) = if k = 0 then none else (styled s as true).bind fun t => allShapes (k - 1) t ks := by
  cases k with
  | zero =>
    rw [shapes.eq_def]
    dsimp only
    rw [if_pos hg]
    rfl
  | succ k =>
    rw [shapes.eq_def]
    dsimp only
    rw [if_pos hg]
    rfl
theorem shapes_no (k : Nat) (s : Style) (as : List (B × B)) (ks : List El) {n : B} (hg : ¬ n = ascii "g") : shapes k s (.mk n as ks) = (kindOf n as).bind fun q => (styled s as true).bind fun t => if ks.isEmpty = true then some [⟨q, t.fill, t.odd, t.mat⟩] else none := by
  rw [shapes.eq_def]
  dsimp only
  rw [if_neg hg]
theorem shapes_child {h : Fr} (hs : h.shape = false) (n : B) (as : List (B × B)) (ks : List El) : shapes h.k h.style (.mk n as ks) = (child h n as).bind fun c => (evalKids c.1 ks).map fun l => c.2 ++ l := by
  unfold child
  rw [hs]
  rw [if_neg (show ¬ false = true from Bool.false_ne_true)]
  by_cases hg : n = ascii "g"
  · rw [if_pos hg, shapes_g _ _ _ _ hg]
    cases hk : h.k with
    | zero => rfl
    | succ k =>
      rw [if_neg (by omega), if_neg (by omega)]
      cases styled h.style as true with
      | none => rfl
      | some t =>
        dsimp only [Option.bind_some, Option.map_some]
        rw [evalKids_group rfl]
        dsimp only
        rw [Nat.add_sub_cancel]
        cases allShapes k t ks with
        | none => rfl
        | some l => rfl
  · rw [if_neg hg, shapes_no _ _ _ _ hg]
    cases kindOf n as with
    | none => rfl
    | some q =>
      dsimp only [Option.bind_some]
      cases styled h.style as true with
      | none => rfl
      | some t =>
        dsimp only [Option.bind_some, Option.map_some]
        rw [evalKids_shape rfl]
        split
        · rfl
        · rfl
theorem child_name {h : Fr} {n : B} {as : List (B × B)} {c : Fr × List Shape} (e : child h n as = some c) : c.1.name = n := by
  unfold child at e
  split at e
  · cases e
  · split at e
    · split at e
      · cases e
      · cases hs : styled h.style as true with
        | none => rw [hs] at e; cases e
        | some t => rw [hs] at e; cases e; rfl
    · cases hk : kindOf n as with
      | none => rw [hk] at e; cases e
      | some q =>
        rw [hk] at e
        dsimp only [Option.bind_some] at e
        cases hs : styled h.style as true with
        | none => rw [hs] at e; cases e
        | some t => rw [hs] at e; cases e; rfl
theorem child_shape {h : Fr} (e : h.shape = true) (n : B) (as : List (B × B)) : child h n as = none := by
  unfold child
  rw [if_pos e]
inductive Met where
  | shut (q : B)
  | tag (t : Tag)
def met (b : B) : Option Met := match b with
  | 60 :: 47 :: q => some (.shut q)
  | 60 :: q => (tagAt q).map .tag
  | _ => none
def runF : Nat → List Fr → B → Option (List Shape × B)
  | _, [], b => some ([], b)
  | 0, _ :: _, _ => none
  | f + 1, h :: hs, b => (miscs b).bind fun r => (met r).bind fun m => match m with
    | .shut q => (closeAt h.name q).bind fun q' => runF f hs q'
    | .tag t => (child h t.name t.attrs).bind fun c => (runF f (if t.shut = true then h :: hs else c.1 :: h :: hs) t.rest).map fun y => (c.2 ++ y.1, y.2)
def Met.rest : Met → B
  | .shut q => q
  | .tag t => t.rest
theorem met_len {b : B} {m : Met} (h : met b = some m) : m.rest.length < b.length := by
  unfold met at h
  split at h
  · cases h; simp only [List.length_cons, Met.rest]; omega
  · rename_i q _
    cases ht : tagAt q with
    | none => rw [ht] at h; cases h
    | some t =>
      rw [ht] at h
      cases h
      have := tagAt_len ht
      simp only [List.length_cons, Met.rest]
      omega
  · cases h
theorem runF_fuel : ∀ (f g : Nat) (hs : List Fr) (b : B), b.length < f → b.length < g → runF f hs b = runF g hs b
  | f, g, [], b, _, _ => by rw [runF, runF]
  | 0, _, _ :: _, b, h, _ => by omega
  | _, 0, _ :: _, b, _, h => by omega
  | f + 1, g + 1, h :: hs, b, hf, hg => by
    rw [runF, runF]
    cases hm : miscs b with
    | none => rfl
    | some r =>
      have h1 := miscs_len hm
      dsimp only [Option.bind_some]
      cases hx : met r with
      | none => rfl
      | some m =>
        have h2 := met_len hx
        dsimp only [Option.bind_some]
        cases m with
        | shut q =>
          dsimp only [Met.rest] at h2 ⊢
          cases hc : closeAt h.name q with
          | none => rfl
          | some q' =>
            have h3 := closeAt_len hc
            exact runF_fuel f g hs q' (by omega) (by omega)
        | tag t =>
          dsimp only [Met.rest] at h2 ⊢
          cases child h t.name t.attrs with
          | none => rfl
          | some c =>
            dsimp only [Option.bind_some]
            rw [runF_fuel f g _ t.rest (by omega) (by omega)]
def run (hs : List Fr) (b : B) : Option (List Shape × B) := runF (b.length + 1) hs b
theorem run_nil (b : B) : run [] b = some ([], b) := by unfold run; rw [runF]
theorem run_cons (h : Fr) (hs : List Fr) (b : B) : run (h :: hs) b = (miscs b).bind fun r => (met r).bind fun m => match m with
    | .shut q => (closeAt h.name q).bind fun q' => run hs q'
    | .tag t => (child h t.name t.attrs).bind fun c => (run (if t.shut = true then h :: hs else c.1 :: h :: hs) t.rest).map fun y => (c.2 ++ y.1, y.2) := by
  unfold run
  rw [runF]
  cases hm : miscs b with
  | none => rfl
  | some r =>
    have h1 := miscs_len hm
    dsimp only [Option.bind_some]
    cases hx : met r with
    | none => rfl
    | some m =>
      have h2 := met_len hx
      dsimp only [Option.bind_some]
      cases m with
      | shut q =>
        dsimp only [Met.rest] at h2 ⊢
        cases hc : closeAt h.name q with
        | none => rfl
        | some q' =>
          have h3 := closeAt_len hc
          exact runF_fuel _ _ hs q' (by omega) (by omega)
      | tag t =>
        dsimp only [Met.rest] at h2 ⊢
        cases child h t.name t.attrs with
        | none => rfl
        | some c =>
          dsimp only [Option.bind_some]
          rw [runF_fuel b.length (t.rest.length + 1) _ t.rest (by omega) (by omega)]
theorem met_shut (q : B) : met (60 :: 47 :: q) = some (.shut q) := rfl
theorem met_tag {q : B} (h : ∀ v, q ≠ 47 :: v) : met (60 :: q) = (tagAt q).map .tag := by
  unfold met
  split
  · rename_i v e
    cases e
    exact absurd rfl (h v)
  · rename_i e
    cases e
    rfl
  · rename_i e
    exact absurd rfl (e q)
theorem met_no {r : B} (h : ∀ q, r ≠ 60 :: q) : met r = none := by
  unfold met
  split
  · exact absurd rfl (h _)
  · exact absurd rfl (h _)
  · rfl
theorem run_is : ∀ (n : Nat) (b : B), b.length ≤ n → ∀ (h : Fr) (hs : List Fr), run (h :: hs) b = (kids b).bind fun k => (evalKids h k.1).bind fun l => (closeAt h.name k.2).bind fun q => (run hs q).map fun y => (l ++ y.1, y.2) := by
  intro n
  induction n with
  | zero =>
    intro b hb h hs
    have e : b = [] := List.length_eq_zero_iff.mp (by omega)
    subst e
    rfl
  | succ n ih =>
    intro b hb h hs
    rw [run_cons]
    by_cases hm : ∃ q, miscs b = some (60 :: q)
    · obtain ⟨q, hm⟩ := hm
      have h1 := miscs_len hm
      simp only [List.length_cons] at h1
      rw [hm]
      dsimp only [Option.bind_some]
      by_cases hq : ∃ v, q = 47 :: v
      · obtain ⟨v, rfl⟩ := hq
        rw [met_shut, kids_end hm]
        dsimp only [Option.bind_some]
        rw [evalKids_nil]
        dsimp only [Option.bind_some]
        cases closeAt h.name v with
        | none => rfl
        | some q' =>
          dsimp only [Option.bind_some]
          cases run hs q' with
          | none => rfl
          | some y => rfl
      · have hq : ∀ v, q ≠ 47 :: v := fun v z => hq ⟨v, z⟩
        rw [met_tag hq, kids_more hm hq, el_eq]
        cases ht : tagAt q with
        | none => rfl
        | some t =>
          have h2 := tagAt_len ht
          dsimp only [Option.bind_some, Option.map_some]
          by_cases hsh : h.shape = true
          · rw [child_shape hsh]
            dsimp only [Option.bind_none]
            have hz : ∀ (x : El) (o : Option (List El × B)), ((o.map fun y => (x :: y.1, y.2)).bind fun k => (evalKids h k.1).bind fun l => (closeAt h.name k.2).bind fun q => (run hs q).map fun y => (l ++ y.1, y.2)) = none := fun x o => by
              cases o with
              | none => rfl
              | some y =>
                dsimp only [Option.map_some, Option.bind_some]
                rw [evalKids_shape hsh]
                rfl
            split
            · dsimp only [Option.bind_some]
              rw [hz]
            · cases kids t.rest with
              | none => rfl
              | some k =>
                dsimp only [Option.bind_some]
                cases closeAt t.name k.2 with
                | none => rfl
                | some u =>
                  dsimp only [Option.map_some, Option.bind_some]
                  rw [hz]
          · have hsh : h.shape = false := by simpa using hsh
            by_cases hst : t.shut = true
            · rw [if_pos hst]
              have e0 : ∀ c : Fr × List Shape, (if t.shut = true then h :: hs else c.1 :: h :: hs) = h :: hs := fun c => if_pos hst
              simp only [e0]
              rw [ih t.rest (by omega) h hs]
              dsimp only [Option.bind_some]
              cases hc : child h t.name t.attrs with
              | none =>
                dsimp only [Option.bind_none]
                cases kids t.rest with
                | none => rfl
                | some k =>
                  dsimp only [Option.map_some, Option.bind_some]
                  rw [evalKids_group hsh, allShapes_cons, shapes_child hsh, hc]
                  rfl
              | some c =>
                dsimp only [Option.bind_some]
                cases kids t.rest with
                | none => rfl
                | some k =>
                  dsimp only [Option.map_some, Option.bind_some]
                  rw [evalKids_group hsh, evalKids_group hsh, allShapes_cons, shapes_child hsh, hc]
                  dsimp only [Option.bind_some]
                  rw [evalKids_nil]
                  dsimp only [Option.map_some, Option.bind_some]
                  cases allShapes h.k h.style k.1 with
                  | none => rfl
                  | some l =>
                    dsimp only [Option.map_some, Option.bind_some]
                    cases closeAt h.name k.2 with
                    | none => rfl
                    | some u =>
                      dsimp only [Option.bind_some]
                      cases run hs u with
                      | none => rfl
                      | some y =>
                        dsimp only [Option.map_some]
                        rw [List.append_nil, List.append_assoc]
            · rw [if_neg hst]
              have e0 : ∀ c : Fr × List Shape, (if t.shut = true then h :: hs else c.1 :: h :: hs) = c.1 :: h :: hs := fun c => if_neg hst
              simp only [e0]
              cases hc : child h t.name t.attrs with
              | none =>
                dsimp only [Option.bind_none]
                cases kids t.rest with
                | none => rfl
                | some k =>
                  dsimp only [Option.bind_some]
                  cases closeAt t.name k.2 with
                  | none => rfl
                  | some u =>
                    dsimp only [Option.map_some, Option.bind_some]
                    cases kids u with
                    | none => rfl
                    | some k2 =>
                      dsimp only [Option.map_some, Option.bind_some]
                      rw [evalKids_group hsh, allShapes_cons, shapes_child hsh, hc]
                      rfl
              | some c =>
                dsimp only [Option.bind_some]
                rw [ih t.rest (by omega) c.1 (h :: hs), child_name hc]
                cases hk : kids t.rest with
                | none => rfl
                | some k =>
                  have h3 := content_len hk
                  dsimp only [Option.bind_some]
                  cases hcl : closeAt t.name k.2 with
                  | none =>
                    dsimp only [Option.bind_none, Option.map_none]
                    cases evalKids c.1 k.1 with
                    | none => rfl
                    | some l => rfl
                  | some u =>
                    have h4 := closeAt_len hcl
                    dsimp only [Option.bind_some, Option.map_some]
                    rw [ih u (by omega) h hs]
                    cases hev : evalKids c.1 k.1 with
                    | none =>
                      dsimp only [Option.bind_none, Option.map_none]
                      cases kids u with
                      | none => rfl
                      | some k2 =>
                        dsimp only [Option.map_some, Option.bind_some]
                        rw [evalKids_group hsh, allShapes_cons, shapes_child hsh, hc]
                        dsimp only [Option.bind_some]
                        rw [hev]
                        rfl
                    | some l =>
                      dsimp only [Option.bind_some]
                      cases kids u with
                      | none => rfl
                      | some k2 =>
                        dsimp only [Option.map_some, Option.bind_some]
                        rw [evalKids_group hsh, evalKids_group hsh, allShapes_cons, shapes_child hsh, hc]
                        dsimp only [Option.bind_some]
                        rw [hev]
                        dsimp only [Option.map_some, Option.bind_some]
                        cases allShapes h.k h.style k2.1 with
                        | none => rfl
                        | some l2 =>
                          dsimp only [Option.map_some, Option.bind_some]
                          cases closeAt h.name k2.2 with
                          | none => rfl
                          | some v =>
                            dsimp only [Option.bind_some]
                            cases run hs v with
                            | none => rfl
                            | some y =>
                              dsimp only [Option.map_some]
                              rw [List.append_assoc, List.append_assoc]
    · have hm' : ∀ q, miscs b ≠ some (60 :: q) := fun q z => hm ⟨q, z⟩
      rw [kids_no hm']
      cases hx : miscs b with
      | none => rfl
      | some r =>
        dsimp only [Option.bind_some]
        rw [met_no fun q z => hm' q (by rw [hx, z])]
        rfl
def top (t : Tag) : Option (Nat × Nat × Style) := if t.name ≠ ascii "svg" then none else (side t.attrs "width").bind fun w => (side t.attrs "height").bind fun h => (styled ⟨some 0, false, Mat.one⟩ t.attrs false).map fun s => (w, h, s)
def inside (t : Tag) (s : Style) : Option (List Shape × B) := if t.shut = true then some ([], t.rest) else run [⟨t.name, false, 17, s⟩] t.rest
def picTag (t : Tag) : Option Picture := (top t).bind fun x => (inside t x.2.2).bind fun y => (miscs y.2).bind fun z => if z = [] then some ⟨x.1, x.2.1, y.1⟩ else none
def picRest (r : B) : Option Picture := match r with
  | 60 :: q => (tagAt q).bind picTag
  | _ => none
theorem picRest_cons (q : B) : picRest (60 :: q) = (tagAt q).bind picTag := rfl
theorem picRest_no {r : B} (h : ∀ q, r ≠ 60 :: q) : picRest r = none := by
  unfold picRest
  split
  · exact absurd rfl (h _)
  · rfl
def pic (b : B) : Option Picture := (miscs b).bind picRest
theorem picture_is (b : B) : picture b = pic b := by
  unfold picture root pic
  rw [misc_is (Nat.lt_succ_self _)]
  cases hm : miscs b with
  | none => rfl
  | some r =>
    have h1 := miscs_len hm
    dsimp only [Option.bind_some]
    split
    · rename_i q
      simp only [List.length_cons] at h1
      rw [element_is (by omega), el_eq, picRest_cons]
      cases ht : tagAt q with
      | none => rfl
      | some t =>
        have h2 := tagAt_len ht
        dsimp only [Option.bind_some]
        unfold picTag inside
        have fin : ∀ (ks : List El) (u : B), u.length ≤ b.length → ((misc (b.length + 1) u).bind fun z => if z = [] then some (El.mk t.name t.attrs ks) else none) = ((miscs u).bind fun z => if z = [] then some (El.mk t.name t.attrs ks) else none) := fun ks u hu => by
          rw [misc_is (by omega)]
        by_cases hst : t.shut = true
        · simp only [if_pos hst]
          dsimp only [Option.bind_some]
          rw [fin [] t.rest (by omega)]
          unfold top
          cases miscs t.rest with
          | none =>
            dsimp only [Option.bind_none]
            split
            · rfl
            · cases side t.attrs "width" with
              | none => rfl
              | some w =>
                dsimp only [Option.bind_some]
                cases side t.attrs "height" with
                | none => rfl
                | some h =>
                  dsimp only [Option.bind_some]
                  cases styled ⟨some 0, false, Mat.one⟩ t.attrs false with
                  | none => rfl
                  | some s => rfl
          | some z =>
            dsimp only [Option.bind_some]
            by_cases hz : z = []
            · simp only [if_pos hz]
              dsimp only [Option.bind_some]
              split
              · rfl
              · cases side t.attrs "width" with
                | none => rfl
                | some w =>
                  dsimp only [Option.bind_some]
                  cases side t.attrs "height" with
                  | none => rfl
                  | some h =>
                    dsimp only [Option.bind_some]
                    cases styled ⟨some 0, false, Mat.one⟩ t.attrs false with
                    | none => rfl
                    | some s =>
                      dsimp only [Option.bind_some, Option.map_some]
                      rw [allShapes_nil]
                      rfl
            · simp only [if_neg hz]
              dsimp only [Option.bind_none]
              split
              · rfl
              · cases side t.attrs "width" with
                | none => rfl
                | some w =>
                  dsimp only [Option.bind_some]
                  cases side t.attrs "height" with
                  | none => rfl
                  | some h =>
                    dsimp only [Option.bind_some]
                    cases styled ⟨some 0, false, Mat.one⟩ t.attrs false with
                    | none => rfl
                    | some s => rfl
        · simp only [if_neg hst]
          have er : ∀ s : Style, run [⟨t.name, false, 17, s⟩] t.rest = (kids t.rest).bind fun k => (allShapes 17 s k.1).bind fun l => (closeAt t.name k.2).map fun q => (l, q) := fun s => by
            rw [run_is _ _ (Nat.le_refl _)]
            cases kids t.rest with
            | none => rfl
            | some k =>
              dsimp only [Option.bind_some]
              rw [evalKids_group rfl]
              dsimp only
              cases allShapes 17 s k.1 with
              | none => rfl
              | some l =>
                dsimp only [Option.bind_some]
                cases closeAt t.name k.2 with
                | none => rfl
                | some u =>
                  dsimp only [Option.bind_some, Option.map_some]
                  rw [run_nil]
                  dsimp only [Option.map_some]
                  rw [List.append_nil]
          simp only [er]
          unfold top
          cases hk : kids t.rest with
          | none =>
            dsimp only [Option.bind_none]
            split
            · rfl
            · cases side t.attrs "width" with
              | none => rfl
              | some w =>
                dsimp only [Option.bind_some]
                cases side t.attrs "height" with
                | none => rfl
                | some h =>
                  dsimp only [Option.bind_some]
                  cases styled ⟨some 0, false, Mat.one⟩ t.attrs false with
                  | none => rfl
                  | some s => rfl
          | some k =>
            have h3 := content_len hk
            dsimp only [Option.bind_some]
            cases hcl : closeAt t.name k.2 with
            | none =>
              dsimp only [Option.bind_none, Option.map_none]
              split
              · rfl
              · cases side t.attrs "width" with
                | none => rfl
                | some w =>
                  dsimp only [Option.bind_some]
                  cases side t.attrs "height" with
                  | none => rfl
                  | some h =>
                    dsimp only [Option.bind_some]
                    cases styled ⟨some 0, false, Mat.one⟩ t.attrs false with
                    | none => rfl
                    | some s =>
                      dsimp only [Option.bind_some, Option.map_some]
                      cases allShapes 17 s k.1 with
                      | none => rfl
                      | some l => rfl
            | some u =>
              have h4 := closeAt_len hcl
              dsimp only [Option.bind_some, Option.map_some]
              rw [fin k.1 u (by omega)]
              cases hmu : miscs u with
              | none =>
                dsimp only [Option.bind_none]
                split
                · rfl
                · cases side t.attrs "width" with
                  | none => rfl
                  | some w =>
                    dsimp only [Option.bind_some]
                    cases side t.attrs "height" with
                    | none => rfl
                    | some h =>
                      dsimp only [Option.bind_some]
                      cases styled ⟨some 0, false, Mat.one⟩ t.attrs false with
                      | none => rfl
                      | some s =>
                        dsimp only [Option.bind_some, Option.map_some]
                        cases allShapes 17 s k.1 with
                        | none => rfl
                        | some l =>
                          dsimp only [Option.bind_some, Option.map_some]
                          rw [hmu]
                          rfl
              | some z =>
                dsimp only [Option.bind_some]
                by_cases hz : z = []
                · simp only [if_pos hz]
                  dsimp only [Option.bind_some]
                  split
                  · rfl
                  · cases side t.attrs "width" with
                    | none => rfl
                    | some w =>
                      dsimp only [Option.bind_some]
                      cases side t.attrs "height" with
                      | none => rfl
                      | some h =>
                        dsimp only [Option.bind_some]
                        cases styled ⟨some 0, false, Mat.one⟩ t.attrs false with
                        | none => rfl
                        | some s =>
                          dsimp only [Option.bind_some, Option.map_some]
                          cases allShapes 17 s k.1 with
                          | none => rfl
                          | some l =>
                            dsimp only [Option.bind_some, Option.map_some]
                            rw [hmu]
                            dsimp only [Option.bind_some]
                            rw [if_pos hz]
                · simp only [if_neg hz]
                  dsimp only [Option.bind_none]
                  split
                  · rfl
                  · cases side t.attrs "width" with
                    | none => rfl
                    | some w =>
                      dsimp only [Option.bind_some]
                      cases side t.attrs "height" with
                      | none => rfl
                      | some h =>
                        dsimp only [Option.bind_some]
                        cases styled ⟨some 0, false, Mat.one⟩ t.attrs false with
                        | none => rfl
                        | some s =>
                          dsimp only [Option.bind_some, Option.map_some]
                          cases allShapes 17 s k.1 with
                          | none => rfl
                          | some l =>
                            dsimp only [Option.bind_some, Option.map_some]
                            rw [hmu]
                            dsimp only [Option.bind_some]
                            rw [if_neg hz]
    · rename_i h2
      rw [picRest_no h2]
      rfl
end Sg35
namespace Sg35
def tr (c : Nat) : Nat := if blank c = true then 32 else if 33 ≤ c ∧ c ≤ 126 then (if c = 37 then 63 else c) else 10
def Byt (b : B) : Prop := ∀ c ∈ b, c < 256
theorem Byt.drop {b : B} (h : Byt b) (n : Nat) : Byt (b.drop n) := fun c hc => h c (List.mem_of_mem_drop hc)
theorem Byt.take {b : B} (h : Byt b) (n : Nat) : Byt (b.take n) := fun c hc => h c (List.mem_of_mem_take hc)
theorem blank_iff {c : Nat} : blank c = true ↔ c = 32 ∨ c = 9 ∨ c = 10 ∨ c = 13 := by
  unfold blank
  simp only [Bool.or_eq_true, beq_iff_eq]
theorem tr_fix {c d : Nat} (h1 : 33 ≤ d) (h2 : d ≤ 126) (h3 : d ≠ 37) (h4 : d ≠ 63) : tr c = d ↔ c = d := by
  unfold tr
  by_cases hb : blank c = true
  · rw [if_pos hb]
    rw [blank_iff] at hb
    omega
  · rw [if_neg hb]
    split
    · split <;> omega
    · constructor <;> intro h
      · omega
      · subst h; omega
theorem tr_blank {c : Nat} : tr c = 32 ↔ blank c = true := by
  unfold tr
  by_cases hb : blank c = true
  · rw [if_pos hb]; exact ⟨fun _ => hb, fun _ => rfl⟩
  · rw [if_neg hb]
    refine ⟨fun h => ?_, fun h => absurd h hb⟩
    split at h
    · split at h
      · omega
      · subst h
        exact absurd (show blank 32 = true from rfl) hb
    · omega
def isIn (Z : List Nat) (c : Nat) : Bool := decide (c ∈ Z)
theorem in_blank : ∀ c : Nat, isIn [32] (tr c) = blank c := fun c => by
  unfold isIn
  by_cases h : blank c = true
  · rw [tr_blank.mpr h, h]; rfl
  · have e : blank c = false := by simpa using h
    rw [e]
    have : tr c ≠ 32 := fun z => h (tr_blank.mp z)
    simp [this]
def lettersZ : List Nat := ascii "ABCDEFGHIJKLMNOPQRSTUVWXYZabcdefghijklmnopqrstuvwxyz"
def nameZ : List Nat := ascii "ABCDEFGHIJKLMNOPQRSTUVWXYZabcdefghijklmnopqrstuvwxyz0123456789-:"
def digitsZ : List Nat := ascii "0123456789"
def numberZ : List Nat := ascii "+-0123456789"
def smallsZ : List Nat := ascii "abcdefghijklmnopqrstuvwxyz"
def pathZ : List Nat := ascii "MLHVQCZmlhvqcz"
set_option maxRecDepth 100000 in
theorem in_letter : ∀ c < 256, isIn lettersZ (tr c) = letter c := by decide +kernel
set_option maxRecDepth 100000 in
theorem in_name : ∀ c < 256, isIn nameZ (tr c) = inName c := by decide +kernel
set_option maxRecDepth 100000 in
theorem in_digit : ∀ c < 256, isIn digitsZ (tr c) = digit c := by decide +kernel
set_option maxRecDepth 100000 in
theorem in_number : ∀ c < 256, isIn numberZ (tr c) = (digit c || (c == 45 || c == 43)) := by decide +kernel
set_option maxRecDepth 100000 in
theorem in_small : ∀ c < 256, isIn smallsZ (tr c) = (decide (97 ≤ c) && decide (c ≤ 122)) := by decide +kernel
set_option maxRecDepth 100000 in
theorem in_path : ∀ c < 256, isIn pathZ (tr c) = (letter c && (decide (capital c = 90) || decide (arity (capital c) ≠ 0))) := by decide +kernel
set_option maxRecDepth 100000 in
theorem tr_name : ∀ c < 256, inName c = true → tr c = c := by decide +kernel
set_option maxRecDepth 100000 in
theorem tr_value : ∀ c < 256, (tr c ≠ 60 ∧ tr c ≠ 38 ∧ tr c ≠ 10) ↔ (blank c || (decide (33 ≤ c) && (decide (c ≤ 126) && (c != 60 && c != 38)))) = true := by decide +kernel
theorem map_name : ∀ {l : B}, Byt l → (∀ c ∈ l, inName c = true) → l.map tr = l
  | [], _, _ => rfl
  | c :: r, hb, h => by
    rw [List.map_cons, tr_name c (hb c (List.mem_cons_self ..)) (h c (List.mem_cons_self ..)), map_name (fun d hd => hb d (List.mem_cons_of_mem _ hd)) fun d hd => h d (List.mem_cons_of_mem _ hd)]
theorem mem_takeWhile {P : Nat → Bool} : ∀ {l : B} {c : Nat}, c ∈ l.takeWhile P → P c = true
  | [], _, h => by simp at h
  | a :: r, c, h => by
    rw [List.takeWhile_cons] at h
    split at h
    · rename_i ha
      rcases List.mem_cons.mp h with rfl | h
      · exact ha
      · exact mem_takeWhile h
    · simp at h
def Plain (w : List Nat) : Prop := ∀ d ∈ w, 33 ≤ d ∧ d ≤ 126 ∧ d ≠ 37 ∧ d ≠ 63
theorem word_tr : ∀ {w : List Nat} {l : B}, Plain w → ((l.map tr).take w.length = w ↔ l.take w.length = w)
  | [], l, _ => by simp
  | d :: w, [], _ => by simp
  | d :: w, c :: r, hp => by
    have hd := hp d (List.mem_cons_self ..)
    have ih := word_tr (w := w) (l := r) fun x hx => hp x (List.mem_cons_of_mem _ hx)
    rw [List.map_cons, List.length_cons, List.take_succ_cons, List.take_succ_cons, List.cons.injEq, List.cons.injEq, tr_fix hd.1 hd.2.1 hd.2.2.1 hd.2.2.2, ih]
theorem take_eq_iff {w l : List Nat} : l.take w.length = w ↔ ∃ q, l = w ++ q :=
  ⟨fun h => ⟨l.drop w.length, by have e := List.take_append_drop w.length l; rw [h] at e; exact e.symm⟩, fun ⟨q, h⟩ => by rw [h]; simp⟩
theorem noteEnd_none : ∀ {r : B}, (∀ j, (r.drop j).take 3 ≠ [45, 45, 62]) → noteEnd r = none
  | [], _ => rfl
  | c :: r, h => by
    rw [noteEnd]
    · exact noteEnd_none fun j => by have := h (j + 1); simpa using this
    · intro r' hr hc
      have := h 0
      rw [hr, hc] at this
      exact this rfl
theorem noteEnd_some : ∀ {r : B} {k : Nat}, (r.drop k).take 3 = [45, 45, 62] → (∀ j < k, (r.drop j).take 3 ≠ [45, 45, 62]) → noteEnd r = some (r.drop (k + 3))
  | [], k, h, _ => by simp at h
  | c :: r, 0, h, _ => by
    have h : (c :: r).take 3 = [45, 45, 62] := h
    obtain ⟨q, e⟩ := (take_eq_iff (w := [45, 45, 62])).mp h
    rw [e]
    rfl
  | c :: r, k + 1, h, hn => by
    rw [noteEnd]
    · have := noteEnd_some (r := r) (k := k) (by simpa using h) fun j hj => by
        have := hn (j + 1) (by omega)
        simpa using this
      rw [this]
      simp
    · intro r' hr hc
      have := hn 0 (by omega)
      rw [hr, hc] at this
      exact this rfl
theorem valueByte_iff {q c : Nat} (hc : c < 256) : valueByte q c = true ↔ (tr c ≠ 60 ∧ tr c ≠ 38 ∧ tr c ≠ 10) ∧ (blank c = true ∨ c ≠ q) := by
  rw [tr_value c hc]
  unfold valueByte
  cases blank c with
  | true => simp
  | false =>
    simp only [Bool.false_or, Bool.and_eq_true, decide_eq_true_eq, bne_iff_ne, ne_eq, false_or]
    constructor
    · rintro ⟨a, b, c1, c2, c3⟩
      exact ⟨⟨a, b, c1, c2⟩, by simpa using c3⟩
    · rintro ⟨⟨a, b, c1, c2⟩, c3⟩
      exact ⟨a, b, c1, c2, by simpa using c3⟩
theorem tw_stop {P : Nat → Bool} : ∀ {l : B} {k : Nat}, (∀ c ∈ l.take k, P c = true) → (∀ c, l[k]? = some c → P c = false) → k ≤ l.length → l.takeWhile P = l.take k
  | [], k, _, _, _ => by simp
  | c :: r, 0, _, h, _ => by
    rw [List.takeWhile_cons, h c rfl]
    rfl
  | c :: r, k + 1, h, h2, hk => by
    have hc : P c = true := h c (by simp)
    rw [List.takeWhile_cons, if_pos hc, tw_stop (l := r) (k := k) (fun d hd => h d (by simp [hd])) (fun d hd => h2 d (by simpa using hd)) (by simpa using hk), List.take_succ_cons]
theorem valueAt_some {q : Nat} {v : B} {k : Nat} (hb : Byt v) (hq : q = 34 ∨ q = 39) (hk : v[k]? = some q) (hn : ∀ j < k, v[j]? ≠ some q) (ok : ∀ c ∈ v.take k, tr c ≠ 60 ∧ tr c ≠ 38 ∧ tr c ≠ 10) :
    valueAt (61 :: q :: v) = some (v.take k, v.drop (k + 1)) := by
  have hkl : k < v.length := (List.getElem?_eq_some_iff.mp hk).1
  have e : v.takeWhile (valueByte q) = v.take k := by
    refine tw_stop (fun c hc => ?_) (fun c hc => ?_) (by omega)
    · refine (valueByte_iff (hb.take k c hc)).mpr ⟨ok c hc, Or.inr fun z => ?_⟩
      subst z
      obtain ⟨j, hj⟩ := List.mem_iff_getElem?.mp hc
      have hjk : j < k := by
        have := (List.getElem?_eq_some_iff.mp hj).1
        rw [List.length_take] at this
        omega
      rw [List.getElem?_take_of_lt hjk] at hj
      exact hn j hjk hj
    · rw [hk] at hc
      cases hc
      cases hv : valueByte q q with
      | false => rfl
      | true =>
        rcases ((valueByte_iff (by omega)).mp hv).2 with z | z
        · rw [blank_iff] at z; omega
        · exact absurd rfl z
  have el : (v.take k).length = k := by rw [List.length_take]; omega
  rw [valueAt_cons, if_pos hq, e, el, if_pos]
  rw [List.head?_drop]
  exact hk
theorem valueAt_bad {q : Nat} {v : B} {k : Nat} (hb : Byt v) (hq : q = 34 ∨ q = 39) (hk : v[k]? = some q) (hn : ∀ j < k, v[j]? ≠ some q) (bad : ∃ c ∈ v.take k, ¬ (tr c ≠ 60 ∧ tr c ≠ 38 ∧ tr c ≠ 10)) :
    valueAt (61 :: q :: v) = none := by
  rw [valueAt_cons, if_pos hq, if_neg]
  intro h
  rw [List.head?_drop] at h
  have hm : ∀ c ∈ v.takeWhile (valueByte q), valueByte q c = true := fun c hc => mem_takeWhile hc
  obtain ⟨c, hc, hbad⟩ := bad
  obtain ⟨j, hj⟩ := List.mem_iff_getElem?.mp hc
  have hjk : j < k := by
    have := (List.getElem?_eq_some_iff.mp hj).1
    rw [List.length_take] at this
    omega
  rw [List.getElem?_take_of_lt hjk] at hj
  have hl : k ≤ (v.takeWhile (valueByte q)).length := by
    by_cases z : (v.takeWhile (valueByte q)).length < k
    · exact absurd h (hn _ z)
    · omega
  have hp : v.takeWhile (valueByte q) = v.take (v.takeWhile (valueByte q)).length := by
    have e := List.takeWhile_append_dropWhile (p := valueByte q) (l := v)
    have e2 := congrArg (List.take (v.takeWhile (valueByte q)).length) e
    rw [List.take_left'] at e2
    · exact e2
    · rfl
  have hin : c ∈ v.takeWhile (valueByte q) := by
    rw [hp]
    exact List.mem_of_getElem? (by rw [List.getElem?_take_of_lt (show j < (v.takeWhile (valueByte q)).length by omega)]; exact hj)
  exact hbad ((valueByte_iff (hb c (List.mem_of_mem_take hc))).mp (hm c hin)).1
theorem valueAt_open {q : Nat} {v : B} (hq : q = 34 ∨ q = 39) (hn : ∀ j : Nat, v[j]? ≠ some q) : valueAt (61 :: q :: v) = none := by
  rw [valueAt_cons, if_pos hq, if_neg]
  intro h
  rw [List.head?_drop] at h
  exact hn _ h
theorem closeAt_word {n b : B} (hn : ∃ c r, n = c :: r ∧ letter c = true) (ha : ∀ c ∈ n, inName c = true) : closeAt n b = if b.take (n.length + 1) = n ++ [62] then some (b.drop (n.length + 1)) else none := by
  obtain ⟨c, r, e, hc⟩ := hn
  have h62 : inName 62 = false := rfl
  by_cases h : b.take (n.length + 1) = n ++ [62]
  · rw [if_pos h]
    have hl : (n ++ [62]).length = n.length + 1 := by simp
    rw [← hl] at h
    obtain ⟨q, hq⟩ := take_eq_iff.mp h
    have tw : b.takeWhile inName = n := by
      have : b.takeWhile inName = b.take n.length := tw_stop (k := n.length) (fun d hd => ha d (by rw [hq] at hd; simpa using hd)) (fun d hd => by rw [hq] at hd; simp at hd; subst hd; exact h62) (by rw [hq]; simp)
      rw [this, hq]; simp
    have na : nameAt b = some (n, 62 :: q) := by
      unfold nameAt
      rw [hq, e]
      dsimp only [List.cons_append]
      rw [if_pos hc]
      have e2 : b = c :: (r ++ [62] ++ q) := by rw [hq, e]; rfl
      rw [show (c :: (r ++ [62] ++ q)) = b from e2.symm, tw]
      rw [hq]
      simp [e]
    unfold closeAt
    rw [na]
    dsimp only [Option.bind_some]
    rw [closeEnd_cons, if_pos rfl, hq]
    simp
  · rw [if_neg h]
    unfold closeAt
    cases hx : nameAt b with
    | none => rfl
    | some m =>
      obtain ⟨m, q⟩ := m
      dsimp only [Option.bind_some]
      have hb := (nameAt_len hx).2.2
      by_cases hq : ∃ u, q = 62 :: u
      · obtain ⟨u, rfl⟩ := hq
        rw [closeEnd_cons, if_neg]
        intro z
        subst z
        apply h
        rw [hb, List.take_append, List.take_of_length_le (by omega)]
        rw [show m.length + 1 - m.length = 1 by omega]
        rfl
      · rw [closeEnd_no fun u z => hq ⟨u, z⟩]
end Sg35
namespace Sg35
theorem dropWhile_head {P : Nat → Bool} : ∀ {l r : B} {c : Nat}, l.dropWhile P = c :: r → P c = false
  | [], _, _, h => by cases h
  | a :: l, r, c, h => by
    rw [List.dropWhile_cons] at h
    split at h
    · exact dropWhile_head h
    · rename_i ha
      cases h
      simpa using ha
theorem number_behind {b r : B} {z : Int} (h : numberAt b = some (z, r)) : r = (unsigned b).dropWhile digit := by
  rw [numberAt_eq] at h
  split at h
  · cases h
  · have h2 := congrArg Prod.snd (Option.some.inj h)
    dsimp only at h2
    rw [← h2, drop_takeWhile]
theorem numbers_comma {b q t : B} {z : Int} (h : numberAt b = some (z, q)) (e : skip q = 44 :: t) : numbers b = (numbers (skip t)).map fun y => (z :: y.1, y.2) := by
  rw [numbers_eq, h]
  dsimp only [Option.bind_some]
  rw [if_pos (Or.inr (by rw [e]; rfl))]
  unfold between
  dsimp only
  rw [e]
  rfl
theorem begins_head {b : B} (h : beginsNumber b = true) : ∃ c r, b = c :: r ∧ (digit c = true ∨ c = 45 ∨ c = 43) := by
  unfold beginsNumber at h
  split at h
  · rename_i c r
    simp only [Bool.or_eq_true, beq_iff_eq] at h
    exact ⟨c, r, rfl, h⟩
  · cases h
theorem digit_iff {c : Nat} : digit c = true ↔ 48 ≤ c ∧ c ≤ 57 := by
  unfold digit
  simp only [Bool.and_eq_true, decide_eq_true_eq]
theorem numbers_next {b q : B} {z : Int} (h : numberAt b = some (z, q)) (e : beginsNumber (skip q) = true) : numbers b = (numbers (skip q)).map fun y => (z :: y.1, y.2) := by
  rw [numbers_eq, h]
  dsimp only [Option.bind_some]
  rw [if_pos (Or.inl e)]
  obtain ⟨c, r, hc, hd⟩ := begins_head e
  have h44 : c ≠ 44 := by
    rcases hd with hd | hd
    · rw [digit_iff] at hd; omega
    · omega
  have hbt : between q = some (skip q) := by
    unfold between
    dsimp only
    split
    · rename_i t ht
      rw [hc] at ht
      cases ht
      exact absurd rfl h44
    · rw [if_pos]
      rcases hd with hd | hd
      · left
        have hl := len_skip q
        by_cases hlt : (skip q).length < q.length
        · exact hlt
        · exfalso
          have hq : skip q = q := by
            have e1 := List.takeWhile_append_dropWhile (p := blank) (l := q)
            have e2 := congrArg List.length e1
            rw [List.length_append] at e2
            have e3 : (q.dropWhile blank).length = (skip q).length := rfl
            have e4 : q.takeWhile blank = [] := List.length_eq_zero_iff.mp (by omega)
            rw [e4] at e1
            exact e1
          have hx := number_behind h
          rw [hq] at hc
          rw [hx] at hc
          have := dropWhile_head hc
          rw [hd] at this
          cases this
      · right
        rw [hc]
        rcases hd with hd | hd
        · left; rw [hd]; rfl
        · right; rw [hd]; rfl
  rw [hbt]
  rfl
theorem numbers_last {b q : B} {z : Int} (h : numberAt b = some (z, q)) (e : beginsNumber (skip q) = false) (e2 : ∀ t, skip q ≠ 44 :: t) : numbers b = some ([z], skip q) := by
  rw [numbers_eq, h]
  dsimp only [Option.bind_some]
  rw [if_neg]
  rintro (z | z)
  · rw [e] at z; cases z
  · cases hq : skip q with
    | nil => rw [hq] at z; cases z
    | cons c t =>
      rw [hq] at z
      cases z
      exact e2 t hq
theorem numbers_bad {b : B} (h : numberAt b = none) : numbers b = none := by rw [numbers_eq, h]; rfl
def rowAt (b : B) : Option (List Int × B) := if beginsNumber (skip b) = true then numbers (skip b) else some ([], skip b)
theorem row_is (b : B) : row b = (rowAt b).bind fun x => if x.2 = [] then some x.1 else none := by
  unfold row rowAt
  dsimp only
  have hs := len_skip b
  by_cases h : skip b = []
  · rw [if_pos h, h]
    rfl
  · rw [if_neg h, numbersAt_is (by omega)]
    by_cases hb : beginsNumber (skip b) = true
    · rw [if_pos hb]
    · rw [if_neg hb]
      dsimp only [Option.bind_some]
      rw [if_neg h]
      have : numberAt (skip b) = none := by
        cases hc : skip b with
        | nil => exact absurd hc h
        | cons c r =>
          rw [hc] at hb
          have hb : beginsNumber (c :: r) = false := by simpa using hb
          unfold beginsNumber at hb
          simp only [Bool.or_eq_false_iff, beq_eq_false_iff_ne] at hb
          rw [numberAt_eq, if_pos]
          left
          have hu : unsigned (c :: r) = c :: r := by
            unfold unsigned
            rw [if_neg]
            simp only [List.head?_cons, Bool.or_eq_true, beq_iff_eq, Option.some.injEq, not_or]
            exact ⟨hb.2.1, hb.2.2⟩
          rw [hu, List.takeWhile_cons, hb.1]
          rfl
      rw [numbers_bad this]
      rfl
theorem tw_app {P : Nat → Bool} {d : Nat} (hd : P d = false) (t : B) : ∀ w : B, (w ++ d :: t).takeWhile P = w.takeWhile P
  | [] => by rw [List.nil_append, List.takeWhile_cons, hd]; rfl
  | c :: r => by
    rw [List.cons_append, List.takeWhile_cons, List.takeWhile_cons, tw_app hd t r]
theorem dw_app {P : Nat → Bool} {d : Nat} (hd : P d = false) (t : B) : ∀ w : B, (w ++ d :: t).dropWhile P = w.dropWhile P ++ d :: t
  | [] => by rw [List.nil_append, List.dropWhile_cons, hd]; rfl
  | c :: r => by
    rw [List.cons_append, List.dropWhile_cons, List.dropWhile_cons, dw_app hd t r]
    split <;> rfl
theorem skip_app (w t : B) : skip (w ++ 41 :: t) = skip w ++ 41 :: t := dw_app (by rfl) t w
theorem begins_app (w t : B) : beginsNumber (w ++ 41 :: t) = beginsNumber w := by
  cases w with
  | nil => rfl
  | cons c r => rfl
theorem head_app (w t : B) (d : Nat) (hd : d ≠ 41) : (w ++ 41 :: t).head? = some d ↔ w.head? = some d := by
  cases w with
  | nil => simp; omega
  | cons c r => simp
theorem unsigned_app (w t : B) : unsigned (w ++ 41 :: t) = unsigned w ++ 41 :: t := by
  cases w with
  | nil => rfl
  | cons c r =>
    show (if (some c == some 45 || some c == some 43) = true then (c :: (r ++ 41 :: t)).drop 1 else c :: (r ++ 41 :: t)) = (if (some c == some 45 || some c == some 43) = true then (c :: r).drop 1 else c :: r) ++ 41 :: t
    by_cases h : (some c == some 45 || some c == some 43) = true
    · rw [if_pos h, if_pos h]; rfl
    · rw [if_neg h, if_neg h]; rfl
theorem numberAt_app (w t : B) : numberAt (w ++ 41 :: t) = (numberAt w).map fun x => (x.1, x.2 ++ 41 :: t) := by
  rw [numberAt_eq, numberAt_eq, unsigned_app, tw_app (by rfl)]
  split
  · rfl
  · dsimp only [Option.map_some]
    have hh : ((w ++ 41 :: t).head? = some 45) = (w.head? = some 45) := propext (head_app w t 45 (by decide))
    simp only [hh]
    rw [List.drop_append_of_le_length (len_takeWhile _ _)]
theorem between_comma {b q : B} (h : skip b = 44 :: q) : between b = some (skip q) := by
  unfold between
  dsimp only
  rw [h]
  rfl
theorem between_no {b : B} (h : ∀ q, skip b ≠ 44 :: q) : between b = if (skip b).length < b.length ∨ (skip b).head? = some 45 ∨ (skip b).head? = some 43 then some (skip b) else none := by
  unfold between
  dsimp only
  split
  · rename_i q e
    exact absurd e (h q)
  · rfl
theorem between_app (w t : B) : between (w ++ 41 :: t) = (between w).map fun x => x ++ 41 :: t := by
  by_cases h : ∃ q, skip w = 44 :: q
  · obtain ⟨q, h⟩ := h
    rw [between_comma h, between_comma (q := q ++ 41 :: t) (by rw [skip_app, h]; rfl), skip_app]
    rfl
  · have h : ∀ q, skip w ≠ 44 :: q := fun q z => h ⟨q, z⟩
    have h2 : ∀ q, skip (w ++ 41 :: t) ≠ 44 :: q := fun q z => by
      rw [skip_app] at z
      cases hs : skip w with
      | nil => rw [hs] at z; cases z
      | cons c r =>
        rw [hs] at z
        injection z with z1 _
        exact h r (by rw [hs, z1])
    rw [between_no h, between_no h2, skip_app]
    have e1 : ((skip w ++ 41 :: t).length < (w ++ 41 :: t).length) = ((skip w).length < w.length) := by
      simp only [List.length_append]
      exact propext (by omega)
    have e2 : ((skip w ++ 41 :: t).head? = some 45) = ((skip w).head? = some 45) := propext (head_app _ t 45 (by decide))
    have e3 : ((skip w ++ 41 :: t).head? = some 43) = ((skip w).head? = some 43) := propext (head_app _ t 43 (by decide))
    simp only [e1, e2, e3]
    split <;> rfl
theorem numbers_app (t : B) : ∀ (n : Nat) (w : B), w.length ≤ n → numbers (w ++ 41 :: t) = (numbers w).map fun x => (x.1, x.2 ++ 41 :: t) := by
  intro n
  induction n with
  | zero =>
    intro w hw
    have e : w = [] := List.length_eq_zero_iff.mp (by omega)
    subst e
    rfl
  | succ n ih =>
    intro w hw
    rw [numbers_eq, numbers_eq, numberAt_app]
    cases hx : numberAt w with
    | none => rfl
    | some x =>
      obtain ⟨z, q⟩ := x
      have hl := numberAt_len hx
      dsimp only [Option.map_some, Option.bind_some]
      rw [skip_app, begins_app, between_app]
      have hh : ((skip q ++ 41 :: t).head? = some 44) = ((skip q).head? = some 44) := propext (head_app _ t 44 (by decide))
      simp only [hh]
      split
      · cases hb : between q with
        | none => rfl
        | some r =>
          have h2 := between_len hb
          dsimp only [Option.map_some, Option.bind_some]
          rw [ih r (by omega)]
          cases numbers r with
          | none => rfl
          | some y => rfl
      · rfl
theorem rowAt_app (w t : B) : rowAt (w ++ 41 :: t) = (rowAt w).map fun x => (x.1, x.2 ++ 41 :: t) := by
  unfold rowAt
  rw [skip_app, begins_app]
  split
  · exact numbers_app t _ _ (Nat.le_refl _)
  · rfl
theorem rowAt_mem {b r : B} {l : List Int} (h : rowAt b = some (l, r)) : ∀ c ∈ r, c ∈ b := by
  have hsk : ∀ x : B, ∀ c ∈ skip x, c ∈ x := fun x c hc => by
    have := List.takeWhile_append_dropWhile (p := blank) (l := x)
    rw [← this]
    exact List.mem_append_right _ hc
  have hnum : ∀ (n : Nat) (x : B), x.length ≤ n → ∀ l r, numbers x = some (l, r) → ∀ c ∈ r, c ∈ x := by
    intro n
    induction n with
    | zero =>
      intro x hx l r h
      have e : x = [] := List.length_eq_zero_iff.mp (by omega)
      subst e
      cases h
    | succ n ih =>
      intro x hx l r h c hc
      rw [numbers_eq] at h
      cases hn : numberAt x with
      | none => rw [hn] at h; cases h
      | some y =>
        obtain ⟨z, q⟩ := y
        have hl := numberAt_len hn
        have hq : ∀ c ∈ q, c ∈ x := fun c hc => by
          rw [number_behind hn] at hc
          have h1 : c ∈ unsigned x := by
            have := List.takeWhile_append_dropWhile (p := digit) (l := unsigned x)
            rw [← this]
            exact List.mem_append_right _ hc
          unfold unsigned at h1
          split at h1
          · exact List.mem_of_mem_drop h1
          · exact h1
        rw [hn] at h
        dsimp only [Option.bind_some] at h
        split at h
        · cases hb : between q with
          | none => rw [hb] at h; cases h
          | some v =>
            have hv : ∀ c ∈ v, c ∈ q := fun c hc => by
              unfold between at hb
              dsimp only at hb
              split at hb
              · rename_i u e
                cases hb
                have := hsk u c hc
                exact hsk q c (by rw [e]; exact List.mem_cons_of_mem _ this)
              · split at hb
                · cases hb
                  exact hsk q c hc
                · cases hb
            have h2 := between_len hb
            rw [hb] at h
            dsimp only [Option.bind_some] at h
            cases hy : numbers v with
            | none => rw [hy] at h; cases h
            | some y =>
              obtain ⟨l', r'⟩ := y
              rw [hy] at h
              cases h
              exact hq c (hv c (ih v (by omega) l' r' hy c hc))
        · cases h
          exact hq c (hsk q c hc)
  unfold rowAt at h
  split at h
  · exact fun c hc => hsk b c (hnum _ _ (Nat.le_refl _) _ _ h c hc)
  · cases h
    exact hsk b
def small (c : Nat) : Bool := decide (97 ≤ c) && decide (c ≤ 122)
def turnEnd (n : B) (l : List Int) (r : B) : Option (Mat × B) := match r with
  | 41 :: u => (turning n l).map fun t => (t, u)
  | _ => none
def turnOpen (n r : B) : Option (Mat × B) := match r with
  | 40 :: q => (rowAt q).bind fun x => turnEnd n x.1 x.2
  | _ => none
theorem turnEnd_cons (n : B) (l : List Int) (u : B) : turnEnd n l (41 :: u) = (turning n l).map fun t => (t, u) := rfl
theorem turnEnd_no {n : B} {l : List Int} {r : B} (h : ∀ u, r ≠ 41 :: u) : turnEnd n l r = none := by
  unfold turnEnd
  split
  · exact absurd rfl (h _)
  · rfl
theorem turnOpen_cons (n q : B) : turnOpen n (40 :: q) = (rowAt q).bind fun x => turnEnd n x.1 x.2 := rfl
theorem turnOpen_no {n r : B} (h : ∀ q, r ≠ 40 :: q) : turnOpen n r = none := by
  unfold turnOpen
  split
  · exact absurd rfl (h _)
  · rfl
theorem turning_small {n : B} {l : List Int} {t : Mat} (h : turning n l = some t) : ∀ c ∈ n, small c = true := by
  unfold turning at h
  split at h
  · rename_i e; subst e; decide
  · split at h
    · rename_i e; subst e; decide
    · split at h
      · rename_i e; subst e; decide
      · split at h
        · rename_i e; subst e; decide
        · cases h
theorem letter_small {c : Nat} (h : small c = true) : letter c = true := by
  unfold small at h
  unfold letter
  simp only [Bool.and_eq_true, decide_eq_true_eq] at h
  simp only [Bool.or_eq_true, Bool.and_eq_true, decide_eq_true_eq]
  omega
theorem tw_same {P R : Nat → Bool} (hPR : ∀ c, P c = true → R c = true) : ∀ {l : B}, (∀ c ∈ l.takeWhile R, P c = true) → l.takeWhile P = l.takeWhile R
  | [], _ => rfl
  | c :: r, h => by
    rw [List.takeWhile_cons] at h
    rw [List.takeWhile_cons, List.takeWhile_cons]
    cases hR : R c with
    | true =>
      rw [hR] at h
      have hc : P c = true := h c (by simp)
      rw [hc, if_pos rfl, if_pos rfl, tw_same hPR fun d hd => h d (by simp [hd])]
    | false =>
      have : P c = false := by
        cases hP : P c with
        | false => rfl
        | true => rw [hPR c hP] at hR; cases hR
      rw [this]
      rfl
theorem tw_of_drop {P R : Nat → Bool} (hPR : ∀ c, P c = true → R c = true) {l q : B} {d : Nat} (h : l.drop (l.takeWhile P).length = d :: q) (hd : R d = false) : l.takeWhile R = l.takeWhile P := by
  have e := List.takeWhile_append_dropWhile (p := P) (l := l)
  rw [drop_takeWhile] at h
  rw [h] at e
  have : (l.takeWhile P ++ d :: q).takeWhile R = l.takeWhile P := by
    rw [tw_app hd]
    have hall : ∀ c ∈ l.takeWhile P, R c = true := fun c hc => hPR c (mem_takeWhile hc)
    generalize l.takeWhile P = m at hall
    induction m with
    | nil => rfl
    | cons a m ih => rw [List.takeWhile_cons, if_pos (hall a (by simp)), ih fun c hc => hall c (by simp [hc])]
  rw [e] at this
  exact this
theorem turningAt_is (r : B) : turningAt r = turnOpen (r.takeWhile small) (r.drop (r.takeWhile small).length) := by
  by_cases h : ∃ q, r.drop (r.takeWhile small).length = 40 :: q
  · obtain ⟨q, h⟩ := h
    have hw := tw_of_drop (R := letter) (fun c => letter_small) h (by rfl)
    rw [h, turnOpen_cons, turningAt_cons (q := q) (by rw [hw]; exact h), hw]
    have e := List.takeWhile_append_dropWhile (p := fun c => c != 41) (l := q)
    by_cases hl : (q.takeWhile fun c => c != 41).length = q.length
    · rw [if_pos hl]
      have hno : ∀ c ∈ q, c ≠ 41 := fun c hc => by
        have e2 : q.dropWhile (fun c => c != 41) = [] := List.length_eq_zero_iff.mp (by have := congrArg List.length e; rw [List.length_append] at this; omega)
        rw [e2, List.append_nil] at e
        rw [← e] at hc
        have := mem_takeWhile (P := fun c => c != 41) hc
        simpa using this
      cases hx : rowAt q with
      | none => rfl
      | some x =>
        obtain ⟨l, v⟩ := x
        dsimp only [Option.bind_some]
        rw [turnEnd_no fun u z => hno 41 (rowAt_mem hx 41 (by rw [z]; exact List.mem_cons_self ..)) rfl]
    · rw [if_neg hl]
      obtain ⟨c, u, hc⟩ : ∃ c u, q.dropWhile (fun c => c != 41) = c :: u := by
        cases hd : q.dropWhile (fun c => c != 41) with
        | nil => rw [hd, List.append_nil] at e; exact absurd (congrArg List.length e) hl
        | cons c u => exact ⟨c, u, rfl⟩
      have h41 : c = 41 := by
        have := dropWhile_head hc
        simpa using this
      subst h41
      generalize hwe : (q.takeWhile fun c => c != 41) = w at *
      have hq : q = w ++ 41 :: u := by rw [hc] at e; exact e.symm
      have hdr : q.drop (w.length + 1) = u := by
        rw [hq, List.drop_append]
        simp
      rw [hdr, hq, rowAt_app, row_is]
      cases hx : rowAt w with
      | none => rfl
      | some x =>
        obtain ⟨l, v⟩ := x
        dsimp only [Option.map_some, Option.bind_some]
        by_cases hv : v = []
        · rw [if_pos hv, hv]
          rfl
        · rw [if_neg hv]
          have hno : ∀ z, v ++ 41 :: u ≠ 41 :: z := fun z hz => by
            cases v with
            | nil => exact hv rfl
            | cons d v' =>
              cases hz
              have : (41 : Nat) ∈ w := rowAt_mem hx 41 (List.mem_cons_self ..)
              rw [← hwe] at this
              have := mem_takeWhile (P := fun c => c != 41) this
              simp at this
          rw [turnEnd_no hno]
          rfl
  · rw [turnOpen_no fun q z => h ⟨q, z⟩]
    cases hx : turningAt r with
    | none => rfl
    | some x =>
      exfalso
      unfold turningAt at hx
      split at hx
      · rename_i q e
        split at hx
        · cases hx
        · cases hr : row (q.takeWhile fun c => c != 41) with
          | none => rw [hr] at hx; cases hx
          | some l =>
            rw [hr] at hx
            dsimp only [Option.bind_some] at hx
            cases ht : turning (r.takeWhile letter) l with
            | none => rw [ht] at hx; cases hx
            | some t =>
              have hs := turning_small ht
              have ew := tw_same (P := small) (R := letter) (fun c => letter_small) hs
              exact h ⟨q, by rw [ew]; exact e⟩
      · cases hx
end Sg35
namespace Sg35
inductive Drops : Lines → Lines → Prop
  | nil : Drops [] []
  | keep {a b : Lines} (l : List P) : Drops a b → Drops (l :: a) (l :: b)
  | out {a b : Lines} (p : P) : Drops a b → Drops ([p] :: a) b
theorem Drops.refl : ∀ a : Lines, Drops a a
  | [] => .nil
  | l :: r => .keep l (refl r)
theorem Drops.app {a b c d : Lines} (h : Drops a b) (k : Drops c d) : Drops (a ++ c) (b ++ d) := by
  induction h with
  | nil => exact k
  | keep l _ ih => exact .keep l ih
  | out p _ ih => exact .out p ih
def Pen.last (p : Pen) : List P := if p.line = [] then [whole p.x p.y] else p.line.reverse
structure Sim (ls : Lines) (st bg : Int × Int) (p : Pen) : Prop where
  st : st = (p.x, p.y)
  bg : bg = (p.sx, p.sy)
  sh : p.line = [] → p.x = p.sx ∧ p.y = p.sy
  nr : near p.x = true ∧ near p.y = true
  nb : near p.sx = true ∧ near p.sy = true
  ls : (ls = [] ∧ p.line = [] ∧ p.done = []) ∨ ∃ D, Drops D p.done ∧ ls = D ++ [p.last]
theorem sim_pen : Sim [] (0, 0) (0, 0) pen := ⟨rfl, rfl, fun _ => ⟨rfl, rfl⟩, ⟨by decide, by decide⟩, ⟨by decide, by decide⟩, .inl ⟨rfl, rfl, rfl⟩⟩
def Pen.shutLines (p : Pen) : Lines := if p.line = [] then p.done else p.done ++ [p.line.reverse]
theorem Sim.shut {ls : Lines} {st bg : Int × Int} {p : Pen} (h : Sim ls st bg p) : Drops ls p.shutLines := by
  unfold Pen.shutLines
  rcases h.ls with ⟨rfl, e, d⟩ | ⟨D, hD, rfl⟩
  · rw [if_pos e, d]; exact .nil
  · by_cases e : p.line = []
    · rw [if_pos e]
      have : p.last = [whole p.x p.y] := by unfold Pen.last; rw [if_pos e]
      rw [this, show p.done = p.done ++ [] by simp]
      exact hD.app (.out _ .nil)
    · rw [if_neg e]
      have : p.last = p.line.reverse := by unfold Pen.last; rw [if_neg e]
      rw [this]
      exact hD.app (.keep _ .nil)
theorem Sim.finish {ls : Lines} {st bg : Int × Int} {p : Pen} (h : Sim ls st bg p) : Drops ls p.finish := h.shut
theorem Sim.start {ls : Lines} {st bg : Int × Int} {p : Pen} (h : Sim ls st bg p) {x y : Int} (hx : near x = true) (hy : near y = true) : Sim (ls ++ [[whole x y]]) (x, y) (x, y) (p.start x y) := by
  refine ⟨rfl, rfl, fun _ => ⟨rfl, rfl⟩, ⟨hx, hy⟩, ⟨hx, hy⟩, .inr ⟨ls, h.shut, ?_⟩⟩
  rfl
theorem Sim.z {ls : Lines} {st bg : Int × Int} {p : Pen} (h : Sim ls st bg p) : Sim (ls ++ [[whole bg.1 bg.2]]) bg bg p.shut := by
  obtain ⟨b1, b2⟩ := bg
  have hb := h.bg
  injection hb with h1 h2
  subst h1 h2
  refine ⟨rfl, rfl, fun _ => ⟨rfl, rfl⟩, h.nb, h.nb, .inr ⟨ls, h.shut, ?_⟩⟩
  rfl
theorem on_last (p : Pen) : p.on.line.reverse = p.last := by
  unfold Pen.on Pen.last
  by_cases e : p.line = []
  · rw [if_pos e, if_pos e]; rfl
  · rw [if_neg e, if_neg e]
theorem on_done (p : Pen) : p.on.done = p.done := by
  unfold Pen.on
  split <;> rfl
theorem on_s {p : Pen} (h : p.line = [] → p.x = p.sx ∧ p.y = p.sy) : p.on.sx = p.sx ∧ p.on.sy = p.sy := by
  unfold Pen.on
  by_cases e : p.line = []
  · rw [if_pos e]; exact h e
  · rw [if_neg e]; exact ⟨rfl, rfl⟩
theorem Sim.grow {ls D : Lines} {st bg : Int × Int} {p : Pen} (h : Sim ls st bg p) (hl : ls = D ++ [p.last]) (hD : Drops D p.done) {x y : Int} (hx : near x = true) (hy : near y = true) (ps : List P) (hne : ps ≠ []) :
    Sim (D ++ [p.last ++ ps]) (x, y) bg { p.on with x := x, y := y, line := ps.reverse ++ p.on.line } := by
  obtain ⟨s1, s2⟩ := on_s h.sh
  have hne2 : ps.reverse ++ p.on.line ≠ [] := by
    intro z
    have := congrArg List.length z
    simp at this
    exact hne this.1
  refine ⟨rfl, ?_, fun e => absurd e hne2, ⟨hx, hy⟩, ?_, .inr ⟨D, by rw [on_done]; exact hD, ?_⟩⟩
  · show bg = (p.on.sx, p.on.sy)
    rw [s1, s2]; exact h.bg
  · show near p.on.sx = true ∧ near p.on.sy = true
    rw [s1, s2]; exact h.nb
  · congr 1
    show [p.last ++ ps] = [if ps.reverse ++ p.on.line = [] then _ else (ps.reverse ++ p.on.line).reverse]
    rw [if_neg hne2, List.reverse_append, List.reverse_reverse, on_last]
def upTwo (bx by_ : Int) : List Int → List (Int × Int)
  | x :: y :: r => (bx + x, by_ + y) :: upTwo bx by_ r
  | _ => []
def toldOf (st : Int × Int) (rel : Bool) (g : Nat) (l : List Int) : List (Int × Int) :=
  let bx := if rel = true then st.1 else 0
  let by_ := if rel = true then st.2 else 0
  if g = 72 then [(bx + l.headD 0, st.2)] else if g = 86 then [(st.1, by_ + l.headD 0)] else upTwo bx by_ l
def nearP (p : Int × Int) : Bool := near p.1 && near p.2
def wh (p : Int × Int) : P := (4096 * p.1, 4096 * p.2)
theorem wh_whole (x y : Int) : wh (x, y) = whole x y := by
  unfold wh whole UNIT
  rw [Int.mul_comm 4096, Int.mul_comm 4096]
def weights (k : Int) (n : Nat) : List Int := if n = 3 then [16 * (16 - k) * (16 - k), 32 * k * (16 - k), 16 * k * k] else [(16 - k) * (16 - k) * (16 - k), 3 * k * (16 - k) * (16 - k), 3 * k * k * (16 - k), k * k * k]
def weigh (cs : List (Int × Int)) (ws : List Int) : P := (((cs.zip ws).map fun z => z.1.1 * z.2).sum, ((cs.zip ws).map fun z => z.1.2 * z.2).sum)
def curve (cs : List (Int × Int)) : List P := (List.range 16).map fun (k : Nat) => weigh cs (weights ((k : Int) + 1) cs.length)
def rowDo (ls : Lines) (st bg : Int × Int) (told : List (Int × Int)) (begins : Bool) : Lines × (Int × Int) × (Int × Int) :=
  if begins = true then (ls ++ [[wh (told.headD (0, 0))]], told.headD (0, 0), told.headD (0, 0))
  else if told.length = 1 then (ls.dropLast ++ [ls.getLastD [] ++ [wh (told.headD (0, 0))]], told.headD (0, 0), bg)
  else (ls.dropLast ++ [ls.getLastD [] ++ curve (st :: told)], told.getLastD (0, 0), bg)
theorem dropLast_snoc' {α : Type} (D : List α) (l : α) : (D ++ [l]).dropLast = D := by simp
theorem getLastD_snoc {α : Type} (D : List α) (l d : α) : (D ++ [l]).getLastD d = l := by simp
def rowLetter (g : Nat) (begins : Bool) : Nat := if g = 77 then (if begins = true then 77 else 76) else g
theorem u_eq {rel : Bool} {x z : Int} : (if rel = true then x + z else z) = (if rel = true then x else 0) + z := by
  cases rel <;> simp
theorem row_step {ls : Lines} {st bg : Int × Int} {p : Pen} (h : Sim ls st bg p) {g : Nat} (hg : arity g ≠ 0) {rel begins : Bool} (hb : begins = true → g = 77) (hls : begins = false → ls ≠ []) {l : List Int} (hl : l.length = arity g) :
    (((toldOf st rel g l).all nearP = false) → p.step (rowLetter g begins) rel l = none) ∧
    (((toldOf st rel g l).all nearP = true) → ∃ p', p.step (rowLetter g begins) rel l = some p' ∧ Sim (rowDo ls st bg (toldOf st rel g l) begins).1 (rowDo ls st bg (toldOf st rel g l) begins).2.1 (rowDo ls st bg (toldOf st rel g l) begins).2.2 p') := by
  obtain ⟨s1, s2⟩ := st
  have hst := h.st
  injection hst with e1 e2
  subst e1 e2
  have hnx := h.nr.1
  have hny := h.nr.2
  have grow : begins = false → ∃ D, Drops D p.done ∧ ls = D ++ [p.last] := fun hf => by
    rcases h.ls with ⟨z, _⟩ | z
    · exact absurd z (hls hf)
    · exact z
  unfold arity at hg hl
  by_cases g1 : g = 77 ∨ g = 76
  · rw [if_pos g1] at hl
    match l, hl with
    | [x, y], _ =>
      have ht : toldOf (p.x, p.y) rel g [x, y] = [((if rel = true then p.x else 0) + x, (if rel = true then p.y else 0) + y)] := by
        unfold toldOf
        rw [if_neg (by omega), if_neg (by omega)]
        rfl
      rw [ht]
      simp only [List.all_cons, List.all_nil, Bool.and_true, nearP]
      generalize hX : (if rel = true then p.x else 0) + x = X
      generalize hY : (if rel = true then p.y else 0) + y = Y
      have hXX : (if rel = true then p.x + x else x) = X := by rw [u_eq]; exact hX
      have hYY : (if rel = true then p.y + y else y) = Y := by rw [u_eq]; exact hY
      cases begins with
      | true =>
        have hg7 := hb rfl
        subst hg7
        have es : p.step (rowLetter 77 true) rel [x, y] = if [X, Y].all near = true then some (p.start X Y) else none := by
          unfold Pen.step rowLetter
          dsimp only
          rw [if_pos rfl, if_pos rfl, if_pos rfl, hXX, hYY]
        rw [es]
        simp only [List.all_cons, List.all_nil, Bool.and_true]
        refine ⟨fun z => by rw [if_neg]; rw [z]; exact Bool.false_ne_true, fun z => ⟨_, if_pos z, ?_⟩⟩
        rw [Bool.and_eq_true] at z
        have r := h.start z.1 z.2
        unfold rowDo
        rw [if_pos rfl]
        dsimp only [List.headD_cons]
        rw [wh_whole]
        exact r
      | false =>
        obtain ⟨D, hD, rfl⟩ := grow rfl
        have hr : rowLetter g false = 76 := by
          unfold rowLetter
          rcases g1 with z | z
          · rw [if_pos z]; rfl
          · rw [if_neg (by omega)]; exact z
        have es : p.step (rowLetter g false) rel [x, y] = if [X, Y].all near = true then some (p.to X Y) else none := by
          rw [hr]
          unfold Pen.step
          dsimp only
          rw [if_neg (by decide), if_pos rfl, hXX, hYY]
        rw [es]
        simp only [List.all_cons, List.all_nil, Bool.and_true]
        refine ⟨fun z => by rw [if_neg]; rw [z]; exact Bool.false_ne_true, fun z => ⟨_, if_pos z, ?_⟩⟩
        rw [Bool.and_eq_true] at z
        have r := h.grow rfl hD z.1 z.2 [whole X Y] (by simp)
        unfold rowDo
        rw [if_neg Bool.false_ne_true, if_pos (show List.length [_] = 1 from rfl)]
        dsimp only [List.headD_cons]
        rw [wh_whole, dropLast_snoc', getLastD_snoc]
        exact r
  · rw [if_neg g1] at hl hg
    have hbf : begins = false := by
      cases hbb : begins with
      | false => rfl
      | true => exact absurd (Or.inl (hb hbb)) g1
    subst hbf
    obtain ⟨D, hD, rfl⟩ := grow rfl
    have hr : rowLetter g false = g := by
      unfold rowLetter
      rw [if_neg (fun z => g1 (.inl z))]
    rw [hr]
    by_cases g2 : g = 72 ∨ g = 86
    · rw [if_pos g2] at hl
      match l, hl with
      | [x], _ =>
        rcases g2 with rfl | rfl
        · have ht : toldOf (p.x, p.y) rel 72 [x] = [((if rel = true then p.x else 0) + x, p.y)] := by
            unfold toldOf
            rw [if_pos rfl]
            rfl
          rw [ht]
          simp only [List.all_cons, List.all_nil, Bool.and_true, nearP, hny]
          generalize hX : (if rel = true then p.x else 0) + x = X
          have hXX : (if rel = true then p.x + x else x) = X := by rw [u_eq]; exact hX
          have es : p.step 72 rel [x] = if [X].all near = true then some (p.to X p.y) else none := by
            unfold Pen.step
            dsimp only
            rw [if_pos rfl, hXX]
          rw [es]
          simp only [List.all_cons, List.all_nil, Bool.and_true]
          refine ⟨fun z => by rw [if_neg]; rw [z]; exact Bool.false_ne_true, fun z => ⟨_, if_pos z, ?_⟩⟩
          have r := h.grow rfl hD z hny [whole X p.y] (by simp)
          unfold rowDo
          rw [if_neg Bool.false_ne_true, if_pos (show List.length [_] = 1 from rfl)]
          dsimp only [List.headD_cons]
          rw [wh_whole, dropLast_snoc', getLastD_snoc]
          exact r
        · have ht : toldOf (p.x, p.y) rel 86 [x] = [(p.x, (if rel = true then p.y else 0) + x)] := by
            unfold toldOf
            rw [if_neg (by decide), if_pos rfl]
            rfl
          rw [ht]
          simp only [List.all_cons, List.all_nil, Bool.and_true, nearP, hnx, Bool.true_and]
          generalize hX : (if rel = true then p.y else 0) + x = X
          have hXX : (if rel = true then p.y + x else x) = X := by rw [u_eq]; exact hX
          have es : p.step 86 rel [x] = if [X].all near = true then some (p.to p.x X) else none := by
            unfold Pen.step
            dsimp only
            rw [if_neg (by decide), if_pos rfl, hXX]
          rw [es]
          simp only [List.all_cons, List.all_nil, Bool.and_true]
          refine ⟨fun z => by rw [if_neg]; rw [z]; exact Bool.false_ne_true, fun z => ⟨_, if_pos z, ?_⟩⟩
          have r := h.grow rfl hD hnx z [whole p.x X] (by simp)
          unfold rowDo
          rw [if_neg Bool.false_ne_true, if_pos (show List.length [_] = 1 from rfl)]
          dsimp only [List.headD_cons]
          rw [wh_whole, dropLast_snoc', getLastD_snoc]
          exact r
    · rw [if_neg g2] at hl hg
      have hc : (curve : List (Int × Int) → List P) = curve := rfl
      by_cases g3 : g = 81
      · rw [if_pos g3] at hl
        subst g3
        match l, hl with
        | [x1, y1, x, y], _ =>
          have ht : toldOf (p.x, p.y) rel 81 [x1, y1, x, y] = [((if rel = true then p.x else 0) + x1, (if rel = true then p.y else 0) + y1), ((if rel = true then p.x else 0) + x, (if rel = true then p.y else 0) + y)] := by
            unfold toldOf
            rw [if_neg (by decide), if_neg (by decide)]
            rfl
          rw [ht]
          simp only [List.all_cons, List.all_nil, Bool.and_true, nearP]
          generalize hX1 : (if rel = true then p.x else 0) + x1 = X1
          generalize hY1 : (if rel = true then p.y else 0) + y1 = Y1
          generalize hX : (if rel = true then p.x else 0) + x = X
          generalize hY : (if rel = true then p.y else 0) + y = Y
          have es : p.step 81 rel [x1, y1, x, y] = if [X1, Y1, X, Y].all near = true then some (p.along X Y fun k => (16 * ((16 - k) * (16 - k) * p.x + 2 * k * (16 - k) * X1 + k * k * X), 16 * ((16 - k) * (16 - k) * p.y + 2 * k * (16 - k) * Y1 + k * k * Y))) else none := by
            unfold Pen.step
            dsimp only
            rw [if_pos rfl]
            simp only [u_eq, hX1, hY1, hX, hY]
          rw [es]
          simp only [List.all_cons, List.all_nil, Bool.and_true]
          refine ⟨fun z => (by rw [if_neg]; intro q; rw [Bool.and_assoc] at z; rw [q] at z; cases z), fun z => ⟨_, if_pos (by rw [Bool.and_assoc] at z; exact z), ?_⟩⟩
          simp only [Bool.and_eq_true] at z
          have hcv : curve [(p.x, p.y), (X1, Y1), (X, Y)] = (List.range 16).map fun (k : Nat) => (fun k : Int => (16 * ((16 - k) * (16 - k) * p.x + 2 * k * (16 - k) * X1 + k * k * X), 16 * ((16 - k) * (16 - k) * p.y + 2 * k * (16 - k) * Y1 + k * k * Y))) ((k : Int) + 1) := by
            unfold curve
            apply List.map_congr_left
            intro k _
            unfold weigh weights
            rw [if_pos (show List.length [_, _, _] = 3 from rfl)]
            generalize (k : Int) + 1 = j
            simp only [List.zip_cons_cons, List.zip_nil_left, List.map_cons, List.map_nil, List.sum_cons, List.sum_nil, Prod.mk.injEq]
            constructor <;> grind
          have r := h.grow rfl hD z.2.1 z.2.2 (curve [(p.x, p.y), (X1, Y1), (X, Y)]) (by rw [hcv]; simp)
          unfold rowDo
          rw [if_neg Bool.false_ne_true, if_neg (by simp)]
          rw [dropLast_snoc', getLastD_snoc]
          rw [hcv] at r ⊢
          exact r
      · rw [if_neg g3] at hl hg
        by_cases g4 : g = 67
        · rw [if_pos g4] at hl
          subst g4
          match l, hl with
          | [x1, y1, x2, y2, x, y], _ =>
            have ht : toldOf (p.x, p.y) rel 67 [x1, y1, x2, y2, x, y] = [((if rel = true then p.x else 0) + x1, (if rel = true then p.y else 0) + y1), ((if rel = true then p.x else 0) + x2, (if rel = true then p.y else 0) + y2), ((if rel = true then p.x else 0) + x, (if rel = true then p.y else 0) + y)] := by
              unfold toldOf
              rw [if_neg (by decide), if_neg (by decide)]
              rfl
            rw [ht]
            simp only [List.all_cons, List.all_nil, Bool.and_true, nearP]
            generalize hX1 : (if rel = true then p.x else 0) + x1 = X1
            generalize hY1 : (if rel = true then p.y else 0) + y1 = Y1
            generalize hX2 : (if rel = true then p.x else 0) + x2 = X2
            generalize hY2 : (if rel = true then p.y else 0) + y2 = Y2
            generalize hX : (if rel = true then p.x else 0) + x = X
            generalize hY : (if rel = true then p.y else 0) + y = Y
            have es : p.step 67 rel [x1, y1, x2, y2, x, y] = if [X1, Y1, X2, Y2, X, Y].all near = true then some (p.along X Y fun k => ((16 - k) * (16 - k) * (16 - k) * p.x + 3 * k * (16 - k) * (16 - k) * X1 + 3 * k * k * (16 - k) * X2 + k * k * k * X, (16 - k) * (16 - k) * (16 - k) * p.y + 3 * k * (16 - k) * (16 - k) * Y1 + 3 * k * k * (16 - k) * Y2 + k * k * k * Y)) else none := by
              unfold Pen.step
              dsimp only
              rw [if_pos rfl]
              simp only [u_eq, hX1, hY1, hX2, hY2, hX, hY]
            rw [es]
            simp only [List.all_cons, List.all_nil, Bool.and_true]
            refine ⟨fun z => (by rw [if_neg]; intro q; simp only [Bool.and_assoc] at z; rw [q] at z; cases z), fun z => ⟨_, if_pos (by simp only [Bool.and_assoc] at z; exact z), ?_⟩⟩
            simp only [Bool.and_eq_true] at z
            have hcv : curve [(p.x, p.y), (X1, Y1), (X2, Y2), (X, Y)] = (List.range 16).map fun (k : Nat) => (fun k : Int => ((16 - k) * (16 - k) * (16 - k) * p.x + 3 * k * (16 - k) * (16 - k) * X1 + 3 * k * k * (16 - k) * X2 + k * k * k * X, (16 - k) * (16 - k) * (16 - k) * p.y + 3 * k * (16 - k) * (16 - k) * Y1 + 3 * k * k * (16 - k) * Y2 + k * k * k * Y)) ((k : Int) + 1) := by
              unfold curve
              apply List.map_congr_left
              intro k _
              unfold weigh weights
              rw [if_neg (by simp)]
              generalize (k : Int) + 1 = j
              simp only [List.zip_cons_cons, List.zip_nil_left, List.map_cons, List.map_nil, List.sum_cons, List.sum_nil, Prod.mk.injEq]
              constructor <;> grind
            have r := h.grow rfl hD z.2.2.1 z.2.2.2 (curve [(p.x, p.y), (X1, Y1), (X2, Y2), (X, Y)]) (by rw [hcv]; simp)
            unfold rowDo
            rw [if_neg Bool.false_ne_true, if_neg (by simp)]
            rw [dropLast_snoc', getLastD_snoc]
            rw [hcv] at r ⊢
            exact r
        · rw [if_neg g4] at hg
          exact absurd rfl hg
end Sg35
namespace Sg35
theorem numbers_more {b : B} : ∀ (n : Nat), b.length ≤ n → ∀ {r : B} {l : List Int}, numbers b = some (l, r) → l.length + r.length ≤ b.length ∧ l ≠ [] ∧ skip r = r ∧ ∀ z ∈ l, z.natAbs ≤ 32767 := by
  intro n
  induction n generalizing b with
  | zero =>
    intro hn r l h
    have : b = [] := List.length_eq_zero_iff.mp (by omega)
    subst this
    rw [numbers_eq] at h
    simp [numberAt] at h
  | succ n ih =>
    intro hn r l h
    rw [numbers_eq] at h
    cases hx : numberAt b with
    | none => rw [hx] at h; cases h
    | some x =>
      obtain ⟨z, q⟩ := x
      have hq := numberAt_len hx
      have hz : z.natAbs ≤ 32767 := by
        rw [numberAt_eq] at hx
        split at hx
        · cases hx
        · rename_i hc
          have hm : natOf ((unsigned b).takeWhile digit) ≤ 32767 := by
            rw [not_or, not_or] at hc
            have := hc.2.2
            unfold MOST at this
            omega
          cases hx
          split <;> omega
      rw [hx] at h
      dsimp only [Option.bind_some] at h
      split at h
      · cases hb : between q with
        | none => rw [hb] at h; cases h
        | some t =>
          rw [hb] at h
          dsimp only [Option.bind_some] at h
          have ht := between_len hb
          cases hy : numbers t with
          | none => rw [hy] at h; cases h
          | some y =>
            obtain ⟨l2, r2⟩ := y
            rw [hy] at h
            cases h
            obtain ⟨h1, h2, h3, h4⟩ := ih (b := t) (by omega) hy
            refine ⟨by simp only [List.length_cons]; omega, by simp, h3, fun w hw => ?_⟩
            rcases List.mem_cons.mp hw with rfl | hw
            · exact hz
            · exact h4 w hw
      · cases h
        refine ⟨?_, by simp, skip_skip q, fun w hw => ?_⟩
        · have := len_skip q
          simp only [List.length_cons, List.length_nil]
          omega
        · rw [List.mem_singleton.mp hw]; exact hz
theorem rowAt_more {b r : B} {l : List Int} (h : rowAt b = some (l, r)) : l.length + r.length ≤ b.length ∧ skip r = r ∧ ∀ z ∈ l, z.natAbs ≤ 32767 := by
  unfold rowAt at h
  have hs := len_skip b
  split at h
  · obtain ⟨h1, _, h3, h4⟩ := numbers_more (b := skip b) _ (Nat.le_refl _) h
    exact ⟨by omega, h3, h4⟩
  · cases h
    exact ⟨by simpa using hs, skip_skip b, by simp⟩
theorem numberAt_not {b : B} (hb : beginsNumber b = false) : numberAt b = none := by
  cases b with
  | nil => simp [numberAt]
  | cons c r =>
    unfold beginsNumber at hb
    simp only [Bool.or_eq_false_iff, beq_eq_false_iff_ne] at hb
    rw [numberAt_eq, if_pos]
    left
    have hu : unsigned (c :: r) = c :: r := by
      unfold unsigned
      rw [if_neg]
      simp only [List.head?_cons, Bool.or_eq_true, beq_iff_eq, Option.some.injEq, not_or]
      exact ⟨hb.2.1, hb.2.2⟩
    rw [hu, List.takeWhile_cons, hb.1]
    rfl
theorem goes_skip (p : Pen) (q : B) : p.goes (skip q) = p.goes q := by
  cases h : skip q with
  | nil => rw [goes_nil h, goes_nil (by rfl)]
  | cons c r =>
    have h2 : skip (c :: r) = c :: r := by rw [← h, skip_skip]
    rw [goes_cons h, goes_cons h2]
def pathLetter (c : Nat) : Bool := letter c && (decide (capital c = 90) || decide (arity (capital c) ≠ 0))
theorem cap90 {c : Nat} (h : capital c = 90) : letter c = true := by
  unfold capital at h
  unfold letter
  simp only [decide_eq_true_eq] at h
  split at h
  · have : c = 122 := by omega
    subst this; decide
  · subst h; decide
theorem goes_bad {p : Pen} {q r : B} {c : Nat} (e : skip q = c :: r) (h : pathLetter c = false) : p.goes q = none := by
  rw [goes_cons e]
  by_cases h9 : capital c = 90
  · unfold pathLetter at h
    rw [cap90 h9, decide_eq_true h9] at h
    cases h
  · rw [if_neg h9, if_pos]
    unfold pathLetter at h
    rw [decide_eq_false h9, Bool.false_or, Bool.and_eq_false_iff] at h
    rcases h with h | h
    · exact .inl h
    · right
      simpa using h
theorem goes_num {p : Pen} {q : B} (h : beginsNumber (skip q) = true) : p.goes q = none := by
  obtain ⟨c, r, e, hc⟩ := begins_head h
  refine goes_bad e ?_
  unfold pathLetter
  have : letter c = false := by
    unfold letter
    rcases hc with hc | rfl | rfl
    · have := digit_iff.mp hc
      simp only [Bool.or_eq_false_iff, Bool.and_eq_false_iff, decide_eq_false_iff_not]
      constructor <;> left <;> omega
    · decide
    · decide
  rw [this]; rfl
theorem goes_z {p : Pen} {q r : B} {c : Nat} (e : skip q = c :: r) (h : capital c = 90) : (∀ t, rowAt r = some ([], t) → p.goes q = p.shut.goes t) ∧ ((∀ t, rowAt r ≠ some ([], t)) → p.goes q = none) := by
  rw [goes_cons e, if_pos h]
  unfold rowAt
  by_cases hb : beginsNumber (skip r) = true
  · rw [if_pos hb, goes_num hb]
    refine ⟨fun t ht => ?_, fun _ => rfl⟩
    exact absurd rfl (numbers_more _ (Nat.le_refl _) ht).2.1
  · rw [if_neg hb]
    refine ⟨fun t ht => ?_, fun ht => absurd rfl (ht (skip r))⟩
    cases ht
    rw [goes_skip]
theorem goes_letter {p : Pen} {q r : B} {c : Nat} (e : skip q = c :: r) (h9 : capital c ≠ 90) (hl : pathLetter c = true) :
    (rowAt r = none → p.goes q = none) ∧ (∀ t, rowAt r = some ([], t) → p.goes q = none) ∧
    ∀ l t, rowAt r = some (l, t) → l ≠ [] → p.goes q = (Pen.rows (l.length + 1) p (capital c) (decide (97 ≤ c)) l).bind fun p' => p'.goes t := by
  unfold pathLetter at hl
  rw [decide_eq_false h9, Bool.false_or, Bool.and_eq_true, decide_eq_true_eq] at hl
  rw [goes_cons e, if_neg h9, if_neg (by rw [hl.1]; rintro (z | z); exact nomatch z; exact hl.2 z)]
  unfold rowAt
  by_cases hb : beginsNumber (skip r) = true
  · rw [if_pos hb]
    refine ⟨fun ht => by rw [ht]; rfl, fun t ht => absurd rfl (numbers_more _ (Nat.le_refl _) ht).2.1, fun l t ht _ => by rw [ht]; rfl⟩
  · rw [if_neg hb]
    have hn : numbers (skip r) = none := numbers_bad (numberAt_not (by simpa using hb))
    rw [hn]
    refine ⟨(nomatch ·), fun t ht => rfl, fun l t ht hne => ?_⟩
    cases ht
    exact absurd rfl hne
theorem rows_nil {f : Nat} {p : Pen} {c : Nat} {rel : Bool} : Pen.rows (f + 1) p c rel [] = some p := by
  unfold Pen.rows
  rw [if_pos rfl]
theorem rows_one {f : Nat} {p : Pen} {c : Nat} {rel : Bool} {l : List Int} (h : l ≠ []) (hl : arity c ≤ l.length) : Pen.rows (f + 1) p c rel l = (p.step c rel (l.take (arity c))).bind fun q => Pen.rows f q (if c = 77 then 76 else c) rel (l.drop (arity c)) := by
  rw [Pen.rows.eq_def]
  dsimp only
  rw [if_neg h, if_neg (by omega)]
theorem arity_row {g : Nat} {b : Bool} : arity (rowLetter g b) = arity g := by
  unfold rowLetter
  split
  · rename_i h
    subst h
    cases b <;> rfl
  · rfl
theorem letter_next {g : Nat} {b : Bool} : (if rowLetter g b = 77 then 76 else rowLetter g b) = rowLetter g false := by
  unfold rowLetter
  by_cases h : g = 77
  · rw [if_pos h, if_pos h]; cases b <;> rfl
  · rw [if_neg h, if_neg h, if_neg h]
theorem rows_odd : ∀ (n f : Nat) (p : Pen) (c : Nat) (rel : Bool) (l : List Int), arity c ≠ 0 → l.length ≤ n → l.length % arity c ≠ 0 → l.length < f → Pen.rows f p c rel l = none := by
  intro n
  induction n with
  | zero =>
    intro f p c rel l hc hn hm hf
    have : l.length = 0 := by omega
    rw [this, Nat.zero_mod] at hm
    exact absurd rfl hm
  | succ n ih =>
    intro f p c rel l hc hn hm hf
    cases f with
    | zero => omega
    | succ f =>
      have hne : l ≠ [] := by
        rintro rfl
        simp at hm
      by_cases hl : arity c ≤ l.length
      · rw [rows_one hne hl]
        cases p.step c rel (l.take (arity c)) with
        | none => rfl
        | some q =>
          have ha : arity (if c = 77 then 76 else c) = arity c := by
            split
            · rename_i h; subst h; rfl
            · rfl
          refine ih f q _ rel _ (by rw [ha]; exact hc) (by rw [List.length_drop]; omega) ?_ (by rw [List.length_drop]; omega)
          rw [ha, List.length_drop]
          intro z
          apply hm
          rw [Nat.mod_eq_sub_mod hl]
          exact z
      · unfold Pen.rows
        rw [if_neg hne, if_pos (by omega)]
end Sg35
namespace L2
open PySem PySem.Spec PyProof.Rows
def KTu (K : PySem.W.Frag) (g : Addr) (xs : List V) : Prop := ∀ H : Hp, SqT K H g xs
end L2
namespace Pg
open PySem L2
def top (i : Nat) : Stmt := PySem.Challenge.pw_shapedots_s01_size.main.body.getD i (.Pass ⟨0, 0, 0, 0⟩)
abbrev s_qch : Stmt := top 11
abbrev s_qcb : Stmt := top 12
abbrev s_qbs : Stmt := top 17
abbrev s_qat : Stmt := top 18
abbrev s_qcc : Stmt := top 19
abbrev s_qaj : Stmt := top 20
abbrev s_qak : Stmt := top 21
abbrev s_qbt : Stmt := top 22
abbrev s_qbk : Stmt := top 29
abbrev s_qao : Stmt := top 30
abbrev s_turn : Stmt := top 31
abbrev s_qau : Stmt := top 32
abbrev s_qbu : Stmt := top 33
abbrev s_qav : Stmt := top 34
abbrev s_fine : Stmt := top 39
abbrev s_qbv : Stmt := top 47
abbrev s_qbw : Stmt := top 48
abbrev s_qbx : Stmt := top 49
abbrev s_qck : Stmt := top 50
abbrev s_qal : Stmt := top 59
abbrev s_qci : Stmt := top 60
abbrev s_qaw : Stmt := top 61
abbrev s_qax : Stmt := top 62
abbrev s_qbl : Stmt := top 63
abbrev s_qay : Stmt := top 64
abbrev s_qam : Stmt := top 65
abbrev s_qby : Stmt := top 66
abbrev s_qcl : Stmt := top 70
abbrev s_qbm : Stmt := top 71
abbrev s_qaz : Stmt := top 72
abbrev s_qbz : Stmt := top 73
abbrev s_qba : Stmt := top 74
abbrev s_qbb : Stmt := top 75
abbrev s_qbc : Stmt := top 76
abbrev s_qaa : Stmt := top 80
abbrev s_qca : Stmt := top 81
abbrev s_qbn : Stmt := top 82
abbrev s_qac : Stmt := top 83
abbrev s_qcd : Stmt := top 84
abbrev s_qbo : Stmt := top 90
abbrev s_qbd : Stmt := top 91
abbrev s_qbp : Stmt := top 92
abbrev s_qbe : Stmt := top 93
abbrev s_qap : Stmt := top 94
abbrev s_qce : Stmt := top 99
abbrev s_qcj : Stmt := top 100
abbrev s_size : Stmt := top 101
abbrev s_qbf : Stmt := inClass (top 3) 0
abbrev s_qaq : Stmt := inClass (top 3) 1
abbrev s_qad : Stmt := inClass (top 3) 2
abbrev s_qbg : Stmt := inClass (top 3) 3
abbrev s_qbh : Stmt := inClass (top 3) 4
abbrev s_qae : Stmt := inClass (top 3) 5
abbrev s_qaf : Stmt := inClass (top 3) 6
abbrev s_qag : Stmt := inClass (top 3) 7
abbrev s_qab : Stmt := inClass (top 3) 8
abbrev s_qbi : Stmt := inClass (top 36) 0
abbrev s_qbq : Stmt := inClass (top 46) 0
abbrev s_qar : Stmt := inClass (top 52) 0
abbrev s_qcf : Stmt := inClass (top 58) 0
abbrev s_qai : Stmt := inClass (top 58) 1
abbrev s_qah : Stmt := inClass (top 58) 2
abbrev s_qan : Stmt := inClass (top 58) 3
abbrev s_qbr : Stmt := inClass (top 69) 0
abbrev s_qcg : Stmt := inClass (top 79) 0
abbrev s_qas : Stmt := inClass (top 88) 0
abbrev s_qbj : Stmt := inClass (top 89) 0
structure Adr where
  prm : Params
  cWrongText : Addr
  cReader : Addr
  cCircle : Addr
  cStyle : Addr
  cOutline : Addr
  cPen : Addr
  cShape : Addr
  cTag : Addr
  cPicture : Addr
  cHolder : Addr
  f_qch : Addr
  d_qch : FuncData
  f_qcb : Addr
  d_qcb : FuncData
  f_qbs : Addr
  d_qbs : FuncData
  f_qat : Addr
  d_qat : FuncData
  f_qcc : Addr
  d_qcc : FuncData
  f_qaj : Addr
  d_qaj : FuncData
  f_qak : Addr
  d_qak : FuncData
  f_qbt : Addr
  d_qbt : FuncData
  f_qbk : Addr
  d_qbk : FuncData
  f_qao : Addr
  d_qao : FuncData
  f_turn : Addr
  d_turn : FuncData
  f_qau : Addr
  d_qau : FuncData
  f_qbu : Addr
  d_qbu : FuncData
  f_qav : Addr
  d_qav : FuncData
  f_fine : Addr
  d_fine : FuncData
  f_qbv : Addr
  d_qbv : FuncData
  f_qbw : Addr
  d_qbw : FuncData
  f_qbx : Addr
  d_qbx : FuncData
  f_qck : Addr
  d_qck : FuncData
  f_qal : Addr
  d_qal : FuncData
  f_qci : Addr
  d_qci : FuncData
  f_qaw : Addr
  d_qaw : FuncData
  f_qax : Addr
  d_qax : FuncData
  f_qbl : Addr
  d_qbl : FuncData
  f_qay : Addr
  d_qay : FuncData
  f_qam : Addr
  d_qam : FuncData
  f_qby : Addr
  d_qby : FuncData
  f_qcl : Addr
  d_qcl : FuncData
  f_qbm : Addr
  d_qbm : FuncData
  f_qaz : Addr
  d_qaz : FuncData
  f_qbz : Addr
  d_qbz : FuncData
  f_qba : Addr
  d_qba : FuncData
  f_qbb : Addr
  d_qbb : FuncData
  f_qbc : Addr
  d_qbc : FuncData
  f_qaa : Addr
  d_qaa : FuncData
  f_qca : Addr
  d_qca : FuncData
  f_qbn : Addr
  d_qbn : FuncData
  f_qac : Addr
  d_qac : FuncData
  f_qcd : Addr
  d_qcd : FuncData
  f_qbo : Addr
  d_qbo : FuncData
  f_qbd : Addr
  d_qbd : FuncData
  f_qbp : Addr
  d_qbp : FuncData
  f_qbe : Addr
  d_qbe : FuncData
  f_qap : Addr
  d_qap : FuncData
  f_qce : Addr
  d_qce : FuncData
  f_qcj : Addr
  d_qcj : FuncData
  f_size : Addr
  d_size : FuncData
  f_qbf : Addr
  d_qbf : FuncData
  f_qaq : Addr
  d_qaq : FuncData
  f_qad : Addr
  d_qad : FuncData
  f_qbg : Addr
  d_qbg : FuncData
  f_qbh : Addr
  d_qbh : FuncData
  f_qae : Addr
  d_qae : FuncData
  f_qaf : Addr
  d_qaf : FuncData
  f_qag : Addr
  d_qag : FuncData
  f_qab : Addr
  d_qab : FuncData
  f_qbi : Addr
  d_qbi : FuncData
  f_qbq : Addr
  d_qbq : FuncData
  f_qar : Addr
  d_qar : FuncData
  f_qcf : Addr
  d_qcf : FuncData
  f_qai : Addr
  d_qai : FuncData
  f_qah : Addr
  d_qah : FuncData
  f_qan : Addr
  d_qan : FuncData
  f_qbr : Addr
  d_qbr : FuncData
  f_qcg : Addr
  d_qcg : FuncData
  f_qas : Addr
  d_qas : FuncData
  f_qbj : Addr
  d_qbj : FuncData
  g_UNMOVED : Addr
  g_QUARTER_TURNS : Addr
  g_ROW_LENGTHS : Addr
  g_SHAPES : Addr
  g_Q0 : Addr
  g_Q1 : Addr
  g_Q2 : Addr
  g_Q3 : Addr
structure Txt (K : PySem.W.Frag) (mg : Str → Option Value) (a : Adr) : Prop where
  xc_WrongText : XCls K mg "WrongText" a.cWrongText
  cl_Reader : Cls K a.cReader
  mgc_Reader : mg "Reader" = some (.ref a.cReader)
  mk_Reader : Mk K a.cReader a.f_qbf
  na_Reader_signs : NoAttr K a.cReader "signs"
  na_Reader_place : NoAttr K a.cReader "place"
  me_qaq : Meth K a.cReader "ended" a.f_qaq
  me_qad : Meth K a.cReader "sees_one" a.f_qad
  me_qbg : Meth K a.cReader "skip" a.f_qbg
  me_qbh : Meth K a.cReader "need" a.f_qbh
  me_qae : Meth K a.cReader "need_end" a.f_qae
  me_qaf : Meth K a.cReader "take_one" a.f_qaf
  me_qag : Meth K a.cReader "take_all" a.f_qag
  me_qab : Meth K a.cReader "take_up_to" a.f_qab
  cl_Circle : Cls K a.cCircle
  mgc_Circle : mg "Circle" = some (.ref a.cCircle)
  mk_Circle : Mk K a.cCircle a.f_qbi
  na_Circle_cx : NoAttr K a.cCircle "cx"
  na_Circle_cy : NoAttr K a.cCircle "cy"
  na_Circle_r : NoAttr K a.cCircle "r"
  cl_Style : Cls K a.cStyle
  mgc_Style : mg "Style" = some (.ref a.cStyle)
  mk_Style : Mk K a.cStyle a.f_qbq
  na_Style_fill : NoAttr K a.cStyle "fill"
  na_Style_rule : NoAttr K a.cStyle "rule"
  cl_Outline : Cls K a.cOutline
  mgc_Outline : mg "Outline" = some (.ref a.cOutline)
  mk_Outline : Mk K a.cOutline a.f_qar
  na_Outline_lines : NoAttr K a.cOutline "lines"
  cl_Pen : Cls K a.cPen
  mgc_Pen : mg "Pen" = some (.ref a.cPen)
  mk_Pen : Mk K a.cPen a.f_qcf
  na_Pen_lines : NoAttr K a.cPen "lines"
  na_Pen_stands : NoAttr K a.cPen "stands"
  na_Pen_line_begin : NoAttr K a.cPen "line_begin"
  me_qai : Meth K a.cPen "begin_line" a.f_qai
  me_qah : Meth K a.cPen "go_straight" a.f_qah
  me_qan : Meth K a.cPen "go_curved" a.f_qan
  cl_Shape : Cls K a.cShape
  mgc_Shape : mg "Shape" = some (.ref a.cShape)
  mk_Shape : Mk K a.cShape a.f_qbr
  na_Shape_figure : NoAttr K a.cShape "figure"
  na_Shape_matrix : NoAttr K a.cShape "matrix"
  na_Shape_style : NoAttr K a.cShape "style"
  cl_Tag : Cls K a.cTag
  mgc_Tag : mg "Tag" = some (.ref a.cTag)
  mk_Tag : Mk K a.cTag a.f_qcg
  na_Tag_name : NoAttr K a.cTag "name"
  na_Tag_attributes : NoAttr K a.cTag "attributes"
  na_Tag_closed : NoAttr K a.cTag "closed"
  cl_Picture : Cls K a.cPicture
  mgc_Picture : mg "Picture" = some (.ref a.cPicture)
  mk_Picture : Mk K a.cPicture a.f_qas
  na_Picture_width : NoAttr K a.cPicture "width"
  na_Picture_height : NoAttr K a.cPicture "height"
  na_Picture_shapes : NoAttr K a.cPicture "shapes"
  cl_Holder : Cls K a.cHolder
  mgc_Holder : mg "Holder" = some (.ref a.cHolder)
  mk_Holder : Mk K a.cHolder a.f_qbj
  na_Holder_name : NoAttr K a.cHolder "name"
  na_Holder_matrix : NoAttr K a.cHolder "matrix"
  na_Holder_style : NoAttr K a.cHolder "style"
  fn_qch : Fun K "sign_of" "sign_of" s_qch a.f_qch a.d_qch
  b_qch : Binds K a.d_qch ["byte"] []
  fn_qcb : Fun K "signs_of" "signs_of" s_qcb a.f_qcb a.d_qcb
  b_qcb : Binds K a.d_qcb ["text"] []
  fn_qbs : Fun K "read_sign" "read_sign" s_qbs a.f_qbs a.d_qbs
  b_qbs : Binds K a.d_qbs ["reader"] []
  fn_qat : Fun K "read_number" "read_number" s_qat a.f_qat a.d_qat
  b_qat : Binds K a.d_qat ["reader"] []
  fn_qcc : Fun K "read_row" "read_row" s_qcc a.f_qcc a.d_qcc
  b_qcc : Binds K a.d_qcc ["reader"] []
  fn_qaj : Fun K "single_number" "single_number" s_qaj a.f_qaj a.d_qaj
  b_qaj : Binds K a.d_qaj ["value"] []
  fn_qak : Fun K "number_within" "number_within" s_qak a.f_qak a.d_qak
  b_qak : Binds K a.d_qak ["value", "least", "most"] []
  fn_qbt : Fun K "whole_row" "whole_row" s_qbt a.f_qbt a.d_qbt
  b_qbt : Binds K a.d_qbt ["value"] []
  fn_qbk : Fun K "put_behind" "put_behind" s_qbk a.f_qbk a.d_qbk
  b_qbk : Binds K a.d_qbk ["outer", "inner"] []
  fn_qao : Fun K "check_bounds" "check_bounds" s_qao a.f_qao a.d_qao
  b_qao : Binds K a.d_qao ["matrix"] []
  fn_turn : Fun K "turn" "turn" s_turn a.f_turn a.d_turn
  b_turn : Binds K a.d_turn ["angle"] []
  fn_qau : Fun K "step_matrix" "step_matrix" s_qau a.f_qau a.d_qau
  b_qau : Binds K a.d_qau ["word", "row"] []
  fn_qbu : Fun K "read_step" "read_step" s_qbu a.f_qbu a.d_qbu
  b_qbu : Binds K a.d_qbu ["reader"] []
  fn_qav : Fun K "transformed" "transformed" s_qav a.f_qav a.d_qav
  b_qav : Binds K a.d_qav ["outer", "transform"] []
  fn_fine : Fun K "fine" "fine" s_fine a.f_fine a.d_fine
  b_fine : Binds K a.d_fine ["place"] []
  fn_qbv : Fun K "colour_of" "colour_of" s_qbv a.f_qbv a.d_qbv
  b_qbv : Binds K a.d_qbv ["digits"] []
  fn_qbw : Fun K "read_fill" "read_fill" s_qbw a.f_qbw a.d_qbw
  b_qbw : Binds K a.d_qbw ["value"] []
  fn_qbx : Fun K "read_rule" "read_rule" s_qbx a.f_qbx a.d_qbx
  b_qbx : Binds K a.d_qbx ["value"] []
  fn_qck : Fun K "styled" "styled" s_qck a.f_qck a.d_qck
  b_qck : Binds K a.d_qck ["around", "attributes"] []
  fn_qal : Fun K "curve_weights" "curve_weights" s_qal a.f_qal a.d_qal
  b_qal : Binds K a.d_qal ["k", "corner_count"] []
  fn_qci : Fun K "weighed" "weighed" s_qci a.f_qci a.d_qci
  b_qci : Binds K a.d_qci ["corners", "weights"] []
  fn_qaw : Fun K "check_place" "check_place" s_qaw a.f_qaw a.d_qaw
  b_qaw : Binds K a.d_qaw ["place"] []
  fn_qax : Fun K "told_places" "told_places" s_qax a.f_qax a.d_qax
  b_qax : Binds K a.d_qax ["stands", "letter", "row"] []
  fn_qbl : Fun K "follow_row" "follow_row" s_qbl a.f_qbl a.d_qbl
  b_qbl : Binds K a.d_qbl ["pen", "letter", "row", "begins"] []
  fn_qay : Fun K "follow_rows" "follow_rows" s_qay a.f_qay a.d_qay
  b_qay : Binds K a.d_qay ["pen", "letter", "numbers"] []
  fn_qam : Fun K "follow_letter" "follow_letter" s_qam a.f_qam a.d_qam
  b_qam : Binds K a.d_qam ["pen", "letter", "numbers"] []
  fn_qby : Fun K "read_path" "read_path" s_qby a.f_qby a.d_qby
  b_qby : Binds K a.d_qby ["value"] []
  fn_qcl : Fun K "needed" "needed" s_qcl a.f_qcl a.d_qcl
  b_qcl : Binds K a.d_qcl ["attributes", "name"] []
  fn_qbm : Fun K "place_told" "place_told" s_qbm a.f_qbm a.d_qbm
  b_qbm : Binds K a.d_qbm ["attributes", "x_name", "y_name"] []
  fn_qaz : Fun K "length_told" "length_told" s_qaz a.f_qaz a.d_qaz
  b_qaz : Binds K a.d_qaz ["attributes", "name"] []
  fn_qbz : Fun K "read_rect" "read_rect" s_qbz a.f_qbz a.d_qbz
  b_qbz : Binds K a.d_qbz ["attributes"] []
  fn_qba : Fun K "read_circle" "read_circle" s_qba a.f_qba a.d_qba
  b_qba : Binds K a.d_qba ["attributes"] []
  fn_qbb : Fun K "read_points" "read_points" s_qbb a.f_qbb a.d_qbb
  b_qbb : Binds K a.d_qbb ["attributes"] []
  fn_qbc : Fun K "read_figure" "read_figure" s_qbc a.f_qbc a.d_qbc
  b_qbc : Binds K a.d_qbc ["name", "attributes"] []
  fn_qaa : Fun K "skip_blanks_and_notes" "skip_blanks_and_notes" s_qaa a.f_qaa a.d_qaa
  b_qaa : Binds K a.d_qaa ["reader"] []
  fn_qca : Fun K "read_name" "read_name" s_qca a.f_qca a.d_qca
  b_qca : Binds K a.d_qca ["reader"] []
  fn_qbn : Fun K "read_value" "read_value" s_qbn a.f_qbn a.d_qbn
  b_qbn : Binds K a.d_qbn ["reader"] []
  fn_qac : Fun K "read_attributes" "read_attributes" s_qac a.f_qac a.d_qac
  b_qac : Binds K a.d_qac ["reader"] []
  fn_qcd : Fun K "read_tag" "read_tag" s_qcd a.f_qcd a.d_qcd
  b_qcd : Binds K a.d_qcd ["reader"] []
  fn_qbo : Fun K "picture_of" "picture_of" s_qbo a.f_qbo a.d_qbo
  b_qbo : Binds K a.d_qbo ["tag"] []
  fn_qbd : Fun K "check_child" "check_child" s_qbd a.f_qbd a.d_qbd
  b_qbd : Binds K a.d_qbd ["tag", "holders"] []
  fn_qbp : Fun K "read_child" "read_child" s_qbp a.f_qbp a.d_qbp
  b_qbp : Binds K a.d_qbp ["reader", "holders", "picture"] []
  fn_qbe : Fun K "read_inside" "read_inside" s_qbe a.f_qbe a.d_qbe
  b_qbe : Binds K a.d_qbe ["reader", "picture", "style"] []
  fn_qap : Fun K "read_picture" "read_picture" s_qap a.f_qap a.d_qap
  b_qap : Binds K a.d_qap ["signs"] []
  fn_qce : Fun K "answered" "answered" s_qce a.f_qce a.d_qce
  b_qce : Binds K a.d_qce ["text", "answer"] []
  fn_qcj : Fun K "size_of" "size_of" s_qcj a.f_qcj a.d_qcj
  b_qcj : Binds K a.d_qcj ["picture"] []
  fn_size : Fun K "size" "size" s_size a.f_size a.d_size
  b_size : Binds K a.d_size ["text"] []
  fn_qbf : Fun K "__init__" "Reader.__init__" s_qbf a.f_qbf a.d_qbf
  b_qbf : Binds K a.d_qbf ["self", "signs"] []
  fn_qaq : Fun K "ended" "Reader.ended" s_qaq a.f_qaq a.d_qaq
  b_qaq : Binds K a.d_qaq ["self"] []
  fn_qad : Fun K "sees_one" "Reader.sees_one" s_qad a.f_qad a.d_qad
  b_qad : Binds K a.d_qad ["self", "allowed"] []
  fn_qbg : Fun K "skip" "Reader.skip" s_qbg a.f_qbg a.d_qbg
  b_qbg : Binds K a.d_qbg ["self", "word"] []
  fn_qbh : Fun K "need" "Reader.need" s_qbh a.f_qbh a.d_qbh
  b_qbh : Binds K a.d_qbh ["self", "word"] []
  fn_qae : Fun K "need_end" "Reader.need_end" s_qae a.f_qae a.d_qae
  b_qae : Binds K a.d_qae ["self"] []
  fn_qaf : Fun K "take_one" "Reader.take_one" s_qaf a.f_qaf a.d_qaf
  b_qaf : Binds K a.d_qaf ["self", "allowed"] []
  fn_qag : Fun K "take_all" "Reader.take_all" s_qag a.f_qag a.d_qag
  b_qag : Binds K a.d_qag ["self", "allowed"] []
  fn_qab : Fun K "take_up_to" "Reader.take_up_to" s_qab a.f_qab a.d_qab
  b_qab : Binds K a.d_qab ["self", "word"] []
  fn_qbi : Fun K "__init__" "Circle.__init__" s_qbi a.f_qbi a.d_qbi
  b_qbi : Binds K a.d_qbi ["self", "cx", "cy", "r"] []
  fn_qbq : Fun K "__init__" "Style.__init__" s_qbq a.f_qbq a.d_qbq
  b_qbq : Binds K a.d_qbq ["self", "fill", "rule"] []
  fn_qar : Fun K "__init__" "Outline.__init__" s_qar a.f_qar a.d_qar
  b_qar : Binds K a.d_qar ["self", "lines"] []
  fn_qcf : Fun K "__init__" "Pen.__init__" s_qcf a.f_qcf a.d_qcf
  b_qcf : Binds K a.d_qcf ["self"] []
  fn_qai : Fun K "begin_line" "Pen.begin_line" s_qai a.f_qai a.d_qai
  b_qai : Binds K a.d_qai ["self", "place"] []
  fn_qah : Fun K "go_straight" "Pen.go_straight" s_qah a.f_qah a.d_qah
  b_qah : Binds K a.d_qah ["self", "place"] []
  fn_qan : Fun K "go_curved" "Pen.go_curved" s_qan a.f_qan a.d_qan
  b_qan : Binds K a.d_qan ["self", "told"] []
  fn_qbr : Fun K "__init__" "Shape.__init__" s_qbr a.f_qbr a.d_qbr
  b_qbr : Binds K a.d_qbr ["self", "figure", "matrix", "style"] []
  fn_qcg : Fun K "__init__" "Tag.__init__" s_qcg a.f_qcg a.d_qcg
  b_qcg : Binds K a.d_qcg ["self", "name", "attributes", "closed"] []
  fn_qas : Fun K "__init__" "Picture.__init__" s_qas a.f_qas a.d_qas
  b_qas : Binds K a.d_qas ["self", "width", "height"] []
  fn_qbj : Fun K "__init__" "Holder.__init__" s_qbj a.f_qbj a.d_qbj
  b_qbj : Binds K a.d_qbj ["self", "name", "matrix", "style"] []
  mg_qch : mg "sign_of" = some (.ref a.f_qch)
  mg_qcb : mg "signs_of" = some (.ref a.f_qcb)
  mg_qbs : mg "read_sign" = some (.ref a.f_qbs)
  mg_qat : mg "read_number" = some (.ref a.f_qat)
  mg_qcc : mg "read_row" = some (.ref a.f_qcc)
  mg_qaj : mg "single_number" = some (.ref a.f_qaj)
  mg_qak : mg "number_within" = some (.ref a.f_qak)
  mg_qbt : mg "whole_row" = some (.ref a.f_qbt)
  mg_qbk : mg "put_behind" = some (.ref a.f_qbk)
  mg_qao : mg "check_bounds" = some (.ref a.f_qao)
  mg_turn : mg "turn" = some (.ref a.f_turn)
  mg_qau : mg "step_matrix" = some (.ref a.f_qau)
  mg_qbu : mg "read_step" = some (.ref a.f_qbu)
  mg_qav : mg "transformed" = some (.ref a.f_qav)
  mg_fine : mg "fine" = some (.ref a.f_fine)
  mg_qbv : mg "colour_of" = some (.ref a.f_qbv)
  mg_qbw : mg "read_fill" = some (.ref a.f_qbw)
  mg_qbx : mg "read_rule" = some (.ref a.f_qbx)
  mg_qck : mg "styled" = some (.ref a.f_qck)
  mg_qal : mg "curve_weights" = some (.ref a.f_qal)
  mg_qci : mg "weighed" = some (.ref a.f_qci)
  mg_qaw : mg "check_place" = some (.ref a.f_qaw)
  mg_qax : mg "told_places" = some (.ref a.f_qax)
  mg_qbl : mg "follow_row" = some (.ref a.f_qbl)
  mg_qay : mg "follow_rows" = some (.ref a.f_qay)
  mg_qam : mg "follow_letter" = some (.ref a.f_qam)
  mg_qby : mg "read_path" = some (.ref a.f_qby)
  mg_qcl : mg "needed" = some (.ref a.f_qcl)
  mg_qbm : mg "place_told" = some (.ref a.f_qbm)
  mg_qaz : mg "length_told" = some (.ref a.f_qaz)
  mg_qbz : mg "read_rect" = some (.ref a.f_qbz)
  mg_qba : mg "read_circle" = some (.ref a.f_qba)
  mg_qbb : mg "read_points" = some (.ref a.f_qbb)
  mg_qbc : mg "read_figure" = some (.ref a.f_qbc)
  mg_qaa : mg "skip_blanks_and_notes" = some (.ref a.f_qaa)
  mg_qca : mg "read_name" = some (.ref a.f_qca)
  mg_qbn : mg "read_value" = some (.ref a.f_qbn)
  mg_qac : mg "read_attributes" = some (.ref a.f_qac)
  mg_qcd : mg "read_tag" = some (.ref a.f_qcd)
  mg_qbo : mg "picture_of" = some (.ref a.f_qbo)
  mg_qbd : mg "check_child" = some (.ref a.f_qbd)
  mg_qbp : mg "read_child" = some (.ref a.f_qbp)
  mg_qbe : mg "read_inside" = some (.ref a.f_qbe)
  mg_qap : mg "read_picture" = some (.ref a.f_qap)
  mg_qce : mg "answered" = some (.ref a.f_qce)
  mg_qcj : mg "size_of" = some (.ref a.f_qcj)
  mg_size : mg "size" = some (.ref a.f_size)
  ct_BLANK : Glob mg "BLANK" (.str " ")
  ct_STRANGE : Glob mg "STRANGE" (.str "\n")
  ct_SMALLS : Glob mg "SMALLS" (.str "abcdefghijklmnopqrstuvwxyz")
  ct_LETTERS : Glob mg "LETTERS" (.str "ABCDEFGHIJKLMNOPQRSTUVWXYZabcdefghijklmnopqrstuvwxyz")
  ct_DIGITS : Glob mg "DIGITS" (.str "0123456789")
  ct_PRINTED : Glob mg "PRINTED" (.str "!\"#$?&'()*+,-./0123456789:;<=>?@ABCDEFGHIJKLMNOPQRSTUVWXYZ[\\]^_`abcdefghijklmnopqrstuvwxyz{|}~")
  ct_MOST_DIGITS : Glob mg "MOST_DIGITS" (.int 5)
  ct_LARGEST : Glob mg "LARGEST" (.int 32767)
  ct_NUMBER_BEGINS : Glob mg "NUMBER_BEGINS" (.str "+-0123456789")
  ct_UNMOVED : mg "UNMOVED" = some (.ref a.g_UNMOVED)
  ct_QUARTER_TURNS : mg "QUARTER_TURNS" = some (.ref a.g_QUARTER_TURNS)
  ct_FARTHEST_TURN : Glob mg "FARTHEST_TURN" (.int 270)
  ct_LARGEST_FACTOR : Glob mg "LARGEST_FACTOR" (.int 1048576)
  ct_LARGEST_SHIFT : Glob mg "LARGEST_SHIFT" (.int 16777216)
  ct_FINE : Glob mg "FINE" (.int 4096)
  ct_DIGITS_OF_SIXTEEN : Glob mg "DIGITS_OF_SIXTEEN" (.str "0123456789abcdefABCDEF")
  ct_BLACK : Glob mg "BLACK" (.int 0)
  ct_NO_FILL : Glob mg "NO_FILL" (.int (-1))
  ct_NONZERO : Glob mg "NONZERO" (.str "nonzero")
  ct_EVENODD : Glob mg "EVENODD" (.str "evenodd")
  ct_ROW_LENGTHS : mg "ROW_LENGTHS" = some (.ref a.g_ROW_LENGTHS)
  ct_PATH_LETTERS : Glob mg "PATH_LETTERS" (.str "MLHVQCZmlhvqcz")
  ct_FARTHEST : Glob mg "FARTHEST" (.int 65536)
  ct_CURVE_PIECES : Glob mg "CURVE_PIECES" (.int 16)
  ct_SHAPES : mg "SHAPES" = some (.ref a.g_SHAPES)
  ct_NAME_SIGNS : Glob mg "NAME_SIGNS" (.str "ABCDEFGHIJKLMNOPQRSTUVWXYZabcdefghijklmnopqrstuvwxyz0123456789-:")
  ct_LARGEST_SIDE : Glob mg "LARGEST_SIDE" (.int 1024)
  ct_MOST_GROUPS_AROUND : Glob mg "MOST_GROUPS_AROUND" (.int 16)
  ct_MOST_BYTES : Glob mg "MOST_BYTES" (.int 65536)
  ct_BEYOND_BOUNDS : Glob mg "BEYOND_BOUNDS" (.int (-1))
  ct_NOT_RIGHT : Glob mg "NOT_RIGHT" (.int (-2))
  kt_UNMOVED : KTu K a.g_UNMOVED [.int 1, .int 0, .int 0, .int 1, .int 0, .int 0]
  kt_QT : KTu K a.g_QUARTER_TURNS [.ref a.g_Q0, .ref a.g_Q1, .ref a.g_Q2, .ref a.g_Q3]
  kt_Q0 : KTu K a.g_Q0 [.int 1, .int 0, .int 0, .int 1, .int 0, .int 0]
  kt_Q1 : KTu K a.g_Q1 [.int 0, .int 1, .int (-1), .int 0, .int 0, .int 0]
  kt_Q2 : KTu K a.g_Q2 [.int (-1), .int 0, .int 0, .int (-1), .int 0, .int 0]
  kt_Q3 : KTu K a.g_Q3 [.int 0, .int (-1), .int 1, .int 0, .int 0, .int 0]
  kt_SHAPES : KTu K a.g_SHAPES [.str "rect", .str "circle", .str "polygon", .str "polyline", .str "path"]
  kd_ROW : KD K a.prm a.g_ROW_LENGTHS [("M", 2), ("L", 2), ("H", 1), ("V", 1), ("Q", 4), ("C", 6)]
  bl_abs : mg "abs" = none
  bl_answer : mg "answer" = none
  bl_int : mg "int" = none
  bl_len : mg "len" = none
  bl_max : mg "max" = none
  bl_range : mg "range" = none
  bl_sum : mg "sum" = none
  bl_tuple : mg "tuple" = none
  bl_zip : mg "zip" = none
theorem fsc {N P : List Str} {sc : Scope} (a : sc.kind = .function := by rfl) (b : sc.isCoroutine = false := by rfl) (c : sc.isGenerator = false := by rfl) (d : N.Nodup := by decide +kernel) (e : N.take P.length = P := by rfl) (f : ∀ x ∈ P, sc.names.lookup x = some .local ∨ sc.names.lookup x = some .cell := by decide +kernel) (g : ∀ y ∈ sc.names, y.2 ≠ .free := by decide +kernel) : FnScope N P sc := ⟨a, b, c, d, e, f, g⟩
theorem sc_qch : FnScope ["byte"] ["byte"] (defScope s_qch) := fsc
theorem sc_qcb : FnScope ["text", "byte"] ["text"] (defScope s_qcb) := fsc
theorem sc_qbs : FnScope ["reader"] ["reader"] (defScope s_qbs) := fsc
theorem sc_qat : FnScope ["reader", "sign", "digits"] ["reader"] (defScope s_qat) := fsc
theorem sc_qcc : FnScope ["reader", "row", "more", "comma"] ["reader"] (defScope s_qcc) := fsc
theorem sc_qaj : FnScope ["value", "reader", "number"] ["value"] (defScope s_qaj) := fsc
theorem sc_qak : FnScope ["value", "least", "most", "number"] ["value", "least", "most"] (defScope s_qak) := fsc
theorem sc_qbt : FnScope ["value", "reader", "row"] ["value"] (defScope s_qbt) := fsc
theorem sc_qbk : FnScope ["outer", "inner"] ["outer", "inner"] (defScope s_qbk) := fsc
theorem sc_qao : FnScope ["matrix", "factor", "shift"] ["matrix"] (defScope s_qao) := fsc
theorem sc_turn : FnScope ["angle"] ["angle"] (defScope s_turn) := fsc
theorem sc_qau : FnScope ["word", "row"] ["word", "row"] (defScope s_qau) := fsc
theorem sc_qbu : FnScope ["reader", "word", "row"] ["reader"] (defScope s_qbu) := fsc
theorem sc_qav : FnScope ["outer", "transform", "reader", "matrix"] ["outer", "transform"] (defScope s_qav) := fsc
theorem sc_fine : FnScope ["place"] ["place"] (defScope s_fine) := fsc
theorem sc_qbv : FnScope ["digits", "colour", "digit"] ["digits"] (defScope s_qbv) := fsc
theorem sc_qbw : FnScope ["value", "reader", "digits"] ["value"] (defScope s_qbw) := fsc
theorem sc_qbx : FnScope ["value"] ["value"] (defScope s_qbx) := fsc
theorem sc_qck : FnScope ["around", "attributes", "fill", "rule"] ["around", "attributes"] (defScope s_qck) := fsc
theorem sc_qal : FnScope ["k", "corner_count", "rest"] ["k", "corner_count"] (defScope s_qal) := fsc
theorem sc_qci : FnScope ["corners", "weights", "corner", "weight"] ["corners", "weights"] (defScope s_qci) := fsc
theorem sc_qaw : FnScope ["place"] ["place"] (defScope s_qaw) := fsc
theorem sc_qax : FnScope ["stands", "letter", "row", "base", "k"] ["stands", "letter", "row"] (defScope s_qax) := fsc
theorem sc_qbl : FnScope ["pen", "letter", "row", "begins", "told", "place"] ["pen", "letter", "row", "begins"] (defScope s_qbl) := fsc
theorem sc_qay : FnScope ["pen", "letter", "numbers", "length", "first", "begins"] ["pen", "letter", "numbers"] (defScope s_qay) := fsc
theorem sc_qam : FnScope ["pen", "letter", "numbers"] ["pen", "letter", "numbers"] (defScope s_qam) := fsc
theorem sc_qby : FnScope ["value", "reader", "pen", "letter"] ["value"] (defScope s_qby) := fsc
theorem sc_qcl : FnScope ["attributes", "name"] ["attributes", "name"] (defScope s_qcl) := fsc
theorem sc_qbm : FnScope ["attributes", "x_name", "y_name"] ["attributes", "x_name", "y_name"] (defScope s_qbm) := fsc
theorem sc_qaz : FnScope ["attributes", "name"] ["attributes", "name"] (defScope s_qaz) := fsc
theorem sc_qbz : FnScope ["attributes", "near", "far"] ["attributes"] (defScope s_qbz) := fsc
theorem sc_qba : FnScope ["attributes", "middle"] ["attributes"] (defScope s_qba) := fsc
theorem sc_qbb : FnScope ["attributes", "row", "k"] ["attributes"] (defScope s_qbb) := fsc
theorem sc_qbc : FnScope ["name", "attributes"] ["name", "attributes"] (defScope s_qbc) := fsc
theorem sc_qaa : FnScope ["reader"] ["reader"] (defScope s_qaa) := fsc
theorem sc_qca : FnScope ["reader"] ["reader"] (defScope s_qca) := fsc
theorem sc_qbn : FnScope ["reader", "quote", "value"] ["reader"] (defScope s_qbn) := fsc
theorem sc_qac : FnScope ["reader", "attributes", "name"] ["reader"] (defScope s_qac) := fsc
theorem sc_qcd : FnScope ["reader", "name", "attributes", "closed"] ["reader"] (defScope s_qcd) := fsc
theorem sc_qbo : FnScope ["tag", "width", "height"] ["tag"] (defScope s_qbo) := fsc
theorem sc_qbd : FnScope ["tag", "holders"] ["tag", "holders"] (defScope s_qbd) := fsc
theorem sc_qbp : FnScope ["reader", "holders", "picture", "tag", "matrix", "style"] ["reader", "holders", "picture"] (defScope s_qbp) := fsc
theorem sc_qbe : FnScope ["reader", "picture", "style", "holders"] ["reader", "picture", "style"] (defScope s_qbe) := fsc
theorem sc_qap : FnScope ["signs", "reader", "tag", "picture", "style"] ["signs"] (defScope s_qap) := fsc
theorem sc_qce : FnScope ["text", "answer", "picture"] ["text", "answer"] (defScope s_qce) := fsc
theorem sc_qcj : FnScope ["picture"] ["picture"] (defScope s_qcj) := fsc
theorem sc_size : FnScope ["text"] ["text"] (defScope s_size) := fsc
theorem sc_qbf : FnScope ["self", "signs"] ["self", "signs"] (defScope s_qbf) := fsc
theorem sc_qaq : FnScope ["self"] ["self"] (defScope s_qaq) := fsc
theorem sc_qad : FnScope ["self", "allowed"] ["self", "allowed"] (defScope s_qad) := fsc
theorem sc_qbg : FnScope ["self", "word"] ["self", "word"] (defScope s_qbg) := fsc
theorem sc_qbh : FnScope ["self", "word"] ["self", "word"] (defScope s_qbh) := fsc
theorem sc_qae : FnScope ["self"] ["self"] (defScope s_qae) := fsc
theorem sc_qaf : FnScope ["self", "allowed"] ["self", "allowed"] (defScope s_qaf) := fsc
theorem sc_qag : FnScope ["self", "allowed", "first"] ["self", "allowed"] (defScope s_qag) := fsc
theorem sc_qab : FnScope ["self", "word", "first", "found"] ["self", "word"] (defScope s_qab) := fsc
theorem sc_qbi : FnScope ["self", "cx", "cy", "r"] ["self", "cx", "cy", "r"] (defScope s_qbi) := fsc
theorem sc_qbq : FnScope ["self", "fill", "rule"] ["self", "fill", "rule"] (defScope s_qbq) := fsc
theorem sc_qar : FnScope ["self", "lines"] ["self", "lines"] (defScope s_qar) := fsc
theorem sc_qcf : FnScope ["self"] ["self"] (defScope s_qcf) := fsc
theorem sc_qai : FnScope ["self", "place"] ["self", "place"] (defScope s_qai) := fsc
theorem sc_qah : FnScope ["self", "place"] ["self", "place"] (defScope s_qah) := fsc
theorem sc_qan : FnScope ["self", "told", "corners", "k"] ["self", "told"] (defScope s_qan) := fsc
theorem sc_qbr : FnScope ["self", "figure", "matrix", "style"] ["self", "figure", "matrix", "style"] (defScope s_qbr) := fsc
theorem sc_qcg : FnScope ["self", "name", "attributes", "closed"] ["self", "name", "attributes", "closed"] (defScope s_qcg) := fsc
theorem sc_qas : FnScope ["self", "width", "height"] ["self", "width", "height"] (defScope s_qas) := fsc
theorem sc_qbj : FnScope ["self", "name", "matrix", "style"] ["self", "name", "matrix", "style"] (defScope s_qbj) := fsc
end Pg
namespace Pg
open PySem PySem.Spec PyProof.Rows L2 TL
abbrev B := List Nat
def sg (l : List Nat) : Str := ⟨l.toArray⟩
theorem tl_sg {l : List Nat} : tl (sg l) = l := by show l.toArray.toList = l; simp
theorem sg_len {l : List Nat} : (sg l).length = l.length := by show l.toArray.size = l.length; simp
theorem sg_inj {l m : List Nat} (h : sg l = sg m) : l = m := by rw [← tl_sg (l := l), h, tl_sg]
theorem sg_iff {l m : List Nat} : sg l = sg m ↔ l = m := ⟨sg_inj, fun h => by rw [h]⟩
theorem lit (s : String) : (s : Str) = sg (Sg35.ascii s) := Str.ofString_eq_toList s
structure Keep (M : List Addr) (H H' : Hp) : Prop where
  kp : ∀ b o, H b = some o → b ∉ M → H' b = some o
  tp : ∀ b xs, H b = some (.tup xs) → H' b = some (.tup xs)
  fz : ∀ b o u, H b = some (.frz o u) → H' b = some (.frz o u)
theorem Keep.refl {M : List Addr} {H : Hp} : Keep M H H := ⟨fun _ _ h _ => h, fun _ _ h => h, fun _ _ _ h => h⟩
theorem Keep.trans {M : List Addr} {H H1 H2 : Hp} (a : Keep M H H1) (b : Keep M H1 H2) : Keep M H H2 :=
  ⟨fun c o h n => b.kp c o (a.kp c o h n) n, fun c xs h => b.tp c xs (a.tp c xs h), fun c o u h => b.fz c o u (a.fz c o u h)⟩
theorem Keep.mono {M M' : List Addr} {H H1 : Hp} (a : Keep M H H1) (h : ∀ x ∈ M, x ∈ M') : Keep M' H H1 :=
  ⟨fun c o e n => a.kp c o e fun z => n (h c z), a.tp, a.fz⟩
theorem Keep.up {M : List Addr} {H H1 : Hp} (a : Keep [] H H1) : Keep M H H1 := a.mono fun x h => by simp at h
theorem Keep.at {H H1 : Hp} (a : Keep [] H H1) {b : Addr} {o : HO} (h : H b = some o) : H1 b = some o := a.kp b o h (by simp)
theorem Keep.one {r : Addr} {H H1 : Hp} (a : Keep [r] H H1) {b : Addr} {o : HO} (h : H b = some o) (n : b ≠ r) : H1 b = some o := a.kp b o h (by simpa using n)
theorem Keep.new {M : List Addr} {H : Hp} {p : Addr} {o : HO} (hp : H p = none) : Keep M H (upd H p o) :=
  ⟨fun b u e _ => by rw [upd_ne (ne_of_none e hp)]; exact e, fun b xs e => by rw [upd_ne (ne_of_none e hp)]; exact e, fun b u v e => by rw [upd_ne (ne_of_none e hp)]; exact e⟩
theorem Keep.set {M : List Addr} {H : Hp} {p : Addr} {o : HO} (hm : p ∈ M) (mu : Mut (H p)) : Keep M H (upd H p o) :=
  ⟨fun b u e n => by rw [upd_ne (show b ≠ p from fun z => n (by rw [z]; exact hm))]; exact e, fun b xs e => by rw [upd_ne fun z => by subst z; rw [e] at mu; exact mu]; exact e,
   fun b u v e => by rw [upd_ne fun z => by subst z; rw [e] at mu; exact mu]; exact e⟩
theorem Keep.drop {M : List Addr} {p : Addr} {H0 H1 H2 : Hp} (a : Keep M H0 H1) (b : Keep (p :: M) H1 H2) (hp : H0 p = none) : Keep M H0 H2 :=
  ⟨fun c o e n => b.kp c o (a.kp c o e n) (by
      intro z
      rcases List.mem_cons.mp z with z | z
      · subst z; rw [e] at hp; cases hp
      · exact n z), fun c xs h => b.tp c xs (a.tp c xs h), fun c o u h => b.fz c o u (a.fz c o u h)⟩
theorem Keep.free {M : List Addr} {H H1 : Hp} (a : Keep M H H1) {p : Addr} (h : H1 p = none) (n : p ∉ M) : H p = none := by
  cases q : H p with
  | none => rfl
  | some o => rw [a.kp p o q n] at h; cases h
theorem Keep.free0 {H H1 : Hp} (a : Keep [] H H1) {p : Addr} (h : H1 p = none) : H p = none := a.free h (by simp)
theorem Keep.made {H H1 : Hp} {x dx C : Addr} (nx : H x = none) (nd : H dx = none) (k : Keep [x] (upd (upd H dx (.own x)) x (.ins C dx [])) H1) : Keep [] H H1 := by
  have e1 : Keep [] H (upd H dx (.own x)) := Keep.new nd
  have hx : ∀ {o : HO} {b : Addr}, H b = some o → (upd (upd H dx (.own x)) x (.ins C dx [])) b = some o := fun {o b} e => by rw [upd_ne (ne_of_none e nx), upd_ne (ne_of_none e nd)]; exact e
  exact ⟨fun b o e _ => k.kp b o (hx e) (by simpa using ne_of_none e nx), fun b xs e => k.tp b xs (hx e), fun b o u e => k.fz b o u (hx e)⟩
theorem Keep.sqT {M : List Addr} {K : PySem.W.Frag} {H H' : Hp} {m : Addr} {xs : List V} (k : Keep M H H') (h : SqT K H m xs) : SqT K H' m xs := by
  rcases h with (h | ⟨o, h⟩) | h
  · exact .inl (.inl (k.tp _ _ h))
  · exact .inl (.inr ⟨o, k.fz _ _ _ h⟩)
  · exact .inr h
theorem Keep.sqL {K : PySem.W.Frag} {H H' : Hp} {m : Addr} {xs : List V} (k : Keep [] H H') (h : SqL K H m xs) : SqL K H' m xs := by
  rcases h with (h | ⟨o, h⟩) | h
  · exact .inl (.inl (k.at h))
  · exact .inl (.inr ⟨o, k.fz _ _ _ h⟩)
  · exact .inr h
theorem Keep.grow {M M' : List Addr} {H H1 H2 : Hp} (k1 : Keep M H H1) (k2 : Keep M' H1 H2) (d : ∀ x ∈ M', x ∈ M ∨ H x = none) : Keep M H H2 :=
  ⟨fun b o e n => k2.kp b o (k1.kp b o e n) fun z => (d b z).elim n (fun q => by rw [e] at q; cases q), fun b xs e => k2.tp b xs (k1.tp b xs e), fun b o u e => k2.fz b o u (k1.fz b o u e)⟩
def Fails (a : Adr) (E : XK) : Prop := ∀ H', E (.ref a.cWrongText) none H'
def rdF (S : Str) (p : Nat) : List (Str × V) := [("signs", .str S), ("place", .int (p : Int))]
theorem ps_ne : (("place" : Str) == "signs") = false := by decide +kernel
theorem sp_ne : ¬ (("signs" : Str) = "place") := by decide +kernel
theorem rdF_signs {S : Str} {p : Nat} : (rdF S p).lookup ("signs" : Str) = some (.str S) := lk_here
theorem rdF_place {S : Str} {p : Nat} : (rdF S p).lookup ("place" : Str) = some (.int (p : Int)) := (lk_next ps_ne).trans lk_here
theorem rdF_no {S : Str} {p : Nat} {m : Str} (h1 : (m == "signs") = false) (h2 : (m == "place") = false) : (rdF S p).lookup m = none := (lk_next h1).trans ((lk_next h2).trans rfl)
theorem rdF_put {S : Str} {p q : Nat} : putF "place" (.int (q : Int)) (rdF S p) = rdF S q := by
  unfold rdF
  rw [pf_next sp_ne, pf_here]
structure RdR (a : Adr) (H : Hp) (r : Addr) (q : B) : Prop where
  ex : ∃ (b : B) (dx : Addr) (p : Nat), H r = some (.ins a.cReader dx (rdF (sg (b.map Sg35.tr)) p)) ∧ q = b.drop p ∧ p ≤ b.length ∧ b.length ≤ 65600 ∧ Sg35.Byt b
theorem RdR.len {a : Adr} {H : Hp} {r : Addr} {q : B} (h : RdR a H r q) : q.length ≤ 65600 := by
  obtain ⟨b, dx, p, _, rfl, _, hl, _⟩ := h.ex
  rw [List.length_drop]; omega
theorem RdR.byt {a : Adr} {H : Hp} {r : Addr} {q : B} (h : RdR a H r q) : Sg35.Byt q := by
  obtain ⟨b, dx, p, _, rfl, _, hl, hb⟩ := h.ex
  exact hb.drop p
theorem RdR.ins {a : Adr} {H : Hp} {r : Addr} {q : B} (h : RdR a H r q) : ∃ dx fs, H r = some (.ins a.cReader dx fs) ∧ ∀ m : Str, (m == "signs") = false → (m == "place") = false → fs.lookup m = none := by
  obtain ⟨b, dx, p, e, _⟩ := h.ex
  exact ⟨dx, _, e, fun m h1 h2 => rdF_no h1 h2⟩
theorem RdR.keep {a : Adr} {M : List Addr} {H H' : Hp} {r : Addr} {q : B} (h : RdR a H r q) (k : Keep M H H') (n : r ∉ M) : RdR a H' r q := by
  obtain ⟨b, dx, p, e, r⟩ := h.ex
  exact ⟨b, dx, p, k.kp _ _ e n, r⟩
theorem RdR.keep0 {a : Adr} {H H' : Hp} {r : Addr} {q : B} (h : RdR a H r q) (k : Keep [] H H') : RdR a H' r q := h.keep k (by simp)
theorem RdR.ne {a : Adr} {H : Hp} {r p : Addr} {q : B} (h : RdR a H r q) (hp : H p = none) : r ≠ p := by
  obtain ⟨b, dx, _, e, _⟩ := h.ex
  exact ne_of_none e hp
def hd1 (P : Nat → Bool) : B → Bool
  | c :: _ => P c
  | [] => false
def Zs (Z : Str) (P : Nat → Bool) : Prop := ∀ c < 256, Sg35.isIn (tl Z) (Sg35.tr c) = P c
def Mv (a : Adr) (H : Hp) (r : Addr) (q : B) (R : Hp → Prop) : Prop := ∀ H', Keep [r] H H' → RdR a H' r q → R H'
def sp_Reader_init (a : Adr) : Sp := fun vs H Q _ => ∃ (r dx : Addr) (b : B), vs = [.ref r, .str (sg (b.map Sg35.tr))] ∧ H r = some (.ins a.cReader dx []) ∧ b.length ≤ 65600 ∧ Sg35.Byt b ∧ Mv a H r b (Q .non)
def sp_ended (a : Adr) : Sp := fun vs H Q _ => ∃ (r : Addr) (q : B), vs = [.ref r] ∧ RdR a H r q ∧ Q (.bl (decide (q = []))) H
def sp_sees (a : Adr) : Sp := fun vs H Q _ => ∃ (r : Addr) (q : B) (Z : Str) (P : Nat → Bool), vs = [.ref r, .str Z] ∧ RdR a H r q ∧ Zs Z P ∧ Q (.bl (hd1 P q)) H
def sp_skip (a : Adr) : Sp := fun vs H Q _ => ∃ (r : Addr) (q : B) (W : Str) (w : List Nat), vs = [.ref r, .str W] ∧ RdR a H r q ∧ W = sg w ∧ Sg35.Plain w ∧ w ≠ [] ∧ w.length ≤ 65700 ∧
  (∀ t, q = w ++ t → Mv a H r t (Q (.bl true))) ∧ ((∀ t, q ≠ w ++ t) → Q (.bl false) H)
def sp_need (a : Adr) : Sp := fun vs H Q E => ∃ (r : Addr) (q : B) (W : Str) (w : List Nat), vs = [.ref r, .str W] ∧ RdR a H r q ∧ W = sg w ∧ Sg35.Plain w ∧ w ≠ [] ∧ w.length ≤ 65700 ∧
  (∀ t, q = w ++ t → Mv a H r t (Q .non)) ∧ ((∀ t, q ≠ w ++ t) → Fails a E)
def sp_need_end (a : Adr) : Sp := fun vs H Q E => ∃ (r : Addr) (q : B), vs = [.ref r] ∧ RdR a H r q ∧ (q = [] → Q .non H) ∧ (q ≠ [] → Fails a E)
def sp_take_one (a : Adr) : Sp := fun vs H Q E => ∃ (r : Addr) (q : B) (Z : Str) (P : Nat → Bool), vs = [.ref r, .str Z] ∧ RdR a H r q ∧ Zs Z P ∧
  (∀ c t, q = c :: t → P c = true → Mv a H r t (Q (.str (sg [Sg35.tr c])))) ∧ (hd1 P q = false → Fails a E)
def sp_take_all (a : Adr) : Sp := fun vs H Q _ => ∃ (r : Addr) (q : B) (Z : Str) (P : Nat → Bool), vs = [.ref r, .str Z] ∧ RdR a H r q ∧ Zs Z P ∧ Mv a H r (q.dropWhile P) (Q (.str (sg ((q.takeWhile P).map Sg35.tr))))
def sp_up_to (a : Adr) : Sp := fun vs H Q E => ∃ (r : Addr) (q : B) (W : Str) (w : List Nat), vs = [.ref r, .str W] ∧ RdR a H r q ∧ W = sg w ∧ Sg35.Plain w ∧ w ≠ [] ∧ w.length ≤ 65700 ∧
  ((∀ i, (q.drop i).take w.length ≠ w) → Fails a E) ∧
  ∀ k, (q.drop k).take w.length = w → (∀ i, i < k → (q.drop i).take w.length ≠ w) → Mv a H r (q.drop (k + w.length)) (Q (.str (sg ((q.take k).map Sg35.tr))))
def LsI (H : Hp) (p : Addr) (l : List Int) : Prop := H p = some (.lst (l.map V.int))
def sp_read_sign (a : Adr) : Sp := fun vs H Q _ => ∃ (r : Addr) (q : B), vs = [.ref r] ∧ RdR a H r q ∧ Mv a H r (Sg35.unsigned q) (Q (.int (if q.head? = some 45 then -1 else 1)))
def sp_read_number (a : Adr) : Sp := fun vs H Q E => ∃ (r : Addr) (q : B), vs = [.ref r] ∧ RdR a H r q ∧ (Sg35.numberAt q = none → Fails a E) ∧ ∀ z t, Sg35.numberAt q = some (z, t) → Mv a H r t (Q (.int z))
def sp_read_row (a : Adr) : Sp := fun vs H Q E => ∃ (r : Addr) (q : B), vs = [.ref r] ∧ RdR a H r q ∧ (Sg35.rowAt q = none → Fails a E) ∧
  ∀ l t p, Sg35.rowAt q = some (l, t) → H p = none → Mv a H r t fun H' => LsI H' p l → Q (.ref p) H'
def TxB (x : Str) (b : B) : Prop := x = sg (b.map Sg35.tr) ∧ b.length ≤ 65600 ∧ Sg35.Byt b
def sp_single (a : Adr) : Sp := fun vs H Q E => ∃ (x : Str) (b : B), vs = [.str x] ∧ TxB x b ∧ (Sg35.single b = none → Fails a E) ∧ ∀ z H', Sg35.single b = some z → Keep [] H H' → Q (.int z) H'
def sp_within (a : Adr) : Sp := fun vs H Q E => ∃ (x : Str) (b : B) (lo hi : Int), vs = [.str x, .int lo, .int hi] ∧ TxB x b ∧ ((∀ z, Sg35.single b = some z → ¬ (lo ≤ z ∧ z ≤ hi)) → Fails a E) ∧
  ∀ z H', Sg35.single b = some z → lo ≤ z → z ≤ hi → Keep [] H H' → Q (.int z) H'
def sp_whole_row (a : Adr) : Sp := fun vs H Q E => ∃ (x : Str) (b : B), vs = [.str x] ∧ TxB x b ∧ (Sg35.row b = none → Fails a E) ∧ ∀ l p H', Sg35.row b = some l → H p = none → Keep [] H H' → LsI H' p l → Q (.ref p) H'
def matV (m : Sg35.Mat) : List V := [.int m.a, .int m.b, .int m.c, .int m.d, .int m.e, .int m.f]
def MatAt (K : PySem.W.Frag) (H : Hp) (p : Addr) (m : Sg35.Mat) : Prop := SqT K H p (matV m)
def Small (m : Sg35.Mat) : Prop := ∀ z ∈ [m.a, m.b, m.c, m.d, m.e, m.f], z.natAbs ≤ 16777216
def sp_put_behind (K : PySem.W.Frag) : Sp := fun vs H Q _ => ∃ (p q : Addr) (m n : Sg35.Mat), vs = [.ref p, .ref q] ∧ MatAt K H p m ∧ MatAt K H q n ∧ Small m ∧ ∀ t H', Keep [] H H' → MatAt K H' t (m.times n) → Q (.ref t) H'
def sp_check_bounds (K : PySem.W.Frag) (a : Adr) : Sp := fun vs H Q E => ∃ (p : Addr) (m : Sg35.Mat), vs = [.ref p] ∧ MatAt K H p m ∧ (m.fits = false → Fails a E) ∧ (m.fits = true → ∀ H', Keep [] H H' → Q .non H')
def rotM (z : Int) : Option Sg35.Mat := Sg35.turning (Sg35.ascii "rotate") [z]
def sp_turn (K : PySem.W.Frag) (a : Adr) : Sp := fun vs H Q E => ∃ z : Int, vs = [.int z] ∧ (rotM z = none → Fails a E) ∧ ∀ m t, rotM z = some m → MatAt K H t m → Q (.ref t) H
def sp_step_matrix (K : PySem.W.Frag) (a : Adr) : Sp := fun vs H Q E => ∃ (x : Str) (b : B) (p : Addr) (l : List Int), vs = [.str x, .ref p] ∧ x = sg b ∧ LsI H p l ∧ (Sg35.turning b l = none → Fails a E) ∧ ∀ m t H', Sg35.turning b l = some m → Keep [] H H' → MatAt K H' t m → Q (.ref t) H'
def sp_read_step (K : PySem.W.Frag) (a : Adr) : Sp := fun vs H Q E => ∃ (r : Addr) (q : B), vs = [.ref r] ∧ RdR a H r q ∧ (Sg35.turningAt q = none → Fails a E) ∧ ∀ m t p, Sg35.turningAt q = some (m, t) → Mv a H r t fun H' => MatAt K H' p m → Q (.ref p) H'
def sp_transformed (K : PySem.W.Frag) (a : Adr) : Sp := fun vs H Q E => ∃ (p : Addr) (m : Sg35.Mat) (x : Str) (b : B), vs = [.ref p, .str x] ∧ MatAt K H p m ∧ Small m ∧ TxB x b ∧ (Sg35.turned m b = none → Fails a E) ∧ ∀ n t H', Sg35.turned m b = some n → Keep [] H H' → MatAt K H' t n → Small n → Q (.ref t) H'
def flV : Option Nat → Int
  | none => -1
  | some n => (n : Int)
def rlV (odd : Bool) : Str := if odd = true then "evenodd" else "nonzero"
def stF (f : V) (r : V) : List (Str × V) := [("fill", f), ("rule", r)]
def StyAt (a : Adr) (H : Hp) (s : Addr) (f : Option Nat) (o : Bool) : Prop := ∃ dx, H s = some (.ins a.cStyle dx (stF (.int (flV f)) (.str (rlV o))))
def sp_Style_init (a : Adr) : Sp := fun vs H Q _ => ∃ (x dx : Addr) (u v : V), vs = [.ref x, u, v] ∧ H x = some (.ins a.cStyle dx []) ∧ ∀ H', Keep [x] H H' → H' x = some (.ins a.cStyle dx (stF u v)) → Q .non H'
def hexOf (b : B) : Option Nat := if b.length = 6 then (b.mapM Sg35.hex).map fun l => l.foldl (fun n x => 16 * n + x) 0 else none
def sp_colour : Sp := fun vs H Q _ => ∃ (x : Str) (b : B) (n : Nat), vs = [.str x] ∧ x = sg b ∧ hexOf b = some n ∧ Q (.int (n : Int)) H
def sp_read_fill (a : Adr) : Sp := fun vs H Q E => ∃ (x : Str) (b : B), vs = [.str x] ∧ TxB x b ∧ (Sg35.fillOf b = none → Fails a E) ∧ ∀ f H', Sg35.fillOf b = some f → Keep [] H H' → Q (.int (flV f)) H'
def ruleOf (b : B) : Option Bool := if b = Sg35.ascii "nonzero" then some false else if b = Sg35.ascii "evenodd" then some true else none
def sp_read_rule (a : Adr) : Sp := fun vs H Q E => ∃ (x : Str) (b : B), vs = [.str x] ∧ TxB x b ∧ (ruleOf b = none → Fails a E) ∧ ∀ o H', ruleOf b = some o → Keep [] H H' → Q (.str (rlV o)) H'
def atK (as : List (B × B)) : List (Key × V) := as.map fun p => (Sum.inr (sg p.1), .str (sg (p.2.map Sg35.tr)))
def AtAt (H : Hp) (d : Addr) (as : List (B × B)) : Prop := H d = some (.dK (atK as)) ∧ ∀ p ∈ as, p.2.length ≤ 65600 ∧ Sg35.Byt p.2
theorem AtAt.keep {H H' : Hp} {d : Addr} {as : List (B × B)} (h : AtAt H d as) (k : Keep [] H H') : AtAt H' d as := ⟨k.at h.1, h.2⟩
def fillIn (f : Option Nat) (as : List (B × B)) : Option (Option Nat) := match Sg35.attr as "fill" with
  | some v => Sg35.fillOf v
  | none => some f
def ruleIn (o : Bool) (as : List (B × B)) : Option Bool := match Sg35.attr as "fill-rule" with
  | some v => ruleOf v
  | none => some o
def styOf (f : Option Nat) (o : Bool) (as : List (B × B)) : Option (Option Nat × Bool) := (fillIn f as).bind fun f' => (ruleIn o as).map fun o' => (f', o')
theorem styOf_some {f : Option Nat} {o : Bool} {as : List (B × B)} {f' : Option Nat} {o' : Bool} (h1 : fillIn f as = some f') (h2 : ruleIn o as = some o') : styOf f o as = some (f', o') := by unfold styOf; rw [h1, h2]; rfl
theorem styOf_none1 {f : Option Nat} {o : Bool} {as : List (B × B)} (h1 : fillIn f as = none) : styOf f o as = none := by unfold styOf; rw [h1]; rfl
theorem styOf_none2 {f : Option Nat} {o : Bool} {as : List (B × B)} (h1 : ruleIn o as = none) : styOf f o as = none := by unfold styOf; rw [h1]; cases fillIn f as <;> rfl
def sp_styled (a : Adr) : Sp := fun vs H Q E => ∃ (s d : Addr) (f : Option Nat) (o : Bool) (as : List (B × B)), vs = [.ref s, .ref d] ∧ StyAt a H s f o ∧ AtAt H d as ∧ (styOf f o as = none → Fails a E) ∧
  ∀ f' o' t H', styOf f o as = some (f', o') → Keep [] H H' → H t = none → StyAt a H' t f' o' → Q (.ref t) H'
end Pg
namespace Pg
open PySem PySem.Spec PyProof.Rows L2 TL
abbrev Pt := Int × Int
def PtT (K : PySem.W.Frag) (H : Hp) (t : Addr) (p : Pt) : Prop := SqT K H t [.int p.1, .int p.2]
theorem PtT.keep {M : List Addr} {K : PySem.W.Frag} {H H' : Hp} {t : Addr} {p : Pt} (h : PtT K H t p) (k : Keep M H H') : PtT K H' t p := k.sqT h
def PtsAt (K : PySem.W.Frag) (H : Hp) (ts : List Addr) (ps : List Pt) : Prop := Paired (PtT K H) ts ps
theorem PtsAt.keep {M : List Addr} {K : PySem.W.Frag} {H H' : Hp} {ts : List Addr} {ps : List Pt} (h : PtsAt K H ts ps) (k : Keep M H H') : PtsAt K H' ts ps := Paired.mapP h fun _ _ z => PtT.keep z k
theorem PtsAt.snoc {K : PySem.W.Frag} {H : Hp} {ts : List Addr} {ps : List Pt} {t : Addr} {p : Pt} (h : PtsAt K H ts ps) (z : PtT K H t p) : PtsAt K H (ts ++ [t]) (ps ++ [p]) := by
  induction h with
  | nil => exact .cons z .nil
  | cons a b ih => exact .cons a ih
theorem PtsAt.length {K : PySem.W.Frag} {H : Hp} {ts : List Addr} {ps : List Pt} (h : PtsAt K H ts ps) : ts.length = ps.length := Paired.length h
theorem PtsAt.get {K : PySem.W.Frag} {H : Hp} {ts : List Addr} {ps : List Pt} (h : PtsAt K H ts ps) : ∀ {i : Nat} {p : Pt}, ps[i]? = some p → ∃ t, ts[i]? = some t ∧ PtT K H t p := by
  induction h with
  | nil => intro i p e; simp at e
  | cons a b ih =>
    intro i p e
    cases i with
    | zero => simp at e; subst e; exact ⟨_, rfl, a⟩
    | succ i => exact ih (by simpa using e)
def LineAt (K : PySem.W.Frag) (H : Hp) (r : Addr) (ps : List Pt) : Prop := ∃ ts, H r = some (.lst (ts.map V.ref)) ∧ PtsAt K H ts ps
theorem LineAt.keep {M : List Addr} {K : PySem.W.Frag} {H H' : Hp} {r : Addr} {ps : List Pt} (h : LineAt K H r ps) (k : Keep M H H') (n : r ∉ M) : LineAt K H' r ps := by
  obtain ⟨ts, e, z⟩ := h
  exact ⟨ts, k.kp _ _ e n, z.keep k⟩
def LinesAt (K : PySem.W.Frag) (H : Hp) (rs : List Addr) (ls : Sg35.Lines) : Prop := Paired (LineAt K H) rs ls
theorem LinesAt.keep {M : List Addr} {K : PySem.W.Frag} {H H' : Hp} {rs : List Addr} {ls : Sg35.Lines} (h : LinesAt K H rs ls) (k : Keep M H H') (n : ∀ r ∈ rs, r ∉ M) : LinesAt K H' rs ls := by
  induction h with
  | nil => exact .nil
  | cons a b ih => exact .cons (a.keep k (n _ (by simp))) (ih fun r hr => n r (List.mem_cons_of_mem _ hr))
theorem LinesAt.length {K : PySem.W.Frag} {H : Hp} {rs : List Addr} {ls : Sg35.Lines} (h : LinesAt K H rs ls) : rs.length = ls.length := Paired.length h
theorem LinesAt.snoc {K : PySem.W.Frag} {H : Hp} {rs : List Addr} {ls : Sg35.Lines} {r : Addr} {l : List Pt} (h : LinesAt K H rs ls) (z : LineAt K H r l) : LinesAt K H (rs ++ [r]) (ls ++ [l]) := by
  induction h with
  | nil => exact .cons z .nil
  | cons a b ih => exact .cons a ih
theorem LinesAt.split {K : PySem.W.Frag} {H : Hp} : ∀ {rs : List Addr} {D : Sg35.Lines} {l : List Pt}, LinesAt K H rs (D ++ [l]) → ∃ rs0 r, rs = rs0 ++ [r] ∧ LinesAt K H rs0 D ∧ LineAt K H r l
  | _, [], l, h => by
    cases h with
    | cons a b => cases b; exact ⟨[], _, rfl, .nil, a⟩
  | _, d :: D, l, h => by
    cases h with
    | cons a b =>
      obtain ⟨rs0, r, e, h1, h2⟩ := LinesAt.split (D := D) b
      exact ⟨_ :: rs0, r, by rw [e]; rfl, .cons a h1, h2⟩
def sp_fine (K : PySem.W.Frag) : Sp := fun vs H Q _ => ∃ (p : Addr) (z : Pt), vs = [.ref p] ∧ PtT K H p z ∧ ∀ t H', Keep [] H H' → H t = none → H' t = some (.tup [.int (4096 * z.1), .int (4096 * z.2)]) → Q (.ref t) H'
def sp_curve_weights (K : PySem.W.Frag) : Sp := fun vs H Q _ => ∃ (k : Nat) (n : Nat), vs = [.int (1 + (k : Int)), .int (n : Int)] ∧ k < 16 ∧ ∀ t H', Keep [] H H' → SqT K H' t ((Sg35.weights ((k : Int) + 1) n).map V.int) → Q (.ref t) H'
def sp_weighed (K : PySem.W.Frag) : Sp := fun vs H Q _ => ∃ (c t : Addr) (ts : List Addr) (cs : List Pt) (ws : List Int), vs = [.ref c, .ref t] ∧ H c = some (.lst (ts.map V.ref)) ∧ PtsAt K H ts cs ∧ (∀ z ∈ cs, Sg35.nearP z = true) ∧ SqT K H t (ws.map V.int) ∧ cs.length ≤ 100 ∧ cs.length ≤ ws.length ∧
  ∀ u H', Keep [] H H' → PtT K H' u (Sg35.weigh cs ws) → Q (.ref u) H'
def sp_check_place (K : PySem.W.Frag) (a : Adr) : Sp := fun vs H Q E => ∃ (p : Addr) (z : Pt), vs = [.ref p] ∧ PtT K H p z ∧ (Sg35.nearP z = false → Fails a E) ∧ (Sg35.nearP z = true → Q .non H)
def LetS (x : Str) (c : Nat) : Prop := x = sg [c] ∧ Sg35.pathLetter c = true
def sp_told (K : PySem.W.Frag) : Sp := fun vs H Q _ => ∃ (s p : Addr) (st : Pt) (x : Str) (c : Nat) (l : List Int), vs = [.ref s, .str x, .ref p] ∧ PtT K H s st ∧ LetS x c ∧ Sg35.capital c ≠ 90 ∧ LsI H p l ∧ l.length = Sg35.arity (Sg35.capital c) ∧
  ∀ t ts H', Keep [] H H' → H t = none → H' t = some (.lst (ts.map V.ref)) → PtsAt K H' ts (Sg35.toldOf st (decide (97 ≤ c)) (Sg35.capital c) l) → Q (.ref t) H'
def pnF (l s b : V) : List (Str × V) := [("lines", l), ("stands", s), ("line_begin", b)]
structure PenAt (a : Adr) (K : PySem.W.Frag) (H : Hp) (pn l : Addr) (rs : List Addr) (ls : Sg35.Lines) (st bg : Pt) (n : Nat) : Prop where
  ob : ∃ dx s b, H pn = some (.ins a.cPen dx (pnF (.ref l) (.ref s) (.ref b))) ∧ PtT K H s st ∧ PtT K H b bg
  lst : H l = some (.lst (rs.map V.ref))
  li : LinesAt K H rs ls
  nd : rs.Nodup
  nl : l ∉ rs
  few : ls.length ≤ n
  short : ∀ x ∈ ls, x.length ≤ n
def PMv (a : Adr) (K : PySem.W.Frag) (H : Hp) (pn l : Addr) (rs : List Addr) (ls : Sg35.Lines) (st bg : Pt) (n : Nat) (R : Hp → Prop) : Prop :=
  ∀ rs' H', Keep (pn :: l :: rs) H H' → (∀ x ∈ rs', x ∈ rs ∨ H x = none) → PenAt a K H' pn l rs' ls st bg n → R H'
def sp_Pen_init (a : Adr) (K : PySem.W.Frag) : Sp := fun vs H Q _ => ∃ (x dx : Addr), vs = [.ref x] ∧ H x = some (.ins a.cPen dx []) ∧ ∀ l H', Keep [x] H H' → H l = none → PenAt a K H' x l [] [] (0, 0) (0, 0) 0 → Q .non H'
def sp_begin_line (a : Adr) (K : PySem.W.Frag) : Sp := fun vs H Q _ => ∃ (pn l p : Addr) (rs : List Addr) (ls : Sg35.Lines) (st bg z : Pt) (n : Nat), vs = [.ref pn, .ref p] ∧ PenAt a K H pn l rs ls st bg n ∧ PtT K H p z ∧ n < 16000000 ∧
  PMv a K H pn l rs (ls ++ [[Sg35.wh z]]) z z (n + 1) (Q .non)
def sp_go_straight (a : Adr) (K : PySem.W.Frag) : Sp := fun vs H Q _ => ∃ (pn l p : Addr) (rs : List Addr) (D : Sg35.Lines) (e : List Pt) (st bg z : Pt) (n : Nat), vs = [.ref pn, .ref p] ∧ PenAt a K H pn l rs (D ++ [e]) st bg n ∧ PtT K H p z ∧ n < 16000000 ∧
  PMv a K H pn l rs (D ++ [e ++ [Sg35.wh z]]) z bg (n + 1) (Q .non)
def sp_go_curved (a : Adr) (K : PySem.W.Frag) : Sp := fun vs H Q _ => ∃ (pn l p : Addr) (rs ts : List Addr) (D : Sg35.Lines) (e : List Pt) (st bg z : Pt) (told : List Pt) (n : Nat), vs = [.ref pn, .ref p] ∧ PenAt a K H pn l rs (D ++ [e]) st bg n ∧
  H p = some (.lst (ts.map V.ref)) ∧ PtsAt K H ts (told ++ [z]) ∧ (told.length = 1 ∨ told.length = 2) ∧ (∀ y ∈ told ++ [z], Sg35.nearP y = true) ∧ Sg35.nearP st = true ∧ n < 16000000 ∧ p ∉ pn :: l :: rs ∧
  PMv a K H pn l rs (D ++ [e ++ Sg35.curve (st :: (told ++ [z]))]) z bg (n + 16) (Q .non)
def sp_follow_row (a : Adr) (K : PySem.W.Frag) : Sp := fun vs H Q E => ∃ (pn l p : Addr) (rs : List Addr) (ls : Sg35.Lines) (st bg : Pt) (n : Nat) (x : Str) (c : Nat) (row : List Int) (begins : Bool),
  vs = [.ref pn, .str x, .ref p, .bl begins] ∧ PenAt a K H pn l rs ls st bg n ∧ LetS x c ∧ Sg35.capital c ≠ 90 ∧ LsI H p row ∧ row.length = Sg35.arity (Sg35.capital c) ∧ (begins = true → Sg35.capital c = 77) ∧ (begins = false → ls ≠ []) ∧ Sg35.nearP st = true ∧ n < 16000000 ∧
  ((Sg35.toldOf st (decide (97 ≤ c)) (Sg35.capital c) row).all Sg35.nearP = false → Fails a E) ∧
  ((Sg35.toldOf st (decide (97 ≤ c)) (Sg35.capital c) row).all Sg35.nearP = true → ∀ ls' st' bg', Sg35.rowDo ls st bg (Sg35.toldOf st (decide (97 ≤ c)) (Sg35.capital c) row) begins = (ls', st', bg') → PMv a K H pn l rs ls' st' bg' (n + 16) (Q .non))
def sp_follow_rows (a : Adr) (K : PySem.W.Frag) : Sp := fun vs H Q E => ∃ (pn l p : Addr) (rs : List Addr) (ls : Sg35.Lines) (st bg : Pt) (n : Nat) (pp : Sg35.Pen) (x : Str) (c : Nat) (nums : List Int),
  vs = [.ref pn, .str x, .ref p] ∧ PenAt a K H pn l rs ls st bg n ∧ Sg35.Sim ls st bg pp ∧ LetS x c ∧ Sg35.capital c ≠ 90 ∧ LsI H p nums ∧ (Sg35.capital c ≠ 77 → ls ≠ []) ∧ n + 16 * nums.length < 16000000 ∧ p ∉ pn :: l :: rs ∧
  ((nums = [] ∨ Sg35.Pen.rows (nums.length + 1) pp (Sg35.capital c) (decide (97 ≤ c)) nums = none) → Fails a E) ∧
  (∀ pp' ls' st' bg', nums ≠ [] → Sg35.Pen.rows (nums.length + 1) pp (Sg35.capital c) (decide (97 ≤ c)) nums = some pp' → Sg35.Sim ls' st' bg' pp' → ls' ≠ [] → PMv a K H pn l rs ls' st' bg' (n + 16 * nums.length) (Q .non))
def letterDo (pp : Sg35.Pen) (c : Nat) (nums : List Int) : Option Sg35.Pen :=
  if Sg35.capital c = 90 then (if nums = [] then some pp.shut else none) else if nums = [] then none else Sg35.Pen.rows (nums.length + 1) pp (Sg35.capital c) (decide (97 ≤ c)) nums
def sp_follow_letter (a : Adr) (K : PySem.W.Frag) : Sp := fun vs H Q E => ∃ (pn l p : Addr) (rs : List Addr) (ls : Sg35.Lines) (st bg : Pt) (n : Nat) (pp : Sg35.Pen) (x : Str) (c : Nat) (nums : List Int),
  vs = [.ref pn, .str x, .ref p] ∧ PenAt a K H pn l rs ls st bg n ∧ Sg35.Sim ls st bg pp ∧ LetS x c ∧ LsI H p nums ∧ (Sg35.capital c ≠ 77 → ls ≠ []) ∧ n + 16 * nums.length + 16 < 16000000 ∧ p ∉ pn :: l :: rs ∧
  (letterDo pp c nums = none → Fails a E) ∧
  (∀ pp' ls' st' bg', letterDo pp c nums = some pp' → Sg35.Sim ls' st' bg' pp' → ls' ≠ [] → PMv a K H pn l rs ls' st' bg' (n + 16 * nums.length + 1) (Q .non))
def LinesNew (K : PySem.W.Frag) (F : Addr → Prop) (H : Hp) (l : Addr) (ls : Sg35.Lines) : Prop := ∃ rs ls', H l = some (.lst (rs.map V.ref)) ∧ F l ∧ (∀ x ∈ rs, F x) ∧ LinesAt K H rs ls' ∧ Sg35.Drops ls' ls
def sp_read_path (a : Adr) (K : PySem.W.Frag) : Sp := fun vs H Q E => ∃ (x : Str) (b : B), vs = [.str x] ∧ TxB x b ∧ (Sg35.pathOf b = none → Fails a E) ∧ ∀ ls l H', Sg35.pathOf b = some ls → Keep [] H H' → LinesNew K (fun y => H y = none) H' l ls → Q (.ref l) H'
def FigAt (a : Adr) (K : PySem.W.Frag) (F : Addr → Prop) (H : Hp) (f : Addr) : Sg35.Kind → Prop
  | .lines ls => ∃ dx l, H f = some (.ins a.cOutline dx [("lines", .ref l)]) ∧ F f ∧ LinesNew K F H l ls
  | .circle cx cy r => ∃ dx, H f = some (.ins a.cCircle dx [("cx", .int cx), ("cy", .int cy), ("r", .int r)]) ∧ F f
def sp_Outline_init (a : Adr) : Sp := fun vs H Q _ => ∃ (x dx : Addr) (u : V), vs = [.ref x, u] ∧ H x = some (.ins a.cOutline dx []) ∧ ∀ H', Keep [x] H H' → H' x = some (.ins a.cOutline dx [("lines", u)]) → Q .non H'
def sp_Circle_init (a : Adr) : Sp := fun vs H Q _ => ∃ (x dx : Addr) (u v w : V), vs = [.ref x, u, v, w] ∧ H x = some (.ins a.cCircle dx []) ∧ ∀ H', Keep [x] H H' → H' x = some (.ins a.cCircle dx [("cx", u), ("cy", v), ("r", w)]) → Q .non H'
def shF (u v w : V) : List (Str × V) := [("figure", u), ("matrix", v), ("style", w)]
def sp_Shape_init (a : Adr) : Sp := fun vs H Q _ => ∃ (x dx : Addr) (u v w : V), vs = [.ref x, u, v, w] ∧ H x = some (.ins a.cShape dx []) ∧ ∀ H', Keep [x] H H' → H' x = some (.ins a.cShape dx (shF u v w)) → Q .non H'
def sp_needed (a : Adr) : Sp := fun vs H Q E => ∃ (d : Addr) (x : Str) (k : String) (as : List (B × B)), vs = [.ref d, .str x] ∧ x = (k : Str) ∧ AtAt H d as ∧ (Sg35.attr as k = none → Fails a E) ∧ ∀ v y, Sg35.attr as k = some v → TxB y v → Q (.str y) H
def sp_place_told (a : Adr) (K : PySem.W.Frag) : Sp := fun vs H Q E => ∃ (d : Addr) (x y : Str) (kx ky : String) (as : List (B × B)), vs = [.ref d, .str x, .str y] ∧ x = (kx : Str) ∧ y = (ky : Str) ∧ AtAt H d as ∧
  ((Sg35.numIn as kx (some 0) = none ∨ Sg35.numIn as ky (some 0) = none) → Fails a E) ∧ ∀ u v t H', Sg35.numIn as kx (some 0) = some u → Sg35.numIn as ky (some 0) = some v → Keep [] H H' → H' t = some (.tup [.int u, .int v]) → Q (.ref t) H'
def sp_length_told (a : Adr) : Sp := fun vs H Q E => ∃ (d : Addr) (x : Str) (k : String) (as : List (B × B)), vs = [.ref d, .str x] ∧ x = (k : Str) ∧ AtAt H d as ∧
  ((∀ z, Sg35.numIn as k none = some z → z < 0) → Fails a E) ∧ ∀ z H', Sg35.numIn as k none = some z → 0 ≤ z → Keep [] H H' → Q (.int z) H'
def sp_read_rect (a : Adr) (K : PySem.W.Frag) : Sp := fun vs H Q E => ∃ (d : Addr) (as : List (B × B)), vs = [.ref d] ∧ AtAt H d as ∧ (Sg35.kindOf (Sg35.ascii "rect") as = none → Fails a E) ∧ ∀ k f H', Sg35.kindOf (Sg35.ascii "rect") as = some k → Keep [] H H' → FigAt a K (fun y => H y = none) H' f k → Q (.ref f) H'
def sp_read_circle (a : Adr) (K : PySem.W.Frag) : Sp := fun vs H Q E => ∃ (d : Addr) (as : List (B × B)), vs = [.ref d] ∧ AtAt H d as ∧ (Sg35.kindOf (Sg35.ascii "circle") as = none → Fails a E) ∧ ∀ k f H', Sg35.kindOf (Sg35.ascii "circle") as = some k → Keep [] H H' → FigAt a K (fun y => H y = none) H' f k → Q (.ref f) H'
def sp_read_points (a : Adr) (K : PySem.W.Frag) : Sp := fun vs H Q E => ∃ (d : Addr) (as : List (B × B)), vs = [.ref d] ∧ AtAt H d as ∧ (Sg35.kindOf (Sg35.ascii "polygon") as = none → Fails a E) ∧ ∀ k f H', Sg35.kindOf (Sg35.ascii "polygon") as = some k → Keep [] H H' → FigAt a K (fun y => H y = none) H' f k → Q (.ref f) H'
def shapeNames : List B := [Sg35.ascii "rect", Sg35.ascii "circle", Sg35.ascii "polygon", Sg35.ascii "polyline", Sg35.ascii "path"]
def sp_read_figure (a : Adr) (K : PySem.W.Frag) : Sp := fun vs H Q E => ∃ (d : Addr) (x : Str) (n : B) (as : List (B × B)), vs = [.str x, .ref d] ∧ x = sg n ∧ n ∈ shapeNames ∧ AtAt H d as ∧ (Sg35.kindOf n as = none → Fails a E) ∧ ∀ k f H', Sg35.kindOf n as = some k → Keep [] H H' → FigAt a K (fun y => H y = none) H' f k → Q (.ref f) H'
def sp_misc (a : Adr) : Sp := fun vs H Q E => ∃ (r : Addr) (q : B), vs = [.ref r] ∧ RdR a H r q ∧ (Sg35.miscs q = none → Fails a E) ∧ ∀ t, Sg35.miscs q = some t → Mv a H r t (Q .non)
def sp_read_name (a : Adr) : Sp := fun vs H Q E => ∃ (r : Addr) (q : B), vs = [.ref r] ∧ RdR a H r q ∧ (Sg35.nameAt q = none → Fails a E) ∧ ∀ n t, Sg35.nameAt q = some (n, t) → Mv a H r t (Q (.str (sg n)))
def sp_read_value (a : Adr) : Sp := fun vs H Q E => ∃ (r : Addr) (q : B), vs = [.ref r] ∧ RdR a H r q ∧ (Sg35.valueAt (61 :: q) = none → Fails a E) ∧ ∀ v t, Sg35.valueAt (61 :: q) = some (v, t) → Mv a H r t (Q (.str (sg (v.map Sg35.tr))))
def sp_read_attributes (a : Adr) : Sp := fun vs H Q E => ∃ (r : Addr) (q : B), vs = [.ref r] ∧ RdR a H r q ∧
  (Sg35.attrs q = none → Fails a E ∧ ∀ d as c t, Sg35.letter c = true → H d = none → Mv a H r (c :: t) fun H' => AtAt H' d as → Q (.ref d) H') ∧
  ∀ as t d, Sg35.attrs q = some (as, t) → H d = none → Mv a H r t fun H' => AtAt H' d as → Q (.ref d) H'
def tgF (n : V) (d : V) (c : V) : List (Str × V) := [("name", n), ("attributes", d), ("closed", c)]
def sp_Tag_init (a : Adr) : Sp := fun vs H Q _ => ∃ (x dx : Addr) (u v w : V), vs = [.ref x, u, v, w] ∧ H x = some (.ins a.cTag dx []) ∧ ∀ H', Keep [x] H H' → H' x = some (.ins a.cTag dx (tgF u v w)) → Q .non H'
def Nm (n : B) : Prop := (∃ c r, n = c :: r ∧ Sg35.letter c = true) ∧ (∀ c ∈ n, Sg35.inName c = true) ∧ n.length ≤ 65600
def TagAt (a : Adr) (H : Hp) (g : Addr) (n : B) (as : List (B × B)) (shut : Bool) : Prop := ∃ dx d, H g = some (.ins a.cTag dx (tgF (.str (sg n)) (.ref d) (.bl shut))) ∧ AtAt H d as ∧ Nm n
theorem TagAt.keep {a : Adr} {H H' : Hp} {g : Addr} {n : B} {as : List (B × B)} {shut : Bool} (h : TagAt a H g n as shut) (k : Keep [] H H') : TagAt a H' g n as shut := by
  obtain ⟨dx, d, e, h1, h2⟩ := h
  exact ⟨dx, d, k.at e, h1.keep k, h2⟩
def sp_read_tag (a : Adr) : Sp := fun vs H Q E => ∃ (r : Addr) (q : B), vs = [.ref r] ∧ RdR a H r q ∧ (Sg35.tagAt q = none → Fails a E) ∧ ∀ (t : Sg35.Tag) g, Sg35.tagAt q = some t → H g = none → Mv a H r t.rest fun H' => TagAt a H' g t.name t.attrs t.shut → Q (.ref g) H'
def ShAt (a : Adr) (K : PySem.W.Frag) (F : Addr → Prop) (H : Hp) (s : Addr) (h : Sg35.Shape) : Prop := ∃ dx f m y, H s = some (.ins a.cShape dx (shF (.ref f) (.ref m) (.ref y))) ∧ F s ∧ F y ∧ FigAt a K F H f h.kind ∧ MatAt K H m h.mat ∧ Small h.mat ∧ StyAt a H y h.fill h.odd
def pcF (w h l : V) : List (Str × V) := [("width", w), ("height", h), ("shapes", l)]
structure PicAt (a : Adr) (K : PySem.W.Frag) (F : Addr → Prop) (H : Hp) (p l : Addr) (ss : List Addr) (w h : Nat) (shs : List Sg35.Shape) : Prop where
  ob : ∃ dx, H p = some (.ins a.cPicture dx (pcF (.int (w : Int)) (.int (h : Int)) (.ref l)))
  lst : H l = some (.lst (ss.map V.ref))
  sh : Paired (ShAt a K F H) ss shs
  few : shs.length ≤ 65600
def sp_Picture_init (a : Adr) : Sp := fun vs H Q _ => ∃ (x dx : Addr) (u v : V), vs = [.ref x, u, v] ∧ H x = some (.ins a.cPicture dx []) ∧ ∀ l H', Keep [x] H H' → H l = none → H' l = some (.lst []) → H' x = some (.ins a.cPicture dx (pcF u v (.ref l))) → Q .non H'
def hoF (n m s : V) : List (Str × V) := [("name", n), ("matrix", m), ("style", s)]
def sp_Holder_init (a : Adr) : Sp := fun vs H Q _ => ∃ (x dx : Addr) (u v w : V), vs = [.ref x, u, v, w] ∧ H x = some (.ins a.cHolder dx []) ∧ ∀ H', Keep [x] H H' → H' x = some (.ins a.cHolder dx (hoF u v w)) → Q .non H'
def HoAt (a : Adr) (K : PySem.W.Frag) (F : Addr → Prop) (H : Hp) (x : Addr) (f : Sg35.Fr) : Prop := ∃ dx m y, H x = some (.ins a.cHolder dx (hoF (.str (sg f.name)) (.ref m) (.ref y))) ∧ F x ∧ F y ∧ MatAt K H m f.style.mat ∧ Small f.style.mat ∧ StyAt a H y f.style.fill f.style.odd ∧ Nm f.name ∧ (f.shape = true ↔ f.name ∈ shapeNames)
def sp_picture_of (a : Adr) (K : PySem.W.Frag) : Sp := fun vs H Q E => ∃ (g : Addr) (n : B) (as : List (B × B)) (shut : Bool), vs = [.ref g] ∧ TagAt a H g n as shut ∧
  ((n = Sg35.ascii "svg" → Sg35.side as "width" = none ∨ Sg35.side as "height" = none) → Fails a E) ∧
  ∀ w h p l H', n = Sg35.ascii "svg" → Sg35.side as "width" = some w → Sg35.side as "height" = some h → Keep [] H H' → H p = none → H l = none → PicAt a K (fun _ => True) H' p l [] w h [] → Q (.ref p) H'
structure StkAt (a : Adr) (K : PySem.W.Frag) (F : Addr → Prop) (H : Hp) (hl : Addr) (hs : List Addr) (fs : List Sg35.Fr) : Prop where
  lst : H hl = some (.lst (hs.map V.ref))
  ho : Paired (HoAt a K F H) hs fs
  few : fs.length ≤ 19
  dep : ∀ (i : Nat) (f : Sg35.Fr), fs[i]? = some f → f.shape = false → f.k + i = 17
def childOk (f : Sg35.Fr) (n : B) : Bool := !f.shape && (decide (n ∈ shapeNames) || (decide (n = Sg35.ascii "g") && decide (f.k ≠ 0)))
def sp_check_child (a : Adr) (K : PySem.W.Frag) : Sp := fun vs H Q E => ∃ (g hl : Addr) (n : B) (as : List (B × B)) (shut : Bool) (F : Addr → Prop) (hs : List Addr) (fs : List Sg35.Fr) (f : Sg35.Fr), vs = [.ref g, .ref hl] ∧ TagAt a H g n as shut ∧ StkAt a K F H hl hs (fs ++ [f]) ∧
  (childOk f n = false → Fails a E) ∧ (childOk f n = true → Q .non H)
def sp_read_child (a : Adr) (K : PySem.W.Frag) : Sp := fun vs H Q E => ∃ (r hl p l : Addr) (q : B) (F : Addr → Prop) (hs ss : List Addr) (fs : List Sg35.Fr) (f : Sg35.Fr) (w h : Nat) (shs : List Sg35.Shape),
  vs = [.ref r, .ref hl, .ref p] ∧ RdR a H r q ∧ StkAt a K F H hl hs (fs ++ [f]) ∧ PicAt a K F H p l ss w h shs ∧ (∀ x, H x = none → F x) ∧ (∀ x, F x → x ≠ r ∧ x ≠ hl ∧ x ≠ p ∧ x ≠ l) ∧ r ≠ hl ∧ r ≠ p ∧ r ≠ l ∧ hl ≠ p ∧ hl ≠ l ∧ p ≠ l ∧ shs.length + q.length ≤ 65600 ∧
  ((∀ t (g : Sg35.Tag), q = 60 :: t → Sg35.tagAt t = some g → Sg35.child f g.name g.attrs = none) → Fails a E) ∧
  ∀ t (g : Sg35.Tag) (c : Sg35.Fr × List Sg35.Shape), q = 60 :: t → Sg35.tagAt t = some g → Sg35.child f g.name g.attrs = some c →
    ∀ hs' ss' H', Keep [r, hl, l] H H' → RdR a H' r g.rest → StkAt a K F H' hl hs' (if g.shut = true then fs ++ [f] else fs ++ [f] ++ [c.1]) → PicAt a K F H' p l ss' w h (shs ++ c.2) → Q .non H'
def sp_read_inside (a : Adr) (K : PySem.W.Frag) : Sp := fun vs H Q E => ∃ (r p l y : Addr) (q : B) (w h : Nat) (s : Sg35.Style), vs = [.ref r, .ref p, .ref y] ∧ RdR a H r q ∧ PicAt a K (fun _ => True) H p l [] w h [] ∧ StyAt a H y s.fill s.odd ∧ s.mat = Sg35.Mat.one ∧ y ≠ r ∧ y ≠ p ∧ y ≠ l ∧ r ≠ p ∧ r ≠ l ∧ p ≠ l ∧ True ∧
  (Sg35.run [⟨Sg35.ascii "svg", false, 17, s⟩] q = none → Fails a E) ∧
  ∀ shs t ss F H', Sg35.run [⟨Sg35.ascii "svg", false, 17, s⟩] q = some (shs, t) → Keep [r, l] H H' → RdR a H' r t → PicAt a K F H' p l ss w h shs → (∀ x, F x → x ≠ r ∧ x ≠ p ∧ x ≠ l) → Q .non H'
def sp_read_picture (a : Adr) (K : PySem.W.Frag) : Sp := fun vs H Q E => ∃ (x : Str) (b : B), vs = [.str x] ∧ TxB x b ∧ (Sg35.pic b = none → Fails a E) ∧ ∀ (pc : Sg35.Picture) p l ss F H', Sg35.pic b = some pc → Keep [] H H' → PicAt a K F H' p l ss pc.width pc.height pc.shapes → Q (.ref p) H'
def sp_sign_of : Sp := fun vs H Q _ => ∃ c : Nat, vs = [.int (c : Int)] ∧ c < 256 ∧ ∀ H', Keep [] H H' → Q (.str (sg [Sg35.tr c])) H'
def sp_signs_of (K : PySem.W.Frag) : Sp := fun vs H Q _ => ∃ (p : Addr) (b : B), vs = [.ref p] ∧ SqL K H p (b.map fun (c : Nat) => V.int (c : Int)) ∧ b.length ≤ 65600 ∧ Sg35.Byt b ∧ ∀ H', Keep [] H H' → Q (.str (sg (b.map Sg35.tr))) H'
end Pg
namespace Pg
open PySem L2
section
variable (P : Program) (w : World) (K : PySem.W.Frag) (mg : Str → Option Value) (base : Heap) (a : Adr)
abbrev O_qch : Prop := FnOk P w K mg base CX0 1 a.f_qch a.d_qch ["byte"] (sp_sign_of)
abbrev O_qcb : Prop := FnOk P w K mg base (CXW P w a.cWrongText) 2 a.f_qcb a.d_qcb ["text"] (sp_signs_of K)
abbrev O_qbs : Prop := FnOk P w K mg base (CXW P w a.cWrongText) 2 a.f_qbs a.d_qbs ["reader"] (sp_read_sign a)
abbrev O_qat : Prop := FnOk P w K mg base (CXW P w a.cWrongText) 4 a.f_qat a.d_qat ["reader"] (sp_read_number a)
abbrev O_qcc : Prop := FnOk P w K mg base (CXW P w a.cWrongText) 5 a.f_qcc a.d_qcc ["reader"] (sp_read_row a)
abbrev O_qaj : Prop := FnOk P w K mg base (CXW P w a.cWrongText) 5 a.f_qaj a.d_qaj ["value"] (sp_single a)
abbrev O_qak : Prop := FnOk P w K mg base (CXW P w a.cWrongText) 6 a.f_qak a.d_qak ["value", "least", "most"] (sp_within a)
abbrev O_qbt : Prop := FnOk P w K mg base (CXW P w a.cWrongText) 6 a.f_qbt a.d_qbt ["value"] (sp_whole_row a)
abbrev O_qbk : Prop := FnOk P w K mg base (CXW P w a.cWrongText) 1 a.f_qbk a.d_qbk ["outer", "inner"] (sp_put_behind K)
abbrev O_qao : Prop := FnOk P w K mg base (CXW P w a.cWrongText) 1 a.f_qao a.d_qao ["matrix"] (sp_check_bounds K a)
abbrev O_turn : Prop := FnOk P w K mg base (CXW P w a.cWrongText) 1 a.f_turn a.d_turn ["angle"] (sp_turn K a)
abbrev O_qau : Prop := FnOk P w K mg base (CXW P w a.cWrongText) 2 a.f_qau a.d_qau ["word", "row"] (sp_step_matrix K a)
abbrev O_qbu : Prop := FnOk P w K mg base (CXW P w a.cWrongText) 6 a.f_qbu a.d_qbu ["reader"] (sp_read_step K a)
abbrev O_qav : Prop := FnOk P w K mg base (CXW P w a.cWrongText) 7 a.f_qav a.d_qav ["outer", "transform"] (sp_transformed K a)
abbrev O_fine : Prop := FnOk P w K mg base CX0 1 a.f_fine a.d_fine ["place"] (sp_fine K)
abbrev O_qbv : Prop := FnOk P w K mg base (CXW P w a.cWrongText) 1 a.f_qbv a.d_qbv ["digits"] (sp_colour)
abbrev O_qbw : Prop := FnOk P w K mg base (CXW P w a.cWrongText) 4 a.f_qbw a.d_qbw ["value"] (sp_read_fill a)
abbrev O_qbx : Prop := FnOk P w K mg base (CXW P w a.cWrongText) 1 a.f_qbx a.d_qbx ["value"] (sp_read_rule a)
abbrev O_qck : Prop := FnOk P w K mg base (CXW P w a.cWrongText) 5 a.f_qck a.d_qck ["around", "attributes"] (sp_styled a)
abbrev O_qal : Prop := FnOk P w K mg base (CXW P w a.cWrongText) 1 a.f_qal a.d_qal ["k", "corner_count"] (sp_curve_weights K)
abbrev O_qci : Prop := FnOk P w K mg base (CXW P w a.cWrongText) 1 a.f_qci a.d_qci ["corners", "weights"] (sp_weighed K)
abbrev O_qaw : Prop := FnOk P w K mg base (CXW P w a.cWrongText) 1 a.f_qaw a.d_qaw ["place"] (sp_check_place K a)
abbrev O_qax : Prop := FnOk P w K mg base (CXW P w a.cWrongText) 1 a.f_qax a.d_qax ["stands", "letter", "row"] (sp_told K)
abbrev O_qbl : Prop := FnOk P w K mg base (CXW P w a.cWrongText) 3 a.f_qbl a.d_qbl ["pen", "letter", "row", "begins"] (sp_follow_row a K)
abbrev O_qay : Prop := FnOk P w K mg base (CXW P w a.cWrongText) 4 a.f_qay a.d_qay ["pen", "letter", "numbers"] (sp_follow_rows a K)
abbrev O_qam : Prop := FnOk P w K mg base (CXW P w a.cWrongText) 5 a.f_qam a.d_qam ["pen", "letter", "numbers"] (sp_follow_letter a K)
abbrev O_qby : Prop := FnOk P w K mg base (CXW P w a.cWrongText) 6 a.f_qby a.d_qby ["value"] (sp_read_path a K)
abbrev O_qcl : Prop := FnOk P w K mg base (CXW P w a.cWrongText) 1 a.f_qcl a.d_qcl ["attributes", "name"] (sp_needed a)
abbrev O_qbm : Prop := FnOk P w K mg base (CXW P w a.cWrongText) 6 a.f_qbm a.d_qbm ["attributes", "x_name", "y_name"] (sp_place_told a K)
abbrev O_qaz : Prop := FnOk P w K mg base (CXW P w a.cWrongText) 7 a.f_qaz a.d_qaz ["attributes", "name"] (sp_length_told a)
abbrev O_qbz : Prop := FnOk P w K mg base (CXW P w a.cWrongText) 8 a.f_qbz a.d_qbz ["attributes"] (sp_read_rect a K)
abbrev O_qba : Prop := FnOk P w K mg base (CXW P w a.cWrongText) 8 a.f_qba a.d_qba ["attributes"] (sp_read_circle a K)
abbrev O_qbb : Prop := FnOk P w K mg base (CXW P w a.cWrongText) 7 a.f_qbb a.d_qbb ["attributes"] (sp_read_points a K)
abbrev O_qbc : Prop := FnOk P w K mg base (CXW P w a.cWrongText) 9 a.f_qbc a.d_qbc ["name", "attributes"] (sp_read_figure a K)
abbrev O_qaa : Prop := FnOk P w K mg base (CXW P w a.cWrongText) 4 a.f_qaa a.d_qaa ["reader"] (sp_misc a)
abbrev O_qca : Prop := FnOk P w K mg base (CXW P w a.cWrongText) 4 a.f_qca a.d_qca ["reader"] (sp_read_name a)
abbrev O_qbn : Prop := FnOk P w K mg base (CXW P w a.cWrongText) 4 a.f_qbn a.d_qbn ["reader"] (sp_read_value a)
abbrev O_qac : Prop := FnOk P w K mg base (CXW P w a.cWrongText) 5 a.f_qac a.d_qac ["reader"] (sp_read_attributes a)
abbrev O_qcd : Prop := FnOk P w K mg base (CXW P w a.cWrongText) 6 a.f_qcd a.d_qcd ["reader"] (sp_read_tag a)
abbrev O_qbo : Prop := FnOk P w K mg base (CXW P w a.cWrongText) 7 a.f_qbo a.d_qbo ["tag"] (sp_picture_of a K)
abbrev O_qbd : Prop := FnOk P w K mg base (CXW P w a.cWrongText) 1 a.f_qbd a.d_qbd ["tag", "holders"] (sp_check_child a K)
abbrev O_qbp : Prop := FnOk P w K mg base (CXW P w a.cWrongText) 10 a.f_qbp a.d_qbp ["reader", "holders", "picture"] (sp_read_child a K)
abbrev O_qbe : Prop := FnOk P w K mg base (CXW P w a.cWrongText) 11 a.f_qbe a.d_qbe ["reader", "picture", "style"] (sp_read_inside a K)
abbrev O_qap : Prop := FnOk P w K mg base (CXW P w a.cWrongText) 12 a.f_qap a.d_qap ["signs"] (sp_read_picture a K)
abbrev O_qbf : Prop := FnOk P w K mg base (CXW P w a.cWrongText) 1 a.f_qbf a.d_qbf ["self", "signs"] (sp_Reader_init a)
abbrev O_qaq : Prop := FnOk P w K mg base (CXW P w a.cWrongText) 1 a.f_qaq a.d_qaq ["self"] (sp_ended a)
abbrev O_qad : Prop := FnOk P w K mg base (CXW P w a.cWrongText) 2 a.f_qad a.d_qad ["self", "allowed"] (sp_sees a)
abbrev O_qbg : Prop := FnOk P w K mg base (CXW P w a.cWrongText) 1 a.f_qbg a.d_qbg ["self", "word"] (sp_skip a)
abbrev O_qbh : Prop := FnOk P w K mg base (CXW P w a.cWrongText) 2 a.f_qbh a.d_qbh ["self", "word"] (sp_need a)
abbrev O_qae : Prop := FnOk P w K mg base (CXW P w a.cWrongText) 2 a.f_qae a.d_qae ["self"] (sp_need_end a)
abbrev O_qaf : Prop := FnOk P w K mg base (CXW P w a.cWrongText) 3 a.f_qaf a.d_qaf ["self", "allowed"] (sp_take_one a)
abbrev O_qag : Prop := FnOk P w K mg base (CXW P w a.cWrongText) 3 a.f_qag a.d_qag ["self", "allowed"] (sp_take_all a)
abbrev O_qab : Prop := FnOk P w K mg base (CXW P w a.cWrongText) 1 a.f_qab a.d_qab ["self", "word"] (sp_up_to a)
abbrev O_qbi : Prop := FnOk P w K mg base (CXW P w a.cWrongText) 1 a.f_qbi a.d_qbi ["self", "cx", "cy", "r"] (sp_Circle_init a)
abbrev O_qbq : Prop := FnOk P w K mg base (CXW P w a.cWrongText) 1 a.f_qbq a.d_qbq ["self", "fill", "rule"] (sp_Style_init a)
abbrev O_qar : Prop := FnOk P w K mg base (CXW P w a.cWrongText) 1 a.f_qar a.d_qar ["self", "lines"] (sp_Outline_init a)
abbrev O_qcf : Prop := FnOk P w K mg base (CXW P w a.cWrongText) 1 a.f_qcf a.d_qcf ["self"] (sp_Pen_init a K)
abbrev O_qai : Prop := FnOk P w K mg base (CXW P w a.cWrongText) 2 a.f_qai a.d_qai ["self", "place"] (sp_begin_line a K)
abbrev O_qah : Prop := FnOk P w K mg base (CXW P w a.cWrongText) 2 a.f_qah a.d_qah ["self", "place"] (sp_go_straight a K)
abbrev O_qan : Prop := FnOk P w K mg base (CXW P w a.cWrongText) 2 a.f_qan a.d_qan ["self", "told"] (sp_go_curved a K)
abbrev O_qbr : Prop := FnOk P w K mg base (CXW P w a.cWrongText) 1 a.f_qbr a.d_qbr ["self", "figure", "matrix", "style"] (sp_Shape_init a)
abbrev O_qcg : Prop := FnOk P w K mg base (CXW P w a.cWrongText) 1 a.f_qcg a.d_qcg ["self", "name", "attributes", "closed"] (sp_Tag_init a)
abbrev O_qas : Prop := FnOk P w K mg base (CXW P w a.cWrongText) 1 a.f_qas a.d_qas ["self", "width", "height"] (sp_Picture_init a)
abbrev O_qbj : Prop := FnOk P w K mg base (CXW P w a.cWrongText) 1 a.f_qbj a.d_qbj ["self", "name", "matrix", "style"] (sp_Holder_init a)
end
end Pg
namespace Pg
open PySem PySem.Spec PyProof.Rows L2 TL
def wordOk (u : List Nat) : Bool := (u.all fun d => decide (33 ≤ d) && (decide (d ≤ 126) && (decide (d ≠ 37) && decide (d ≠ 63)))) && (decide (u ≠ []) && decide (u.length ≤ 65700))
theorem wordOk_plain {u : List Nat} (h : wordOk u = true) : Sg35.Plain u ∧ u ≠ [] ∧ u.length ≤ 65700 := by
  unfold wordOk at h
  simp only [Bool.and_eq_true, List.all_eq_true, decide_eq_true_eq] at h
  exact ⟨fun d hd => h.1 d hd, h.2.1, h.2.2⟩
section
variable {a : Adr} {i : Nat} {σ : L2.St} {H : Hp} {Q : VK} {E : XK} {r : Addr} {q : B}
theorem rd_meth {m : Str} {sp : Sp} {dvs : List V} {t : TA} {te : TE} (hσ : ∀ Q : VK, Q (.ref r) H → te σ H Q) (hR : RdR a H r q) (hm1 : (m == "signs") = false) (hm2 : (m == "place") = false) (k : t σ H fun vs H2 => sp (.ref r :: (vs ++ dvs)) H2 Q E) :
    tMeth a.cReader m sp dvs E te t σ H Q := by
  obtain ⟨dx, fs, h1, hno⟩ := hR.ins
  exact hσ _ ⟨r, dx, fs, rfl, h1, hno m hm1 hm2, k⟩
theorem vr {v : V} (h : σ[i]? = some (some v)) : ∀ Q : VK, Q v H → tVar i σ H Q := fun Q q => ⟨_, h, q⟩
theorem m_skip {W : Str} {u : List Nat} (hσ : σ[i]? = some (some (.ref r))) (hR : RdR a H r q) (hW : W = sg u) (hu : wordOk u = true) (k1 : ∀ t, q = u ++ t → Mv a H r t (Q (.bl true))) (k2 : (∀ t, q ≠ u ++ t) → Q (.bl false) H) :
    tMeth a.cReader "skip" (sp_skip a) [] E (tVar i) (tCons (tC (.str W)) tNil) σ H Q := by
  obtain ⟨h1, h2, h3⟩ := wordOk_plain hu
  exact rd_meth (vr hσ) hR (by decide +kernel) (by decide +kernel) ⟨r, q, W, u, rfl, hR, hW, h1, h2, h3, k1, k2⟩
theorem m_need {W : Str} {u : List Nat} (hσ : σ[i]? = some (some (.ref r))) (hR : RdR a H r q) (hW : W = sg u) (hu : wordOk u = true) (k1 : ∀ t, q = u ++ t → Mv a H r t (Q .non)) (k2 : (∀ t, q ≠ u ++ t) → Fails a E) :
    tMeth a.cReader "need" (sp_need a) [] E (tVar i) (tCons (tC (.str W)) tNil) σ H Q := by
  obtain ⟨h1, h2, h3⟩ := wordOk_plain hu
  exact rd_meth (vr hσ) hR (by decide +kernel) (by decide +kernel) ⟨r, q, W, u, rfl, hR, hW, h1, h2, h3, k1, k2⟩
theorem m_ended (hσ : σ[i]? = some (some (.ref r))) (hR : RdR a H r q) (k : Q (.bl (decide (q = []))) H) : tMeth a.cReader "ended" (sp_ended a) [] E (tVar i) tNil σ H Q :=
  rd_meth (vr hσ) hR (by decide +kernel) (by decide +kernel) ⟨r, q, rfl, hR, k⟩
theorem m_need_end (hσ : σ[i]? = some (some (.ref r))) (hR : RdR a H r q) (k1 : q = [] → Q .non H) (k2 : q ≠ [] → Fails a E) : tMeth a.cReader "need_end" (sp_need_end a) [] E (tVar i) tNil σ H Q :=
  rd_meth (vr hσ) hR (by decide +kernel) (by decide +kernel) ⟨r, q, rfl, hR, k1, k2⟩
theorem m_sees {Z : Str} {Pz : Nat → Bool} (hσ : σ[i]? = some (some (.ref r))) (hR : RdR a H r q) (hZ : Zs Z Pz) (k : Q (.bl (hd1 Pz q)) H) : tMeth a.cReader "sees_one" (sp_sees a) [] E (tVar i) (tCons (tC (.str Z)) tNil) σ H Q :=
  rd_meth (vr hσ) hR (by decide +kernel) (by decide +kernel) ⟨r, q, Z, Pz, rfl, hR, hZ, k⟩
theorem m_take_one {Z : Str} {Pz : Nat → Bool} (hσ : σ[i]? = some (some (.ref r))) (hR : RdR a H r q) (hZ : Zs Z Pz) (k1 : ∀ c t, q = c :: t → Pz c = true → Mv a H r t (Q (.str (sg [Sg35.tr c])))) (k2 : hd1 Pz q = false → Fails a E) :
    tMeth a.cReader "take_one" (sp_take_one a) [] E (tVar i) (tCons (tC (.str Z)) tNil) σ H Q :=
  rd_meth (vr hσ) hR (by decide +kernel) (by decide +kernel) ⟨r, q, Z, Pz, rfl, hR, hZ, k1, k2⟩
theorem m_take_all {Z : Str} {Pz : Nat → Bool} (hσ : σ[i]? = some (some (.ref r))) (hR : RdR a H r q) (hZ : Zs Z Pz) (k : Mv a H r (q.dropWhile Pz) (Q (.str (sg ((q.takeWhile Pz).map Sg35.tr))))) :
    tMeth a.cReader "take_all" (sp_take_all a) [] E (tVar i) (tCons (tC (.str Z)) tNil) σ H Q :=
  rd_meth (vr hσ) hR (by decide +kernel) (by decide +kernel) ⟨r, q, Z, Pz, rfl, hR, hZ, k⟩
theorem m_up_to {W : Str} {te : TE} {u : List Nat} (hσ : σ[i]? = some (some (.ref r))) (he : ∀ Q : VK, Q (.str W) H → te σ H Q) (hR : RdR a H r q) (hW : W = sg u) (hu : wordOk u = true) (k1 : (∀ i, (q.drop i).take u.length ≠ u) → Fails a E)
    (k2 : ∀ k, (q.drop k).take u.length = u → (∀ i, i < k → (q.drop i).take u.length ≠ u) → Mv a H r (q.drop (k + u.length)) (Q (.str (sg ((q.take k).map Sg35.tr))))) :
    tMeth a.cReader "take_up_to" (sp_up_to a) [] E (tVar i) (tCons te tNil) σ H Q := by
  obtain ⟨h1, h2, h3⟩ := wordOk_plain hu
  exact rd_meth (vr hσ) hR (by decide +kernel) (by decide +kernel) (he _ ⟨r, q, W, u, rfl, hR, hW, h1, h2, h3, k1, k2⟩)
theorem m_reader {te : TE} {x : Str} {b : B} (he : ∀ Q : VK, Q (.str x) H → te σ H Q) (hx : TxB x b) (k : ∀ r H', H r = none → Keep [] H H' → RdR a H' r b → Q (.ref r) H') : tMake a.cReader (sp_Reader_init a) [] E (tCons te tNil) σ H Q := by
  obtain ⟨rfl, hl, hb⟩ := hx
  refine he _ fun y dx hy hdx hne => ⟨y, dx, b, rfl, upd_same, hl, hb, fun H' kp hR => ⟨rfl, k y H' hy (Keep.made hy hdx kp) hR⟩⟩
theorem m_reader_is {te : TE} {x : Str} {b : B} {D : Ends} {u : TS} (he : ∀ Q : VK, Q (.str x) H → te σ H Q) (hx : TxB x b) (k : ∀ r H', H r = none → Keep [] H H' → RdR a H' r b → u D (σ.set i (some (.ref r))) H') :
    tSeq (tAsg (tMake a.cReader (sp_Reader_init a) [] E (tCons te tNil)) (gName i)) u D σ H := m_reader (Q := fun v H1 => u D (σ.set i (some v)) H1) he hx k
end
theorem zs_blank : Zs " " Sg35.blank := fun c _ => by
  have e : tl (" " : Str) = [32] := by decide +kernel
  rw [e]
  exact Sg35.in_blank c
theorem tl_lit (s : String) : tl (s : Str) = Sg35.ascii s := by rw [lit, tl_sg]
theorem zs_letters : Zs "ABCDEFGHIJKLMNOPQRSTUVWXYZabcdefghijklmnopqrstuvwxyz" Sg35.letter := fun c hc => by
  rw [tl_lit]
  exact Sg35.in_letter c hc
theorem zs_names : Zs "ABCDEFGHIJKLMNOPQRSTUVWXYZabcdefghijklmnopqrstuvwxyz0123456789-:" Sg35.inName := fun c hc => by
  rw [tl_lit]
  exact Sg35.in_name c hc
theorem zs_digits : Zs "0123456789" Sg35.digit := fun c hc => by
  rw [tl_lit]
  exact Sg35.in_digit c hc
def numB (c : Nat) : Bool := Sg35.digit c || (c == 45 || c == 43)
theorem zs_number : Zs "+-0123456789" numB := fun c hc => by
  rw [tl_lit]
  exact Sg35.in_number c hc
theorem hd1_number (q : B) : hd1 numB q = Sg35.beginsNumber q := by cases q <;> rfl
theorem zs_smalls : Zs "abcdefghijklmnopqrstuvwxyz" Sg35.small := fun c hc => by
  rw [tl_lit]
  exact Sg35.in_small c hc
def hexB (c : Nat) : Bool := (Sg35.hex c).isSome
set_option maxRecDepth 100000 in
theorem zs_hex : Zs "0123456789abcdefABCDEF" hexB := by
  unfold Zs
  rw [tl_lit]
  decide +kernel
theorem zs_path : Zs "MLHVQCZmlhvqcz" Sg35.pathLetter := fun c hc => by
  rw [tl_lit]
  exact Sg35.in_path c hc
def isM (c : Nat) : Bool := c == 77 || c == 109
theorem zs_m : Zs "Mm" isM := by
  unfold Zs
  rw [tl_lit]
  decide +kernel
def isQuote (c : Nat) : Bool := c == 34 || c == 39
theorem zs_quote : Zs "\"'" isQuote := by
  unfold Zs
  rw [tl_lit]
  decide +kernel
theorem skip_is (q : B) : q.dropWhile Sg35.blank = Sg35.skip q := rfl
end Pg
namespace Pg
open PySem PySem.Spec PyProof.Rows L2 TL
variable {P : Program} {w : World} {K : PySem.W.Frag} {mg : Str → Option Value} {base : Heap} {a : Adr}
theorem sz {S : Str} (h : S.length ≤ 65700) : S.length ≤ sizeLine := by rw [sizeLine_eq]; omega
theorem trl {b : B} : (sg (b.map Sg35.tr)).length = b.length := by rw [sg_len, List.length_map]
theorem mv_to {H : Hp} {r dx : Addr} {b : B} {p q : Nat} (h : H r = some (.ins a.cReader dx (rdF (sg (b.map Sg35.tr)) p))) (hq : q ≤ b.length) (hl : b.length ≤ 65600) (hb : Sg35.Byt b) {R : Hp → Prop} (k : Mv a H r (b.drop q) R) :
    R (upd H r (.ins a.cReader dx (rdF (sg (b.map Sg35.tr)) q))) :=
  k _ (Keep.set (by simp) (by rw [h]; exact trivial)) ⟨b, dx, q, upd_same, rfl, hq, hl, hb⟩
theorem sign_at {b : B} {p : Nat} {c : Nat} {t : B} (h : b.drop p = c :: t) : (tl (sg (b.map Sg35.tr)))[p]? = some (Sg35.tr c) ∧ p < b.length ∧ b.drop (p + 1) = t := by
  have hp : p < b.length := by
    have := congrArg List.length h
    rw [List.length_drop, List.length_cons] at this
    omega
  have h1 : b[p]? = some c := by
    have := congrArg (fun z : B => z[0]?) h
    simpa [List.getElem?_drop] using this
  refine ⟨by rw [tl_sg, List.getElem?_map, h1]; rfl, hp, ?_⟩
  have := congrArg (List.drop 1) h
  rw [List.drop_drop] at this
  exact this
theorem ok_init (T : Txt K mg a) : O_qbf P w K mg base a := by
  refine T.fn_qbf.okX sc_qbf (fun vs H Q E h => ?_) (fun cdv A outer s H vs Q E hr h => ?_)
  · obtain ⟨r, dx, b, rfl, _⟩ := h
    rfl
  · obtain ⟨r, dx, b, rfl, h1, hl, hb, k⟩ := h
    refine ⟨_, pss_cons (ps_fld (pv 0) (pv 1) rfl) (pss_one (ps_fld (pv 0) pe_int rfl)), ?_⟩
    refine ⟨_, rfl, _, rfl, r, a.cReader, dx, _, rfl, h1, T.cl_Reader, T.na_Reader_signs, (by show 0 < 1000; decide), ?_⟩
    refine ⟨_, rfl, r, a.cReader, dx, _, rfl, upd_same, T.cl_Reader, T.na_Reader_place, (by show 1 < 1000; decide), ?_⟩
    show Q _ (upd (upd H r _) r _)
    rw [upd_upd]
    have e : putF "place" (.int 0) (putF "signs" (.str (sg (b.map Sg35.tr))) []) = rdF (sg (b.map Sg35.tr)) 0 := by
      rw [pf_nil, pf_next sp_ne, pf_nil]
      rfl
    rw [e]
    exact k _ (Keep.set (by simp) (by rw [h1]; exact trivial)) ⟨b, dx, 0, upd_same, rfl, Nat.zero_le _, hl, hb⟩
theorem ok_ended (T : Txt K mg a) : O_qaq P w K mg base a := by
  refine T.fn_qaq.okX sc_qaq (fun vs H Q E h => ?_) (fun cdv A outer s H vs Q E hr h => ?_)
  · obtain ⟨r, q, rfl, _⟩ := h
    rfl
  · obtain ⟨r, q, rfl, ⟨b, dx, p, h1, rfl, hp, hl, hb⟩, k⟩ := h
    refine ⟨_, pss_one (ps_ret (pe_cmpR op_eq (pe_fld (pv 0) rfl) (pe_callB call_len_str (by rfl) T.bl_len PySem.boot_len (pa_cons (pe_fld (pv 0) rfl) pa_nil)) (nomark _))), ?_⟩
    refine ⟨_, rfl, r, a.cReader, dx, _, _, rfl, h1, T.cl_Reader, T.na_Reader_place, rdF_place, _, rfl, r, a.cReader, dx, _, _, rfl, h1, T.cl_Reader, T.na_Reader_signs, rdF_signs, _, rfl, sz (by rw [trl]; omega), rfl, ?_⟩
    have e : decide (V.int (p : Int) = V.int ((sg (b.map Sg35.tr)).length : Int)) = decide (b.drop p = []) := by
      rw [Bool.eq_iff_iff, decide_eq_true_eq, decide_eq_true_eq, trl]
      constructor
      · intro z; injection z with z; exact List.drop_eq_nil_iff.mpr (by omega)
      · intro z
        have := List.drop_eq_nil_iff.mp z
        rw [show p = b.length by omega]
    rw [e]
    exact k
theorem ok_sees (T : Txt K mg a) : O_qad P w K mg base a := by
  have G := ok_ended (P := P) (w := w) (base := base) T
  refine T.fn_qad.okX sc_qad (fun vs H Q E h => ?_) (fun cdv A outer s H vs Q E hr h => ?_)
  · obtain ⟨r, q, Z, Pz, rfl, _⟩ := h
    rfl
  · obtain ⟨r, q, Z, Pz, rfl, hR, hZ, k⟩ := h
    obtain ⟨b, dx, p, h1, rfl, hp, hl, hb⟩ := id hR
    refine ⟨_, pss_one (ps_ret (pe_and (pe_not (pe_meth0 (pv 0) T.cl_Reader T.me_qaq G hr T.b_qaq .nil passW)) (pe_one (pe_cmpR op_in_sign (pe_ix ix_str (pe_fld (pv 0) rfl) (pe_fld (pv 0) rfl) (fun _ _ => rfl)) (pv 1) (by with_unfolding_all rfl))))), ?_⟩
    refine ⟨_, rfl, r, dx, _, rfl, h1, rdF_no (by decide +kernel) (by decide +kernel), r, _, rfl, hR, _, rfl, _, rfl, ?_⟩
    cases e : b.drop p with
    | nil =>
      rw [decide_eq_true rfl]
      refine iteF ?_
      rw [e] at k
      exact k
    | cons c t =>
      rw [decide_eq_false (by simp)]
      refine iteT ?_
      obtain ⟨hc, _, _⟩ := sign_at e
      rw [e] at k
      have hcb : c < 256 := hb c (List.mem_of_mem_drop (show c ∈ b.drop p by rw [e]; simp))
      refine ⟨_, rfl, r, a.cReader, dx, _, _, rfl, h1, T.cl_Reader, T.na_Reader_signs, rdF_signs, _, rfl, r, a.cReader, dx, _, _, rfl, h1, T.cl_Reader, T.na_Reader_place, rdF_place, _, _, _, rfl, rfl, sz (by rw [trl]; omega), atI_nat hc, _, rfl, _, _, rfl, rfl, ?_⟩
      have e2 : decide (Sg35.tr c ∈ tl Z) = Pz c := hZ c hcb
      rw [e2]
      exact k
theorem pre_take {w : List Nat} {b : B} {p : Nat} (hw : Sg35.Plain w) : pre w ((tl (sg (b.map Sg35.tr))).drop p) = true ↔ ∃ t, b.drop p = w ++ t := by
  rw [pre_iff, tl_sg, ← List.map_drop, Sg35.word_tr hw, Sg35.take_eq_iff]
theorem ok_skip (T : Txt K mg a) : O_qbg P w K mg base a := by
  refine T.fn_qbg.okX sc_qbg (fun vs H Q E h => ?_) (fun cdv A outer s H vs Q E hr h => ?_)
  · obtain ⟨r, q, W, u, rfl, _⟩ := h
    rfl
  · obtain ⟨r, q, W, u, rfl, hR, rfl, hpl, hne, hul, k1, k2⟩ := h
    obtain ⟨b, dx, p, h1, rfl, hp, hl, hb⟩ := id hR
    refine ⟨_, pss_cons (ps_if (pt_not (pt_val (pe_bm F.plainAttrs_str F.slot_str_startswith F.type_str_startswith mt_startswith3 (pe_fld (pv 0) rfl) (pa_cons (pv 1) (pa_cons (pe_fld (pv 0) rfl) pa_nil)))))
      (pss_one (ps_ret pe_bl)) pss_nil) (pss_cons (ps_fldaug (pv 0) (pe_callB call_len_str (by rfl) T.bl_len PySem.boot_len (pa_cons (pv 1) pa_nil)) in_add) (pss_one (ps_ret pe_bl))), ?_⟩
    refine ⟨_, rfl, r, a.cReader, dx, _, _, rfl, h1, T.cl_Reader, T.na_Reader_signs, rdF_signs, rfl, _, rfl, _, rfl, r, a.cReader, dx, _, _, rfl, h1, T.cl_Reader, T.na_Reader_place, rdF_place, _, _, (p : Int), rfl, rfl, _, rfl, ?_⟩
    rw [starts_is (by rw [tl_sg]; exact hne), tl_sg (l := u)]
    have hiff := pre_take (b := b) (p := p) hpl
    cases hpre : pre u ((tl (sg (b.map Sg35.tr))).drop p) with
    | false =>
      refine iteT ?_
      refine k2 fun t ht => ?_
      rw [hiff.mpr ⟨t, ht⟩] at hpre
      cases hpre
    | true =>
      refine iteF ?_
      obtain ⟨t, ht⟩ := hiff.mp hpre
      have hlen := congrArg List.length ht
      rw [List.length_drop, List.length_append] at hlen
      have k := k1 t ht
      have hdt : b.drop (p + u.length) = t := by rw [← List.drop_drop, ht]; simp
      rw [← hdt] at k
      refine ⟨_, rfl, r, a.cReader, dx, _, _, rfl, h1, T.cl_Reader, T.na_Reader_place, rdF_place, _, rfl, _, rfl, sz (by rw [sg_len]; exact hul), _, _, rfl, rfl, dx, _, h1, (by show 2 < 1000; decide), ?_⟩
      have e : putF "place" (.int ((p : Int) + ((sg u).length : Int))) (rdF (sg (b.map Sg35.tr)) p) = rdF (sg (b.map Sg35.tr)) (p + u.length) := by
        rw [← rdF_put (p := p) (q := p + u.length), sg_len, Int.natCast_add]
      show Q _ (upd H r (.ins a.cReader dx (putF "place" (.int ((p : Int) + ((sg u).length : Int))) (rdF (sg (b.map Sg35.tr)) p))))
      rw [e]
      exact mv_to h1 (by have : 0 < u.length := List.length_pos_iff.mpr hne; omega) hl hb k
theorem ok_need (T : Txt K mg a) : O_qbh P w K mg base a := by
  have G := ok_skip (P := P) (w := w) (base := base) T
  refine T.fn_qbh.okX sc_qbh (fun vs H Q E h => ?_) (fun cdv A outer s H vs Q E hr h => ?_)
  · obtain ⟨r, q, W, u, rfl, _⟩ := h
    rfl
  · obtain ⟨r, q, W, u, rfl, hR, rfl, hpl, hne, hul, k1, k2⟩ := h
    obtain ⟨dx, fs, h1, hno⟩ := hR.ins
    refine ⟨_, pss_one (ps_if (pt_not (pt_val (pe_meth (pv 0) T.cl_Reader T.me_qbg G hr T.b_qbg .nil passW (pa_cons (pv 1) pa_nil)))) (pss_one (ps_raise T.xc_WrongText rfl)) pss_nil), ?_⟩
    refine ⟨_, rfl, r, dx, _, rfl, h1, hno _ (by decide +kernel) (by decide +kernel), _, rfl, r, q, _, u, rfl, hR, rfl, hpl, hne, hul, fun t ht H' kp hR' => ⟨_, rfl, iteF (k1 t ht H' kp hR')⟩, fun hn => ⟨_, rfl, iteT (k2 hn _)⟩⟩
theorem ok_need_end (T : Txt K mg a) : O_qae P w K mg base a := by
  have G := ok_ended (P := P) (w := w) (base := base) T
  refine T.fn_qae.okX sc_qae (fun vs H Q E h => ?_) (fun cdv A outer s H vs Q E hr h => ?_)
  · obtain ⟨r, q, rfl, _⟩ := h
    rfl
  · obtain ⟨r, q, rfl, hR, k1, k2⟩ := h
    obtain ⟨dx, fs, h1, hno⟩ := hR.ins
    refine ⟨_, pss_one (ps_if (pt_not (pt_val (pe_meth0 (pv 0) T.cl_Reader T.me_qaq G hr T.b_qaq .nil passW))) (pss_one (ps_raise T.xc_WrongText rfl)) pss_nil), ?_⟩
    refine ⟨_, rfl, r, dx, _, rfl, h1, hno _ (by decide +kernel) (by decide +kernel), r, q, rfl, hR, _, rfl, ?_⟩
    by_cases e : q = []
    · rw [decide_eq_true e]
      exact iteF (k1 e)
    · rw [decide_eq_false e]
      exact iteT (k2 e _)
theorem ok_take_one (T : Txt K mg a) : O_qaf P w K mg base a := by
  have G := ok_sees (P := P) (w := w) (base := base) T
  refine T.fn_qaf.okX sc_qaf (fun vs H Q E h => ?_) (fun cdv A outer s H vs Q E hr h => ?_)
  · obtain ⟨r, q, Z, Pz, rfl, _⟩ := h
    rfl
  · obtain ⟨r, q, Z, Pz, rfl, hR, hZ, k1, k2⟩ := h
    obtain ⟨b, dx, p, h1, rfl, hp, hl, hb⟩ := id hR
    refine ⟨_, pss_cons (ps_if (pt_not (pt_val (pe_meth (pv 0) T.cl_Reader T.me_qad G hr T.b_qad .nil passW (pa_cons (pv 1) pa_nil)))) (pss_one (ps_raise T.xc_WrongText rfl)) pss_nil)
      (pss_cons (ps_fldaug (pv 0) pe_int in_add) (pss_one (ps_ret (pe_ix ix_str (pe_fld (pv 0) rfl) (pe_op op_sub (pe_fld (pv 0) rfl) pe_int) (fun _ _ => rfl))))), ?_⟩
    refine ⟨_, rfl, r, dx, _, rfl, h1, rdF_no (by decide +kernel) (by decide +kernel), _, rfl, r, _, Z, Pz, rfl, hR, hZ, _, rfl, ?_⟩
    cases e : hd1 Pz (b.drop p) with
    | false => exact iteT (k2 e _)
    | true =>
      refine iteF ?_
      cases eq : b.drop p with
      | nil => rw [eq] at e; cases e
      | cons c t =>
        rw [eq] at e
        obtain ⟨hc, hlt, hdt⟩ := sign_at eq
        have k := k1 c t eq e
        rw [← hdt] at k
        refine ⟨_, rfl, r, a.cReader, dx, _, _, rfl, h1, T.cl_Reader, T.na_Reader_place, rdF_place, _, _, rfl, rfl, dx, _, h1, (by show 2 < 1000; decide), ?_⟩
        have e3 : putF "place" (.int ((p : Int) + 1)) (rdF (sg (b.map Sg35.tr)) p) = rdF (sg (b.map Sg35.tr)) (p + 1) := by
          rw [← rdF_put (p := p)]
          rfl
        show (fun H2 => _) (upd H r (.ins a.cReader dx (putF "place" (.int ((p : Int) + 1)) (rdF (sg (b.map Sg35.tr)) p))))
        rw [e3]
        refine ⟨_, rfl, r, a.cReader, dx, _, _, rfl, upd_same, T.cl_Reader, T.na_Reader_signs, rdF_signs, _, rfl, r, a.cReader, dx, _, _, rfl, upd_same, T.cl_Reader, T.na_Reader_place, rdF_place, _, _, rfl, rfl, _, _, Sg35.tr c, rfl, rfl, sz (by rw [trl]; omega), ?_, mv_to h1 (by omega) hl hb k⟩
        have e2 : (((p + 1 : Nat) : Int) - 1) = (p : Int) := by omega
        rw [e2]
        exact atI_nat hc
theorem ok_take_all (T : Txt K mg a) : O_qag P w K mg base a := by
  have G := ok_sees (P := P) (w := w) (base := base) T
  refine T.fn_qag.okX sc_qag (fun vs H Q E h => ?_) (fun cdv A outer s H vs Q E hr h => ?_)
  · obtain ⟨r, q, Z, Pz, rfl, _⟩ := h
    rfl
  · obtain ⟨r, q, Z, Pz, rfl, hR, hZ, k⟩ := h
    obtain ⟨b, dx, p, h1, rfl, hp, hl, hb⟩ := id hR
    refine ⟨_, pss_cons (ps_set (i := 2) sc_qag.nd rfl (Or.inl rfl) (pe_fld (pv 0) rfl))
      (pss_cons (ps_while PassesOwn.leaving (pt_val (pe_meth (pv 0) T.cl_Reader T.me_qad G hr T.b_qad .nil passW (pa_cons (pv 1) pa_nil))) (pss_one (ps_fldaug (pv 0) pe_int in_add)))
      (pss_one (ps_ret (pe_slice sl_str (pe_fld (pv 0) rfl) (po_some (pv 2)) (po_some (pe_fld (pv 0) rfl)))))), ?_⟩
    refine ⟨_, rfl, r, a.cReader, dx, _, _, rfl, h1, T.cl_Reader, T.na_Reader_place, rdF_place, ?_⟩
    refine ⟨fun m σ H2 => ∃ n, σ = [some (.ref r), some (.str Z), some (.int (p : Int))] ∧ H2 r = some (.ins a.cReader dx (rdF (sg (b.map Sg35.tr)) n)) ∧ Keep [r] H H2 ∧ n ≤ b.length ∧ p ≤ n ∧ (b.drop p).takeWhile Pz = (b.drop p).take (n - p) ++ (b.drop n).takeWhile Pz ∧ (b.drop p).dropWhile Pz = (b.drop n).dropWhile Pz ∧ m = b.length - n,
      ⟨_, p, rfl, h1, Keep.refl, hp, Nat.le_refl _, by simp, rfl, rfl⟩, ?_⟩
    rintro m σ H2 ⟨n, rfl, h2, kp, hn, hpn, hrun, hdr, rfl⟩
    have hR2 : RdR a H2 r (b.drop n) := ⟨b, dx, n, h2, rfl, hn, hl, hb⟩
    refine ⟨_, rfl, r, dx, _, rfl, h2, rdF_no (by decide +kernel) (by decide +kernel), _, rfl, r, _, Z, Pz, rfl, hR2, hZ, _, rfl, ?_⟩
    cases hs : hd1 Pz (b.drop n) with
    | true =>
      refine iteT ?_
      cases eq : b.drop n with
      | nil => rw [eq] at hs; cases hs
      | cons c t =>
        rw [eq] at hs hrun hdr
        obtain ⟨hc, hlt, hdt⟩ := sign_at eq
        have hs' : Pz c = true := hs
        refine ⟨fun σ' H' => σ' = [some (.ref r), some (.str Z), some (.int (p : Int))] ∧ H' = upd H2 r (.ins a.cReader dx (rdF (sg (b.map Sg35.tr)) (n + 1))), fun σ' H' ⟨e1, e2⟩ => ⟨b.length - (n + 1), by omega, n + 1, e1, by rw [e2]; exact upd_same, by rw [e2]; exact kp.trans (Keep.set (by simp) (by rw [h2]; exact trivial)), by omega, by omega, ?_, ?_, rfl⟩, ?_⟩
        · rw [hrun, List.takeWhile_cons, if_pos hs', hdt, show n + 1 - p = (n - p) + 1 by omega, List.take_add]
          have : ((b.drop p).drop (n - p)).take 1 = [c] := by rw [List.drop_drop, show p + (n - p) = n by omega, eq]; rfl
          rw [this, List.append_assoc]
          rfl
        · rw [hdr, List.dropWhile_cons, if_pos hs', hdt]
        · refine ⟨_, rfl, r, a.cReader, dx, _, _, rfl, h2, T.cl_Reader, T.na_Reader_place, rdF_place, _, _, rfl, rfl, dx, _, h2, (by show 2 < 1000; decide), rfl, ?_⟩
          have e : putF "place" (.int ((n : Int) + 1)) (rdF (sg (b.map Sg35.tr)) n) = rdF (sg (b.map Sg35.tr)) (n + 1) := by
            rw [← rdF_put (p := n)]
            rfl
          show upd H2 r (.ins a.cReader dx (putF "place" (.int ((n : Int) + 1)) (rdF (sg (b.map Sg35.tr)) n))) = _
          rw [e]
    | false =>
      refine iteF ?_
      have hw : (b.drop n).takeWhile Pz = [] ∧ (b.drop n).dropWhile Pz = b.drop n := by
        cases eq : b.drop n with
        | nil => exact ⟨rfl, rfl⟩
        | cons c t =>
          rw [eq] at hs
          have hs' : Pz c = false := hs
          rw [List.takeWhile_cons, List.dropWhile_cons, hs']
          exact ⟨rfl, rfl⟩
      rw [hw.1, List.append_nil] at hrun
      rw [hw.2] at hdr
      refine ⟨_, rfl, r, a.cReader, dx, _, _, rfl, h2, T.cl_Reader, T.na_Reader_signs, rdF_signs, _, rfl, _, rfl, _, rfl, r, a.cReader, dx, _, _, rfl, h2, T.cl_Reader, T.na_Reader_place, rdF_place, _, rfl, _, rfl, sz (by rw [trl]; omega), ?_⟩
      have e : cutS (sg (b.map Sg35.tr)) (some (p : Int)) (some (n : Int)) = sg (((b.drop p).takeWhile Pz).map Sg35.tr) := by
        apply ext_tl
        rw [cutS_nat hpn (by rw [trl]; exact hn), tl_sg, tl_sg, hrun, List.map_take, List.map_drop]
      rw [e]
      exact k H2 kp (by rw [hdr]; exact hR2)
theorem ok_up_to (T : Txt K mg a) : O_qab P w K mg base a := by
  refine T.fn_qab.okX sc_qab (fun vs H Q E h => ?_) (fun cdv A outer s H vs Q E hr h => ?_)
  · obtain ⟨r, q, W, u, rfl, _⟩ := h
    rfl
  · obtain ⟨r, q, W, u, rfl, hR, rfl, hpl, hne, hul, kn, k⟩ := h
    obtain ⟨b, dx, p, h1, rfl, hp, hl, hb⟩ := id hR
    refine ⟨_, pss_cons (ps_set (i := 2) sc_qab.nd rfl (Or.inl rfl) (pe_fld (pv 0) rfl))
      (pss_cons (ps_set (i := 3) sc_qab.nd rfl (Or.inl rfl) (pe_bm F.plainAttrs_str F.slot_str_find F.type_str_find mt_find3 (pe_fld (pv 0) rfl) (pa_cons (pv 1) (pa_cons (pv 2) pa_nil))))
      (pss_cons (ps_if (pt_cmpR op_lt (pv 3) pe_int (nomark _)) (pss_one (ps_raise T.xc_WrongText rfl)) pss_nil)
      (pss_cons (ps_fld (pv 0) (pe_op op_add (pv 3) (pe_callB call_len_str (by rfl) T.bl_len PySem.boot_len (pa_cons (pv 1) pa_nil))) rfl)
      (pss_one (ps_ret (pe_slice sl_str (pe_fld (pv 0) rfl) (po_some (pv 2)) (po_some (pv 3)))))))), ?_⟩
    refine ⟨_, rfl, r, a.cReader, dx, _, _, rfl, h1, T.cl_Reader, T.na_Reader_place, rdF_place, ?_⟩
    refine ⟨_, rfl, r, a.cReader, dx, _, _, rfl, h1, T.cl_Reader, T.na_Reader_signs, rdF_signs, rfl, _, rfl, _, rfl, _, _, (p : Int), rfl, rfl, ?_⟩
    have hW : tl (sg u) ≠ [] := by rw [tl_sg]; exact hne
    have hdd : ∀ i, (b.drop p).drop i = b.drop (p + i) := fun i => List.drop_drop
    have hiff : ∀ i, pre u ((tl (sg (b.map Sg35.tr))).drop (p + i)) = true ↔ ((b.drop p).drop i).take u.length = u := fun i => by
      rw [pre_take hpl, hdd, Sg35.take_eq_iff]
    rcases find_is (x := sg (b.map Sg35.tr)) (y := sg u) (p := p) hW with ⟨e, hn⟩ | ⟨j, hj, e, hpj, hn⟩
    · rw [e]
      refine ⟨_, rfl, _, _, rfl, rfl, _, rfl, ?_⟩
      rw [decide_eq_true (show (-1 : Int) < 0 by decide)]
      refine iteT (kn (fun i z => ?_) _)
      have := hn (p + i) (by omega)
      rw [tl_sg (l := u), (hiff i).mpr z] at this
      cases this
    · rw [e]
      refine ⟨_, rfl, _, _, rfl, rfl, _, rfl, ?_⟩
      rw [decide_eq_false (show ¬ (j : Int) < 0 by omega)]
      refine iteF ?_
      refine ⟨_, rfl, _, rfl, _, rfl, sz (by rw [sg_len]; exact hul), _, _, rfl, rfl, _, rfl, r, a.cReader, dx, _, rfl, h1, T.cl_Reader, T.na_Reader_place, (by show 2 < 1000; decide), ?_⟩
      obtain ⟨i, rfl⟩ : ∃ i, j = p + i := ⟨j - p, by omega⟩
      rw [tl_sg (l := u)] at hpj
      have hpi := (hiff i).mp hpj
      have kk := k i hpi fun i' hi' z => by
        have := hn (p + i') (by omega) (by omega)
        rw [tl_sg (l := u), (hiff i').mpr z] at this
        cases this
      have hjl : p + i + u.length ≤ b.length := by
        have := congrArg List.length hpi
        rw [List.length_take, hdd, List.length_drop] at this
        have : 0 < u.length := List.length_pos_iff.mpr hne
        omega
      have e2 : putF "place" (.int (((p + i : Nat) : Int) + ((sg u).length : Int))) (rdF (sg (b.map Sg35.tr)) p) = rdF (sg (b.map Sg35.tr)) (p + i + u.length) := by
        rw [← rdF_put (p := p) (q := p + i + u.length), sg_len, Int.natCast_add (p + i)]
      show (fun H2 => _) (upd H r (.ins a.cReader dx (putF "place" (.int (((p + i : Nat) : Int) + ((sg u).length : Int))) (rdF (sg (b.map Sg35.tr)) p))))
      rw [e2]
      refine ⟨_, rfl, r, a.cReader, dx, _, _, rfl, upd_same, T.cl_Reader, T.na_Reader_signs, rdF_signs, _, rfl, _, rfl, _, rfl, _, rfl, _, rfl, sz (by rw [trl]; omega), ?_⟩
      have e3 : cutS (sg (b.map Sg35.tr)) (some (p : Int)) (some ((p + i : Nat) : Int)) = sg (((b.drop p).take i).map Sg35.tr) := by
        apply ext_tl
        rw [cutS_nat (by omega) (by rw [trl]; omega), tl_sg, tl_sg, List.map_take, List.map_drop, Nat.add_sub_cancel_left]
      rw [e3]
      rw [hdd, show p + (i + u.length) = p + i + u.length by omega] at kk
      exact mv_to h1 hjl hl hb kk
end Pg
namespace Pg
open PySem PySem.Spec PyProof.Rows L2 TL
variable {P : Program} {w : World} {K : PySem.W.Frag} {mg : Str → Option Value} {base : Heap} {a : Adr}
theorem lit_minus : ("-" : Str) = sg [45] := by decide +kernel
theorem lit_plus : ("+" : Str) = sg [43] := by decide +kernel
theorem lit_comma : ("," : Str) = sg [44] := by decide +kernel
theorem ok_qbs (T : Txt K mg a) (G_qbg : O_qbg P w K mg base a) : O_qbs P w K mg base a := by
  refine T.fn_qbs.okX sc_qbs (fun vs H Q E h => ?_) (fun cdv A outer s H vs Q E hr h => ?_)
  · obtain ⟨r, q, rfl, _⟩ := h
    rfl
  · obtain ⟨r, q, rfl, hR, k⟩ := h
    refine ⟨_, (pss_cons (ps_if (pt_val (pe_meth (pv 0) T.cl_Reader T.me_qbg G_qbg (hr.mono (by decide)) T.b_qbg .nil passW (pa_cons pe_str pa_nil))) (pss_one (ps_ret (pe_un un_neg pe_int))) pss_nil)
        (pss_cons (ps_expr (pe_meth (pv 0) T.cl_Reader T.me_qbg G_qbg (hr.mono (by decide)) T.b_qbg .nil passW (pa_cons pe_str pa_nil)))
        (pss_one (ps_ret pe_int)))), ?_⟩
    refine m_skip rfl hR lit_minus (by decide) (fun t ht H' kp hR' => ⟨_, rfl, iteT ?_⟩) (fun hn => ⟨_, rfl, iteF ?_⟩)
    · subst ht
      refine ⟨_, rfl, ?_⟩
      exact k H' kp hR'
    · refine m_skip rfl hR lit_plus (by decide) (fun t ht H' kp hR' => ?_) (fun hn2 => ?_)
      · subst ht
        exact k H' kp hR'
      · have e1 : q.head? ≠ some 45 := fun z => by
          cases q with
          | nil => cases z
          | cons c t => cases z; exact hn t rfl
        have e2 : q.head? ≠ some 43 := fun z => by
          cases q with
          | nil => cases z
          | cons c t => cases z; exact hn2 t rfl
        have e3 : Sg35.unsigned q = q := by
          unfold Sg35.unsigned
          rw [if_neg]
          simp only [Bool.or_eq_true, beq_iff_eq, not_or]
          exact ⟨e1, e2⟩
        have k' := k H Keep.refl (by rw [e3]; exact hR)
        rw [if_neg e1] at k'
        exact k'
theorem dv_natOf (d : List Nat) : PySem.NumText.digitsVal d = Sg35.natOf d := by
  unfold PySem.NumText.digitsVal Sg35.natOf
  congr 1
  funext n c
  omega
theorem int_digits {d : List Nat} (hne : d ≠ []) (hd : ∀ c ∈ d, Sg35.digit c = true) (hl : d.length ≤ 5) : PySem.intText? (sg d) = some ((Sg35.natOf d : Nat) : Int) := by
  have e := intText_digits (x := sg d) (by rw [show (sg d).cps.toList = d from tl_sg]; exact fun c hc => Sg35.digit_iff.mp (hd c hc)) (by rw [show (sg d).cps.toList = d from tl_sg]; exact hne) (by rw [sg_len]; omega)
  rw [show (sg d).cps.toList = d from tl_sg, dv_natOf] at e
  exact e
theorem map_digits {d : List Nat} (hd : ∀ c ∈ d, Sg35.digit c = true) : d.map Sg35.tr = d := by
  have : ∀ c ∈ d, Sg35.tr c = id c := fun c hc => by
    have := Sg35.digit_iff.mp (hd c hc)
    exact (Sg35.tr_fix (c := c) (d := c) (by omega) (by omega) (by omega) (by omega)).mpr rfl
  rw [List.map_congr_left this, List.map_id]
theorem ok_qat (T : Txt K mg a) (G_qbs : O_qbs P w K mg base a) (G_qag : O_qag P w K mg base a) : O_qat P w K mg base a := by
  refine T.fn_qat.okX sc_qat (fun vs H Q E h => ?_) (fun cdv A outer s H vs Q E hr h => ?_)
  · obtain ⟨r, q, rfl, _⟩ := h
    rfl
  · obtain ⟨r, q, rfl, hR, k1, k2⟩ := h
    refine ⟨_, (pss_cons (ps_set (i := 1) sc_qat.nd rfl (Or.inl rfl) (pe_call G_qbs (hr.mono (by decide)) (by rfl) T.mg_qbs T.fn_qbs.kp T.b_qbs .nil passW (pa_cons (pv 0) pa_nil)))
        (pss_cons (ps_set (i := 2) sc_qat.nd rfl (Or.inl rfl) (pe_meth (pv 0) T.cl_Reader T.me_qag G_qag (hr.mono (by decide)) T.b_qag .nil passW (pa_cons (pe_globV (by rfl) T.ct_DIGITS) pa_nil)))
        (pss_cons (ps_if (pw_or (pt_not (pt_chain op_le op_le pe_int (pe_callB call_len_str (by rfl) T.bl_len (by decide +kernel) (pa_cons (pv 2) pa_nil)) (pe_globV (by rfl) T.ct_MOST_DIGITS))) (pw_or1 (pt_cmpR op_gt (pe_callTy call_int_str (by rfl) T.bl_int (by decide +kernel) (pa_cons (pv 2) pa_nil)) (pe_globV (by rfl) T.ct_LARGEST) (nomark _)))).pt (pss_one (ps_raise T.xc_WrongText (by rfl))) pss_nil)
        (pss_one (ps_ret (pe_op op_mul (pv 1) (pe_callTy call_int_str (by rfl) T.bl_int (by decide +kernel) (pa_cons (pv 2) pa_nil)))))))), ?_⟩
    refine ⟨_, rfl, r, q, rfl, hR, fun H' kp hR' => ?_⟩
    refine m_take_all rfl hR' zs_digits fun H2 kp2 hR2 => ?_
    generalize hd : (Sg35.unsigned q).takeWhile Sg35.digit = d at *
    have hdd : ∀ c ∈ d, Sg35.digit c = true := fun c hc => by rw [← hd] at hc; exact Sg35.mem_takeWhile hc
    rw [map_digits hdd]
    have hdl : d.length ≤ 65600 := by
      have h1 := hR'.len
      have h2 := Sg35.len_takeWhile Sg35.digit (Sg35.unsigned q)
      rw [hd] at h2
      omega
    have hz := Sg35.numberAt_eq q
    rw [hd] at hz
    have hlen : (sg d).length ≤ sizeLine := by rw [sg_len, sizeLine_eq]; omega
    by_cases h0 : d = []
    · rw [if_pos (.inl h0)] at hz
      subst h0
      exact ⟨_, rfl, _, rfl, hlen, _, _, rfl, rfl, false, congrArg V.bl (decide_eq_false (by rw [sg_len]; simp)), iteF ⟨_, rfl, iteT (iteT (k1 hz _))⟩⟩
    have hp : 0 < d.length := List.length_pos_iff.mpr h0
    refine ⟨_, rfl, _, rfl, hlen, _, _, rfl, rfl, true, congrArg V.bl (decide_eq_true (by rw [sg_len]; omega)), iteT ?_⟩
    by_cases h5 : 5 < d.length
    · rw [if_pos (.inr (.inl h5))] at hz
      exact ⟨_, _, rfl, rfl, false, congrArg V.bl (decide_eq_false (by rw [sg_len]; omega)), iteT (iteT (k1 hz _))⟩
    refine ⟨_, _, rfl, rfl, true, congrArg V.bl (decide_eq_true (by rw [sg_len]; omega)), iteF ?_⟩
    have hi := int_digits h0 hdd (by omega)
    by_cases hm : Sg35.MOST < Sg35.natOf d
    · rw [if_pos (.inr (.inr hm))] at hz
      exact ⟨_, rfl, _, _, rfl, hi, (by rw [sg_len]; omega), _, _, rfl, rfl, true, congrArg V.bl (decide_eq_true (show (32767 : Int) < ((Sg35.natOf d : Nat) : Int) by unfold Sg35.MOST at hm; omega)), iteT (k1 hz _)⟩
    · rw [if_neg (by rintro (z | z | z); exact h0 z; exact h5 z; exact hm z)] at hz
      refine ⟨_, rfl, _, _, rfl, hi, (by rw [sg_len]; omega), _, _, rfl, rfl, false, congrArg V.bl (decide_eq_false (show ¬ (32767 : Int) < ((Sg35.natOf d : Nat) : Int) by unfold Sg35.MOST at hm; omega)), iteF ?_⟩
      have hk := k2 _ _ hz H2 (kp.trans kp2) (by rw [← hd, Sg35.drop_takeWhile]; exact hR2)
      refine ⟨_, rfl, _, rfl, _, _, rfl, hi, (by rw [sg_len]; omega), _, _, rfl, rfl, .inl (by split <;> decide), ?_⟩
      by_cases hh : q.head? = some 45
      · rw [if_pos hh] at hk
        have e : (if q.head? = some 45 then (-1 : Int) else 1) * ((Sg35.natOf d : Nat) : Int) = -((Sg35.natOf d : Nat) : Int) := by rw [if_pos hh]; omega
        exact (congrArg (fun z => Q (V.int z) H2) e).mpr hk
      · rw [if_neg hh] at hk
        have e : (if q.head? = some 45 then (-1 : Int) else 1) * ((Sg35.natOf d : Nat) : Int) = ((Sg35.natOf d : Nat) : Int) := by rw [if_neg hh]; omega
        exact (congrArg (fun z => Q (V.int z) H2) e).mpr hk
theorem ok_qcc (T : Txt K mg a) (G_qag : O_qag P w K mg base a) (G_qad : O_qad P w K mg base a) (G_qat : O_qat P w K mg base a) (G_qbg : O_qbg P w K mg base a) : O_qcc P w K mg base a := by
  refine T.fn_qcc.okX sc_qcc (fun vs H Q E h => ?_) (fun cdv A outer s H vs Q E hr h => ?_)
  · obtain ⟨r, q, rfl, _⟩ := h
    rfl
  · obtain ⟨r, q, rfl, hR, k1, k2⟩ := h
    refine ⟨_, (pss_cons (ps_set (i := 1) sc_qcc.nd rfl (Or.inl rfl) (pe_lst pa_nil))
        (pss_cons (ps_expr (pe_meth (pv 0) T.cl_Reader T.me_qag G_qag (hr.mono (by decide)) T.b_qag .nil passW (pa_cons (pe_globV (by rfl) T.ct_BLANK) pa_nil)))
        (pss_cons (ps_set (i := 2) sc_qcc.nd rfl (Or.inl rfl) (pe_meth (pv 0) T.cl_Reader T.me_qad G_qad (hr.mono (by decide)) T.b_qad .nil passW (pa_cons (pe_globV (by rfl) T.ct_NUMBER_BEGINS) pa_nil)))
        (pss_cons (ps_while PassesOwn.leaving (pt_val (pv 2)) (pss_cons (ps_expr (pe_bm F.plainAttrs_list F.slot_list_append F.type_list_append mt_append (pv 1) (pa_cons (pe_call G_qat (hr.mono (by decide)) (by rfl) T.mg_qat T.fn_qat.kp T.b_qat .nil passW (pa_cons (pv 0) pa_nil)) pa_nil)))
        (pss_cons (ps_expr (pe_meth (pv 0) T.cl_Reader T.me_qag G_qag (hr.mono (by decide)) T.b_qag .nil passW (pa_cons (pe_globV (by rfl) T.ct_BLANK) pa_nil)))
        (pss_cons (ps_set (i := 3) sc_qcc.nd rfl (Or.inl rfl) (pe_meth (pv 0) T.cl_Reader T.me_qbg G_qbg (hr.mono (by decide)) T.b_qbg .nil passW (pa_cons pe_str pa_nil)))
        (pss_cons (ps_expr (pe_meth (pv 0) T.cl_Reader T.me_qag G_qag (hr.mono (by decide)) T.b_qag .nil passW (pa_cons (pe_globV (by rfl) T.ct_BLANK) pa_nil)))
        (pss_one (ps_set (i := 2) sc_qcc.nd rfl (Or.inl rfl) (pe_or (pv 3) (pe_one (pe_meth (pv 0) T.cl_Reader T.me_qad G_qad (hr.mono (by decide)) T.b_qad .nil passW (pa_cons (pe_globV (by rfl) T.ct_NUMBER_BEGINS) pa_nil)))))))))))
        (pss_one (ps_ret (pv 1))))))), ?_⟩
    refine ⟨Nat.zero_le _, fun p hp => ?_⟩
    have hR1 : RdR a (upd H p (.lst [])) r q := hR.keep0 (Keep.new hp)
    have hrp : p ≠ r := (hR.ne hp).symm
    refine m_take_all rfl hR1 zs_blank fun H2 kp2 hR2 => ?_
    refine m_sees rfl hR2 zs_number ?_
    rw [hd1_number, skip_is]
    rw [skip_is] at hR2
    have hp2 : LsI H2 p [] := kp2.one upd_same hrp
    have K2 : Keep [r] H H2 := (Keep.new hp).trans kp2
    refine ⟨fun m σ H' => ∃ (t : B) (l : List Int) (more : Bool) (cm : Option V), σ = [some (.ref r), some (.ref p), some (.bl more), cm] ∧ Keep [r] H H' ∧ RdR a H' r t ∧ LsI H' p l ∧ l.length + t.length ≤ 65600 ∧
      (more = true → Sg35.rowAt q = (Sg35.numbers t).map fun y => (l ++ y.1, y.2)) ∧ (more = false → Sg35.rowAt q = some (l, t)) ∧ m = t.length, ⟨_, Sg35.skip q, [], Sg35.beginsNumber (Sg35.skip q), none, rfl, K2, hR2, hp2, ?_, fun hb => ?_, fun hb => ?_, rfl⟩, ?_⟩
    · have := hR2.len
      simpa using this
    · unfold Sg35.rowAt
      rw [if_pos hb]
      cases Sg35.numbers (Sg35.skip q) <;> rfl
    · unfold Sg35.rowAt
      rw [if_neg (by rw [hb]; exact Bool.false_ne_true)]
    rintro m σ H3 ⟨t, l, more, cm, rfl, K3, hR3, hp3, hsz, hmt, hmf, rfl⟩
    refine ⟨_, rfl, _, rfl, ?_⟩
    cases more with
    | false =>
      refine iteF ⟨_, rfl, ?_⟩
      exact k2 l t p (hmf rfl) hp H3 K3 hR3 hp3
    | true =>
      have hrow := hmt rfl
      refine iteT ⟨fun σ' H' => ∃ (t' : B) (l' : List Int) (more : Bool) (cm : Option V), σ' = [some (.ref r), some (.ref p), some (.bl more), cm] ∧ Keep [r] H H' ∧ RdR a H' r t' ∧ LsI H' p l' ∧ l'.length + t'.length ≤ 65600 ∧
        (more = true → Sg35.rowAt q = (Sg35.numbers t').map fun y => (l' ++ y.1, y.2)) ∧ (more = false → Sg35.rowAt q = some (l', t')) ∧ t'.length < t.length, fun σ' H' ⟨t', l', more, cm, e1, e2, e3, e4, e5, e6, e7, e8⟩ => ⟨_, e8, t', l', more, cm, e1, e2, e3, e4, e5, e6, e7, rfl⟩, ?_⟩
      refine ⟨_, rfl, .inl ⟨rfl, _, SqL.of hp3⟩, _, rfl, r, t, rfl, hR3, fun hn => k1 ?_, fun z t1 hz H4 kp4 hR4 => ?_⟩
      · rw [hrow, Sg35.numbers_bad hn]; rfl
      have ht1 := Sg35.numberAt_len hz
      have hp4 : LsI H4 p l := kp4.one hp3 hrp
      refine ⟨p, _, _, rfl, rfl, hp4, (by rw [List.length_map, sizeLine_eq]; omega), ?_⟩
      have K5 : Keep [r] H (upd H4 p (.lst (l.map V.int ++ [V.int z]))) := Keep.drop (K3.trans kp4) (Keep.set (by simp) (by rw [hp4]; exact trivial)) hp
      have hR5 : RdR a (upd H4 p (.lst (l.map V.int ++ [V.int z]))) r t1 := hR4.keep (M := [p]) (Keep.set (by simp) (by rw [hp4]; exact trivial)) (by simpa using hrp.symm)
      have hp5 : LsI (upd H4 p (.lst (l.map V.int ++ [V.int z]))) p (l ++ [z]) := by
        unfold LsI
        rw [upd_same, List.map_append]
        rfl
      generalize upd H4 p (.lst (l.map V.int ++ [V.int z])) = H5 at K5 hR5 hp5 ⊢
      refine m_take_all rfl hR5 zs_blank fun H6 kp6 hR6 => ?_
      rw [skip_is] at hR6
      have hl1 := Sg35.len_skip t1
      refine m_skip rfl hR6 lit_comma (by decide) (fun t2 ht2 H7 kp7 hR7 => ?_) (fun hnc => ?_)
      · refine m_take_all rfl hR7 zs_blank fun H8 kp8 hR8 => ?_
        rw [skip_is] at hR8
        have hl2 := Sg35.len_skip t2
        have hl3 := congrArg List.length ht2
        rw [List.length_append, List.length_cons, List.length_nil] at hl3
        refine ⟨_, rfl, _, rfl, iteT ⟨Sg35.skip t2, l ++ [z], true, _, rfl, K5.trans (kp6.trans (kp7.trans kp8)), hR8, kp8.one (kp7.one (kp6.one hp5 hrp) hrp) hrp, ?_, fun _ => ?_, (nomatch ·), ?_⟩⟩
        · rw [List.length_append, List.length_cons, List.length_nil]; omega
        · rw [hrow, Sg35.numbers_comma hz ht2, Option.map_map]
          congr 1
          funext y
          simp
        · omega
      · refine m_take_all rfl hR6 zs_blank fun H8 kp8 hR8 => ?_
        rw [skip_is, Sg35.skip_skip] at hR8
        refine ⟨_, rfl, _, rfl, iteF ?_⟩
        refine m_sees rfl hR8 zs_number ?_
        rw [hd1_number]
        refine ⟨Sg35.skip t1, l ++ [z], _, _, rfl, K5.trans (kp6.trans kp8), hR8, kp8.one (kp6.one hp5 hrp) hrp, ?_, fun hb => ?_, fun hb => ?_, ?_⟩
        · rw [List.length_append, List.length_cons, List.length_nil]; omega
        · rw [hrow, Sg35.numbers_next hz hb, Option.map_map]
          congr 1
          funext y
          simp
        · rw [hrow, Sg35.numbers_last hz hb hnc]
          rfl
        · omega
theorem ok_qaj (T : Txt K mg a) (G_qbf : O_qbf P w K mg base a) (G_qat : O_qat P w K mg base a) (G_qae : O_qae P w K mg base a) : O_qaj P w K mg base a := by
  refine T.fn_qaj.okX sc_qaj (fun vs H Q E h => ?_) (fun cdv A outer s H vs Q E hr h => ?_)
  · obtain ⟨x, b, rfl, _⟩ := h
    rfl
  · obtain ⟨x, b, rfl, hx, k1, k2⟩ := h
    refine ⟨_, (pss_cons (ps_set (i := 1) sc_qaj.nd rfl (Or.inl rfl) (pe_make T.mk_Reader G_qbf (hr.mono (by decide)) (by rfl) T.mgc_Reader T.b_qbf .nil passW (pa_cons (pv 0) pa_nil)))
        (pss_cons (ps_set (i := 2) sc_qaj.nd rfl (Or.inl rfl) (pe_call G_qat (hr.mono (by decide)) (by rfl) T.mg_qat T.fn_qat.kp T.b_qat .nil passW (pa_cons (pv 1) pa_nil)))
        (pss_cons (ps_expr (pe_meth0 (pv 1) T.cl_Reader T.me_qae G_qae (hr.mono (by decide)) T.b_qae .nil passW))
        (pss_one (ps_ret (pv 2)))))), ?_⟩
    refine m_reader_is (fun Q q => ⟨_, rfl, q⟩) hx fun r H1 hr1 kp1 hR1 => ?_
    refine ⟨_, rfl, r, b, rfl, hR1, fun hn => k1 ?_, fun z t hz H2 kp2 hR2 => ?_⟩
    · unfold Sg35.single; rw [hn]; rfl
    refine m_need_end rfl hR2 (fun ht => ?_) (fun ht => k1 ?_)
    · subst ht
      exact ⟨_, rfl, k2 z H2 (by unfold Sg35.single; rw [hz]; rfl) (kp1.drop kp2 hr1)⟩
    · unfold Sg35.single
      rw [hz]
      exact if_neg ht
theorem ok_qak (T : Txt K mg a) (G_qaj : O_qaj P w K mg base a) : O_qak P w K mg base a := by
  refine T.fn_qak.okX sc_qak (fun vs H Q E h => ?_) (fun cdv A outer s H vs Q E hr h => ?_)
  · obtain ⟨x, b, lo, hi, rfl, _⟩ := h
    rfl
  · obtain ⟨x, b, lo, hi, rfl, hx, k1, k2⟩ := h
    refine ⟨_, (pss_cons (ps_set (i := 3) sc_qak.nd rfl (Or.inl rfl) (pe_call G_qaj (hr.mono (by decide)) (by rfl) T.mg_qaj T.fn_qaj.kp T.b_qaj .nil passW (pa_cons (pv 0) pa_nil)))
        (pss_cons (ps_if (pt_not (pt_chain op_le op_le (pv 1) (pv 3) (pv 2))) (pss_one (ps_raise T.xc_WrongText (by rfl))) pss_nil)
        (pss_one (ps_ret (pv 3))))), ?_⟩
    refine ⟨_, rfl, x, b, rfl, hx, fun hn => k1 fun z hz => ?_, fun z H1 hz kp => ?_⟩
    · rw [hn] at hz; cases hz
    refine ⟨_, rfl, _, rfl, _, _, rfl, rfl, _, rfl, ?_⟩
    by_cases h1 : lo ≤ z
    · rw [decide_eq_true h1]
      refine iteT ⟨_, rfl, _, _, rfl, rfl, _, rfl, ?_⟩
      by_cases h2 : z ≤ hi
      · rw [decide_eq_true h2]
        exact iteF ⟨_, rfl, k2 z H1 hz h1 h2 kp⟩
      · rw [decide_eq_false h2]
        refine iteT (k1 (fun y hy => ?_) _)
        rw [hz] at hy; cases hy
        exact fun q => h2 q.2
    · rw [decide_eq_false h1]
      refine iteF ⟨_, rfl, iteT (k1 (fun y hy => ?_) _)⟩
      rw [hz] at hy; cases hy
      exact fun q => h1 q.1
theorem ok_qbt (T : Txt K mg a) (G_qbf : O_qbf P w K mg base a) (G_qcc : O_qcc P w K mg base a) (G_qae : O_qae P w K mg base a) : O_qbt P w K mg base a := by
  refine T.fn_qbt.okX sc_qbt (fun vs H Q E h => ?_) (fun cdv A outer s H vs Q E hr h => ?_)
  · obtain ⟨x, b, rfl, _⟩ := h
    rfl
  · obtain ⟨x, b, rfl, hx, k1, k2⟩ := h
    refine ⟨_, (pss_cons (ps_set (i := 1) sc_qbt.nd rfl (Or.inl rfl) (pe_make T.mk_Reader G_qbf (hr.mono (by decide)) (by rfl) T.mgc_Reader T.b_qbf .nil passW (pa_cons (pv 0) pa_nil)))
        (pss_cons (ps_set (i := 2) sc_qbt.nd rfl (Or.inl rfl) (pe_call G_qcc (hr.mono (by decide)) (by rfl) T.mg_qcc T.fn_qcc.kp T.b_qcc .nil passW (pa_cons (pv 1) pa_nil)))
        (pss_cons (ps_expr (pe_meth0 (pv 1) T.cl_Reader T.me_qae G_qae (hr.mono (by decide)) T.b_qae .nil passW))
        (pss_one (ps_ret (pv 2)))))), ?_⟩
    refine m_reader_is (fun Q q => ⟨_, rfl, q⟩) hx fun r H1 hr1 kp1 hR1 => ?_
    have hrow := Sg35.row_is b
    refine ⟨_, rfl, r, b, rfl, hR1, fun hn => k1 ?_, fun l t p hl hp H2 kp2 hR2 hp2 => ?_⟩
    · rw [hrow, hn]; rfl
    rw [hl] at hrow
    refine m_need_end rfl hR2 (fun ht => ?_) (fun ht => k1 ?_)
    · subst ht
      exact ⟨_, rfl, k2 l p H2 hrow (kp1.free0 hp) (kp1.drop kp2 hr1) hp2⟩
    · rw [hrow]
      exact if_neg ht
end Pg
namespace Pg
open PySem PySem.Spec PyProof.Rows L2 TL
variable {P : Program} {w : World} {K : PySem.W.Frag} {mg : Str → Option Value} {base : Heap} {a : Adr}
theorem bd {m : Sg35.Mat} {z : Int} (h : Small m) (hz : z ∈ [m.a, m.b, m.c, m.d, m.e, m.f]) : -(2 ^ 64) < z ∧ z < 2 ^ 64 := by
  have := h z hz
  omega
theorem wipe_one {σ : L2.St} {j : Nat} {v : Option V} : wipe ((wipe σ [j]).set j v) [j] = wipe σ [j] := by
  show ((σ.set j none).set j v).set j none = σ.set j none
  rw [List.set_set, List.set_set]
theorem lcT {K : PySem.W.Frag} {t D : Addr} {xs : List V} {f : V → V} {te : TE} {j : Nat} {σ : L2.St} {H1 : Hp} {Qd : Hp → Prop} (hx : SqT K H1 t xs) (hD : H1 D = none) (hlen : xs.length < sizeLine)
    (he : ∀ (i : Nat) (x : V) (H2 : Hp) (R : VK), xs[i]? = some x → R (f x) H2 → te ((wipe σ [j]).set j (some x)) H2 R) (k : ∀ H', Keep [] H1 H' → H' D = some (.lst (xs.map f)) → Qd H') :
    ∃ W : Nat → Nat → Hp → Prop, (∃ m, W 0 m (upd H1 D (.lst []))) ∧ ∀ i m H, W i m H →
      ((Itt K t).stop i H ∧ Qd H) ∨ ((Itt K t).go i H ∧ ∃ Nx : Hp → Prop, (∀ H', Nx H' → ∃ m', m' < m ∧ W (i + 1) m' H') ∧ ∀ x H', (Itt K t).yld i H x H' → gName j x (wipe σ [j]) H' fun σ2 H2 => wipe σ2 [j] = wipe σ [j] ∧ tYes σ2 H2 fun b H3 =>
        if b = true then te σ2 H3 fun y H4 => ∃ acc, H4 D = some (.lst acc) ∧ acc.length < sizeLine ∧ Nx (upd H4 D (.lst (acc ++ [y]))) else Nx H3) := by
  refine lc_tup (fun i H' => Keep [] H1 H' ∧ H' D = some (.lst ((xs.take i).map f))) ⟨Keep.new hD, upd_same⟩ (fun i H' _ hp => hp.1.sqT hx) (fun i x H' hi hp => ?_) (fun H' hp => k H' hp.1 (by have := hp.2; rw [List.take_length] at this; exact this))
  have hlt : i < xs.length := (List.getElem?_eq_some_iff.mp hi).1
  refine ⟨wipe_one, he i x H' _ hi ⟨_, hp.2, ?_, ?_, ?_⟩⟩
  · rw [List.length_map, List.length_take]; omega
  · exact Keep.drop hp.1 (Keep.set (by simp) (by rw [hp.2]; exact trivial)) hD
  · rw [upd_same, List.take_succ, hi, List.map_append]
    rfl
theorem ok_qbk (T : Txt K mg a) : O_qbk P w K mg base a := by
  refine T.fn_qbk.okX sc_qbk (fun vs H Q E h => ?_) (fun cdv A outer s H vs Q E hr h => ?_)
  · obtain ⟨p, q, m, n, rfl, _⟩ := h
    rfl
  · obtain ⟨p, q, m, n, rfl, hm, hn, hs, k⟩ := h
    refine ⟨_, (pss_one (ps_ret (pe_tup (pa_cons (pe_op op_add (pe_op op_mul (pe_ix ix_tup (pv 0) pe_int (fun _ _ => rfl)) (pe_ix ix_tup (pv 1) pe_int (fun _ _ => rfl))) (pe_op op_mul (pe_ix ix_tup (pv 0) pe_int (fun _ _ => rfl)) (pe_ix ix_tup (pv 1) pe_int (fun _ _ => rfl)))) (pa_cons (pe_op op_add (pe_op op_mul (pe_ix ix_tup (pv 0) pe_int (fun _ _ => rfl)) (pe_ix ix_tup (pv 1) pe_int (fun _ _ => rfl))) (pe_op op_mul (pe_ix ix_tup (pv 0) pe_int (fun _ _ => rfl)) (pe_ix ix_tup (pv 1) pe_int (fun _ _ => rfl)))) (pa_cons (pe_op op_add (pe_op op_mul (pe_ix ix_tup (pv 0) pe_int (fun _ _ => rfl)) (pe_ix ix_tup (pv 1) pe_int (fun _ _ => rfl))) (pe_op op_mul (pe_ix ix_tup (pv 0) pe_int (fun _ _ => rfl)) (pe_ix ix_tup (pv 1) pe_int (fun _ _ => rfl)))) (pa_cons (pe_op op_add (pe_op op_mul (pe_ix ix_tup (pv 0) pe_int (fun _ _ => rfl)) (pe_ix ix_tup (pv 1) pe_int (fun _ _ => rfl))) (pe_op op_mul (pe_ix ix_tup (pv 0) pe_int (fun _ _ => rfl)) (pe_ix ix_tup (pv 1) pe_int (fun _ _ => rfl)))) (pa_cons (pe_op op_add (pe_op op_add (pe_op op_mul (pe_ix ix_tup (pv 0) pe_int (fun _ _ => rfl)) (pe_ix ix_tup (pv 1) pe_int (fun _ _ => rfl))) (pe_op op_mul (pe_ix ix_tup (pv 0) pe_int (fun _ _ => rfl)) (pe_ix ix_tup (pv 1) pe_int (fun _ _ => rfl)))) (pe_ix ix_tup (pv 0) pe_int (fun _ _ => rfl))) (pa_cons (pe_op op_add (pe_op op_add (pe_op op_mul (pe_ix ix_tup (pv 0) pe_int (fun _ _ => rfl)) (pe_ix ix_tup (pv 1) pe_int (fun _ _ => rfl))) (pe_op op_mul (pe_ix ix_tup (pv 0) pe_int (fun _ _ => rfl)) (pe_ix ix_tup (pv 1) pe_int (fun _ _ => rfl)))) (pe_ix ix_tup (pv 0) pe_int (fun _ _ => rfl))) pa_nil))))))))), ?_⟩
    refine ⟨_, rfl, _, _, _, _, rfl, rfl, hm, rfl, _, rfl, _, _, _, _, rfl, rfl, hn, rfl, _, _, rfl, rfl, .inl (bd hs (by simp)), _, rfl, _, _, _, _, rfl, rfl, hm, rfl, _, rfl, _, _, _, _, rfl, rfl, hn, rfl, _, _, rfl, rfl, .inl (bd hs (by simp)), _, _, rfl, rfl,
      _, rfl, _, _, _, _, rfl, rfl, hm, rfl, _, rfl, _, _, _, _, rfl, rfl, hn, rfl, _, _, rfl, rfl, .inl (bd hs (by simp)), _, rfl, _, _, _, _, rfl, rfl, hm, rfl, _, rfl, _, _, _, _, rfl, rfl, hn, rfl, _, _, rfl, rfl, .inl (bd hs (by simp)), _, _, rfl, rfl,
      _, rfl, _, _, _, _, rfl, rfl, hm, rfl, _, rfl, _, _, _, _, rfl, rfl, hn, rfl, _, _, rfl, rfl, .inl (bd hs (by simp)), _, rfl, _, _, _, _, rfl, rfl, hm, rfl, _, rfl, _, _, _, _, rfl, rfl, hn, rfl, _, _, rfl, rfl, .inl (bd hs (by simp)), _, _, rfl, rfl,
      _, rfl, _, _, _, _, rfl, rfl, hm, rfl, _, rfl, _, _, _, _, rfl, rfl, hn, rfl, _, _, rfl, rfl, .inl (bd hs (by simp)), _, rfl, _, _, _, _, rfl, rfl, hm, rfl, _, rfl, _, _, _, _, rfl, rfl, hn, rfl, _, _, rfl, rfl, .inl (bd hs (by simp)), _, _, rfl, rfl,
      _, rfl, _, _, _, _, rfl, rfl, hm, rfl, _, rfl, _, _, _, _, rfl, rfl, hn, rfl, _, _, rfl, rfl, .inl (bd hs (by simp)), _, rfl, _, _, _, _, rfl, rfl, hm, rfl, _, rfl, _, _, _, _, rfl, rfl, hn, rfl, _, _, rfl, rfl, .inl (bd hs (by simp)), _, _, rfl, rfl, _, rfl, _, _, _, _, rfl, rfl, hm, rfl, _, _, rfl, rfl,
      _, rfl, _, _, _, _, rfl, rfl, hm, rfl, _, rfl, _, _, _, _, rfl, rfl, hn, rfl, _, _, rfl, rfl, .inl (bd hs (by simp)), _, rfl, _, _, _, _, rfl, rfl, hm, rfl, _, rfl, _, _, _, _, rfl, rfl, hn, rfl, _, _, rfl, rfl, .inl (bd hs (by simp)), _, _, rfl, rfl, _, rfl, _, _, _, _, rfl, rfl, hm, rfl, _, _, rfl, rfl, (by show 6 ≤ sizeLine; decide), fun t ht => k t _ (Keep.new ht) (SqT.of upd_same)⟩
def ab (z : Int) : Int := if z < 0 then -z else z
theorem ab_le {z c : Int} : ab z ≤ c ↔ (z.natAbs : Int) ≤ c := by
  unfold ab
  split <;> omega
def abV : V → V
  | .int i => .int (ab i)
  | v => v
theorem ok_qao (T : Txt K mg a) : O_qao P w K mg base a := by
  refine T.fn_qao.okX sc_qao (fun vs H Q E h => ?_) (fun cdv A outer s H vs Q E hr h => ?_)
  · obtain ⟨p, m, rfl, _⟩ := h
    rfl
  · obtain ⟨p, m, rfl, hm, k1, k2⟩ := h
    refine ⟨_, (pss_cons (ps_if (pt_cmpR op_gt (pe_callB (cr_max rfl) (by rfl) T.bl_max (by decide +kernel) (pa_cons (pe_lc rfl sc_qao.nd (pi_tup (pe_slice sl_tup (pv 0) po_none (po_some pe_int))) (blkOk_by (own := [("factor", 1)]) (by with_unfolding_all rfl)) (fun s H C cl fp => (pg_name (i := 1) sc_qao.nd rfl (Or.inl rfl))) (fun s H C cl fp => pts_nil) (fun s H C cl fp => (pe_callB call_abs (by rfl) T.bl_abs (by decide +kernel) (pa_cons (pv 1) pa_nil)))) pa_nil)) (pe_globV (by rfl) T.ct_LARGEST_FACTOR) (nomark _)) (pss_one (ps_raise T.xc_WrongText (by rfl))) pss_nil)
        (pss_one (ps_if (pt_cmpR op_gt (pe_callB (cr_max rfl) (by rfl) T.bl_max (by decide +kernel) (pa_cons (pe_lc rfl sc_qao.nd (pi_tup (pe_slice sl_tup (pv 0) (po_some pe_int) po_none)) (blkOk_by (own := [("shift", 2)]) (by with_unfolding_all rfl)) (fun s H C cl fp => (pg_name (i := 2) sc_qao.nd rfl (Or.inl rfl))) (fun s H C cl fp => pts_nil) (fun s H C cl fp => (pe_callB call_abs (by rfl) T.bl_abs (by decide +kernel) (pa_cons (pv 2) pa_nil)))) pa_nil)) (pe_globV (by rfl) T.ct_LARGEST_SHIFT) (nomark _)) (pss_one (ps_raise T.xc_WrongText (by rfl))) pss_nil))), ?_⟩
    refine ⟨_, rfl, _, rfl, p, _, rfl, hm, (fun z => absurd z.2 (by show ¬ ((4 : Nat) = 6); decide)), fun t ht => ⟨t, rfl, ⟨_, SqT.of upd_same⟩, fun D hD => ?_⟩⟩
    refine lcT (xs := [.int m.a, .int m.b, .int m.c, .int m.d]) (f := abV) (SqT.of upd_same) hD (by show 4 < sizeLine; decide) (fun i x H2 R hi hR => ?_) fun H2 kp2 hD2 => ?_
    · obtain ⟨z, rfl⟩ : ∃ z, x = V.int z := by
        have := List.mem_of_getElem? hi
        simp only [List.mem_cons, List.not_mem_nil, or_false] at this
        rcases this with rfl | rfl | rfl | rfl <;> exact ⟨_, rfl⟩
      exact ⟨_, rfl, _, rfl, hR⟩
    refine ⟨D, [ab m.a, ab m.b, ab m.c, ab m.d], rfl, SqL.of hD2, (by show 0 < 4; decide), fun mx hmx hle => ?_⟩
    refine ⟨_, _, rfl, rfl, _, rfl, ?_⟩
    by_cases h1 : (1048576 : Int) < mx
    · rw [decide_eq_true h1]
      refine iteT (k1 ?_ _)
      unfold Sg35.Mat.fits
      rw [Bool.and_eq_false_iff]
      left
      rw [List.all_eq_false]
      simp only [List.mem_cons, List.not_mem_nil, or_false] at hmx
      have hh : ∀ z : Int, mx = ab z → ¬ (decide (z.natAbs ≤ 1048576) = true) := fun z hz => by
        have := (ab_le (z := z) (c := 1048576))
        simp only [decide_eq_true_eq]
        intro hc
        have := this.mpr (by omega)
        omega
      rcases hmx with h | h | h | h
      · exact ⟨m.a, by simp, hh _ h⟩
      · exact ⟨m.b, by simp, hh _ h⟩
      · exact ⟨m.c, by simp, hh _ h⟩
      · exact ⟨m.d, by simp, hh _ h⟩
    rw [decide_eq_false h1]
    refine iteF ?_
    have hm2 : MatAt K H2 p m := kp2.sqT ((Keep.new (M := []) ht).sqT hm)
    refine ⟨_, rfl, _, rfl, p, _, rfl, hm2, (fun z => absurd z.1 (by show ¬ ((4 : Nat) = 0); decide)), fun t2 ht2 => ⟨t2, rfl, ⟨_, SqT.of upd_same⟩, fun D2 hD3 => ?_⟩⟩
    refine lcT (xs := [.int m.e, .int m.f]) (f := abV) (SqT.of upd_same) hD3 (by show 2 < sizeLine; decide) (fun i x H2 R hi hR => ?_) fun H3 kp3 hD4 => ?_
    · obtain ⟨z, rfl⟩ : ∃ z, x = V.int z := by
        have := List.mem_of_getElem? hi
        simp only [List.mem_cons, List.not_mem_nil, or_false] at this
        rcases this with rfl | rfl <;> exact ⟨_, rfl⟩
      exact ⟨_, rfl, _, rfl, hR⟩
    refine ⟨D2, [ab m.e, ab m.f], rfl, SqL.of hD4, (by show 0 < 2; decide), fun my hmy hle2 => ?_⟩
    refine ⟨_, _, rfl, rfl, _, rfl, ?_⟩
    by_cases h2 : (16777216 : Int) < my
    · rw [decide_eq_true h2]
      refine iteT (k1 ?_ _)
      unfold Sg35.Mat.fits
      rw [Bool.and_eq_false_iff]
      right
      rw [List.all_eq_false]
      simp only [List.mem_cons, List.not_mem_nil, or_false] at hmy
      have hh : ∀ z : Int, my = ab z → ¬ (decide (z.natAbs ≤ 16777216) = true) := fun z hz => by
        have := (ab_le (z := z) (c := 16777216))
        simp only [decide_eq_true_eq]
        intro hc
        have := this.mpr (by omega)
        omega
      rcases hmy with h | h
      · exact ⟨m.e, by simp, hh _ h⟩
      · exact ⟨m.f, by simp, hh _ h⟩
    rw [decide_eq_false h2]
    refine iteF (k2 ?_ H3 ?_)
    · unfold Sg35.Mat.fits
      have g1 : ∀ z : Int, ab z ≤ mx → decide (z.natAbs ≤ 1048576) = true := fun z hz => by
        have := (ab_le (z := z) (c := mx)).mp hz
        simp only [decide_eq_true_eq]
        omega
      have g2 : ∀ z : Int, ab z ≤ my → decide (z.natAbs ≤ 16777216) = true := fun z hz => by
        have := (ab_le (z := z) (c := my)).mp hz
        simp only [decide_eq_true_eq]
        omega
      simp only [List.all_cons, List.all_nil, Bool.and_true, Bool.and_eq_true]
      exact ⟨⟨g1 _ (hle _ (by simp)), g1 _ (hle _ (by simp)), g1 _ (hle _ (by simp)), g1 _ (hle _ (by simp))⟩, g2 _ (hle2 _ (by simp)), g2 _ (hle2 _ (by simp))⟩
    · exact ((Keep.new ht).trans kp2).trans ((Keep.new ht2).trans kp3)
theorem rotM_eq (z : Int) : rotM z = if z % 90 = 0 ∧ z.natAbs ≤ 270 then some (if (z / 90) % 4 = 0 then Sg35.Mat.one else if (z / 90) % 4 = 1 then ⟨0, 1, -1, 0, 0, 0⟩ else if (z / 90) % 4 = 2 then ⟨-1, 0, 0, -1, 0, 0⟩ else ⟨0, -1, 1, 0, 0, 0⟩) else none := by
  unfold rotM Sg35.turning
  rw [if_neg (by decide +kernel), if_neg (by decide +kernel), if_neg (by decide +kernel), if_pos rfl]
  rfl
theorem ok_turn (T : Txt K mg a) : O_turn P w K mg base a := by
  refine T.fn_turn.okX sc_turn (fun vs H Q E h => ?_) (fun cdv A outer s H vs Q E hr h => ?_)
  · obtain ⟨z, rfl, _⟩ := h
    rfl
  · obtain ⟨z, rfl, k1, k2⟩ := h
    refine ⟨_, (pss_cons (ps_if (pw_or (pt_cmpR op_ne (pe_op op_mod (pv 0) pe_int) pe_int (nomark _)) (pw_or1 (pt_cmpR op_gt (pe_callB call_abs (by rfl) T.bl_abs (by decide +kernel) (pa_cons (pv 0) pa_nil)) (pe_globV (by rfl) T.ct_FARTHEST_TURN) (nomark _)))).pt (pss_one (ps_raise T.xc_WrongText (by rfl))) pss_nil)
        (pss_one (ps_ret (pe_ix ix_tup (pe_glob (v := .ref _) (by rfl) T.ct_QUARTER_TURNS rfl) (pe_op op_mod (pe_op op_fdiv (pv 0) pe_int) pe_int) (fun _ _ => rfl))))), ?_⟩
    have hrot := rotM_eq z
    refine ⟨_, rfl, _, _, rfl, rfl, (by show (0 : Int) < 90; decide), rfl, _, rfl, ?_⟩
    by_cases h1 : z % 90 = 0
    · have e1 : (!decide (V.int (z % 90) = V.int 0)) = false := by rw [h1]; rfl
      rw [e1]
      refine iteF ⟨_, rfl, _, rfl, _, _, rfl, rfl, _, rfl, ?_⟩
      by_cases h2 : (270 : Int) < (if z < 0 then -z else z)
      · rw [decide_eq_true h2]
        refine iteT (k1 ?_ _)
        rw [hrot, if_neg]
        rintro ⟨_, q⟩
        split at h2 <;> omega
      · rw [decide_eq_false h2]
        refine iteF ⟨_, rfl, _, _, rfl, rfl, ⟨by decide, by decide⟩, _, _, rfl, rfl, (by show (0 : Int) < 4; decide), ?_⟩
        have hz : z.natAbs ≤ 270 := by split at h2 <;> omega
        rw [if_pos ⟨h1, hz⟩] at hrot
        have hk : z / 90 % 4 = 0 ∨ z / 90 % 4 = 1 ∨ z / 90 % 4 = 2 ∨ z / 90 % 4 = 3 := by omega
        rcases hk with e | e | e | e
        · rw [e] at hrot
          refine ⟨_, _, _, _, rfl, rfl, T.kt_QT H, (by rw [e]; rfl), k2 _ _ hrot (T.kt_Q0 H)⟩
        · rw [e] at hrot
          refine ⟨_, _, _, _, rfl, rfl, T.kt_QT H, (by rw [e]; rfl), k2 _ _ hrot (T.kt_Q1 H)⟩
        · rw [e] at hrot
          refine ⟨_, _, _, _, rfl, rfl, T.kt_QT H, (by rw [e]; rfl), k2 _ _ hrot (T.kt_Q2 H)⟩
        · rw [e] at hrot
          refine ⟨_, _, _, _, rfl, rfl, T.kt_QT H, (by rw [e]; rfl), k2 _ _ hrot (T.kt_Q3 H)⟩
    · have e1 : (!decide (V.int (z % 90) = V.int 0)) = true := by
        rw [decide_eq_false]
        · rfl
        · intro q; injection q with q; exact h1 q
      rw [e1]
      refine iteT (iteT (k1 ?_ _))
      rw [hrot, if_neg (fun q => h1 q.1)]
theorem inV_12 (n : Nat) : inV (.int (n : Int)) [.int 1, .int 2] = (decide (n = 1) || decide (n = 2)) := by
  rw [Bool.eq_iff_iff]
  simp only [inV, List.any_cons, List.any_nil, Bool.or_false, eqV, Bool.or_eq_true, decide_eq_true_eq, beq_iff_eq]
  omega
theorem strEq {x : Str} {b : B} (hx : x = sg b) (s : String) : decide (V.str x = V.str (s : Str)) = decide (b = Sg35.ascii s) := by
  rw [Bool.eq_iff_iff, decide_eq_true_eq, decide_eq_true_eq, hx, lit]
  constructor
  · intro z; injection z with z; exact sg_inj z
  · intro z; rw [z]
theorem decInt (n : Nat) (k : Nat) : decide (V.int (n : Int) = V.int (k : Int)) = decide (n = k) := by
  rw [Bool.eq_iff_iff, decide_eq_true_eq, decide_eq_true_eq]
  constructor
  · intro z; injection z with z; omega
  · intro z; rw [z]
theorem LsI.keep {H H' : Hp} {p : Addr} {l : List Int} (h : LsI H p l) (k : Keep [] H H') : LsI H' p l := k.at h
def trT : List Int → Option Sg35.Mat
  | [x] => some ⟨1, 0, 0, 1, x, 0⟩
  | [x, y] => some ⟨1, 0, 0, 1, x, y⟩
  | _ => none
def scT : List Int → Option Sg35.Mat
  | [s] => some ⟨s, 0, 0, s, 0, 0⟩
  | [s, t] => some ⟨s, 0, 0, t, 0, 0⟩
  | _ => none
def mxT : List Int → Option Sg35.Mat
  | [a, b, c, d, e, f] => some ⟨a, b, c, d, e, f⟩
  | _ => none
def roT : List Int → Option Sg35.Mat
  | [z] => rotM z
  | _ => none
theorem turning_by (b : B) (l : List Int) : Sg35.turning b l = if b = Sg35.ascii "translate" then trT l else if b = Sg35.ascii "scale" then scT l else if b = Sg35.ascii "matrix" then mxT l else if b = Sg35.ascii "rotate" then roT l else none := by
  unfold Sg35.turning
  by_cases h1 : b = Sg35.ascii "translate"
  · rw [if_pos h1, if_pos h1]; rfl
  rw [if_neg h1, if_neg h1]
  by_cases h2 : b = Sg35.ascii "scale"
  · rw [if_pos h2, if_pos h2]; rfl
  rw [if_neg h2, if_neg h2]
  by_cases h3 : b = Sg35.ascii "matrix"
  · rw [if_pos h3, if_pos h3]; rfl
  rw [if_neg h3, if_neg h3]
  by_cases h4 : b = Sg35.ascii "rotate"
  · rw [if_pos h4, if_pos h4]
    match l with
    | [] => rfl
    | [z] => exact (rotM_eq z).symm
    | _ :: _ :: _ => rfl
  rw [if_neg h4, if_neg h4]
theorem ok_qau (T : Txt K mg a) (G_turn : O_turn P w K mg base a) : O_qau P w K mg base a := by
  refine T.fn_qau.okX sc_qau (fun vs H Q E h => ?_) (fun cdv A outer s H vs Q E hr h => ?_)
  · obtain ⟨x, b, p, l, rfl, _⟩ := h
    rfl
  · obtain ⟨x, b, p, l, rfl, hx, hl, k1, k2⟩ := h
    refine ⟨_, (pss_cons (ps_if (pw_and (pt_cmpR op_eq (pv 0) pe_str (nomark _)) (pw_and1 (pt_cmpR op_in_seq (pe_callB call_len_seq (by rfl) T.bl_len (by decide +kernel) (pa_cons (pv 1) pa_nil)) (pe_tup (pa_cons pe_int (pa_cons pe_int pa_nil))) (by with_unfolding_all rfl)))).pt (pss_one (ps_ret (pe_tup (pa_cons pe_int (pa_cons pe_int (pa_cons pe_int (pa_cons pe_int (pa_cons (pe_ix ix_list (pv 1) pe_int (fun _ _ => rfl)) (pa_cons (pe_ifExp (pt_cmpR op_eq (pe_callB call_len_seq (by rfl) T.bl_len (by decide +kernel) (pa_cons (pv 1) pa_nil)) pe_int (nomark _)) (pe_ix ix_list (pv 1) pe_int (fun _ _ => rfl)) pe_int) pa_nil))))))))) pss_nil)
        (pss_cons (ps_if (pw_and (pt_cmpR op_eq (pv 0) pe_str (nomark _)) (pw_and1 (pt_cmpR op_in_seq (pe_callB call_len_seq (by rfl) T.bl_len (by decide +kernel) (pa_cons (pv 1) pa_nil)) (pe_tup (pa_cons pe_int (pa_cons pe_int pa_nil))) (by with_unfolding_all rfl)))).pt (pss_one (ps_ret (pe_tup (pa_cons (pe_ix ix_list (pv 1) pe_int (fun _ _ => rfl)) (pa_cons pe_int (pa_cons pe_int (pa_cons (pe_ix ix_list (pv 1) (pe_un un_neg pe_int) (fun _ _ => rfl)) (pa_cons pe_int (pa_cons pe_int pa_nil))))))))) pss_nil)
        (pss_cons (ps_if (pw_and (pt_cmpR op_eq (pv 0) pe_str (nomark _)) (pw_and1 (pt_cmpR op_eq (pe_callB call_len_seq (by rfl) T.bl_len (by decide +kernel) (pa_cons (pv 1) pa_nil)) pe_int (nomark _)))).pt (pss_one (ps_ret (pe_callTy call_tuple_of (by rfl) T.bl_tuple (by decide +kernel) (pa_cons (pv 1) pa_nil)))) pss_nil)
        (pss_cons (ps_if (pw_and (pt_cmpR op_eq (pv 0) pe_str (nomark _)) (pw_and1 (pt_cmpR op_eq (pe_callB call_len_seq (by rfl) T.bl_len (by decide +kernel) (pa_cons (pv 1) pa_nil)) pe_int (nomark _)))).pt (pss_one (ps_ret (pe_call G_turn (hr.mono (by decide)) (by rfl) T.mg_turn T.fn_turn.kp T.b_turn .nil passW (pa_cons (pe_ix ix_list (pv 1) pe_int (fun _ _ => rfl)) pa_nil)))) pss_nil)
        (pss_one (ps_raise T.xc_WrongText (by rfl))))))), ?_⟩
    rw [turning_by] at k1 k2
    have ts : Sg35.ascii "translate" ≠ Sg35.ascii "scale" := by decide +kernel
    have tm : Sg35.ascii "translate" ≠ Sg35.ascii "matrix" := by decide +kernel
    have tr : Sg35.ascii "translate" ≠ Sg35.ascii "rotate" := by decide +kernel
    have sm : Sg35.ascii "scale" ≠ Sg35.ascii "matrix" := by decide +kernel
    have sr : Sg35.ascii "scale" ≠ Sg35.ascii "rotate" := by decide +kernel
    have mr : Sg35.ascii "matrix" ≠ Sg35.ascii "rotate" := by decide +kernel
    have h12 : ∀ {H' : Hp} {R : Bool → Hp → Prop} , LsI H' p l → (∀ t0, H' t0 = none → R (decide (l.length = 1) || decide (l.length = 2)) (upd H' t0 (.tup [.int 1, .int 2]))) →
        tTest (tOp (rIn K false) (tCB (fun xs H Q => ∃ p ys, xs = [V.ref p] ∧ (SqL K H p ys ∨ SqT K H p ys) ∧ Q (V.int ys.length) H) (tCons (tVar 1) tNil)) (tTup (tCons (tC (V.int 1)) (tCons (tC (V.int 2)) tNil)))) [some (V.str x), some (V.ref p)] H' R := by
      intro H' R hl' k
      refine ⟨_, rfl, p, _, rfl, .inl (SqL.of hl'), (by show 2 ≤ sizeLine; decide), fun t0 ht0 => ⟨t0, _, rfl, .inr (SqT.of upd_same), rfl, rfl, _, rfl, ?_⟩⟩
      have e : inV (V.int ((l.map V.int).length : Int)) [.int 1, .int 2] = (decide (l.length = 1) || decide (l.length = 2)) := by rw [List.length_map]; exact inV_12 _
      have k' := k t0 ht0
      rw [← e] at k'
      exact k'
    have hlen : ∀ {H' : Hp} {R : Bool → Hp → Prop} {n : Nat}, LsI H' p l → R (decide (l.length = n)) H' →
        tTest (tOp rEq (tCB (fun xs H Q => ∃ p ys, xs = [V.ref p] ∧ (SqL K H p ys ∨ SqT K H p ys) ∧ Q (V.int ys.length) H) (tCons (tVar 1) tNil)) (tC (V.int (n : Int)))) [some (V.str x), some (V.ref p)] H' R := by
      intro H' R n hl' k
      refine ⟨_, rfl, p, _, rfl, .inl (SqL.of hl'), rfl, _, rfl, ?_⟩
      have e : decide (V.int ((l.map V.int).length : Int) = V.int (n : Int)) = decide (l.length = n) := by rw [List.length_map]; exact decInt _ _
      rw [← e] at k
      exact k
    refine ⟨_, rfl, rfl, decide (b = Sg35.ascii "translate"), congrArg V.bl (strEq hx _), ?_⟩
    by_cases w1 : b = Sg35.ascii "translate"
    · rw [if_pos w1] at k1 k2
      rw [decide_eq_true w1]
      refine iteT (h12 hl fun t0 ht0 => ?_)
      have hl0 : LsI (upd H t0 (.tup [.int 1, .int 2])) p l := hl.keep (Keep.new ht0)
      have no : (decide (l.length = 1) || decide (l.length = 2)) = false → trT l = none := fun h => by
        simp only [Bool.or_eq_false_iff, decide_eq_false_iff_not] at h
        unfold trT
        split <;> simp_all
      cases hb : (decide (l.length = 1) || decide (l.length = 2)) with
      | false =>
        refine iteF ?_
        have F := k1 (no hb)
        refine ⟨_, rfl, rfl, false, congrArg V.bl ((strEq hx _).trans (decide_eq_false (by rw [w1]; exact ts))), iteF (iteF ?_)⟩
        refine ⟨_, rfl, rfl, false, congrArg V.bl ((strEq hx _).trans (decide_eq_false (by rw [w1]; exact tm))), iteF (iteF ?_)⟩
        exact ⟨_, rfl, rfl, false, congrArg V.bl ((strEq hx _).trans (decide_eq_false (by rw [w1]; exact tr))), iteF (iteF (F _))⟩
      | true =>
        have h0 : ∃ u, l[0]? = some u := ⟨l[0]'(by simp at hb; omega), List.getElem?_eq_getElem _⟩
        obtain ⟨u, hu⟩ := h0
        have hu' : (l.map V.int)[0]? = some (V.int u) := by rw [List.getElem?_map, hu]; rfl
        refine iteT ⟨_, rfl, _, _, _, _, rfl, rfl, SqL.of hl0, atI_nat hu', ?_⟩
        refine hlen (n := 2) hl0 ?_
        by_cases h2 : l.length = 2
        · rw [decide_eq_true h2]
          have h1 : ∃ v, l[1]? = some v := ⟨l[1], List.getElem?_eq_getElem _⟩
          obtain ⟨v, hv⟩ := h1
          have hv' : (l.map V.int)[1]? = some (V.int v) := by rw [List.getElem?_map, hv]; rfl
          have e : trT l = some ⟨1, 0, 0, 1, u, v⟩ := by
            match l, h2, hu, hv with
            | [x, y], _, hu, hv => cases hu; cases hv; rfl
          refine iteT ⟨_, rfl, _, _, _, _, rfl, rfl, SqL.of hl0, atI_nat hv', (by show 6 ≤ sizeLine; decide), fun t ht2 => k2 _ t _ e ((Keep.new ht0).trans (Keep.new ht2)) (SqT.of upd_same)⟩
        · rw [decide_eq_false h2]
          have e : trT l = some ⟨1, 0, 0, 1, u, 0⟩ := by
            have : l.length = 1 := by simp at hb; omega
            match l, this, hu with
            | [x], _, hu => cases hu; rfl
          refine iteF ⟨(by show 6 ≤ sizeLine; decide), fun t ht2 => k2 _ t _ e ((Keep.new ht0).trans (Keep.new ht2)) (SqT.of upd_same)⟩
    rw [if_neg w1] at k1 k2
    rw [decide_eq_false w1]
    refine iteF (iteF ?_)
    refine ⟨_, rfl, rfl, decide (b = Sg35.ascii "scale"), congrArg V.bl (strEq hx _), ?_⟩
    by_cases w2 : b = Sg35.ascii "scale"
    · rw [if_pos w2] at k1 k2
      rw [decide_eq_true w2]
      refine iteT (h12 hl fun t0 ht0 => ?_)
      have hl0 : LsI (upd H t0 (.tup [.int 1, .int 2])) p l := hl.keep (Keep.new ht0)
      have no : (decide (l.length = 1) || decide (l.length = 2)) = false → scT l = none := fun h => by
        simp only [Bool.or_eq_false_iff, decide_eq_false_iff_not] at h
        unfold scT
        split <;> simp_all
      cases hb : (decide (l.length = 1) || decide (l.length = 2)) with
      | false =>
        refine iteF ?_
        have F := k1 (no hb)
        refine ⟨_, rfl, rfl, false, congrArg V.bl ((strEq hx _).trans (decide_eq_false (by rw [w2]; exact sm))), iteF (iteF ?_)⟩
        exact ⟨_, rfl, rfl, false, congrArg V.bl ((strEq hx _).trans (decide_eq_false (by rw [w2]; exact sr))), iteF (iteF (F _))⟩
      | true =>
        have h0 : ∃ u, l[0]? = some u := ⟨l[0]'(by simp at hb; omega), List.getElem?_eq_getElem _⟩
        obtain ⟨u, hu⟩ := h0
        have hu' : (l.map V.int)[0]? = some (V.int u) := by rw [List.getElem?_map, hu]; rfl
        obtain ⟨l0, v, hv⟩ : ∃ l0 v, l = l0 ++ [v] := by
          have hne : l ≠ [] := by rintro rfl; simp at hu
          exact ⟨l.dropLast, l.getLast hne, (List.dropLast_concat_getLast hne).symm⟩
        have hv' : atI (l.map V.int) (-1) = some (V.int v) := by rw [hv, List.map_append]; exact atI_last _ _
        have e : scT l = some ⟨u, 0, 0, v, 0, 0⟩ := by
          have hl2 : l.length = 1 ∨ l.length = 2 := by simpa using hb
          match l, hl2, hu, hv with
          | [x], _, hu, hv =>
            cases hu
            have : l0 = [] := by
              have := congrArg List.length hv
              simp at this
              exact this
            subst this
            cases hv
            rfl
          | [x, y], _, hu, hv =>
            cases hu
            have h3 := congrArg (fun z => z.getLast?) hv
            simp at h3
            subst h3
            rfl
          | [], h, _, _ => simp at h
          | _ :: _ :: _ :: _, h, _, _ => simp at h
        refine iteT ⟨_, rfl, _, _, _, _, rfl, rfl, SqL.of hl0, atI_nat hu', _, rfl, _, rfl, _, _, _, _, rfl, rfl, SqL.of hl0, hv', (by show 6 ≤ sizeLine; decide), fun t ht2 => k2 _ t _ e ((Keep.new ht0).trans (Keep.new ht2)) (SqT.of upd_same)⟩
    rw [if_neg w2] at k1 k2
    rw [decide_eq_false w2]
    refine iteF (iteF ?_)
    refine ⟨_, rfl, rfl, decide (b = Sg35.ascii "matrix"), congrArg V.bl (strEq hx _), ?_⟩
    by_cases w3 : b = Sg35.ascii "matrix"
    · rw [if_pos w3] at k1 k2
      rw [decide_eq_true w3]
      refine iteT (hlen (n := 6) hl ?_)
      by_cases h6 : l.length = 6
      · rw [decide_eq_true h6]
        refine iteT ⟨_, rfl, p, _, rfl, .inl ⟨SqL.of hl, fun t ht2 => ?_⟩⟩
        match l, h6, hl, k2 with
        | [a1, a2, a3, a4, a5, a6], _, hl, k2 => exact k2 _ t _ rfl (Keep.new ht2) (SqT.of upd_same)
      · rw [decide_eq_false h6]
        have e : mxT l = none := by
          unfold mxT
          split
          · simp at h6
          · rfl
        have F := k1 e
        refine iteF ?_
        exact ⟨_, rfl, rfl, false, congrArg V.bl ((strEq hx _).trans (decide_eq_false (by rw [w3]; exact mr))), iteF (iteF (F _))⟩
    rw [if_neg w3] at k1 k2
    rw [decide_eq_false w3]
    refine iteF (iteF ?_)
    refine ⟨_, rfl, rfl, decide (b = Sg35.ascii "rotate"), congrArg V.bl (strEq hx _), ?_⟩
    by_cases w4 : b = Sg35.ascii "rotate"
    · rw [if_pos w4] at k1 k2
      rw [decide_eq_true w4]
      refine iteT (hlen (n := 1) hl ?_)
      by_cases h1 : l.length = 1
      · rw [decide_eq_true h1]
        match l, h1, hl, k1, k2 with
        | [z], _, hl, k1, k2 =>
          exact iteT ⟨_, rfl, _, _, _, _, rfl, rfl, SqL.of hl, rfl, z, rfl, k1, fun m t hm hmt => k2 m t H hm Keep.refl hmt⟩
      · rw [decide_eq_false h1]
        have e : roT l = none := by
          unfold roT
          split
          · simp at h1
          · rfl
        exact iteF (k1 e _)
    rw [if_neg w4] at k1
    rw [decide_eq_false w4]
    exact iteF (iteF (k1 rfl _))
end Pg
namespace Pg
open PySem PySem.Spec PyProof.Rows L2 TL
variable {P : Program} {w : World} {K : PySem.W.Frag} {mg : Str → Option Value} {base : Heap} {a : Adr}
theorem lit_open : ("(" : Str) = sg [40] := by decide +kernel
theorem lit_close : (")" : Str) = sg [41] := by decide +kernel
theorem map_small {d : List Nat} (hd : ∀ c ∈ d, Sg35.small c = true) : d.map Sg35.tr = d := by
  have : ∀ c ∈ d, Sg35.tr c = id c := fun c hc => by
    have h := hd c hc
    unfold Sg35.small at h
    simp only [Bool.and_eq_true, decide_eq_true_eq] at h
    exact (Sg35.tr_fix (c := c) (d := c) (by omega) (by omega) (by omega) (by omega)).mpr rfl
  rw [List.map_congr_left this, List.map_id]
theorem LsI.one {r : Addr} {H H' : Hp} {p : Addr} {l : List Int} (h : LsI H p l) (k : Keep [r] H H') (n : p ≠ r) : LsI H' p l := Keep.one k h n
theorem ok_qbu (T : Txt K mg a) (G_qag : O_qag P w K mg base a) (G_qbh : O_qbh P w K mg base a) (G_qcc : O_qcc P w K mg base a) (G_qau : O_qau P w K mg base a) : O_qbu P w K mg base a := by
  refine T.fn_qbu.okX sc_qbu (fun vs H Q E h => ?_) (fun cdv A outer s H vs Q E hr h => ?_)
  · obtain ⟨r, q, rfl, _⟩ := h
    rfl
  · obtain ⟨r, q, rfl, hR, k1, k2⟩ := h
    refine ⟨_, (pss_cons (ps_set (i := 1) sc_qbu.nd rfl (Or.inl rfl) (pe_meth (pv 0) T.cl_Reader T.me_qag G_qag (hr.mono (by decide)) T.b_qag .nil passW (pa_cons (pe_globV (by rfl) T.ct_SMALLS) pa_nil)))
        (pss_cons (ps_expr (pe_meth (pv 0) T.cl_Reader T.me_qbh G_qbh (hr.mono (by decide)) T.b_qbh .nil passW (pa_cons pe_str pa_nil)))
        (pss_cons (ps_set (i := 2) sc_qbu.nd rfl (Or.inl rfl) (pe_call G_qcc (hr.mono (by decide)) (by rfl) T.mg_qcc T.fn_qcc.kp T.b_qcc .nil passW (pa_cons (pv 0) pa_nil)))
        (pss_cons (ps_expr (pe_meth (pv 0) T.cl_Reader T.me_qbh G_qbh (hr.mono (by decide)) T.b_qbh .nil passW (pa_cons pe_str pa_nil)))
        (pss_one (ps_ret (pe_call G_qau (hr.mono (by decide)) (by rfl) T.mg_qau T.fn_qau.kp T.b_qau .nil passW (pa_cons (pv 1) (pa_cons (pv 2) pa_nil))))))))), ?_⟩
    rw [Sg35.turningAt_is] at k1 k2
    refine m_take_all rfl hR zs_smalls fun H1 kp1 hR1 => ?_
    rw [map_small fun c hc => Sg35.mem_takeWhile hc]
    rw [← Sg35.drop_takeWhile] at hR1
    generalize hn : q.takeWhile Sg35.small = n at *
    generalize ht : q.drop n.length = t at *
    refine m_need rfl hR1 lit_open (by decide) (fun t1 e1 H2 kp2 hR2 => ?_) (fun hno => k1 (Sg35.turnOpen_no fun u hu => hno u hu))
    subst e1
    rw [show ([40] ++ t1 : B) = 40 :: t1 from rfl, Sg35.turnOpen_cons] at k1 k2
    refine ⟨_, rfl, r, t1, rfl, hR2, fun hn1 => k1 ?_, fun l t2 p hl hp H3 kp3 hR3 hp3 => ?_⟩
    · rw [hn1]; rfl
    rw [hl] at k1 k2
    dsimp only [Option.bind_some] at k1 k2
    have hpr : p ≠ r := (hR2.ne hp).symm
    refine m_need rfl hR3 lit_close (by decide) (fun t3 e3 H4 kp4 hR4 => ?_) (fun hno => k1 (Sg35.turnEnd_no fun u hu => hno u hu))
    subst e3
    rw [show ([41] ++ t3 : B) = 41 :: t3 from rfl, Sg35.turnEnd_cons] at k1 k2
    refine ⟨_, rfl, _, rfl, _, n, p, l, rfl, rfl, hp3.one kp4 hpr, fun hn1 => k1 (by rw [hn1]; rfl), fun m t H5 hm kp5 hmt => ?_⟩
    rw [hm] at k2
    exact k2 m t3 t rfl H5 (((kp1.trans kp2).trans (kp3.trans kp4)).trans kp5.up) (hR4.keep0 kp5) hmt
theorem fits_small {m : Sg35.Mat} (h : m.fits = true) : Small m := by
  unfold Sg35.Mat.fits at h
  simp only [List.all_cons, List.all_nil, Bool.and_true, Bool.and_eq_true, decide_eq_true_eq] at h
  intro z hz
  simp only [List.mem_cons, List.not_mem_nil, or_false] at hz
  rcases hz with rfl | rfl | rfl | rfl | rfl | rfl <;> omega
theorem ok_qav (T : Txt K mg a) (G_qbf : O_qbf P w K mg base a) (G_qag : O_qag P w K mg base a) (G_qaq : O_qaq P w K mg base a) (G_qbk : O_qbk P w K mg base a) (G_qbu : O_qbu P w K mg base a) (G_qao : O_qao P w K mg base a) : O_qav P w K mg base a := by
  refine T.fn_qav.okX sc_qav (fun vs H Q E h => ?_) (fun cdv A outer s H vs Q E hr h => ?_)
  · obtain ⟨p, m, x, b, rfl, _⟩ := h
    rfl
  · obtain ⟨p, m, x, b, rfl, hm, hs, hx, k1, k2⟩ := h
    refine ⟨_, (pss_cons (ps_set (i := 2) sc_qav.nd rfl (Or.inl rfl) (pe_make T.mk_Reader G_qbf (hr.mono (by decide)) (by rfl) T.mgc_Reader T.b_qbf .nil passW (pa_cons (pv 1) pa_nil)))
        (pss_cons (ps_set (i := 3) sc_qav.nd rfl (Or.inl rfl) (pv 0))
        (pss_cons (ps_expr (pe_meth (pv 2) T.cl_Reader T.me_qag G_qag (hr.mono (by decide)) T.b_qag .nil passW (pa_cons (pe_globV (by rfl) T.ct_BLANK) pa_nil)))
        (pss_cons (ps_while PassesOwn.leaving (pt_not (pt_val (pe_meth0 (pv 2) T.cl_Reader T.me_qaq G_qaq (hr.mono (by decide)) T.b_qaq .nil passW))) (pss_cons (ps_set (i := 3) sc_qav.nd rfl (Or.inl rfl) (pe_call G_qbk (hr.mono (by decide)) (by rfl) T.mg_qbk T.fn_qbk.kp T.b_qbk .nil passW (pa_cons (pv 3) (pa_cons (pe_call G_qbu (hr.mono (by decide)) (by rfl) T.mg_qbu T.fn_qbu.kp T.b_qbu .nil passW (pa_cons (pv 2) pa_nil)) pa_nil))))
        (pss_cons (ps_expr (pe_call G_qao (hr.mono (by decide)) (by rfl) T.mg_qao T.fn_qao.kp T.b_qao .nil passW (pa_cons (pv 3) pa_nil)))
        (pss_one (ps_expr (pe_meth (pv 2) T.cl_Reader T.me_qag G_qag (hr.mono (by decide)) T.b_qag .nil passW (pa_cons (pe_globV (by rfl) T.ct_BLANK) pa_nil)))))))
        (pss_one (ps_ret (pv 3))))))), ?_⟩
    refine m_reader_is (fun Q q => ⟨_, rfl, q⟩) hx fun r H1 hr1 kp1 hR1 => ?_
    refine ⟨_, rfl, ?_⟩
    refine m_take_all rfl hR1 zs_blank fun H2 kp2 hR2 => ?_
    rw [skip_is] at hR2
    refine ⟨fun mm σ H' => ∃ (t : B) (n : Sg35.Mat) (y : Addr), σ = [some (.ref p), some (.str x), some (.ref r), some (.ref y)] ∧ Keep [] H H' ∧ RdR a H' r t ∧ Sg35.skip t = t ∧ MatAt K H' y n ∧ Small n ∧ Sg35.turned m b = Sg35.turned n t ∧ mm = t.length,
      ⟨_, Sg35.skip b, m, p, rfl, kp1.drop kp2 hr1, hR2, Sg35.skip_skip b, kp2.sqT (kp1.sqT hm), hs, ?_, rfl⟩, ?_⟩
    · rw [Sg35.turned_eq, Sg35.turned_eq m (Sg35.skip b), Sg35.skip_skip]
    rintro mm σ H3 ⟨t, n, y, rfl, K3, hR3, hsk, hmt, hsn, htu, rfl⟩
    refine m_ended rfl hR3 ⟨_, rfl, ?_⟩
    by_cases he : t = []
    · rw [decide_eq_true he]
      refine iteF ⟨_, rfl, k2 n y H3 ?_ K3 hmt hsn⟩
      rw [htu, Sg35.turned_eq, if_pos (by rw [he]; rfl)]
    · rw [decide_eq_false he]
      have hst : Sg35.turned m b = (Sg35.turningAt t).bind fun x => if (n.times x.1).fits = true then Sg35.turned (n.times x.1) x.2 else none := by
        rw [htu, Sg35.turned_eq, if_neg (by rw [hsk]; exact he), hsk]
      refine iteT ⟨fun σ' H' => ∃ (t' : B) (n : Sg35.Mat) (y : Addr), σ' = [some (.ref p), some (.str x), some (.ref r), some (.ref y)] ∧ Keep [] H H' ∧ RdR a H' r t' ∧ Sg35.skip t' = t' ∧ MatAt K H' y n ∧ Small n ∧ Sg35.turned m b = Sg35.turned n t' ∧ t'.length < t.length,
        fun σ' H' ⟨t', n, y, e1, e2, e3, e4, e5, e6, e7, e8⟩ => ⟨_, e8, t', n, y, e1, e2, e3, e4, e5, e6, e7, rfl⟩, ?_⟩
      refine ⟨_, rfl, _, rfl, r, t, rfl, hR3, fun hn => k1 (by rw [hst, hn]; rfl), fun tm t1 p1 htm H4 kp4 hR4 hmt4 => ?_⟩
      rw [htm] at hst
      dsimp only [Option.bind_some] at hst
      have ht1 := Sg35.turningAt_len htm
      have K4 : Keep [] H H4 := K3.drop kp4 (by
        cases q : H r with
        | none => rfl
        | some o => rw [hr1] at q; cases q)
      refine ⟨y, p1, n, tm, rfl, kp4.sqT hmt, hmt4, hsn, fun y2 H5 kp5 hmt5 => ?_⟩
      refine ⟨_, rfl, y2, _, rfl, hmt5, fun hf => k1 (by rw [hst, if_neg (by rw [hf]; exact Bool.false_ne_true)]), fun hf H6 kp6 => ?_⟩
      rw [if_pos hf] at hst
      refine m_take_all rfl ((hR4.keep0 kp5).keep0 kp6) zs_blank fun H7 kp7 hR7 => ?_
      rw [skip_is] at hR7
      have hlk := Sg35.len_skip t1
      refine ⟨Sg35.skip t1, n.times tm, y2, rfl, (K4.trans (kp5.trans kp6)).drop kp7 hr1, hR7, Sg35.skip_skip t1, kp7.sqT (kp6.sqT hmt5), fits_small hf, ?_, by omega⟩
      rw [hst, Sg35.turned_eq, Sg35.turned_eq _ (Sg35.skip t1), Sg35.skip_skip]
end Pg
namespace Pg
open PySem PySem.Spec PyProof.Rows L2 TL
variable {P : Program} {w : World} {K : PySem.W.Frag} {mg : Str → Option Value} {base : Heap} {a : Adr}
theorem ok_qbq (T : Txt K mg a) : O_qbq P w K mg base a := by
  refine T.fn_qbq.okX sc_qbq (fun vs H Q E h => ?_) (fun cdv A outer s H vs Q E hr h => ?_)
  · obtain ⟨x, dx, u, v, rfl, _⟩ := h
    rfl
  · obtain ⟨x, dx, u, v, rfl, hx, k⟩ := h
    refine ⟨_, (pss_cons (ps_fld (pv 0) (pv 1) rfl)
        (pss_one (ps_fld (pv 0) (pv 2) rfl))), ?_⟩
    refine ⟨_, rfl, _, rfl, x, a.cStyle, dx, _, rfl, hx, T.cl_Style, T.na_Style_fill, (by show 0 < 1000; decide), _, rfl, _, rfl, x, a.cStyle, dx, _, rfl, upd_same, T.cl_Style, T.na_Style_rule, (by show 1 < 1000; decide), ?_⟩
    show Q _ (upd (upd H x _) x _)
    rw [upd_upd]
    have e : putF "rule" v (putF "fill" u []) = (stF u v : List (Str × V)) := by
      rw [pf_nil, pf_next (by decide +kernel), pf_nil]
      rfl
    rw [e]
    exact k _ (Keep.set (by simp) (by rw [hx]; exact trivial)) upd_same
theorem ok_qbi (T : Txt K mg a) : O_qbi P w K mg base a := by
  refine T.fn_qbi.okX sc_qbi (fun vs H Q E h => ?_) (fun cdv A outer s H vs Q E hr h => ?_)
  · obtain ⟨x, dx, u, v, z, rfl, _⟩ := h
    rfl
  · obtain ⟨x, dx, u, v, z, rfl, hx, k⟩ := h
    refine ⟨_, (pss_cons (ps_fld (pv 0) (pv 1) rfl)
        (pss_cons (ps_fld (pv 0) (pv 2) rfl)
        (pss_one (ps_fld (pv 0) (pv 3) rfl)))), ?_⟩
    refine ⟨_, rfl, _, rfl, x, a.cCircle, dx, _, rfl, hx, T.cl_Circle, T.na_Circle_cx, (by show 0 < 1000; decide), _, rfl, _, rfl, x, a.cCircle, dx, _, rfl, upd_same, T.cl_Circle, T.na_Circle_cy, (by show 1 < 1000; decide), _, rfl, _, rfl, x, a.cCircle, dx, _, rfl, upd_same, T.cl_Circle, T.na_Circle_r, (by show 2 < 1000; decide), ?_⟩
    show Q _ (upd (upd (upd H x _) x _) x _)
    rw [upd_upd, upd_upd]
    have e : putF "r" z (putF "cy" v (putF "cx" u [])) = ([("cx", u), ("cy", v), ("r", z)] : List (Str × V)) := by
      rw [pf_nil, pf_next (by decide +kernel), pf_nil, pf_next (by decide +kernel), pf_next (by decide +kernel), pf_nil]
    rw [e]
    exact k _ (Keep.set (by simp) (by rw [hx]; exact trivial)) upd_same
theorem ok_qar (T : Txt K mg a) : O_qar P w K mg base a := by
  refine T.fn_qar.okX sc_qar (fun vs H Q E h => ?_) (fun cdv A outer s H vs Q E hr h => ?_)
  · obtain ⟨x, dx, u, rfl, _⟩ := h
    rfl
  · obtain ⟨x, dx, u, rfl, hx, k⟩ := h
    refine ⟨_, (pss_one (ps_fld (pv 0) (pv 1) rfl)), ?_⟩
    refine ⟨_, rfl, _, rfl, x, a.cOutline, dx, _, rfl, hx, T.cl_Outline, T.na_Outline_lines, (by show 0 < 1000; decide), ?_⟩
    show Q _ (upd H x _)
    have e : putF "lines" u [] = ([("lines", u)] : List (Str × V)) := by
      rw [pf_nil]
    rw [e]
    exact k _ (Keep.set (by simp) (by rw [hx]; exact trivial)) upd_same
theorem ok_qbr (T : Txt K mg a) : O_qbr P w K mg base a := by
  refine T.fn_qbr.okX sc_qbr (fun vs H Q E h => ?_) (fun cdv A outer s H vs Q E hr h => ?_)
  · obtain ⟨x, dx, u, v, z, rfl, _⟩ := h
    rfl
  · obtain ⟨x, dx, u, v, z, rfl, hx, k⟩ := h
    refine ⟨_, (pss_cons (ps_fld (pv 0) (pv 1) rfl)
        (pss_cons (ps_fld (pv 0) (pv 2) rfl)
        (pss_one (ps_fld (pv 0) (pv 3) rfl)))), ?_⟩
    refine ⟨_, rfl, _, rfl, x, a.cShape, dx, _, rfl, hx, T.cl_Shape, T.na_Shape_figure, (by show 0 < 1000; decide), _, rfl, _, rfl, x, a.cShape, dx, _, rfl, upd_same, T.cl_Shape, T.na_Shape_matrix, (by show 1 < 1000; decide), _, rfl, _, rfl, x, a.cShape, dx, _, rfl, upd_same, T.cl_Shape, T.na_Shape_style, (by show 2 < 1000; decide), ?_⟩
    show Q _ (upd (upd (upd H x _) x _) x _)
    rw [upd_upd, upd_upd]
    have e : putF "style" z (putF "matrix" v (putF "figure" u [])) = (shF u v z : List (Str × V)) := by
      rw [pf_nil, pf_next (by decide +kernel), pf_nil, pf_next (by decide +kernel), pf_next (by decide +kernel), pf_nil]
      rfl
    rw [e]
    exact k _ (Keep.set (by simp) (by rw [hx]; exact trivial)) upd_same
theorem ok_qcg (T : Txt K mg a) : O_qcg P w K mg base a := by
  refine T.fn_qcg.okX sc_qcg (fun vs H Q E h => ?_) (fun cdv A outer s H vs Q E hr h => ?_)
  · obtain ⟨x, dx, u, v, z, rfl, _⟩ := h
    rfl
  · obtain ⟨x, dx, u, v, z, rfl, hx, k⟩ := h
    refine ⟨_, (pss_cons (ps_fld (pv 0) (pv 1) rfl)
        (pss_cons (ps_fld (pv 0) (pv 2) rfl)
        (pss_one (ps_fld (pv 0) (pv 3) rfl)))), ?_⟩
    refine ⟨_, rfl, _, rfl, x, a.cTag, dx, _, rfl, hx, T.cl_Tag, T.na_Tag_name, (by show 0 < 1000; decide), _, rfl, _, rfl, x, a.cTag, dx, _, rfl, upd_same, T.cl_Tag, T.na_Tag_attributes, (by show 1 < 1000; decide), _, rfl, _, rfl, x, a.cTag, dx, _, rfl, upd_same, T.cl_Tag, T.na_Tag_closed, (by show 2 < 1000; decide), ?_⟩
    show Q _ (upd (upd (upd H x _) x _) x _)
    rw [upd_upd, upd_upd]
    have e : putF "closed" z (putF "attributes" v (putF "name" u [])) = (tgF u v z : List (Str × V)) := by
      rw [pf_nil, pf_next (by decide +kernel), pf_nil, pf_next (by decide +kernel), pf_next (by decide +kernel), pf_nil]
      rfl
    rw [e]
    exact k _ (Keep.set (by simp) (by rw [hx]; exact trivial)) upd_same
theorem ok_qbj (T : Txt K mg a) : O_qbj P w K mg base a := by
  refine T.fn_qbj.okX sc_qbj (fun vs H Q E h => ?_) (fun cdv A outer s H vs Q E hr h => ?_)
  · obtain ⟨x, dx, u, v, z, rfl, _⟩ := h
    rfl
  · obtain ⟨x, dx, u, v, z, rfl, hx, k⟩ := h
    refine ⟨_, (pss_cons (ps_fld (pv 0) (pv 1) rfl)
        (pss_cons (ps_fld (pv 0) (pv 2) rfl)
        (pss_one (ps_fld (pv 0) (pv 3) rfl)))), ?_⟩
    refine ⟨_, rfl, _, rfl, x, a.cHolder, dx, _, rfl, hx, T.cl_Holder, T.na_Holder_name, (by show 0 < 1000; decide), _, rfl, _, rfl, x, a.cHolder, dx, _, rfl, upd_same, T.cl_Holder, T.na_Holder_matrix, (by show 1 < 1000; decide), _, rfl, _, rfl, x, a.cHolder, dx, _, rfl, upd_same, T.cl_Holder, T.na_Holder_style, (by show 2 < 1000; decide), ?_⟩
    show Q _ (upd (upd (upd H x _) x _) x _)
    rw [upd_upd, upd_upd]
    have e : putF "style" z (putF "matrix" v (putF "name" u [])) = (hoF u v z : List (Str × V)) := by
      rw [pf_nil, pf_next (by decide +kernel), pf_nil, pf_next (by decide +kernel), pf_next (by decide +kernel), pf_nil]
      rfl
    rw [e]
    exact k _ (Keep.set (by simp) (by rw [hx]; exact trivial)) upd_same
end Pg
namespace Pg
open PySem PySem.Spec PyProof.Rows L2 TL
variable {P : Program} {w : World} {K : PySem.W.Frag} {mg : Str → Option Value} {base : Heap} {a : Adr}
theorem find_hexB : ∀ c < 256, (match Sg35.hex c with | some v => decide (Txt.find "0123456789abcdefABCDEF" (sg [lo1 c]) = (v : Int)) | none => true) = true := by decide +kernel
theorem find_hex {c v : Nat} (h : Sg35.hex c = some v) : c < 128 ∧ Txt.find "0123456789abcdefABCDEF" (sg [lo1 c]) = (v : Int) := by
  have hc : c < 128 := by
    unfold Sg35.hex at h
    split at h
    · rename_i hd; have := Sg35.digit_iff.mp hd; omega
    · split at h
      · omega
      · split at h
        · omega
        · cases h
  have := find_hexB c (by omega)
  rw [h] at this
  exact ⟨hc, of_decide_eq_true this⟩
theorem mapM_cons' (c : Nat) (r : List Nat) : (c :: r).mapM Sg35.hex = (Sg35.hex c).bind fun v => (r.mapM Sg35.hex).map fun l => v :: l := by
  rw [List.mapM_cons]
  cases Sg35.hex c with
  | none => rfl
  | some v => cases r.mapM Sg35.hex <;> rfl
theorem mapM_get : ∀ {b l : List Nat}, b.mapM Sg35.hex = some l → l.length = b.length ∧ ∀ (i : Nat) (c : Nat), b[i]? = some c → ∃ v, Sg35.hex c = some v ∧ l[i]? = some v
  | [], l, h => by
    have : some [] = some l := h
    cases this
    exact ⟨rfl, fun i c e => by simp at e⟩
  | c :: r, l, h => by
    rw [mapM_cons'] at h
    cases hc : Sg35.hex c with
    | none => rw [hc] at h; cases h
    | some v =>
      rw [hc] at h
      dsimp only [Option.bind_some] at h
      cases hr : r.mapM Sg35.hex with
      | none => rw [hr] at h; cases h
      | some l2 =>
        rw [hr] at h
        cases h
        obtain ⟨h1, h2⟩ := mapM_get hr
        refine ⟨by simp [h1], fun i d e => ?_⟩
        cases i with
        | zero => simp at e; subst e; exact ⟨v, hc, rfl⟩
        | succ i => obtain ⟨v2, e1, e2⟩ := h2 i d (by simpa using e); exact ⟨v2, e1, by simpa using e2⟩
theorem mapM_all : ∀ {b : List Nat}, (∀ c ∈ b, hexB c = true) → ∃ l, b.mapM Sg35.hex = some l
  | [], _ => ⟨[], rfl⟩
  | c :: r, h => by
    obtain ⟨l, hl⟩ := mapM_all (b := r) fun d hd => h d (List.mem_cons_of_mem _ hd)
    have hc := h c (List.mem_cons_self ..)
    unfold hexB at hc
    obtain ⟨v, hv⟩ := Option.isSome_iff_exists.mp hc
    exact ⟨v :: l, by rw [mapM_cons', hv, hl]; rfl⟩
theorem mapM_bad {b : List Nat} {c : Nat} (hc : c ∈ b) (h : hexB c = false) : b.mapM Sg35.hex = none := by
  cases hm : b.mapM Sg35.hex with
  | none => rfl
  | some l =>
    obtain ⟨i, hi⟩ := List.mem_iff_getElem?.mp hc
    obtain ⟨v, hv, _⟩ := (mapM_get hm).2 i c hi
    unfold hexB at h
    rw [hv] at h
    cases h
theorem ok_qbv (T : Txt K mg a) : O_qbv P w K mg base a := by
  refine T.fn_qbv.okX sc_qbv (fun vs H Q E h => ?_) (fun cdv A outer s H vs Q E hr h => ?_)
  · obtain ⟨x, b, n, rfl, _⟩ := h
    rfl
  · obtain ⟨x, b, n, rfl, rfl, hn, k⟩ := h
    unfold hexOf at hn
    by_cases h6 : b.length = 6
    case neg => rw [if_neg h6] at hn; cases hn
    rw [if_pos h6] at hn
    obtain ⟨l, hl, hl2⟩ := Option.map_eq_some_iff.mp hn
    obtain ⟨hlen, hget⟩ := mapM_get hl
    have hlow : Txt.lower (sg b) = sg (b.map lo1) := by
      rw [lower_ascii (x := sg b) (by
        intro c hc
        rw [show (sg b).cps.toList = b from tl_sg] at hc
        obtain ⟨i, hi⟩ := List.mem_iff_getElem?.mp hc
        obtain ⟨v, hv, _⟩ := hget i c hi
        exact (find_hex hv).1)]
      apply ext_tl
      show (Array.map lo1 (sg b).cps).toList = tl (sg (b.map lo1))
      rw [tl_sg, Array.toList_map, show (sg b).cps.toList = b from tl_sg]
    refine ⟨_, (pss_cons (ps_set (i := 1) sc_qbv.nd rfl (Or.inl rfl) pe_int)
        (pss_cons (ps_for PassesOwn.leaving rfl (pi_str (pe_bm0 F.plainAttrs_str F.slot_str_lower F.type_str_lower mt_lower (pv 0))) (pg_name (i := 2) sc_qbv.nd rfl (Or.inl rfl)) (pss_one (ps_set (i := 1) sc_qbv.nd rfl (Or.inl rfl) (pe_op op_add (pe_op op_mul pe_int (pv 1)) (pe_bm F.plainAttrs_str F.slot_str_find F.type_str_find mt_find (pe_globV (by rfl) T.ct_DIGITS_OF_SIXTEEN) (pa_cons (pv 2) pa_nil))))))
        (pss_one (ps_ret (pv 1))))), ?_⟩
    have hs : (sg (b.map lo1)).cps.size = 6 := by
      have := sg_len (l := b.map lo1)
      rw [List.length_map, h6] at this
      exact this
    refine ⟨_, rfl, rfl, sg b, rfl, rfl, (by rw [sg_len]; omega), Txt.lower (sg b), rfl, ?_⟩
    rw [hlow]
    refine ⟨fun i m σ H' => ∃ (col : Int) (dg : Option V), σ = [some (.str (sg b)), some (.int col), dg] ∧ H' = H ∧ i ≤ 6 ∧ col = ((((l.take i).foldl (fun n x => 16 * n + x) 0 : Nat)) : Int) ∧ m = 6 - i, ⟨_, 0, none, rfl, rfl, by omega, rfl, rfl⟩, ?_⟩
    rintro i m σ H' ⟨col, dg, rfl, rfl, hi, hcol, rfl⟩
    by_cases hlt : i < 6
    · refine .inr ⟨by show i < (sg (b.map lo1)).cps.size; omega, fun σ' H2 => ∃ (col : Int) (dg : Option V), σ' = [some (.str (sg b)), some (.int col), dg] ∧ H2 = H' ∧ col = ((((l.take (i + 1)).foldl (fun n x => 16 * n + x) 0 : Nat)) : Int),
        fun σ' H2 ⟨col, dg, e1, e2, e3⟩ => ⟨6 - (i + 1), by omega, col, dg, e1, e2, by omega, e3, rfl⟩, ?_⟩
      rintro y H2 ⟨rfl, c, hc, rfl⟩
      have hc' : (b.map lo1)[i]? = some c := by
        have : (sg (b.map lo1)).cps.toList[i]? = some c := by rw [Array.getElem?_toList]; exact hc
        rw [show (sg (b.map lo1)).cps.toList = b.map lo1 from tl_sg] at this
        exact this
      rw [List.getElem?_map] at hc'
      obtain ⟨d, hd, rfl⟩ := Option.map_eq_some_iff.mp hc'
      obtain ⟨v, hv, hv2⟩ := hget i d hd
      refine ⟨_, rfl, _, _, rfl, rfl, .inl (by decide), rfl, _, rfl, _, _, rfl, rfl, _, _, rfl, rfl, _, _, rfl, rfl, ?_⟩
      rw [List.take_succ, hv2, List.foldl_append, hcol]
      have e : Txt.find "0123456789abcdefABCDEF" ⟨#[lo1 d]⟩ = (v : Int) := (find_hex hv).2
      rw [e]
      show (16 : Int) * _ + (v : Int) = _
      simp only [Option.toList_some, List.foldl_cons, List.foldl_nil]
      omega
    · have : i = 6 := by omega
      subst this
      refine .inl ⟨by show (sg (b.map lo1)).cps.size ≤ 6; omega, _, rfl, ?_⟩
      rw [List.take_of_length_le (by omega), hl2] at hcol
      rw [hcol]
      exact k
theorem map_plain : ∀ {u l : List Nat}, Sg35.Plain u → (l.map Sg35.tr = u ↔ l = u)
  | [], l, _ => by simp
  | d :: u, [], _ => by simp
  | d :: u, c :: l, h => by
    obtain ⟨h1, h2, h3, h4⟩ := h d (List.mem_cons_self ..)
    rw [List.map_cons, List.cons.injEq, List.cons.injEq, Sg35.tr_fix h1 h2 h3 h4, map_plain (u := u) fun e he => h e (List.mem_cons_of_mem _ he)]
theorem plainB {u : List Nat} (h : (u.all fun d => decide (33 ≤ d) && (decide (d ≤ 126) && (decide (d ≠ 37) && decide (d ≠ 63)))) = true) : Sg35.Plain u := by
  simp only [Bool.and_eq_true, List.all_eq_true, decide_eq_true_eq] at h
  exact fun d hd => h d hd
theorem txEq {x : Str} {b : B} (hx : TxB x b) (s : String) (hs : Sg35.Plain (Sg35.ascii s)) : decide (V.str x = V.str (s : Str)) = decide (b = Sg35.ascii s) := by
  rw [Bool.eq_iff_iff, decide_eq_true_eq, decide_eq_true_eq, hx.1, lit]
  constructor
  · intro z; injection z with z; exact (map_plain hs).mp (sg_inj z)
  · intro z; rw [(map_plain hs).mpr z]
theorem lit_hash : ("#" : Str) = sg [35] := by decide +kernel
theorem hexB_tr {c : Nat} (h : hexB c = true) : Sg35.tr c = c := by
  have : 48 ≤ c ∧ c ≤ 102 ∧ c ≠ 63 := by
    unfold hexB Sg35.hex at h
    split at h
    · rename_i hd; have := Sg35.digit_iff.mp hd; omega
    · split at h
      · omega
      · split at h
        · omega
        · cases h
  exact (Sg35.tr_fix (c := c) (d := c) (by omega) (by omega) (by omega) (by omega)).mpr rfl
theorem map_hex {d : List Nat} (hd : ∀ c ∈ d, hexB c = true) : d.map Sg35.tr = d := by
  have : ∀ c ∈ d, Sg35.tr c = id c := fun c hc => hexB_tr (hd c hc)
  rw [List.map_congr_left this, List.map_id]
theorem fill_hash (d : B) : Sg35.fillOf (35 :: d) = (hexOf d).map some := by
  unfold Sg35.fillOf hexOf
  rw [if_neg (by
    have e : Sg35.ascii "none" = [110, 111, 110, 101] := by decide +kernel
    rw [e]; intro z; injection z with z; omega)]
  show (if d.length = 6 then Option.map (fun l => some (List.foldl (fun n x => 16 * n + x) 0 l)) (List.mapM Sg35.hex d) else none) = _
  by_cases h : d.length = 6
  · rw [if_pos h, if_pos h]
    cases d.mapM Sg35.hex <;> rfl
  · rw [if_neg h, if_neg h]
    rfl
theorem fill_no {b : B} (h0 : b ≠ Sg35.ascii "none") (h : ∀ d, b ≠ 35 :: d) : Sg35.fillOf b = none := by
  unfold Sg35.fillOf
  rw [if_neg h0]
  split
  · exact absurd rfl (h _)
  · rfl
theorem drop_nil_all {Pz : Nat → Bool} : ∀ {d : B}, d.dropWhile Pz = [] → (∀ c ∈ d, Pz c = true) ∧ d.takeWhile Pz = d
  | [], _ => ⟨by simp, rfl⟩
  | c :: r, h => by
    rw [List.dropWhile_cons] at h
    cases hc : Pz c with
    | false => rw [hc] at h; cases h
    | true =>
      rw [hc] at h
      obtain ⟨h1, h2⟩ := drop_nil_all (d := r) h
      refine ⟨fun e he => ?_, by rw [List.takeWhile_cons, hc, if_pos rfl, h2]⟩
      rcases List.mem_cons.mp he with rfl | he
      · exact hc
      · exact h1 e he
theorem drop_cons_bad {Pz : Nat → Bool} : ∀ {d : B}, d.dropWhile Pz ≠ [] → ∃ c ∈ d, Pz c = false
  | [], h => absurd rfl h
  | c :: r, h => by
    rw [List.dropWhile_cons] at h
    cases hc : Pz c with
    | false => exact ⟨c, List.mem_cons_self .., hc⟩
    | true =>
      rw [hc] at h
      obtain ⟨e, he, h2⟩ := drop_cons_bad (d := r) h
      exact ⟨e, List.mem_cons_of_mem _ he, h2⟩
theorem ok_qbw (T : Txt K mg a) (G_qbf : O_qbf P w K mg base a) (G_qbh : O_qbh P w K mg base a) (G_qag : O_qag P w K mg base a) (G_qae : O_qae P w K mg base a) (G_qbv : O_qbv P w K mg base a) : O_qbw P w K mg base a := by
  refine T.fn_qbw.okX sc_qbw (fun vs H Q E h => ?_) (fun cdv A outer s H vs Q E hr h => ?_)
  · obtain ⟨x, b, rfl, _⟩ := h
    rfl
  · obtain ⟨x, b, rfl, hx, k1, k2⟩ := h
    refine ⟨_, (pss_cons (ps_if (pt_cmpR op_eq (pv 0) pe_str (nomark _)) (pss_one (ps_ret (pe_globV (by rfl) T.ct_NO_FILL))) pss_nil)
        (pss_cons (ps_set (i := 1) sc_qbw.nd rfl (Or.inl rfl) (pe_make T.mk_Reader G_qbf (hr.mono (by decide)) (by rfl) T.mgc_Reader T.b_qbf .nil passW (pa_cons (pv 0) pa_nil)))
        (pss_cons (ps_expr (pe_meth (pv 1) T.cl_Reader T.me_qbh G_qbh (hr.mono (by decide)) T.b_qbh .nil passW (pa_cons pe_str pa_nil)))
        (pss_cons (ps_set (i := 2) sc_qbw.nd rfl (Or.inl rfl) (pe_meth (pv 1) T.cl_Reader T.me_qag G_qag (hr.mono (by decide)) T.b_qag .nil passW (pa_cons (pe_globV (by rfl) T.ct_DIGITS_OF_SIXTEEN) pa_nil)))
        (pss_cons (ps_expr (pe_meth0 (pv 1) T.cl_Reader T.me_qae G_qae (hr.mono (by decide)) T.b_qae .nil passW))
        (pss_cons (ps_if (pt_cmpR op_ne (pe_callB call_len_str (by rfl) T.bl_len (by decide +kernel) (pa_cons (pv 2) pa_nil)) pe_int (nomark _)) (pss_one (ps_raise T.xc_WrongText (by rfl))) pss_nil)
        (pss_one (ps_ret (pe_call G_qbv (hr.mono (by decide)) (by rfl) T.mg_qbv T.fn_qbv.kp T.b_qbv .nil passW (pa_cons (pv 2) pa_nil)))))))))), ?_⟩
    have pn : Sg35.Plain (Sg35.ascii "none") := plainB (by decide +kernel)
    refine ⟨_, rfl, rfl, decide (b = Sg35.ascii "none"), congrArg V.bl (txEq hx "none" pn), ?_⟩
    by_cases h0 : b = Sg35.ascii "none"
    · rw [decide_eq_true h0]
      refine iteT (k2 none H ?_ Keep.refl)
      unfold Sg35.fillOf
      rw [if_pos h0]
    rw [decide_eq_false h0]
    refine iteF ?_
    dsimp only [tNext]
    refine m_reader_is (fun Q q => ⟨_, rfl, q⟩) hx fun r H1 hr1 kp1 hR1 => ?_
    refine m_need rfl hR1 lit_hash (by decide) (fun d e1 H2 kp2 hR2 => ?_) (fun hno => k1 (fill_no h0 fun d hd => hno d hd))
    subst e1
    rw [show ([35] ++ d : B) = 35 :: d from rfl, fill_hash] at k1 k2
    refine m_take_all rfl hR2 zs_hex fun H3 kp3 hR3 => ?_
    refine m_need_end rfl hR3 (fun hd => ?_) (fun hd => k1 ?_)
    · obtain ⟨hall, htw⟩ := drop_nil_all hd
      rw [htw, map_hex hall]
      have hdl : d.length ≤ 65600 := hR2.len
      refine ⟨_, rfl, _, rfl, (by rw [sg_len, sizeLine_eq]; omega), rfl, !decide (d.length = 6), congrArg (fun z => V.bl (!z)) ?_, ?_⟩
      · rw [Bool.eq_iff_iff, decide_eq_true_eq, decide_eq_true_eq, sg_len]
        constructor
        · intro z; injection z with z; omega
        · intro z; rw [z]; rfl
      by_cases h6 : d.length = 6
      · rw [decide_eq_true h6]
        obtain ⟨l, hl⟩ := mapM_all hall
        have hh : hexOf d = some (l.foldl (fun n x => 16 * n + x) 0) := by unfold hexOf; rw [if_pos h6, hl]; rfl
        refine iteF ⟨_, rfl, _, d, _, rfl, rfl, hh, ?_⟩
        exact k2 (some _) H3 (by rw [hh]; rfl) ((kp1.drop kp2 hr1).drop kp3 hr1)
      · rw [decide_eq_false h6]
        refine iteT (k1 ?_ _)
        unfold hexOf
        rw [if_neg h6]; rfl
    · obtain ⟨c, hc, hcb⟩ := drop_cons_bad hd
      unfold hexOf
      rw [mapM_bad hc hcb]
      split <;> rfl
theorem ok_qbx (T : Txt K mg a) : O_qbx P w K mg base a := by
  refine T.fn_qbx.okX sc_qbx (fun vs H Q E h => ?_) (fun cdv A outer s H vs Q E hr h => ?_)
  · obtain ⟨x, b, rfl, _⟩ := h
    rfl
  · obtain ⟨x, b, rfl, hx, k1, k2⟩ := h
    refine ⟨_, (pss_cons (ps_if (pt_cmpR op_notIn_seq (pv 0) (pe_tup (pa_cons (pe_globV (by rfl) T.ct_NONZERO) (pa_cons (pe_globV (by rfl) T.ct_EVENODD) pa_nil))) (by with_unfolding_all rfl)) (pss_one (ps_raise T.xc_WrongText (by rfl))) pss_nil)
        (pss_one (ps_ret (pv 0)))), ?_⟩
    refine ⟨_, rfl, (by show 2 ≤ sizeLine; decide), fun t ht => ⟨t, _, rfl, .inr (SqT.of upd_same), rfl, rfl, !(decide (b = Sg35.ascii "nonzero") || decide (b = Sg35.ascii "evenodd")), ?_, ?_⟩⟩
    · have p1 : Sg35.Plain (Sg35.ascii "nonzero") := plainB (by decide +kernel)
      have p2 : Sg35.Plain (Sg35.ascii "evenodd") := plainB (by decide +kernel)
      have e1 := txEq hx "nonzero" p1
      have e2 := txEq hx "evenodd" p2
      show V.bl (!inV (V.str x) [V.str "nonzero", V.str "evenodd"]) = _
      congr 2
      rw [← e1, ← e2]
      unfold inV
      simp only [List.any_cons, List.any_nil, Bool.or_false, eqV]
      congr 1 <;> (rw [Bool.eq_iff_iff, beq_iff_eq, decide_eq_true_eq, V.str.injEq]; exact eq_comm)
    unfold ruleOf at k1 k2
    by_cases h1 : b = Sg35.ascii "nonzero"
    · rw [decide_eq_true h1, if_pos h1] at *
      refine iteF ⟨_, rfl, ?_⟩
      have := k2 false (upd H t (.tup [.str "nonzero", .str "evenodd"])) rfl (Keep.new ht)
      have ex : x = rlV false := by rw [hx.1, h1]; exact (by decide +kernel : sg ((Sg35.ascii "nonzero").map Sg35.tr) = rlV false)
      rw [ex]
      exact this
    rw [decide_eq_false h1]
    rw [if_neg h1] at k1 k2
    by_cases h2 : b = Sg35.ascii "evenodd"
    · rw [decide_eq_true h2]
      rw [if_pos h2] at k2
      refine iteF ⟨_, rfl, ?_⟩
      have := k2 true (upd H t (.tup [.str "nonzero", .str "evenodd"])) rfl (Keep.new ht)
      have ex : x = rlV true := by rw [hx.1, h2]; exact (by decide +kernel : sg ((Sg35.ascii "evenodd").map Sg35.tr) = rlV true)
      rw [ex]
      exact this
    · rw [decide_eq_false h2]
      rw [if_neg h2] at k1
      exact iteT (k1 rfl _)
theorem at_val (as : List (B × B)) (s : String) : valV (atK as) (Sum.inr (s : Str)) = (Sg35.attr as s).map fun v => V.str (sg (v.map Sg35.tr)) := by
  unfold Sg35.attr valV atK
  induction as with
  | nil => rfl
  | cons p r ih =>
    rw [List.map_cons, List.find?_cons, List.lookup]
    have e : decide ((Sum.inr (sg p.1) : Key) = Sum.inr (s : Str)) = (Sg35.ascii s == p.1) := by
      rw [Bool.eq_iff_iff, decide_eq_true_eq, beq_iff_eq, lit]
      constructor
      · intro z; injection z with z; exact (sg_inj z).symm
      · intro z; rw [z]
    dsimp only
    rw [e]
    cases hh : Sg35.ascii s == p.1 with
    | true => rfl
    | false => exact ih
theorem at_tx {H : Hp} {d : Addr} {as : List (B × B)} (h : AtAt H d as) {s : String} {v : B} (hv : Sg35.attr as s = some v) : TxB (sg (v.map Sg35.tr)) v := by
  have : ∃ k, (k, v) ∈ as := by
    unfold Sg35.attr at hv
    clear h
    induction as with
    | nil => cases hv
    | cons p r ih =>
      rw [List.lookup] at hv
      split at hv
      · cases hv; exact ⟨p.1, by simp⟩
      · obtain ⟨k, hk⟩ := ih hv
        exact ⟨k, List.mem_cons_of_mem _ hk⟩
  obtain ⟨k, hk⟩ := this
  obtain ⟨h1, h2⟩ := h.2 _ hk
  exact ⟨rfl, h1, h2⟩
theorem stF_fill {u v : V} : (stF u v).lookup ("fill" : Str) = some u := lk_here
theorem stF_rule {u v : V} : (stF u v).lookup ("rule" : Str) = some v := (lk_next (by decide +kernel)).trans lk_here
theorem ok_qck (T : Txt K mg a) (G_qbw : O_qbw P w K mg base a) (G_qbx : O_qbx P w K mg base a) (G_qbq : O_qbq P w K mg base a) : O_qck P w K mg base a := by
  refine T.fn_qck.okX sc_qck (fun vs H Q E h => ?_) (fun cdv A outer s H vs Q E hr h => ?_)
  · obtain ⟨s, d, f, o, as, rfl, _⟩ := h
    rfl
  · obtain ⟨st, d, f, o, as, rfl, ⟨dx, hst⟩, hat, k1, k2⟩ := h
    refine ⟨_, (pss_cons (ps_set (i := 2) sc_qck.nd rfl (Or.inl rfl) (pe_ifExp (pt_cmp (pc_din (hu_of hr) pe_str (pv 1))) (pe_call G_qbw (hr.mono (by decide)) (by rfl) T.mg_qbw T.fn_qbw.kp T.b_qbw .nil passW (pa_cons (pe_dget (hu_of hr) (pv 1) pe_str (fun _ _ => rfl)) pa_nil)) (pe_fld (pv 0) rfl)))
        (pss_cons (ps_set (i := 3) sc_qck.nd rfl (Or.inl rfl) (pe_ifExp (pt_cmp (pc_din (hu_of hr) pe_str (pv 1))) (pe_call G_qbx (hr.mono (by decide)) (by rfl) T.mg_qbx T.fn_qbx.kp T.b_qbx .nil passW (pa_cons (pe_dget (hu_of hr) (pv 1) pe_str (fun _ _ => rfl)) pa_nil)) (pe_fld (pv 0) rfl)))
        (pss_one (ps_ret (pe_make T.mk_Style G_qbq (hr.mono (by decide)) (by rfl) T.mgc_Style T.b_qbq .nil passW (pa_cons (pv 2) (pa_cons (pv 3) pa_nil))))))), ?_⟩
    have fin : ∀ f' o' H', styOf f o as = some (f', o') → Keep [] H H' → tRet (tMake a.cStyle (sp_Style_init a) [] E (tCons (tVar 2) (tCons (tVar 3) tNil))) { nx := fun _ H' => Q .non H', rt := Q } [some (.ref st), some (.ref d), some (.int (flV f')), some (.str (rlV o'))] H' := by
      intro f' o' H' hs kp
      refine ⟨_, rfl, _, rfl, fun y dy hy hdy hne => ⟨y, dy, _, _, rfl, upd_same, fun H2 kp2 h2 => ⟨rfl, ?_⟩⟩⟩
      have kk := Keep.made hy hdy kp2
      exact k2 f' o' y H2 hs (kp.trans kk) (kp.free0 hy) ⟨dy, h2⟩
    have rule : ∀ f' H', Keep [] H H' → fillIn f as = some f' →
        tSeq (tAsg (tIf (tB (tDIn (tC (.str "fill-rule")) (tVar 1))) (tCall (sp_read_rule a) [] E (tCons (tDGet (tVar 1) (tC (.str "fill-rule"))) tNil)) (tFld K (tVar 0) "rule")) (gName 3)) (tRet (tMake a.cStyle (sp_Style_init a) [] E (tCons (tVar 2) (tCons (tVar 3) tNil)))) { nx := fun _ H' => Q .non H', rt := Q } [some (.ref st), some (.ref d), some (.int (flV f')), none] H' := by
      intro f' H' kp hf
      have hd' := kp.at hat.1
      refine ⟨_, rfl, d, _, rfl, DGet.k (k := Sum.inr "fill-rule") hd', _, rfl, ?_⟩
      rw [at_val]
      cases hv : Sg35.attr as "fill-rule" with
      | none =>
        have hr : ruleIn o as = some o := by unfold ruleIn; rw [hv]
        refine iteF ⟨_, rfl, st, a.cStyle, dx, _, _, rfl, kp.at hst, T.cl_Style, T.na_Style_rule, stF_rule, ?_⟩
        exact fin f' o H' (styOf_some hf hr) kp
      | some v =>
        have hr : ruleIn o as = ruleOf v := by unfold ruleIn; rw [hv]
        refine iteT ⟨_, rfl, d, _, rfl, by rw [show (some (V.str (sg (v.map Sg35.tr)))) = valV (atK as) (Sum.inr ("fill-rule" : Str)) by rw [at_val, hv]; rfl]; exact DGet.k (k := Sum.inr "fill-rule") hd', _, v, rfl, at_tx hat hv, fun hn => k1 (styOf_none2 (hr.trans hn)), fun o' H2 ho kp2 => ?_⟩
        exact fin f' o' H2 (styOf_some hf (hr.trans ho)) (kp.trans kp2)
    have hd' := hat.1
    refine ⟨_, rfl, d, _, rfl, DGet.k (k := Sum.inr "fill") hd', _, rfl, ?_⟩
    rw [at_val]
    cases hv : Sg35.attr as "fill" with
    | none =>
      refine iteF ⟨_, rfl, st, a.cStyle, dx, _, _, rfl, hst, T.cl_Style, T.na_Style_fill, stF_fill, ?_⟩
      exact rule f H Keep.refl (by unfold fillIn; rw [hv])
    | some v =>
      refine iteT ⟨_, rfl, d, _, rfl, by rw [show (some (V.str (sg (v.map Sg35.tr)))) = valV (atK as) (Sum.inr ("fill" : Str)) by rw [at_val, hv]; rfl]; exact DGet.k (k := Sum.inr "fill") hd', _, v, rfl, at_tx hat hv, fun hn => k1 ?_, fun f' H2 hf kp2 => ?_⟩
      · exact styOf_none1 (by unfold fillIn; rw [hv]; exact hn)
      · exact rule f' H2 kp2 (by unfold fillIn; rw [hv]; exact hf)
end Pg
namespace Pg
open PySem PySem.Spec PyProof.Rows L2 TL
variable {P : Program} {w : World} {K : PySem.W.Frag} {mg : Str → Option Value} {base : Heap} {a : Adr}
theorem lit_note : ("<!--" : Str) = sg [60, 33, 45, 45] := by decide +kernel
theorem lit_noteEnd : ("-->" : Str) = sg [45, 45, 62] := by decide +kernel
theorem lit_is : ("=" : Str) = sg [61] := by decide +kernel
theorem lit_slash : ("/" : Str) = sg [47] := by decide +kernel
theorem lit_gt : (">" : Str) = sg [62] := by decide +kernel
theorem miscs_skip (b : B) : Sg35.miscs (Sg35.skip b) = Sg35.miscs b := by
  by_cases h : ∃ r, Sg35.skip b = 60 :: 33 :: 45 :: 45 :: r
  · obtain ⟨r, e⟩ := h
    rw [Sg35.miscs_note e, Sg35.miscs_note (b := Sg35.skip b) (by rw [Sg35.skip_skip]; exact e)]
  · have h' : ∀ r, Sg35.skip b ≠ 60 :: 33 :: 45 :: 45 :: r := fun r e => h ⟨r, e⟩
    rw [Sg35.miscs_end h', Sg35.miscs_end (b := Sg35.skip b) (by rw [Sg35.skip_skip]; exact h'), Sg35.skip_skip]
theorem ok_qaa (T : Txt K mg a) (G_qag : O_qag P w K mg base a) (G_qbg : O_qbg P w K mg base a) (G_qab : O_qab P w K mg base a) : O_qaa P w K mg base a := by
  refine T.fn_qaa.okX sc_qaa (fun vs H Q E h => ?_) (fun cdv A outer s H vs Q E hr h => ?_)
  · obtain ⟨r, q, rfl, _⟩ := h
    rfl
  · obtain ⟨r, q, rfl, hR, k1, k2⟩ := h
    refine ⟨_, (pss_cons (ps_expr (pe_meth (pv 0) T.cl_Reader T.me_qag G_qag (hr.mono (by decide)) T.b_qag .nil passW (pa_cons (pe_globV (by rfl) T.ct_BLANK) pa_nil)))
        (pss_one (ps_while PassesOwn.leaving (pt_val (pe_meth (pv 0) T.cl_Reader T.me_qbg G_qbg (hr.mono (by decide)) T.b_qbg .nil passW (pa_cons pe_str pa_nil))) (pss_cons (ps_expr (pe_meth (pv 0) T.cl_Reader T.me_qab G_qab (hr.mono (by decide)) T.b_qab .nil passW (pa_cons pe_str pa_nil)))
        (pss_one (ps_expr (pe_meth (pv 0) T.cl_Reader T.me_qag G_qag (hr.mono (by decide)) T.b_qag .nil passW (pa_cons (pe_globV (by rfl) T.ct_BLANK) pa_nil)))))))), ?_⟩
    refine m_take_all rfl hR zs_blank fun H1 kp1 hR1 => ?_
    rw [skip_is] at hR1
    refine ⟨fun m σ H' => ∃ t : B, σ = [some (.ref r)] ∧ Keep [r] H H' ∧ RdR a H' r t ∧ Sg35.skip t = t ∧ Sg35.miscs q = Sg35.miscs t ∧ m = t.length, ⟨_, Sg35.skip q, rfl, kp1, hR1, Sg35.skip_skip q, (miscs_skip q).symm, rfl⟩, ?_⟩
    rintro m σ H2 ⟨t, rfl, K2, hR2, hsk, hm, rfl⟩
    refine m_skip rfl hR2 lit_note (by decide) (fun t1 e1 H3 kp3 hR3 => ⟨_, rfl, iteT ?_⟩) (fun hno => ⟨_, rfl, iteF ?_⟩)
    · subst e1
      have hm1 := Sg35.miscs_note (b := [60, 33, 45, 45] ++ t1) (r := t1) (by rw [hsk]; rfl)
      refine ⟨fun σ' H' => ∃ t' : B, σ' = [some (.ref r)] ∧ Keep [r] H H' ∧ RdR a H' r t' ∧ Sg35.skip t' = t' ∧ Sg35.miscs q = Sg35.miscs t' ∧ t'.length < ([60, 33, 45, 45] ++ t1 : B).length, fun σ' H' ⟨t', e1, e2, e3, e4, e5, e6⟩ => ⟨_, e6, t', e1, e2, e3, e4, e5, rfl⟩, ?_⟩
      refine m_up_to rfl (fun _ q => q) hR3 lit_noteEnd (by decide) (fun hn => k1 ?_) (fun k hk hn H4 kp4 hR4 => ?_)
      · rw [hm, hm1, Sg35.noteEnd_none hn]; rfl
      · rw [show ([45, 45, 62] : List Nat).length = 3 from rfl] at *
        refine m_take_all rfl hR4 zs_blank fun H5 kp5 hR5 => ?_
        rw [skip_is] at hR5
        refine ⟨_, rfl, K2.trans (kp3.trans (kp4.trans kp5)), hR5, Sg35.skip_skip _, ?_, ?_⟩
        · rw [hm, hm1, Sg35.noteEnd_some hk hn, miscs_skip]; rfl
        · have h1 := Sg35.len_skip (t1.drop (k + 3))
          rw [List.length_drop] at h1
          simp only [List.length_append, List.length_cons, List.length_nil]
          omega
    · have h' : ∀ r, Sg35.skip t ≠ 60 :: 33 :: 45 :: 45 :: r := fun r e => hno r (by rw [← hsk, e]; rfl)
      exact k2 t (by rw [hm, Sg35.miscs_end h', hsk]) H2 K2 hR2
theorem sg_app (l m : List Nat) : sg l ++ sg m = sg (l ++ m) := by
  apply ext_tl
  rw [tl_append, tl_sg, tl_sg, tl_sg]
theorem tr_inName {b : B} {c : Nat} (hb : Sg35.Byt b) (hc : c ∈ b) (h : Sg35.inName c = true) : Sg35.tr c = c := Sg35.tr_name c (hb c hc) h
theorem takeWhile_mem {Pz : Nat → Bool} {l : B} {c : Nat} (h : c ∈ l.takeWhile Pz) : c ∈ l := (List.takeWhile_prefix Pz).subset h
theorem ok_qca (T : Txt K mg a) (G_qaf : O_qaf P w K mg base a) (G_qag : O_qag P w K mg base a) : O_qca P w K mg base a := by
  refine T.fn_qca.okX sc_qca (fun vs H Q E h => ?_) (fun cdv A outer s H vs Q E hr h => ?_)
  · obtain ⟨r, q, rfl, _⟩ := h
    rfl
  · obtain ⟨r, q, rfl, hR, k1, k2⟩ := h
    refine ⟨_, (pss_one (ps_ret (pe_op op_add_str (pe_meth (pv 0) T.cl_Reader T.me_qaf G_qaf (hr.mono (by decide)) T.b_qaf .nil passW (pa_cons (pe_globV (by rfl) T.ct_LETTERS) pa_nil)) (pe_meth (pv 0) T.cl_Reader T.me_qag G_qag (hr.mono (by decide)) T.b_qag .nil passW (pa_cons (pe_globV (by rfl) T.ct_NAME_SIGNS) pa_nil))))), ?_⟩
    have hby := hR.byt
    refine m_take_one rfl hR zs_letters (fun c t e hc H1 kp1 hR1 => ?_) (fun hn => k1 ?_)
    · subst e
      refine m_take_all rfl hR1 zs_names fun H2 kp2 hR2 => ?_
      have hci := Sg35.inName_of_letter hc
      have hn : Sg35.nameAt (c :: t) = some ((c :: t).takeWhile Sg35.inName, (c :: t).drop ((c :: t).takeWhile Sg35.inName).length) := by
        unfold Sg35.nameAt
        dsimp only
        rw [if_pos hc]
      have htw : (c :: t).takeWhile Sg35.inName = c :: t.takeWhile Sg35.inName := by rw [List.takeWhile_cons, if_pos hci]
      have hm : (t.takeWhile Sg35.inName).map Sg35.tr = t.takeWhile Sg35.inName := Sg35.map_name (fun d hd => hby d (List.mem_cons_of_mem _ (takeWhile_mem hd))) fun d hd => Sg35.mem_takeWhile hd
      refine ⟨_, _, rfl, rfl, ?_, ?_⟩
      · rw [sg_len, sg_len, List.length_map, sizeLine_eq]
        have h1 := Sg35.len_takeWhile Sg35.inName t
        have h2 := hR1.len
        simp only [List.length_cons, List.length_nil]
        omega
      · rw [sg_app, hm, tr_inName hby (List.mem_cons_self ..) hci]
        have kk := k2 _ _ hn H2 (kp1.trans kp2)
        rw [htw] at kk
        refine kk ?_
        rw [List.length_cons, List.drop_succ_cons, Sg35.drop_takeWhile]
        exact hR2
    · cases q with
      | nil => rfl
      | cons c t =>
        have hc : Sg35.letter c = false := hn
        unfold Sg35.nameAt
        dsimp only
        rw [if_neg (by rw [hc]; exact Bool.false_ne_true)]
theorem one_at {q : B} {c k : Nat} : (q.drop k).take [c].length = [c] ↔ q[k]? = some c := by
  show (q.drop k).take 1 = [c] ↔ _
  cases hd : q.drop k with
  | nil =>
    have hl : q.length ≤ k := List.drop_eq_nil_iff.mp hd
    rw [List.getElem?_eq_none_iff.mpr hl]
    simp
  | cons d t =>
    have : q[k]? = some d := by
      have := congrArg (fun z : B => z[0]?) hd
      simpa [List.getElem?_drop] using this
    rw [this]
    simp
theorem lit_lt : ("<" : Str) = ⟨#[60]⟩ := by decide +kernel
theorem lit_amp : ("&" : Str) = ⟨#[38]⟩ := by decide +kernel
theorem lit_nl : ("\n" : Str) = ⟨#[10]⟩ := by decide +kernel
theorem ok_qbn (T : Txt K mg a) (G_qaf : O_qaf P w K mg base a) (G_qab : O_qab P w K mg base a) : O_qbn P w K mg base a := by
  refine T.fn_qbn.okX sc_qbn (fun vs H Q E h => ?_) (fun cdv A outer s H vs Q E hr h => ?_)
  · obtain ⟨r, q, rfl, _⟩ := h
    rfl
  · obtain ⟨r, q, rfl, hR, k1, k2⟩ := h
    refine ⟨_, (pss_cons (ps_set (i := 1) sc_qbn.nd rfl (Or.inl rfl) (pe_meth (pv 0) T.cl_Reader T.me_qaf G_qaf (hr.mono (by decide)) T.b_qaf .nil passW (pa_cons pe_str pa_nil)))
        (pss_cons (ps_set (i := 2) sc_qbn.nd rfl (Or.inl rfl) (pe_meth (pv 0) T.cl_Reader T.me_qab G_qab (hr.mono (by decide)) T.b_qab .nil passW (pa_cons (pv 1) pa_nil)))
        (pss_cons (ps_if (pw_or (pt_cmpR op_in_sign pe_str (pv 2) (by with_unfolding_all rfl)) (pw_or (pt_cmpR op_in_sign pe_str (pv 2) (by with_unfolding_all rfl)) (pw_or1 (pt_cmpR op_in_sign (pe_globV (by rfl) T.ct_STRANGE) (pv 2) (by with_unfolding_all rfl))))).pt (pss_one (ps_raise T.xc_WrongText (by rfl))) pss_nil)
        (pss_one (ps_ret (pv 2)))))), ?_⟩
    have hby := hR.byt
    refine m_take_one rfl hR zs_quote (fun c v e hc H1 kp1 hR1 => ?_) (fun hn => k1 ?_)
    · subst e
      have hq : c = 34 ∨ c = 39 := by
        unfold isQuote at hc
        simpa using hc
      have hbv : Sg35.Byt v := fun d hd => hby d (List.mem_cons_of_mem _ hd)
      have htr : Sg35.tr c = c := by rcases hq with rfl | rfl <;> decide
      have hw : wordOk [c] = true := by rcases hq with rfl | rfl <;> decide
      rw [htr]
      refine m_up_to rfl (fun _ q => ⟨_, rfl, q⟩) hR1 rfl hw (fun hn => k1 (Sg35.valueAt_open hq fun j hj => hn j (one_at.mpr hj))) (fun k hk hn H2 kp2 hR2 => ?_)
      have hk' := one_at.mp hk
      have hn' : ∀ j < k, v[j]? ≠ some c := fun j hj z => hn j hj (one_at.mpr z)
      have hmem : ∀ d, d ∈ tl (sg ((v.take k).map Sg35.tr)) ↔ ∃ e ∈ v.take k, Sg35.tr e = d := fun d => by
        rw [tl_sg, List.mem_map]
      have bad : ∀ d, (d = 60 ∨ d = 38 ∨ d = 10) → d ∈ tl (sg ((v.take k).map Sg35.tr)) → Fails a E := fun d hd hm => by
        obtain ⟨e, he, hte⟩ := (hmem d).mp hm
        refine k1 (Sg35.valueAt_bad hbv hq hk' hn' ⟨e, he, ?_⟩)
        rintro ⟨h1, h2, h3⟩
        rw [hte] at h1 h2 h3
        rcases hd with z | z | z
        · exact h1 z
        · exact h2 z
        · exact h3 z
      refine ⟨_, rfl, 60, _, congrArg V.str lit_lt, rfl, _, rfl, ?_⟩
      by_cases b1 : 60 ∈ tl (sg ((v.take k).map Sg35.tr))
      · rw [decide_eq_true b1]
        exact iteT (iteT (bad 60 (.inl rfl) b1 _))
      rw [decide_eq_false b1]
      refine iteF ⟨_, rfl, 38, _, congrArg V.str lit_amp, rfl, _, rfl, ?_⟩
      by_cases b2 : 38 ∈ tl (sg ((v.take k).map Sg35.tr))
      · rw [decide_eq_true b2]
        exact iteT (iteT (bad 38 (.inr (.inl rfl)) b2 _))
      rw [decide_eq_false b2]
      refine iteF ⟨_, rfl, 10, _, congrArg V.str lit_nl, rfl, _, rfl, ?_⟩
      by_cases b3 : 10 ∈ tl (sg ((v.take k).map Sg35.tr))
      · rw [decide_eq_true b3]
        exact iteT (bad 10 (.inr (.inr rfl)) b3 _)
      rw [decide_eq_false b3]
      refine iteF ⟨_, rfl, ?_⟩
      have hv := Sg35.valueAt_some hbv hq hk' hn' fun e he => ⟨fun z => b1 ((hmem 60).mpr ⟨e, he, z⟩), fun z => b2 ((hmem 38).mpr ⟨e, he, z⟩), fun z => b3 ((hmem 10).mpr ⟨e, he, z⟩)⟩
      exact k2 _ _ hv H2 (kp1.trans kp2) hR2
    · cases q with
      | nil => exact Sg35.valueAt_no fun q v z => by injection z with _ z; cases z
      | cons c v =>
        have hc : isQuote c = false := hn
        unfold isQuote at hc
        simp only [Bool.or_eq_false_iff, beq_eq_false_iff_ne] at hc
        rw [Sg35.valueAt_cons, if_neg]
        rintro (z | z)
        · exact hc.1 z
        · exact hc.2 z
def clash (done z : List (B × B)) : Bool := z.any fun p => done.any fun b => b.1 == p.1
def comb (done : List (B × B)) (X : Option (List (B × B) × B)) : Option (List (B × B) × B) := X.bind fun z => if clash done z.1 = true then none else some (done ++ z.1, z.2)
theorem comb_nil (X : Option (List (B × B) × B)) : comb [] X = X := by
  unfold comb
  cases X with
  | none => rfl
  | some z =>
    have : clash [] z.1 = false := by
      unfold clash
      rw [List.any_eq_false]
      intro p _
      simp
    dsimp only [Option.bind_some]
    rw [this]
    rfl
theorem comb_step {done : List (B × B)} {n v : B} (hn : (done.any fun b => b.1 == n) = false) (X : Option (List (B × B) × B)) :
    comb done (X.bind fun z => if (z.1.any fun p => p.1 == n) = true then none else some ((n, v) :: z.1, z.2)) = comb (done ++ [(n, v)]) X := by
  unfold comb
  cases X with
  | none => rfl
  | some z =>
    dsimp only [Option.bind_some]
    have e1 : clash (done ++ [(n, v)]) z.1 = (clash done z.1 || z.1.any fun p => p.1 == n) := by
      unfold clash
      induction z.1 with
      | nil => rfl
      | cons p r ih =>
        simp only [List.any_cons]
        rw [ih, List.any_append]
        simp only [List.any_cons, List.any_nil, Bool.or_false]
        have : (n == p.1) = (p.1 == n) := by rw [Bool.eq_iff_iff, beq_iff_eq, beq_iff_eq]; exact eq_comm
        rw [this]
        cases (done.any fun b => b.1 == p.1) <;> cases (p.1 == n) <;> simp
    rw [e1]
    cases h : z.1.any fun p => p.1 == n with
    | true => rw [if_pos rfl, Bool.or_true]; rfl
    | false =>
      rw [if_neg Bool.false_ne_true, Bool.or_false]
      dsimp only [Option.bind_some]
      have e2 : clash done ((n, v) :: z.1) = clash done z.1 := by
        unfold clash
        rw [List.any_cons]
        dsimp only
        rw [hn, Bool.false_or]
      rw [e2]
      split <;> simp
theorem clash_first {done : List (B × B)} {n v : B} {r : List (B × B)} (hn : (done.any fun b => b.1 == n) = true) : clash done ((n, v) :: r) = true := by
  unfold clash
  rw [List.any_cons]
  dsimp only
  rw [hn, Bool.true_or]
theorem comb_bad {done : List (B × B)} {n v : B} (hn : (done.any fun b => b.1 == n) = true) (X : Option (List (B × B) × B)) :
    comb done (X.bind fun z => if (z.1.any fun p => p.1 == n) = true then none else some ((n, v) :: z.1, z.2)) = none := by
  unfold comb
  cases X with
  | none => rfl
  | some z =>
    dsimp only [Option.bind_some]
    split
    · rfl
    · dsimp only [Option.bind_some]
      rw [clash_first hn]
      rfl
theorem atK_in (done : List (B × B)) (n : B) : (valV (atK done) (Sum.inr (sg n))).isSome = done.any fun b => b.1 == n := by
  unfold valV atK
  induction done with
  | nil => rfl
  | cons p r ih =>
    rw [List.map_cons, List.find?_cons, List.any_cons]
    have e : decide ((Sum.inr (sg p.1) : Key) = Sum.inr (sg n)) = (p.1 == n) := by
      rw [Bool.eq_iff_iff, decide_eq_true_eq, beq_iff_eq]
      constructor
      · intro z; injection z with z; exact sg_inj z
      · intro z; rw [z]
    dsimp only
    rw [e]
    cases p.1 == n with
    | true => rfl
    | false => rw [Bool.false_or]; exact ih
theorem valueAt_mem {b v t : B} (h : Sg35.valueAt b = some (v, t)) : (∀ c ∈ v, c ∈ b) ∧ v.length ≤ b.length := by
  unfold Sg35.valueAt at h
  split at h
  · rename_i q u
    split at h
    · split at h
      · cases h
        refine ⟨fun c hc => ?_, ?_⟩
        · exact List.mem_cons_of_mem _ (List.mem_cons_of_mem _ (takeWhile_mem hc))
        · have := Sg35.len_takeWhile (Sg35.valueByte q) u
          simp only [List.length_cons]
          omega
      · cases h
    · cases h
  · cases h
theorem skip_same {t : B} (h : t.takeWhile Sg35.blank = []) : Sg35.skip t = t := by
  have := List.takeWhile_append_dropWhile (p := Sg35.blank) (l := t)
  rw [h] at this
  exact this
theorem skip_other {t : B} (h : t.takeWhile Sg35.blank ≠ []) : (Sg35.skip t).length ≠ t.length := by
  have := congrArg List.length (List.takeWhile_append_dropWhile (p := Sg35.blank) (l := t))
  rw [List.length_append] at this
  have hp : 0 < (t.takeWhile Sg35.blank).length := List.length_pos_iff.mpr h
  unfold Sg35.skip
  omega
theorem nameAt_hd (q : B) : (hd1 Sg35.letter q = false → Sg35.nameAt q = none) ∧ (hd1 Sg35.letter q = true → ∃ n t, Sg35.nameAt q = some (n, t)) := by
  cases q with
  | nil => exact ⟨fun _ => rfl, (nomatch ·)⟩
  | cons c r =>
    unfold Sg35.nameAt hd1
    dsimp only
    cases Sg35.letter c with
    | true => exact ⟨(nomatch ·), fun _ => ⟨_, _, rfl⟩⟩
    | false => exact ⟨fun _ => rfl, (nomatch ·)⟩
theorem ok_qac (T : Txt K mg a) (G_qag : O_qag P w K mg base a) (G_qad : O_qad P w K mg base a) (G_qca : O_qca P w K mg base a) (G_qbh : O_qbh P w K mg base a) (G_qbn : O_qbn P w K mg base a) : O_qac P w K mg base a := by
  refine T.fn_qac.okX sc_qac (fun vs H Q E h => ?_) (fun cdv A outer s H vs Q E hr h => ?_)
  · obtain ⟨r, q, rfl, _⟩ := h
    rfl
  · obtain ⟨r, q, rfl, hR, k1, k2⟩ := h
    refine ⟨_, (pss_cons (ps_set (i := 1) sc_qac.nd rfl (Or.inl rfl) pe_dnewK)
        (pss_cons (ps_while PassesOwn.leaving (pw_and (pt_cmpR op_ne (pe_meth (pv 0) T.cl_Reader T.me_qag G_qag (hr.mono (by decide)) T.b_qag .nil passW (pa_cons (pe_globV (by rfl) T.ct_BLANK) pa_nil)) pe_str (nomark _)) (pw_and1 (pt_val (pe_meth (pv 0) T.cl_Reader T.me_qad G_qad (hr.mono (by decide)) T.b_qad .nil passW (pa_cons (pe_globV (by rfl) T.ct_LETTERS) pa_nil))))).pt (pss_cons (ps_set (i := 2) sc_qac.nd rfl (Or.inl rfl) (pe_call G_qca (hr.mono (by decide)) (by rfl) T.mg_qca T.fn_qca.kp T.b_qca .nil passW (pa_cons (pv 0) pa_nil)))
        (pss_cons (ps_if (pt_cmp (pc_din (hu_of hr) (pv 2) (pv 1))) (pss_one (ps_raise T.xc_WrongText (by rfl))) pss_nil)
        (pss_cons (ps_expr (pe_meth (pv 0) T.cl_Reader T.me_qbh G_qbh (hr.mono (by decide)) T.b_qbh .nil passW (pa_cons pe_str pa_nil)))
        (pss_one (ps_dput (hu_of hr) (pv 1) (pv 2) (pe_call G_qbn (hr.mono (by decide)) (by rfl) T.mg_qbn T.fn_qbn.kp T.b_qbn .nil passW (pa_cons (pv 0) pa_nil)) rfl))))))
        (pss_one (ps_ret (pv 1))))), ?_⟩
    intro d hd
    have hrd : d ≠ r := (hR.ne hd).symm
    have hR0 : RdR a (upd H d (.dK [])) r q := hR.keep0 (Keep.new hd)
    refine ⟨fun m σ H' => ∃ (t : B) (done : List (B × B)) (nm : Option V), σ = [some (.ref r), some (.ref d), nm] ∧ Keep [r] H H' ∧ RdR a H' r t ∧ AtAt H' d done ∧ done.length + t.length ≤ 65600 ∧ Sg35.attrs q = comb done (Sg35.attrs t) ∧ m = t.length,
      ⟨_, q, [], none, rfl, Keep.new hd, hR0, ⟨upd_same, by simp⟩, by have := hR.len; simpa using this, (comb_nil _).symm, rfl⟩, ?_⟩
    rintro m σ H1 ⟨t, done, nm, rfl, K1, hR1, hat, hsz, hq, rfl⟩
    refine m_take_all rfl hR1 zs_blank fun H2 kp2 hR2 => ?_
    rw [skip_is] at hR2
    have K2 : Keep [r] H H2 := K1.trans kp2
    have hat2 : AtAt H2 d done := ⟨kp2.one hat.1 hrd, hat.2⟩
    have hls := Sg35.len_skip t
    refine ⟨rfl, !decide (t.takeWhile Sg35.blank = []), congrArg (fun z => V.bl (!z)) ?_, ?_⟩
    · rw [Bool.eq_iff_iff, decide_eq_true_eq, decide_eq_true_eq]
      rw [show ("" : Str) = sg [] by decide +kernel]
      constructor
      · intro z; injection z with z; exact List.map_eq_nil_iff.mp (sg_inj z)
      · intro z; rw [z]; rfl
    by_cases hb : t.takeWhile Sg35.blank = []
    · rw [decide_eq_true hb]
      have hst := skip_same hb
      rw [hst] at hR2
      refine iteF (iteF ⟨_, rfl, ?_⟩)
      cases hna : Sg35.nameAt t with
      | none =>
        have e : Sg35.attrs t = some ([], t) := by rw [Sg35.attrs_none (by rw [hst]; exact hna), hst]
        refine k2 done t d ?_ hd H2 K2 hR2 hat2
        rw [hq, e]
        unfold comb clash
        simp
      | some x =>
        have e : Sg35.attrs t = none := Sg35.attrs_near (by rw [hst]; exact hna) (by rw [hst])
        obtain ⟨n, u⟩ := x
        obtain ⟨c, r2, rfl, hc, _⟩ := Sg35.nameAt_some hna
        exact (k1 (by rw [hq, e]; rfl)).2 d done c r2 hc hd H2 K2 hR2 hat2
    rw [decide_eq_false hb]
    have hso := skip_other hb
    refine iteT ?_
    refine m_sees rfl hR2 zs_letters ⟨_, rfl, ?_⟩
    cases hh : hd1 Sg35.letter (Sg35.skip t) with
    | false =>
      have e : Sg35.attrs t = some ([], Sg35.skip t) := Sg35.attrs_none ((nameAt_hd _).1 hh)
      refine iteF ⟨_, rfl, k2 done _ d ?_ hd H2 K2 hR2 hat2⟩
      rw [hq, e]
      unfold comb clash
      simp
    | true =>
      obtain ⟨n, t1, hn⟩ := (nameAt_hd _).2 hh
      have e := Sg35.attrs_more hn hso
      have hnl := Sg35.nameAt_len hn
      refine iteT ⟨fun σ' H' => ∃ (t' : B) (done : List (B × B)) (nm : Option V), σ' = [some (.ref r), some (.ref d), nm] ∧ Keep [r] H H' ∧ RdR a H' r t' ∧ AtAt H' d done ∧ done.length + t'.length ≤ 65600 ∧ Sg35.attrs q = comb done (Sg35.attrs t') ∧ t'.length < t.length,
        fun σ' H' ⟨t', done, nm, e1, e2, e3, e4, e5, e6, e7⟩ => ⟨_, e7, t', done, nm, e1, e2, e3, e4, e5, e6, rfl⟩, ?_⟩
      refine ⟨_, rfl, r, _, rfl, hR2, fun hn2 => absurd hn2 (by rw [hn]; simp), fun n' t1' hn2 H3 kp3 hR3 => ?_⟩
      rw [hn] at hn2
      cases hn2
      have hat3 : AtAt H3 d done := ⟨kp3.one hat2.1 hrd, hat2.2⟩
      refine ⟨_, rfl, _, rfl, d, _, rfl, DGet.k (k := Sum.inr (sg n)) hat3.1, _, rfl, ?_⟩
      rw [atK_in]
      cases hin : done.any fun b => b.1 == n with
      | true =>
        refine iteT ((k1 ?_).1 _)
        rw [hq, e]
        cases Sg35.valueAt t1 with
        | none => rfl
        | some v => exact comb_bad hin _
      | false =>
        refine iteF ?_
        refine m_need rfl hR3 lit_is (by decide) (fun t2 e2 H4 kp4 hR4 => ?_) (fun hno => (k1 ?_).1)
        · subst e2
          refine ⟨_, rfl, r, t2, rfl, hR4, fun hv => (k1 ?_).1, fun v t3 hv H5 kp5 hR5 => ?_⟩
          · rw [hq, e, show ([61] ++ t2 : B) = 61 :: t2 from rfl, hv]; rfl
          have hat5 : AtAt H5 d done := ⟨kp5.one (kp4.one hat3.1 hrd) hrd, hat3.2⟩
          have hvl := Sg35.valueAt_len hv
          have hvm := valueAt_mem hv
          have hby4 := hR4.byt
          have hl4 := hR4.len
          have hnl1 := hnl.1
          simp only [List.length_cons, List.length_append, List.length_nil] at hvl hnl1
          refine ⟨_, rfl, _, rfl, d, _, rfl, DPut.k (k := Sum.inr (sg n)) hat5.1 (by unfold atK; rw [List.length_map, sizeLine_eq]; omega), ?_⟩
          have hnone : valV (atK done) (Sum.inr (sg n)) = none := by
            have := atK_in done n
            rw [hin] at this
            exact Option.isSome_eq_false_iff.mp this |> Option.isNone_iff_eq_none.mp
          have ek : putK (atK done) (Sum.inr (sg n)) (V.str (sg (v.map Sg35.tr))) = atK (done ++ [(n, v)]) := by
            rw [putK_new _ hnone]
            unfold atK
            rw [List.map_append]
            rfl
          rw [ek]
          refine ⟨t3, done ++ [(n, v)], _, rfl, ?_, ?_, ⟨upd_same, ?_⟩, ?_, ?_, ?_⟩
          · exact Keep.drop (K2.trans (kp3.trans (kp4.trans kp5))) (Keep.set (by simp) (by rw [hat5.1]; exact trivial)) hd
          · exact hR5.keep (M := [d]) (Keep.set (by simp) (by rw [hat5.1]; exact trivial)) (by simpa using hrd.symm)
          · intro p hp
            rcases List.mem_append.mp hp with hp | hp
            · exact hat.2 p hp
            · rw [List.mem_singleton.mp hp]
              refine ⟨?_, fun c hc => ?_⟩
              · have := hvm.2
                simp only [List.length_cons] at this
                have h6 := hR3.len
                simp only [List.length_cons, List.length_append, List.length_nil] at h6
                show v.length ≤ 65600
                omega
              · rcases List.mem_cons.mp (hvm.1 c hc) with z | z
                · omega
                · exact hby4 c z
          · rw [List.length_append, List.length_cons, List.length_nil]; omega
          · rw [hq, e, show ([61] ++ t2 : B) = 61 :: t2 from rfl, hv]
            exact comb_step hin _
          · omega
        · rw [hq, e, Sg35.valueAt_no fun q v z => hno (q :: v) z]; rfl
end Pg
namespace Pg
open PySem PySem.Spec PyProof.Rows L2 TL
variable {P : Program} {w : World} {K : PySem.W.Frag} {mg : Str → Option Value} {base : Heap} {a : Adr}
theorem nm_of {q n t : B} (h : Sg35.nameAt q = some (n, t)) (hl : q.length ≤ 65600) : Nm n := by
  obtain ⟨c, r, e, hc, hn, _⟩ := Sg35.nameAt_some h
  have hci := Sg35.inName_of_letter hc
  refine ⟨⟨c, r.takeWhile Sg35.inName, by rw [hn, e, List.takeWhile_cons, if_pos hci], hc⟩, fun d hd => ?_, ?_⟩
  · rw [hn] at hd; exact Sg35.mem_takeWhile hd
  · rw [hn]
    have := Sg35.len_takeWhile Sg35.inName q
    omega
theorem ok_qcd (T : Txt K mg a) (G_qca : O_qca P w K mg base a) (G_qac : O_qac P w K mg base a) (G_qbg : O_qbg P w K mg base a) (G_qbh : O_qbh P w K mg base a) (G_qcg : O_qcg P w K mg base a) : O_qcd P w K mg base a := by
  refine T.fn_qcd.okX sc_qcd (fun vs H Q E h => ?_) (fun cdv A outer s H vs Q E hr h => ?_)
  · obtain ⟨r, q, rfl, _⟩ := h
    rfl
  · obtain ⟨r, q, rfl, hR, k1, k2⟩ := h
    refine ⟨_, (pss_cons (ps_set (i := 1) sc_qcd.nd rfl (Or.inl rfl) (pe_call G_qca (hr.mono (by decide)) (by rfl) T.mg_qca T.fn_qca.kp T.b_qca .nil passW (pa_cons (pv 0) pa_nil)))
        (pss_cons (ps_set (i := 2) sc_qcd.nd rfl (Or.inl rfl) (pe_call G_qac (hr.mono (by decide)) (by rfl) T.mg_qac T.fn_qac.kp T.b_qac .nil passW (pa_cons (pv 0) pa_nil)))
        (pss_cons (ps_set (i := 3) sc_qcd.nd rfl (Or.inl rfl) (pe_meth (pv 0) T.cl_Reader T.me_qbg G_qbg (hr.mono (by decide)) T.b_qbg .nil passW (pa_cons pe_str pa_nil)))
        (pss_cons (ps_expr (pe_meth (pv 0) T.cl_Reader T.me_qbh G_qbh (hr.mono (by decide)) T.b_qbh .nil passW (pa_cons pe_str pa_nil)))
        (pss_one (ps_ret (pe_make T.mk_Tag G_qcg (hr.mono (by decide)) (by rfl) T.mgc_Tag T.b_qcg .nil passW (pa_cons (pv 1) (pa_cons (pv 2) (pa_cons (pv 3) pa_nil)))))))))), ?_⟩
    refine ⟨_, rfl, r, q, rfl, hR, fun hn => k1 (by unfold Sg35.tagAt; rw [hn]; rfl), fun n t hn H1 kp1 hR1 => ?_⟩
    have htag : Sg35.tagAt q = (Sg35.attrs t).bind fun z => Sg35.tagEnd n z.1 z.2 := by unfold Sg35.tagAt; rw [hn]; rfl
    have hnm := nm_of hn hR.len
    refine ⟨_, rfl, r, t, rfl, hR1, fun ha => ⟨k1 (by rw [htag, ha]; rfl), fun d as c t1 hc hd H2 kp2 hR2 hat => ?_⟩, fun as t1 d ha hd H2 kp2 hR2 hat => ?_⟩
    · have h47 : c ≠ 47 := by rintro rfl; exact absurd hc (by decide)
      have h62 : c ≠ 62 := by rintro rfl; exact absurd hc (by decide)
      refine m_skip rfl hR2 lit_slash (by decide) (fun u hu => absurd hu (by intro z; injection z with z; exact h47 z)) (fun _ => ?_)
      exact m_need rfl hR2 lit_gt (by decide) (fun u hu => absurd hu (by intro z; injection z with z; exact h62 z)) (fun _ => k1 (by rw [htag, ha]; rfl))
    · rw [ha] at htag
      dsimp only [Option.bind_some] at htag
      have hdr : d ≠ r := (hR1.ne hd).symm
      have fin : ∀ (sh : Bool) (u : B) (H3 : Hp), Sg35.tagAt q = some ⟨n, as, sh, u⟩ → Keep [r] H2 H3 → RdR a H3 r u → AtAt H3 d as → tRet (tMake a.cTag (sp_Tag_init a) [] E (tCons (tVar 1) (tCons (tVar 2) (tCons (tVar 3) tNil)))) { nx := fun _ H' => Q .non H', rt := Q } [some (.ref r), some (.str (sg n)), some (.ref d), some (.bl sh)] H3 := by
        intro sh u H3 ht kp3 hR3 hat3
        refine ⟨_, rfl, _, rfl, _, rfl, fun y dy hy hdy hne => ⟨y, dy, _, _, _, rfl, upd_same, fun H4 kp4 h4 => ⟨rfl, ?_⟩⟩⟩
        have kk := Keep.made hy hdy kp4
        have K3 : Keep [r] H H3 := kp1.trans (kp2.trans kp3)
        have hyr : y ≠ r := (hR3.ne hy).symm
        exact k2 ⟨n, as, sh, u⟩ y ht (K3.free hy (by simpa using hyr)) H4 (K3.trans kk.up) (hR3.keep0 kk) ⟨dy, d, h4, hat3.keep kk, hnm⟩
      refine m_skip rfl hR2 lit_slash (by decide) (fun u hu H3 kp3 hR3 => ?_) (fun hno => ?_)
      · subst hu
        refine m_need rfl hR3 lit_gt (by decide) (fun u2 hu2 H4 kp4 hR4 => ?_) (fun hno => k1 ?_)
        · subst hu2
          exact fin true u2 H4 (by rw [htag]; exact Sg35.tagEnd_shut n as u2) (kp3.trans kp4) hR4 ⟨kp4.one (kp3.one hat.1 hdr) hdr, hat.2⟩
        · rw [htag]
          refine Sg35.tagEnd_no (fun z hz => ?_) (fun z hz => ?_)
          · injection hz with _ hz; exact hno z hz
          · injection hz with hz; exact absurd hz (by decide)
      · refine m_need rfl hR2 lit_gt (by decide) (fun u2 hu2 H4 kp4 hR4 => ?_) (fun hno2 => k1 ?_)
        · subst hu2
          exact fin false u2 H4 (by rw [htag]; exact Sg35.tagEnd_open n as u2) kp4 hR4 ⟨kp4.one hat.1 hdr, hat.2⟩
        · rw [htag]
          exact Sg35.tagEnd_no (fun z hz => hno (62 :: z) hz) (fun z hz => hno2 z hz)
end Pg
namespace Pg
open PySem PySem.Spec PyProof.Rows L2 TL
variable {P : Program} {w : World} {K : PySem.W.Frag} {mg : Str → Option Value} {base : Heap} {a : Adr}
theorem decInt3 (n : Nat) : decide (V.int (n : Int) = V.int 3) = decide (n = 3) := by
  rw [Bool.eq_iff_iff, decide_eq_true_eq, decide_eq_true_eq]
  constructor
  · intro z; injection z with z; omega
  · intro z; rw [z]; rfl
theorem ok_fine (T : Txt K mg a) : O_fine P w K mg base a := by
  refine T.fn_fine.ok sc_fine (fun vs H Q E h => ?_) (fun cdv A outer s H vs Q E hr h => ?_)
  · obtain ⟨p, z, rfl, _⟩ := h
    rfl
  · obtain ⟨p, z, rfl, hp, k⟩ := h
    refine ⟨_, (pss_one (ps_ret (pe_tup (pa_cons (pe_op op_mul (pe_globV (by rfl) T.ct_FINE) (pe_ix ix_tup (pv 0) pe_int (fun _ _ => rfl))) (pa_cons (pe_op op_mul (pe_globV (by rfl) T.ct_FINE) (pe_ix ix_tup (pv 0) pe_int (fun _ _ => rfl))) pa_nil))))), ?_⟩
    exact ⟨_, rfl, _, _, _, _, rfl, rfl, hp, rfl, _, _, rfl, rfl, .inl (by decide), _, rfl, _, _, _, _, rfl, rfl, hp, rfl, _, _, rfl, rfl, .inl (by decide), (by show 2 ≤ sizeLine; decide), fun t ht => k t _ (Keep.new ht) ht upd_same⟩
theorem ok_qaw (T : Txt K mg a) : O_qaw P w K mg base a := by
  refine T.fn_qaw.okX sc_qaw (fun vs H Q E h => ?_) (fun cdv A outer s H vs Q E hr h => ?_)
  · obtain ⟨p, z, rfl, _⟩ := h
    rfl
  · obtain ⟨p, z, rfl, hp, k1, k2⟩ := h
    refine ⟨_, (pss_one (ps_if (pw_or (pt_cmpR op_gt (pe_callB call_abs (by rfl) T.bl_abs (by decide +kernel) (pa_cons (pe_ix ix_tup (pv 0) pe_int (fun _ _ => rfl)) pa_nil)) (pe_globV (by rfl) T.ct_FARTHEST) (nomark _)) (pw_or1 (pt_cmpR op_gt (pe_callB call_abs (by rfl) T.bl_abs (by decide +kernel) (pa_cons (pe_ix ix_tup (pv 0) pe_int (fun _ _ => rfl)) pa_nil)) (pe_globV (by rfl) T.ct_FARTHEST) (nomark _)))).pt (pss_one (ps_raise T.xc_WrongText (by rfl))) pss_nil)), ?_⟩
    have key : ∀ u : Int, decide ((65536 : Int) < (if u < 0 then -u else u)) = !Sg35.near u := fun u => by
      unfold Sg35.near
      rw [Bool.eq_iff_iff, decide_eq_true_eq, Bool.not_eq_true', decide_eq_false_iff_not]
      split <;> omega
    refine ⟨_, rfl, _, _, _, _, rfl, rfl, hp, rfl, _, rfl, _, _, rfl, rfl, !Sg35.near z.1, congrArg V.bl (key z.1), ?_⟩
    unfold Sg35.nearP at k1 k2
    cases h1 : Sg35.near z.1 with
    | false =>
      rw [h1] at k1
      exact iteT (iteT (k1 rfl _))
    | true =>
      rw [h1] at k1 k2
      refine iteF ⟨_, rfl, _, _, _, _, rfl, rfl, hp, rfl, _, rfl, _, _, rfl, rfl, !Sg35.near z.2, congrArg V.bl (key z.2), ?_⟩
      cases h2 : Sg35.near z.2 with
      | false =>
        rw [h2] at k1
        exact iteT (k1 rfl _)
      | true =>
        rw [h2] at k2
        exact iteF (k2 rfl)
theorem ok_qal (T : Txt K mg a) : O_qal P w K mg base a := by
  refine T.fn_qal.okX sc_qal (fun vs H Q E h => ?_) (fun cdv A outer s H vs Q E hr h => ?_)
  · obtain ⟨k, n, rfl, _⟩ := h
    rfl
  · obtain ⟨k, n, rfl, hk, q⟩ := h
    refine ⟨_, (pss_cons (ps_set (i := 2) sc_qal.nd rfl (by first | exact Or.inl rfl | exact Or.inr rfl) (pe_op op_sub (pe_globV (by rfl) T.ct_CURVE_PIECES) (pv 0)))
        (pss_cons (ps_if (pt_cmpR op_eq (pv 1) pe_int (nomark _)) (pss_one (ps_ret (pe_tup (pa_cons (pe_op op_mul (pe_op op_mul pe_int (pv 2)) (pv 2)) (pa_cons (pe_op op_mul (pe_op op_mul pe_int (pv 0)) (pv 2)) (pa_cons (pe_op op_mul (pe_op op_mul pe_int (pv 0)) (pv 0)) pa_nil)))))) pss_nil)
        (pss_one (ps_ret (pe_tup (pa_cons (pe_op op_mul (pe_op op_mul (pv 2) (pv 2)) (pv 2)) (pa_cons (pe_op op_mul (pe_op op_mul (pe_op op_mul pe_int (pv 0)) (pv 2)) (pv 2)) (pa_cons (pe_op op_mul (pe_op op_mul (pe_op op_mul pe_int (pv 0)) (pv 0)) (pv 2)) (pa_cons (pe_op op_mul (pe_op op_mul (pv 0) (pv 0)) (pv 0)) pa_nil))))))))), ?_⟩
    refine ⟨_, rfl, _, _, rfl, rfl, ?_⟩
    have b1 : -(2 ^ 64) < (16 : Int) - (1 + (k : Int)) ∧ (16 : Int) - (1 + (k : Int)) < 2 ^ 64 := by omega
    have b2 : -(2 ^ 64) < (1 : Int) + (k : Int) ∧ (1 : Int) + (k : Int) < 2 ^ 64 := by omega
    have e : (1 : Int) + (k : Int) = (k : Int) + 1 := Int.add_comm ..
    refine ⟨_, rfl, rfl, decide (n = 3), congrArg V.bl (decInt3 n), ?_⟩
    by_cases h3 : n = 3
    · rw [decide_eq_true h3]
      refine iteT ⟨_, rfl, _, _, rfl, rfl, .inr b1, _, rfl, _, _, rfl, rfl, .inr b1, _, rfl, _, _, rfl, rfl, .inr b2, _, rfl, _, _, rfl, rfl, .inr b1, _, rfl, _, _, rfl, rfl, .inr b2, _, rfl, _, _, rfl, rfl, .inr b2, (by show 3 ≤ sizeLine; decide), fun t ht => ?_⟩
      refine q t _ (Keep.new ht) ?_
      unfold Sg35.weights
      rw [if_pos h3, ← e]
      exact SqT.of upd_same
    · rw [decide_eq_false h3]
      refine iteF ⟨_, rfl, _, rfl, _, _, rfl, rfl, .inr b1, _, rfl, _, _, rfl, rfl, .inr b1, _, rfl, _, _, rfl, rfl, .inr b2, _, rfl, _, _, rfl, rfl, .inr b1, _, rfl, _, _, rfl, rfl, .inr b1,
        _, rfl, _, _, rfl, rfl, .inr b2, _, rfl, _, _, rfl, rfl, .inr b2, _, rfl, _, _, rfl, rfl, .inr b1, _, rfl, _, rfl, _, _, rfl, rfl, .inr b2, _, rfl, _, _, rfl, rfl, .inr b2, (by show 4 ≤ sizeLine; decide), fun t ht => ?_⟩
      refine q t _ (Keep.new ht) ?_
      unfold Sg35.weights
      rw [if_neg h3, ← e]
      exact SqT.of upd_same
theorem lcZ {K : PySem.W.Frag} {c t D : Addr} {ts : List Addr} {cs : List Pt} {ws : List Int} {f : Pt → Int} {te : TE} {H1 : Hp} {Qd : Hp → Prop} (hc : H1 c = some (.lst (ts.map V.ref))) (hts : PtsAt K H1 ts cs) (hw : SqT K H1 t (ws.map V.int)) (hlen : cs.length ≤ ws.length) (h100 : cs.length ≤ 100) (hD : H1 D = none)
    (he : ∀ (y : Addr) (p : Pt) (wt : Int) (H2 : Hp) (R : VK), p ∈ cs → PtT K H2 y p → R (.int (f p * wt)) H2 → te [some (.ref c), some (.ref t), some (.ref y), some (.int wt)] H2 R)
    (k : ∀ H', Keep [] H1 H' → LsI H' D ((cs.zip ws).map fun z => f z.1 * z.2) → Qd H') :
    ∃ W : Nat → Nat → Hp → Prop, (∃ m, W 0 m (upd H1 D (.lst []))) ∧ ∀ i m H, W i m H →
      ((Itlt K c t).stop i H ∧ Qd H) ∨ ((Itlt K c t).go i H ∧ ∃ Nx : Hp → Prop, (∀ H', Nx H' → ∃ m', m' < m ∧ W (i + 1) m' H') ∧ ∀ x H', (Itlt K c t).yld i H x H' →
        gTup K 2 (gCons (gName 2) (gCons (gName 3) gNil)) x (wipe [some (.ref c), some (.ref t), none, none] [2, 3]) H' fun σ2 H2 => wipe σ2 [2, 3] = wipe [some (.ref c), some (.ref t), none, none] [2, 3] ∧ tYes σ2 H2 fun b H3 =>
          if b = true then te σ2 H3 fun y H4 => ∃ acc, H4 D = some (.lst acc) ∧ acc.length < sizeLine ∧ Nx (upd H4 D (.lst (acc ++ [y]))) else Nx H3) := by
  have hl := hts.length
  refine ⟨fun i m H => m = cs.length - i ∧ i ≤ cs.length ∧ Keep [] H1 H ∧ LsI H D (((cs.zip ws).take i).map fun z => f z.1 * z.2), ⟨_, rfl, Nat.zero_le _, Keep.new hD, upd_same⟩, ?_⟩
  rintro i m H ⟨rfl, hi, kp, hacc⟩
  have hcH : SqL K H c (ts.map V.ref) := SqL.of (kp.at hc)
  have hwH : SqT K H t (ws.map V.int) := kp.sqT hw
  by_cases hlt : i < cs.length
  · obtain ⟨p, hp⟩ : ∃ p, cs[i]? = some p := ⟨_, List.getElem?_eq_getElem hlt⟩
    obtain ⟨y, hy, hyp⟩ := hts.get hp
    obtain ⟨wt, hwt⟩ : ∃ wt, ws[i]? = some wt := ⟨_, List.getElem?_eq_getElem (by omega)⟩
    have ey : (ts.map V.ref)[i]? = some (.ref y) := by rw [List.getElem?_map, hy]; rfl
    have ew : (ws.map V.int)[i]? = some (.int wt) := by rw [List.getElem?_map, hwt]; rfl
    refine .inr ⟨⟨_, _, _, _, hcH, hwH, ey, ew⟩, fun H' => Keep [] H1 H' ∧ LsI H' D (((cs.zip ws).take (i + 1)).map fun z => f z.1 * z.2), fun H' hn => ⟨cs.length - (i + 1), by omega, rfl, hlt, hn.1, hn.2⟩, ?_⟩
    rintro x H' ⟨T, x', y', rfl, hT, rfl, hx', hy'⟩
    have e1 := hx' _ hcH
    have e2 := hy' _ hwH
    rw [ey] at e1
    rw [ew] at e2
    cases e1
    cases e2
    have kT : Keep [] H (upd H T (.tup [.ref y, .int wt])) := Keep.new hT
    refine ⟨T, _, rfl, SqT.of upd_same, rfl, _, _, rfl, _, _, rfl, rfl, rfl, ?_⟩
    refine he y p wt _ _ (List.mem_of_getElem? hp) (PtT.keep (PtT.keep hyp kp) kT) ⟨_, kT.at hacc, ?_, ?_, ?_⟩
    · rw [List.length_map, List.length_map, List.length_take, sizeLine_eq]; omega
    · exact Keep.drop (kp.trans kT) (Keep.set (by simp) (by rw [kT.at hacc]; exact trivial)) hD
    · unfold LsI
      rw [upd_same, List.take_succ]
      have ez : (cs.zip ws)[i]? = some (p, wt) := by rw [List.getElem?_zip_eq_some]; exact ⟨hp, hwt⟩
      rw [ez, List.map_append, List.map_append]
      rfl
  · have : i = cs.length := by omega
    subst this
    refine .inl ⟨⟨_, hcH, by rw [List.length_map, hl]; exact Nat.le_refl _⟩, k H kp ?_⟩
    rw [List.take_of_length_le (by rw [List.length_zip]; omega)] at hacc
    exact hacc
theorem near_b {u : Int} (h : Sg35.near u = true) : -(2 ^ 64) < u ∧ u < 2 ^ 64 := by
  unfold Sg35.near at h
  have := of_decide_eq_true h
  omega
theorem ok_qci (T : Txt K mg a) : O_qci P w K mg base a := by
  refine T.fn_qci.okX sc_qci (fun vs H Q E h => ?_) (fun cdv A outer s H vs Q E hr h => ?_)
  · obtain ⟨c, t, ts, cs, ws, rfl, _⟩ := h
    rfl
  · obtain ⟨c, t, ts, cs, ws, rfl, hc, hts, hnear, hw, h100, hlen, k⟩ := h
    refine ⟨_, (pss_one (ps_ret (pe_tup (pa_cons (pe_callB (cr_sum rfl) (by rfl) T.bl_sum (by decide +kernel) (pa_cons (pe_lc rfl sc_qci.nd (pi_zipLT (by rfl) T.bl_zip (pa_cons (pv 0) (pa_cons (pv 1) pa_nil))) (blkOk_by (own := [("corner", 2), ("weight", 3)]) (by with_unfolding_all rfl)) (fun s H C cl fp => (show PG _ _ (gTup K 2 (gCons (gName 2) (gCons (gName 3) gNil))) from pg_tup rfl (pgs_cons (pg_name (i := 2) sc_qci.nd rfl (Or.inl rfl) (Or.inr rfl)) (pgs_cons (pg_name (i := 3) sc_qci.nd rfl (Or.inl rfl) (Or.inr rfl)) pgs_nil)))) (fun s H C cl fp => pts_nil) (fun s H C cl fp => (pe_op op_mul (pe_ix (show IxR _ (rIxT K) from ix_tup) (pv 2) pe_int (fun _ _ => rfl)) (pv 3)))) pa_nil)) (pa_cons (pe_callB (cr_sum rfl) (by rfl) T.bl_sum (by decide +kernel) (pa_cons (pe_lc rfl sc_qci.nd (pi_zipLT (by rfl) T.bl_zip (pa_cons (pv 0) (pa_cons (pv 1) pa_nil))) (blkOk_by (own := [("corner", 2), ("weight", 3)]) (by with_unfolding_all rfl)) (fun s H C cl fp => (show PG _ _ (gTup K 2 (gCons (gName 2) (gCons (gName 3) gNil))) from pg_tup rfl (pgs_cons (pg_name (i := 2) sc_qci.nd rfl (Or.inl rfl) (Or.inr rfl)) (pgs_cons (pg_name (i := 3) sc_qci.nd rfl (Or.inl rfl) (Or.inr rfl)) pgs_nil)))) (fun s H C cl fp => pts_nil) (fun s H C cl fp => (pe_op op_mul (pe_ix (show IxR _ (rIxT K) from ix_tup) (pv 2) pe_int (fun _ _ => rfl)) (pv 3)))) pa_nil)) pa_nil))))), ?_⟩
    have hn1 : ∀ p ∈ cs, Sg35.near p.1 = true ∧ Sg35.near p.2 = true := fun p hp => by
      have := hnear p hp
      unfold Sg35.nearP at this
      simpa using this
    refine ⟨_, rfl, _, rfl, c, t, _, _, rfl, SqL.of hc, hw, fun D hD => ?_⟩
    refine lcZ (f := fun p => p.1) hc hts hw hlen h100 hD (fun y p wt H2 R hp hyp hR => ?_) fun H1 kp1 hacc1 => ?_
    · exact ⟨_, rfl, _, _, _, _, rfl, rfl, hyp, rfl, _, rfl, _, _, rfl, rfl, .inl (near_b (hn1 p hp).1), hR⟩
    refine ⟨D, _, rfl, SqL.of hacc1, _, rfl, _, rfl, c, t, _, _, rfl, SqL.of (kp1.at hc), kp1.sqT hw, fun D2 hD2 => ?_⟩
    refine lcZ (f := fun p => p.2) (kp1.at hc) (hts.keep kp1) (kp1.sqT hw) hlen h100 hD2 (fun y p wt H2 R hp hyp hR => ?_) fun H2 kp2 hacc2 => ?_
    · exact ⟨_, rfl, _, _, _, _, rfl, rfl, hyp, rfl, _, rfl, _, _, rfl, rfl, .inl (near_b (hn1 p hp).2), hR⟩
    refine ⟨D2, _, rfl, SqL.of hacc2, (by show 2 ≤ sizeLine; decide), fun u hu => ?_⟩
    exact k u _ ((kp1.trans kp2).trans (Keep.new hu)) (SqT.of upd_same)
end Pg
namespace Pg
open PySem PySem.Spec PyProof.Rows L2 TL
variable {P : Program} {w : World} {K : PySem.W.Frag} {mg : Str → Option Value} {base : Heap} {a : Adr}
theorem islow_all : ∀ c < 128, Sg35.pathLetter c = true → Txt.islower (sg [c]) = decide (97 ≤ c) := by decide +kernel
theorem pl_small {c : Nat} (h : Sg35.pathLetter c = true) : c ≤ 122 := by
  unfold Sg35.pathLetter Sg35.letter at h
  simp only [Bool.and_eq_true, Bool.or_eq_true, decide_eq_true_eq] at h
  omega
theorem islow {c : Nat} (h : Sg35.pathLetter c = true) : Txt.islower (sg [c]) = decide (97 ≤ c) := islow_all c (by have := pl_small h; omega) h
theorem upS {c : Nat} (h : Sg35.pathLetter c = true) : Txt.upper (sg [c]) = sg [Sg35.capital c] := by
  have hc := pl_small h
  rw [upper_ascii (x := sg [c]) (by intro d hd; rw [show (sg [c]).cps.toList = [c] from tl_sg] at hd; rw [List.mem_singleton.mp hd]; omega)]
  apply ext_tl
  show (Array.map up1 (sg [c]).cps).toList = tl (sg [Sg35.capital c])
  rw [tl_sg, Array.toList_map, show (sg [c]).cps.toList = [c] from tl_sg]
  show [up1 c] = [Sg35.capital c]
  unfold up1 Sg35.capital
  congr 1
  by_cases h9 : 97 ≤ c
  · rw [if_pos ⟨h9, hc⟩, if_pos (decide_eq_true h9)]
  · rw [if_neg (fun z => h9 z.1), if_neg (by rw [decide_eq_false h9]; exact Bool.false_ne_true)]
theorem upEq {c d : Nat} (h : Sg35.pathLetter c = true) {s : String} (hs : Sg35.ascii s = [d]) : decide (V.str (Txt.upper (sg [c])) = V.str (s : Str)) = decide (Sg35.capital c = d) := by
  rw [Bool.eq_iff_iff, decide_eq_true_eq, decide_eq_true_eq, upS h, lit, hs]
  constructor
  · intro z; injection z with z; have := sg_inj z; injection this
  · intro z; rw [z]
theorem upTwo_get {bx by_ : Int} : ∀ {l : List Int} {i : Nat} {x y : Int}, l[2 * i]? = some x → l[2 * i + 1]? = some y → (Sg35.upTwo bx by_ l)[i]? = some (bx + x, by_ + y)
  | [], i, x, y, h, _ => by simp at h
  | [_], 0, x, y, _, h => by simp at h
  | [_], i + 1, x, y, h, _ => by rw [show 2 * (i + 1) = 2 * i + 1 + 1 by omega] at h; simp at h
  | u :: v :: r, 0, x, y, h1, h2 => by
    simp at h1 h2
    subst h1 h2
    rfl
  | u :: v :: r, i + 1, x, y, h1, h2 => by
    rw [show 2 * (i + 1) = 2 * i + 1 + 1 by omega] at h1 h2
    simp only [List.getElem?_cons_succ] at h1 h2
    have := upTwo_get (bx := bx) (by_ := by_) (l := r) (i := i) h1 h2
    simpa [Sg35.upTwo] using this
theorem upTwo_len {bx by_ : Int} : ∀ {n : Nat} {l : List Int}, l.length = 2 * n → (Sg35.upTwo bx by_ l).length = n
  | 0, l, h => by
    have : l = [] := List.length_eq_zero_iff.mp (by omega)
    subst this; rfl
  | n + 1, [], h => by simp at h
  | n + 1, [_], h => by simp at h; omega
  | n + 1, u :: v :: r, h => by
    have := upTwo_len (bx := bx) (by_ := by_) (n := n) (l := r) (by simp at h; omega)
    simp [Sg35.upTwo, this]
theorem rgS {n c : Nat} (hc : 0 < c) : Builtin.Range.rangeSize 0 ((c * n : Nat) : Int) (c : Int) = n := by
  unfold Builtin.Range.rangeSize
  rw [if_pos (by omega)]
  cases n with
  | zero => rw [if_neg (by simp)]; rfl
  | succ n =>
    have h1 : (0 : Int) < ((c * (n + 1) : Nat) : Int) := by
      have : 0 < c * (n + 1) := Nat.mul_pos hc (Nat.succ_pos n)
      omega
    rw [if_pos h1]
    have h2 : (((c * (n + 1) : Nat) : Int) - 0 - 1) = ((c - 1 : Nat) : Int) + (c : Int) * (n : Int) := by
      rw [Nat.mul_succ]
      simp only [Int.natCast_add, Int.natCast_mul]
      omega
    rw [h2, Int.add_mul_ediv_left _ _ (by omega), Int.ediv_eq_zero_of_lt (by omega) (by omega)]
    omega
theorem rgC {n c : Nat} (hc : 0 < c) (hc6 : c ≤ 6) (h : c * n ≤ 2000000) : RgC 0 ((c * n : Nat) : Int) (c : Int) n := by
  refine ⟨by omega, by omega, ?_, rgS hc⟩
  unfold Builtin.Range.small
  rw [rgS hc]
  have hn : n ≤ 2000000 := Nat.le_trans (Nat.le_mul_of_pos_left n hc) h
  generalize c * n = m at h
  simp only [Builtin.Range.rangeFitsLong, Bool.and_eq_true, Bool.or_eq_true, decide_eq_true_eq, beq_iff_eq, show ((c : Int) > 0) by omega, if_true]
  omega
theorem rg2 {n : Nat} (h : n ≤ 30000) : RgC 0 ((2 * n : Nat) : Int) 2 n := rgC (c := 2) (by decide) (by decide) (by omega)
theorem base_is {K : PySem.W.Frag} {σ : L2.St} {H : Hp} {s : Addr} {st : Pt} {tt : TT} {j : Nat} {u : TS} {D : Ends} (b : Bool) (ht : ∀ R : Bool → Hp → Prop, R b H → tt σ H R) (hs : PtT K H s st) (hσ : σ[0]? = some (some (.ref s)))
    (k : ∀ ba H1, Keep [] H H1 → PtT K H1 ba (if b = true then st.1 else 0, if b = true then st.2 else 0) → u D (σ.set j (some (.ref ba))) H1) :
    tSeq (tAsg (tIf tt (tVar 0) (tTup (tCons (tC (.int 0)) (tCons (tC (.int 0)) tNil)))) (gName j)) u D σ H := by
  refine ht _ ?_
  cases b with
  | true => exact iteT ⟨_, hσ, k s H Keep.refl hs⟩
  | false => exact iteF ⟨by show 2 ≤ sizeLine; decide, fun t0 ht0 => k t0 _ (Keep.new ht0) (SqT.of upd_same)⟩
theorem ok_qax (T : Txt K mg a) : O_qax P w K mg base a := by
  refine T.fn_qax.okX sc_qax (fun vs H Q E h => ?_) (fun cdv A outer s H vs Q E hr h => ?_)
  · obtain ⟨s, p, st, x, c, l, rfl, _⟩ := h
    rfl
  · obtain ⟨sa, p, st, x, c, l, rfl, hs, ⟨rfl, hpl⟩, h90, hl, har, k⟩ := h
    refine ⟨_, (pss_cons (ps_set (i := 3) sc_qax.nd rfl (by first | exact Or.inl rfl | exact Or.inr rfl) (pe_ifExp (pt_val (pe_bm0 F.plainAttrs_str F.slot_str_islower F.type_str_islower mt_islower (pv 1))) (pv 0) (pe_tup (pa_cons pe_int (pa_cons pe_int pa_nil)))))
        (pss_cons (ps_if (pt_cmpR op_eq (pe_bm0 F.plainAttrs_str F.slot_str_upper F.type_str_upper mt_upper (pv 1)) pe_str (nomark _)) (pss_one (ps_ret (pe_lst (pa_cons (pe_tup (pa_cons (pe_op op_add (pe_ix ix_tup (pv 3) pe_int (fun _ _ => rfl)) (pe_ix ix_list (pv 2) pe_int (fun _ _ => rfl))) (pa_cons (pe_ix ix_tup (pv 0) pe_int (fun _ _ => rfl)) pa_nil))) pa_nil)))) pss_nil)
        (pss_cons (ps_if (pt_cmpR op_eq (pe_bm0 F.plainAttrs_str F.slot_str_upper F.type_str_upper mt_upper (pv 1)) pe_str (nomark _)) (pss_one (ps_ret (pe_lst (pa_cons (pe_tup (pa_cons (pe_ix ix_tup (pv 0) pe_int (fun _ _ => rfl)) (pa_cons (pe_op op_add (pe_ix ix_tup (pv 3) pe_int (fun _ _ => rfl)) (pe_ix ix_list (pv 2) pe_int (fun _ _ => rfl))) pa_nil))) pa_nil)))) pss_nil)
        (pss_one (ps_ret (pe_lc rfl sc_qax.nd (pi_range3 (by rfl) T.bl_range (pa_cons pe_int (pa_cons (pe_callB call_len_seq (by rfl) T.bl_len (by decide +kernel) (pa_cons (pv 2) pa_nil)) (pa_cons pe_int pa_nil)))) (blkOk_by (own := [("k", 4)]) (by with_unfolding_all rfl)) (fun s H C cl fp => (pg_name (i := 4) sc_qax.nd rfl (Or.inl rfl))) (fun s H C cl fp => pts_nil) (fun s H C cl fp => (pe_tup (pa_cons (pe_op op_add (pe_ix (show IxR _ (rIxT K) from ix_tup) (pv 3) pe_int (fun _ _ => rfl)) (pe_ix (show IxR _ (rIxL K) from ix_list) (pv 2) (pv 4) (fun _ _ => rfl))) (pa_cons (pe_op op_add (pe_ix (show IxR _ (rIxT K) from ix_tup) (pv 3) pe_int (fun _ _ => rfl)) (pe_ix (show IxR _ (rIxL K) from ix_list) (pv 2) (pe_op op_add (pv 4) pe_int) (fun _ _ => rfl))) pa_nil)))))))))), ?_⟩
    refine base_is (decide (97 ≤ c)) (fun R hR => ⟨_, rfl, rfl, _, rfl, rfl, trivial, _, congrArg V.bl (islow hpl), hR⟩) hs rfl fun ba H1 kp hb => ?_
    generalize hbx : (if decide (97 ≤ c) = true then st.1 else 0) = bx at hb
    generalize hby : (if decide (97 ≤ c) = true then st.2 else 0) = by_ at hb
    have hl1 : LsI H1 p l := kp.at hl
    have hs1 : PtT K H1 sa st := hs.keep kp
    have l1 : (sg [c]).length ≤ 5592405 := by rw [sg_len]; simp
    have told : ∀ g, Sg35.capital c = g → Sg35.toldOf st (decide (97 ≤ c)) (Sg35.capital c) l = if g = 72 then [(bx + l.headD 0, st.2)] else if g = 86 then [(st.1, by_ + l.headD 0)] else Sg35.upTwo bx by_ l := fun g hg => by
      unfold Sg35.toldOf
      dsimp only
      rw [hbx, hby, hg]
    refine ⟨_, rfl, rfl, _, rfl, rfl, l1, rfl, decide (Sg35.capital c = 72), congrArg V.bl (upEq hpl (by decide +kernel)), ?_⟩
    by_cases h72 : Sg35.capital c = 72
    · rw [decide_eq_true h72]
      have hlen : l.length = 1 := by rw [har, h72]; rfl
      have tq := told 72 h72
      match l, hlen, hl1, k, tq with
      | [x0], _, hl1, k, tq =>
        refine iteT ⟨_, rfl, _, _, _, _, rfl, rfl, hb, rfl, _, rfl, _, _, _, _, rfl, rfl, SqL.of hl1, rfl, _, _, rfl, rfl, _, rfl, _, _, _, _, rfl, rfl, hs1, rfl, (by show 2 ≤ sizeLine; decide), fun t0 ht0 => ⟨(by show 1 ≤ sizeLine; decide), fun t1 ht1 => ?_⟩⟩
        refine k t1 [t0] _ (kp.trans ((Keep.new ht0).trans (Keep.new ht1))) (kp.free0 ((Keep.new (M := []) ht0).free0 ht1)) upd_same ?_
        rw [tq, if_pos rfl]
        exact .cons (SqT.of ((Keep.new (M := []) ht1).at upd_same)) .nil
    rw [decide_eq_false h72]
    refine iteF ⟨_, rfl, rfl, _, rfl, rfl, l1, rfl, decide (Sg35.capital c = 86), congrArg V.bl (upEq hpl (by decide +kernel)), ?_⟩
    by_cases h86 : Sg35.capital c = 86
    · rw [decide_eq_true h86]
      have hlen : l.length = 1 := by rw [har, h86]; rfl
      have tq := told 86 h86
      match l, hlen, hl1, k, tq with
      | [x0], _, hl1, k, tq =>
        refine iteT ⟨_, rfl, _, _, _, _, rfl, rfl, hs1, rfl, _, rfl, _, _, _, _, rfl, rfl, hb, rfl, _, rfl, _, _, _, _, rfl, rfl, SqL.of hl1, rfl, _, _, rfl, rfl, (by show 2 ≤ sizeLine; decide), fun t0 ht0 => ⟨(by show 1 ≤ sizeLine; decide), fun t1 ht1 => ?_⟩⟩
        refine k t1 [t0] _ (kp.trans ((Keep.new ht0).trans (Keep.new ht1))) (kp.free0 ((Keep.new (M := []) ht0).free0 ht1)) upd_same ?_
        rw [tq, if_neg (by decide), if_pos rfl]
        exact .cons (SqT.of ((Keep.new (M := []) ht1).at upd_same)) .nil
    rw [decide_eq_false h86]
    obtain ⟨n, hn, hn6⟩ : ∃ n, l.length = 2 * n ∧ n ≤ 3 := by
      unfold Sg35.arity at har
      split at har
      · exact ⟨1, by omega, by omega⟩
      · split at har
        · rename_i z; rcases z with z | z
          · exact absurd z h72
          · exact absurd z h86
        · split at har
          · exact ⟨2, by omega, by omega⟩
          · split at har
            · exact ⟨3, by omega, by omega⟩
            · exact ⟨0, by omega, by omega⟩
    have tq := told _ rfl
    rw [if_neg h72, if_neg h86] at tq
    rw [tq] at k
    have hul := upTwo_len (bx := bx) (by_ := by_) hn
    refine iteF ⟨_, rfl, p, _, rfl, .inl (SqL.of hl1), 0, _, 2, n, rfl, (by rw [List.length_map, hn]; exact rg2 (by omega)), fun D hD => ?_⟩
    refine ⟨fun i m H' => m = n - i ∧ i ≤ n ∧ Keep [] H1 H' ∧ ∃ ts, H' D = some (.lst (ts.map V.ref)) ∧ ts.length = i ∧ PtsAt K H' ts ((Sg35.upTwo bx by_ l).take i), ⟨_, rfl, Nat.zero_le _, Keep.new hD, [], upd_same, rfl, .nil⟩, ?_⟩
    rintro i m H2 ⟨rfl, hi, kp2, ts, hts, htl, hpts⟩
    by_cases hlt : i < n
    · refine .inr ⟨hlt, fun H' => Keep [] H1 H' ∧ ∃ ts, H' D = some (.lst (ts.map V.ref)) ∧ ts.length = i + 1 ∧ PtsAt K H' ts ((Sg35.upTwo bx by_ l).take (i + 1)), fun H' hq => ⟨n - (i + 1), by omega, rfl, hlt, hq.1, hq.2⟩, ?_⟩
      rintro y H3 ⟨rfl, rfl⟩
      obtain ⟨u, hu⟩ : ∃ u, l[2 * i]? = some u := ⟨_, List.getElem?_eq_getElem (by omega)⟩
      obtain ⟨v, hv⟩ : ∃ v, l[2 * i + 1]? = some v := ⟨_, List.getElem?_eq_getElem (by omega)⟩
      have hu' : atI (l.map V.int) (0 + (i : Int) * 2) = some (V.int u) := by
        rw [show (0 + (i : Int) * 2) = ((2 * i : Nat) : Int) by omega]
        exact atI_nat (by rw [List.getElem?_map, hu]; rfl)
      have hv' : atI (l.map V.int) (0 + (i : Int) * 2 + 1) = some (V.int v) := by
        rw [show (0 + (i : Int) * 2 + 1) = ((2 * i + 1 : Nat) : Int) by omega]
        exact atI_nat (by rw [List.getElem?_map, hv]; rfl)
      have hl3 : SqL K H3 p (l.map V.int) := SqL.of (kp2.at hl1)
      have hb3 : PtT K H3 ba (bx, by_) := hb.keep kp2
      refine ⟨rfl, _, rfl, _, _, _, _, rfl, rfl, hb3, rfl, _, rfl, _, rfl, _, _, _, _, rfl, rfl, hl3, hu', _, _, rfl, rfl, _, rfl, _, _, _, _, rfl, rfl, hb3, rfl, _, rfl, _, rfl, _, _, rfl, rfl, _, _, _, _, rfl, rfl, hl3, hv', _, _, rfl, rfl, (by show 2 ≤ sizeLine; decide), fun t0 ht0 => ?_⟩
      have k0 : Keep [] H3 (upd H3 t0 (.tup [.int (bx + u), .int (by_ + v)])) := Keep.new ht0
      refine ⟨_, k0.at hts, (by rw [List.length_map, sizeLine_eq]; omega), ?_, ts ++ [t0], ?_, ?_, ?_⟩
      · exact Keep.drop (kp2.trans k0) (Keep.set (by simp) (by rw [k0.at hts]; exact trivial)) hD
      · rw [upd_same, List.map_append]; rfl
      · rw [List.length_append, htl]; rfl
      · have kk : Keep [D] H3 (upd (upd H3 t0 (.tup [.int (bx + u), .int (by_ + v)])) D (.lst (ts.map V.ref ++ [V.ref t0]))) := k0.up.trans (Keep.set (by simp) (by rw [k0.at hts]; exact trivial))
        rw [List.take_succ, upTwo_get hu hv]
        refine (hpts.keep kk).snoc ?_
        exact SqT.of ((Keep.set (M := [D]) (by simp) (by rw [k0.at hts]; exact trivial)).tp _ _ upd_same)
    · have : i = n := by omega
      subst this
      refine .inl ⟨Nat.le_refl _, ?_⟩
      rw [List.take_of_length_le (by omega)] at hpts
      exact k D ts H2 (kp.trans kp2) (kp.free0 hD) hts hpts
end Pg
namespace Pg
open PySem PySem.Spec PyProof.Rows L2 TL
variable {P : Program} {w : World} {K : PySem.W.Frag} {mg : Str → Option Value} {base : Heap} {a : Adr}
theorem pnF_lines {u v z : V} : (pnF u v z).lookup ("lines" : Str) = some u := lk_here
theorem pnF_stands {u v z : V} : (pnF u v z).lookup ("stands" : Str) = some v := (lk_next (by decide +kernel)).trans lk_here
theorem pnF_begin {u v z : V} : (pnF u v z).lookup ("line_begin" : Str) = some z := (lk_next (by decide +kernel)).trans ((lk_next (by decide +kernel)).trans lk_here)
theorem pnF_no {u v z : V} {m : Str} (h1 : (m == "lines") = false) (h2 : (m == "stands") = false) (h3 : (m == "line_begin") = false) : (pnF u v z).lookup m = none := (lk_next h1).trans ((lk_next h2).trans ((lk_next h3).trans rfl))
theorem pnF_puts {u v z y : V} : putF "stands" y (pnF u v z) = pnF u y z := by
  unfold pnF
  rw [pf_next (by decide +kernel), pf_here]
theorem pnF_putb {u v z y : V} : putF "line_begin" y (pnF u v z) = pnF u v y := by
  unfold pnF
  rw [pf_next (by decide +kernel), pf_next (by decide +kernel), pf_here]
section
variable {H H' : Hp} {pn l : Addr} {rs : List Addr} {ls : Sg35.Lines} {st bg : Pt} {n : Nat}
theorem LinesAt.mem {r : Addr} (h : LinesAt K H rs ls) (hr : r ∈ rs) : ∃ ts, H r = some (.lst ts) := by
  induction h with
  | nil => simp at hr
  | cons x y ih =>
    rcases List.mem_cons.mp hr with rfl | hr
    · obtain ⟨ts, e, _⟩ := x; exact ⟨_, e⟩
    · exact ih hr
theorem PenAt.apart (h : PenAt a K H pn l rs ls st bg n) : pn ≠ l ∧ pn ∉ rs := by
  obtain ⟨dx, s, b, hob, _⟩ := h.ob
  refine ⟨ne_of hob h.lst (by intro z; cases z), fun hr => ?_⟩
  obtain ⟨ts, e⟩ := h.li.mem hr
  rw [hob] at e; cases e
theorem PenAt.keep {M : List Addr} (h : PenAt a K H pn l rs ls st bg n) (k : Keep M H H') (d : ∀ x ∈ pn :: l :: rs, x ∉ M) : PenAt a K H' pn l rs ls st bg n := by
  obtain ⟨dx, s, b, hob, h1, h2⟩ := h.ob
  exact ⟨⟨dx, s, b, k.kp _ _ hob (d _ (by simp)), h1.keep k, h2.keep k⟩, k.kp _ _ h.lst (d _ (by simp)), h.li.keep k fun r hr => d r (by simp [hr]), h.nd, h.nl, h.few, h.short⟩
theorem PenAt.keep0 (h : PenAt a K H pn l rs ls st bg n) (k : Keep [] H H') : PenAt a K H' pn l rs ls st bg n := h.keep k fun x _ => by simp
theorem PenAt.mono {m : Nat} (h : PenAt a K H pn l rs ls st bg n) (hm : n ≤ m) : PenAt a K H pn l rs ls st bg m := ⟨h.ob, h.lst, h.li, h.nd, h.nl, Nat.le_trans h.few hm, fun x hx => Nat.le_trans (h.short x hx) hm⟩
theorem PenAt.stand {p : Addr} {z : Pt} {dx s b : Addr} (h : PenAt a K H pn l rs ls st bg n) (hob : H pn = some (.ins a.cPen dx (pnF (.ref l) (.ref s) (.ref b)))) (hbg : PtT K H b bg) (hp : PtT K H p z) :
    PenAt a K (upd H pn (.ins a.cPen dx (pnF (.ref l) (.ref p) (.ref b)))) pn l rs ls z bg n ∧ Keep (pn :: l :: rs) H (upd H pn (.ins a.cPen dx (pnF (.ref l) (.ref p) (.ref b)))) := by
  obtain ⟨n1, n2⟩ := h.apart
  have k1 : Keep [pn] H (upd H pn (.ins a.cPen dx (pnF (.ref l) (.ref p) (.ref b)))) := Keep.set (by simp) (by rw [hob]; exact trivial)
  refine ⟨⟨⟨dx, p, b, upd_same, hp.keep k1, hbg.keep k1⟩, k1.one h.lst n1.symm, h.li.keep k1 fun r hr => ?_, h.nd, h.nl, h.few, h.short⟩, k1.mono fun x hx => by simp at hx; simp [hx]⟩
  simp only [List.mem_singleton]
  rintro rfl
  exact n2 hr
theorem PenAt.more {rs0 : List Addr} {r t : Addr} {ts : List Addr} {D : Sg35.Lines} {e : List Pt} {q : Pt} (h : PenAt a K H pn l (rs0 ++ [r]) (D ++ [e]) st bg n) (h0 : LinesAt K H rs0 D) (hr : H r = some (.lst (ts.map V.ref))) (hts : PtsAt K H ts e) (ht : PtT K H t q) :
    PenAt a K (upd H r (.lst (ts.map V.ref ++ [V.ref t]))) pn l (rs0 ++ [r]) (D ++ [e ++ [q]]) st bg (n + 1) ∧ Keep (pn :: l :: (rs0 ++ [r])) H (upd H r (.lst (ts.map V.ref ++ [V.ref t]))) := by
  obtain ⟨n1, n2⟩ := h.apart
  have k1 : Keep [r] H (upd H r (.lst (ts.map V.ref ++ [V.ref t]))) := Keep.set (by simp) (by rw [hr]; exact trivial)
  obtain ⟨dx, s, b, hob, hst, hbg⟩ := h.ob
  have npr : pn ≠ r := fun z => n2 (by rw [z]; simp)
  have nlr : l ≠ r := fun z => h.nl (by rw [z]; simp)
  have nd := h.nd
  refine ⟨⟨⟨dx, s, b, k1.one hob npr, hst.keep k1, hbg.keep k1⟩, k1.one h.lst nlr, ?_, h.nd, h.nl, ?_, ?_⟩, k1.mono fun x hx => by simp at hx; simp [hx]⟩
  · refine (h0.keep k1 fun x hx => ?_).snoc ⟨ts ++ [t], by rw [upd_same, List.map_append]; rfl, (hts.keep k1).snoc (ht.keep k1)⟩
    simp only [List.mem_singleton]
    rintro rfl
    rw [List.nodup_append] at nd
    exact nd.2.2 x hx x (by simp) rfl
  · have := h.few
    simp only [List.length_append, List.length_cons, List.length_nil] at this ⊢
    omega
  · intro x hx
    rcases List.mem_append.mp hx with hx | hx
    · exact Nat.le_succ_of_le (h.short x (List.mem_append_left _ hx))
    · rw [List.mem_singleton.mp hx, List.length_append]
      have := h.short e (by simp)
      simp only [List.length_cons, List.length_nil]
      omega
theorem PenAt.line {r t : Addr} {q : Pt} (h : PenAt a K H pn l rs ls st bg n) (hr : H r = none) (ht : PtT K H t q) :
    PenAt a K (upd (upd H r (.lst [V.ref t])) l (.lst (rs.map V.ref ++ [V.ref r]))) pn l (rs ++ [r]) (ls ++ [[q]]) st bg (n + 1) ∧ Keep (pn :: l :: rs) H (upd (upd H r (.lst [V.ref t])) l (.lst (rs.map V.ref ++ [V.ref r]))) := by
  obtain ⟨n1, n2⟩ := h.apart
  have k0 : Keep [] H (upd H r (.lst [V.ref t])) := Keep.new hr
  have hl := k0.at h.lst
  have k1 : Keep [l] (upd H r (.lst [V.ref t])) (upd (upd H r (.lst [V.ref t])) l (.lst (rs.map V.ref ++ [V.ref r]))) := Keep.set (by simp) (by rw [hl]; exact trivial)
  obtain ⟨dx, s, b, hob, hst, hbg⟩ := h.ob
  have nlr : l ≠ r := ne_of_none h.lst hr
  have nrs : r ∉ rs := fun z => by
    obtain ⟨ts, e⟩ := h.li.mem z
    rw [hr] at e; cases e
  refine ⟨⟨⟨dx, s, b, k1.one (k0.at hob) n1, (hst.keep k0).keep k1, (hbg.keep k0).keep k1⟩, by rw [upd_same, List.map_append]; rfl, ?_, nd_snoc h.nd nrs, ?_, ?_, ?_⟩, (k0.up.trans k1).mono fun x hx => by simp at hx; simp [hx]⟩
  · refine ((h.li.keep k0 fun x _ => by simp).keep k1 fun x hx => ?_).snoc ⟨[t], k1.one upd_same nlr.symm, .cons ((ht.keep k0).keep k1) .nil⟩
    simp only [List.mem_singleton]
    rintro rfl
    exact h.nl hx
  · intro z
    rcases List.mem_append.mp z with z | z
    · exact h.nl z
    · exact nlr (List.mem_singleton.mp z)
  · have := h.few
    simp only [List.length_append, List.length_cons, List.length_nil]
    omega
  · intro x hx
    rcases List.mem_append.mp hx with hx | hx
    · exact Nat.le_succ_of_le (h.short x hx)
    · rw [List.mem_singleton.mp hx]
      simp only [List.length_cons, List.length_nil]
      omega
end
theorem ok_qcf (T : Txt K mg a) : O_qcf P w K mg base a := by
  refine T.fn_qcf.okX sc_qcf (fun vs H Q E h => ?_) (fun cdv A outer s H vs Q E hr h => ?_)
  · obtain ⟨x, dx, rfl, _⟩ := h
    rfl
  · obtain ⟨x, dx, rfl, hx, k⟩ := h
    refine ⟨_, (pss_cons (ps_fld (pv 0) (pe_lst pa_nil) rfl)
        (pss_cons (ps_fld (pv 0) (pe_tup (pa_cons pe_int (pa_cons pe_int pa_nil))) rfl)
        (pss_one (ps_fld (pv 0) (pe_tup (pa_cons pe_int (pa_cons pe_int pa_nil))) rfl)))), ?_⟩
    refine ⟨(by show 0 ≤ sizeLine; decide), fun l hl => ?_⟩
    have nxl : x ≠ l := ne_of_none hx hl
    refine ⟨_, rfl, x, a.cPen, dx, _, rfl, (by rw [upd_ne nxl]; exact hx), T.cl_Pen, T.na_Pen_lines, (by show 0 < 1000; decide), ?_⟩
    refine ⟨(by show 2 ≤ sizeLine; decide), fun t1 ht1 => ⟨_, rfl, x, a.cPen, dx, _, rfl, (Keep.new (M := []) ht1).at upd_same, T.cl_Pen, T.na_Pen_stands, (by show 1 < 1000; decide), ?_⟩⟩
    refine ⟨(by show 2 ≤ sizeLine; decide), fun t2 ht2 => ⟨_, rfl, x, a.cPen, dx, _, rfl, (Keep.new (M := []) ht2).at upd_same, T.cl_Pen, T.na_Pen_line_begin, (by rw [pf_nil, pf_next (by decide +kernel), pf_nil]; show 2 < 1000; decide), ?_⟩⟩
    show Q _ (upd (upd (upd (upd (upd (upd H l _) x _) t1 _) x _) t2 _) x _)
    rw [pf_nil, pf_next (by decide +kernel), pf_nil, pf_next (by decide +kernel), pf_next (by decide +kernel), pf_nil] at *
    have m1 : ∀ (o : HO) (G : Hp) (fs : List (Str × V)), G x = some (.ins a.cPen dx fs) → Keep [x] G (upd G x o) := fun o G fs e => Keep.set (by simp) (by rw [e]; exact trivial)
    have K1 : Keep [x] H (upd H l (.lst [])) := Keep.new hl
    have K2 := K1.trans (m1 (.ins a.cPen dx [("lines", V.ref l)]) _ _ (by rw [upd_ne nxl]; exact hx))
    have K3 : Keep [x] H (upd (upd (upd H l (.lst [])) x (.ins a.cPen dx [("lines", V.ref l)])) t1 (.tup [.int 0, .int 0])) := K2.trans (Keep.new ht1)
    have e3 : (upd (upd (upd H l (.lst [])) x (.ins a.cPen dx [("lines", V.ref l)])) t1 (.tup [.int 0, .int 0])) x = some (.ins a.cPen dx [("lines", V.ref l)]) := by rw [upd_ne (ne_of_none (by exact upd_same) ht1)]; exact upd_same
    have K4 := m1 (.ins a.cPen dx [("lines", V.ref l), ("stands", V.ref t1)]) _ _ e3
    have K5 := K4.trans (Keep.new (M := [x]) (o := .tup [.int 0, .int 0]) ht2)
    have e5 := (Keep.new (M := []) (o := .tup [.int 0, .int 0]) ht2).at (upd_same (H := (upd (upd (upd H l (.lst [])) x (.ins a.cPen dx [("lines", V.ref l)])) t1 (.tup [.int 0, .int 0]))) (a := x) (o := .ins a.cPen dx [("lines", V.ref l), ("stands", V.ref t1)]))
    have K6 := m1 (.ins a.cPen dx [("lines", V.ref l), ("stands", V.ref t1), ("line_begin", V.ref t2)]) _ _ e5
    refine k l _ (K3.trans (K5.trans K6)) hl ⟨⟨dx, t1, t2, upd_same, ?_, ?_⟩, ?_, .nil, by simp, by simp, by simp, by simp⟩
    · exact SqT.of (K6.tp _ _ (K5.tp _ _ upd_same))
    · exact SqT.of (K6.tp _ _ upd_same)
    · have hl1 : (upd (upd H l (.lst [])) x (.ins a.cPen dx [("lines", V.ref l)])) l = some (.lst []) := by rw [upd_ne nxl.symm]; exact upd_same
      exact (K5.trans K6).one ((Keep.new (M := []) ht1).at hl1) nxl.symm
theorem ok_qai (T : Txt K mg a) (G_fine : O_fine P w K mg base a) : O_qai P w K mg base a := by
  refine T.fn_qai.okX sc_qai (fun vs H Q E h => ?_) (fun cdv A outer s H vs Q E hr h => ?_)
  · obtain ⟨pn, l, p, rs, ls, st, bg, z, n, rfl, _⟩ := h
    rfl
  · obtain ⟨pn, l, p, rs, ls, st, bg, z, n, rfl, hP, hp, hn, k⟩ := h
    refine ⟨_, (pss_cons (ps_expr (pe_bm F.plainAttrs_list F.slot_list_append F.type_list_append mt_append (pe_fld (pv 0) rfl) (pa_cons (pe_lst (pa_cons (pe_call G_fine (hr.mono (by decide)) (by rfl) T.mg_fine T.fn_fine.kp T.b_fine .nil pass0 (pa_cons (pv 1) pa_nil)) pa_nil)) pa_nil)))
        (pss_cons (ps_fld (pv 0) (pv 1) rfl)
        (pss_one (ps_fld (pv 0) (pv 1) rfl)))), ?_⟩
    obtain ⟨dx, s, b, hob, hst, hbg⟩ := hP.ob
    refine ⟨_, rfl, pn, a.cPen, dx, _, _, rfl, hob, T.cl_Pen, T.na_Pen_lines, pnF_lines, .inl ⟨rfl, _, SqL.of hP.lst⟩, _, rfl, p, z, rfl, hp, fun t H1 kp1 ht0 ht1 => ?_⟩
    refine ⟨(by show 1 ≤ sizeLine; decide), fun r hr => ?_⟩
    have hP1 := hP.keep0 kp1
    have hl2 : upd H1 r (.lst [.ref t]) l = some (.lst (rs.map V.ref)) := (Keep.new (M := []) hr).at hP1.lst
    refine ⟨l, _, _, rfl, rfl, hl2, (by rw [List.length_map, hP.li.length]; have := hP.few; rw [sizeLine_eq]; omega), ?_⟩
    obtain ⟨hP3, k3⟩ := hP1.line (r := r) (t := t) (q := Sg35.wh z) hr (SqT.of ht1)
    obtain ⟨n1, n2⟩ := hP.apart
    have k13 : Keep [l] H1 (upd (upd H1 r (.lst [V.ref t])) l (.lst (rs.map V.ref ++ [V.ref r]))) := (Keep.new hr).trans (Keep.set (by simp) (by rw [hl2]; exact trivial))
    have hob3 := k13.one (kp1.at hob) n1
    have hp3 : PtT K (upd (upd H1 r (.lst [V.ref t])) l (.lst (rs.map V.ref ++ [V.ref r]))) p z := (hp.keep kp1).keep k13
    generalize upd (upd H1 r (.lst [V.ref t])) l (.lst (rs.map V.ref ++ [V.ref r])) = H3 at *
    refine ⟨_, rfl, _, rfl, pn, a.cPen, dx, _, rfl, hob3, T.cl_Pen, T.na_Pen_stands, (by show 3 < 1000; decide), _, rfl, _, rfl, pn, a.cPen, dx, _, rfl, upd_same, T.cl_Pen, T.na_Pen_line_begin, (by rw [pnF_puts]; show 3 < 1000; decide), ?_⟩
    show Q _ (upd (upd H3 pn _) pn _)
    rw [upd_upd, pnF_puts, pnF_putb]
    have k4 : Keep [pn] H3 (upd H3 pn (.ins a.cPen dx (pnF (.ref l) (.ref p) (.ref p)))) := Keep.set (by simp) (by rw [hob3]; exact trivial)
    obtain ⟨m1, m2⟩ := hP3.apart
    refine k (rs ++ [r]) _ ((kp1.up.trans k3).trans (k4.mono fun x hx => by simp at hx; simp [hx])) (fun x hx => ?_) ⟨⟨dx, p, p, upd_same, hp3.keep k4, hp3.keep k4⟩, k4.one hP3.lst m1.symm, hP3.li.keep k4 (fun x hx => ?_), hP3.nd, hP3.nl, hP3.few, hP3.short⟩
    · rcases List.mem_append.mp hx with hx | hx
      · exact .inl hx
      · rw [List.mem_singleton.mp hx]; exact .inr (kp1.free0 hr)
    · simp only [List.mem_singleton]
      rintro rfl
      exact m2 hx
theorem ok_qah (T : Txt K mg a) (G_fine : O_fine P w K mg base a) : O_qah P w K mg base a := by
  refine T.fn_qah.okX sc_qah (fun vs H Q E h => ?_) (fun cdv A outer s H vs Q E hr h => ?_)
  · obtain ⟨pn, l, p, rs, D, e, st, bg, z, n, rfl, _⟩ := h
    rfl
  · obtain ⟨pn, l, p, rs, D, e, st, bg, z, n, rfl, hP, hp, hn, k⟩ := h
    refine ⟨_, (pss_cons (ps_expr (pe_bm F.plainAttrs_list F.slot_list_append F.type_list_append mt_append (pe_ix ix_list (pe_fld (pv 0) rfl) (pe_un un_neg pe_int) (fun _ _ => rfl)) (pa_cons (pe_call G_fine (hr.mono (by decide)) (by rfl) T.mg_fine T.fn_fine.kp T.b_fine .nil pass0 (pa_cons (pv 1) pa_nil)) pa_nil)))
        (pss_one (ps_fld (pv 0) (pv 1) rfl))), ?_⟩
    obtain ⟨dx, s, b, hob, hst, hbg⟩ := hP.ob
    obtain ⟨rs0, r, rfl, h0, ts, hr, hts⟩ := hP.li.split
    refine ⟨_, rfl, pn, a.cPen, dx, _, _, rfl, hob, T.cl_Pen, T.na_Pen_lines, pnF_lines, _, rfl, _, _, _, V.ref r, rfl, rfl, SqL.of hP.lst, (by rw [List.map_append]; exact atI_last _ _), .inl ⟨rfl, _, SqL.of hr⟩, _, rfl, p, z, rfl, hp, fun t H1 kp1 ht0 ht1 => ?_⟩
    have hP1 := hP.keep0 kp1
    have hlen : ts.length ≤ n := by
      rw [hts.length]
      exact hP.short e (by simp)
    refine ⟨r, _, _, rfl, rfl, kp1.at hr, (by rw [List.length_map, sizeLine_eq]; omega), ?_⟩
    obtain ⟨hP3, k3⟩ := hP1.more (t := t) (q := Sg35.wh z) (h0.keep kp1 fun x _ => by simp) (kp1.at hr) (hts.keep kp1) (SqT.of ht1)
    have kr : Keep [r] H1 (upd H1 r (.lst (ts.map V.ref ++ [V.ref t]))) := Keep.set (by simp) (by rw [kp1.at hr]; exact trivial)
    obtain ⟨n1, n2⟩ := hP.apart
    have npr : pn ≠ r := fun z => n2 (by rw [z]; simp)
    have hob3 := kr.one (kp1.at hob) npr
    have hp3 := (hp.keep kp1).keep kr
    have hbg3 := (hbg.keep kp1).keep kr
    generalize upd H1 r (.lst (ts.map V.ref ++ [V.ref t])) = H3 at *
    refine ⟨_, rfl, _, rfl, pn, a.cPen, dx, _, rfl, hob3, T.cl_Pen, T.na_Pen_stands, (by show 3 < 1000; decide), ?_⟩
    show Q _ (upd H3 pn _)
    rw [pnF_puts]
    obtain ⟨hP4, k4⟩ := hP3.stand hob3 hbg3 hp3
    exact k (rs0 ++ [r]) _ ((kp1.up.trans k3).trans k4) (fun x hx => .inl hx) hP4
end Pg
namespace Pg
open PySem PySem.Spec PyProof.Rows L2 TL
variable {P : Program} {w : World} {K : PySem.W.Frag} {mg : Str → Option Value} {base : Heap} {a : Adr}
theorem PtsAt.last {H : Hp} : ∀ {ts : List Addr} {ps : List Pt} {z : Pt}, PtsAt K H ts (ps ++ [z]) → ∃ ts0 tz, ts = ts0 ++ [tz] ∧ PtT K H tz z
  | _, [], z, h => by
    cases h with
    | cons x y => cases y; exact ⟨[], _, rfl, x⟩
  | _, p :: ps, z, h => by
    cases h with
    | cons x y =>
      obtain ⟨ts0, tz, e, hz⟩ := PtsAt.last (ps := ps) y
      exact ⟨_ :: ts0, tz, by rw [e]; rfl, hz⟩
theorem curve_len (cs : List Pt) : (Sg35.curve cs).length = 16 := by unfold Sg35.curve; simp
theorem curve_next {cs : List Pt} {i : Nat} (hi : i < 16) : (Sg35.curve cs).take (i + 1) = (Sg35.curve cs).take i ++ [Sg35.weigh cs (Sg35.weights ((i : Int) + 1) cs.length)] := by
  rw [List.take_succ]
  congr 1
  unfold Sg35.curve
  rw [List.getElem?_map, List.getElem?_range hi]
  rfl
theorem PMv.mono {H : Hp} {pn l : Addr} {rs : List Addr} {ls : Sg35.Lines} {st bg : Pt} {n m : Nat} {R : Hp → Prop} (h : PMv a K H pn l rs ls st bg m R) (hm : n ≤ m) : PMv a K H pn l rs ls st bg n R :=
  fun rs' H' k d hP => h rs' H' k d (hP.mono hm)
theorem ok_qan (T : Txt K mg a) (G_qci : O_qci P w K mg base a) (G_qal : O_qal P w K mg base a) : O_qan P w K mg base a := by
  refine T.fn_qan.okX sc_qan (fun vs H Q E h => ?_) (fun cdv A outer s H vs Q E hr h => ?_)
  · obtain ⟨pn, l, p, rs, ts, D, e, st, bg, z, told, n, rfl, _⟩ := h
    rfl
  · obtain ⟨pn, l, p, rs, ts, D, e, st, bg, z, told, n, rfl, hP, hp, hts, htl, hnr, hns, hn, hpf, k⟩ := h
    refine ⟨_, (pss_cons (ps_set (i := 2) sc_qan.nd rfl (by first | exact Or.inl rfl | exact Or.inr rfl) (pe_op op_cat (pe_lst (pa_cons (pe_fld (pv 0) rfl) pa_nil)) (pv 1)))
        (pss_cons (ps_for PassesOwn.leaving rfl (pi_range2 (by rfl) T.bl_range (pa_cons pe_int (pa_cons (pe_op op_add (pe_globV (by rfl) T.ct_CURVE_PIECES) pe_int) pa_nil))) (pg_name (i := 3) sc_qan.nd rfl (Or.inl rfl)) (pss_one (ps_expr (pe_bm F.plainAttrs_list F.slot_list_append F.type_list_append mt_append (pe_ix ix_list (pe_fld (pv 0) rfl) (pe_un un_neg pe_int) (fun _ _ => rfl)) (pa_cons (pe_call G_qci (hr.mono (by decide)) (by rfl) T.mg_qci T.fn_qci.kp T.b_qci .nil passW (pa_cons (pv 2) (pa_cons (pe_call G_qal (hr.mono (by decide)) (by rfl) T.mg_qal T.fn_qal.kp T.b_qal .nil passW (pa_cons (pv 3) (pa_cons (pe_callB call_len_seq (by rfl) T.bl_len (by decide +kernel) (pa_cons (pv 2) pa_nil)) pa_nil))) pa_nil))) pa_nil)))))
        (pss_one (ps_fld (pv 0) (pe_ix ix_list (pv 1) (pe_un un_neg pe_int) (fun _ _ => rfl)) rfl)))), ?_⟩
    obtain ⟨dx, s, b, hob, hst, hbg⟩ := hP.ob
    have htslen : ts.length ≤ 3 := by
      rw [hts.length, List.length_append]
      simp only [List.length_cons, List.length_nil]
      omega
    refine ⟨_, rfl, pn, a.cPen, dx, _, _, rfl, hob, T.cl_Pen, T.na_Pen_stands, pnF_stands, (by show 1 ≤ sizeLine; decide), fun q hq => ⟨_, rfl, q, p, _, _, rfl, rfl, upd_same, (Keep.new (M := []) hq).at hp, (by rw [List.length_map, sizeLine_eq]; simp only [List.length_cons, List.length_nil]; omega), fun cr hcr => ?_⟩⟩
    have k2 : Keep [] H (upd (upd H q (.lst [V.ref s])) cr (.lst ([V.ref s] ++ ts.map V.ref))) := (Keep.new hq).trans (Keep.new hcr)
    have hcrn : H cr = none := (Keep.new (M := []) hq).free0 hcr
    have hcr2 : (upd (upd H q (.lst [V.ref s])) cr (.lst ([V.ref s] ++ ts.map V.ref))) cr = some (.lst ((s :: ts).map V.ref)) := upd_same
    generalize upd (upd H q (.lst [V.ref s])) cr (.lst ([V.ref s] ++ ts.map V.ref)) = H2 at *
    have hcl : ((s :: ts).map V.ref).length = (st :: (told ++ [z])).length := by
      rw [List.length_map, List.length_cons, List.length_cons, hts.length]
    have hcf : cr ∉ pn :: l :: rs := by
      intro hm
      rcases List.mem_cons.mp hm with rfl | hm
      · rw [hob] at hcrn; cases hcrn
      · rcases List.mem_cons.mp hm with rfl | hm
        · rw [hP.lst] at hcrn; cases hcrn
        · obtain ⟨_, e⟩ := hP.li.mem hm; rw [e] at hcrn; cases hcrn
    refine ⟨_, _, rfl, rfl, 1, 17, rfl, (by decide), for_range (lo := 1) (n := 16) (fun i σ H' => ∃ kk, σ = [some (.ref pn), some (.ref p), some (.ref cr), kk] ∧ Keep (pn :: l :: rs) H H' ∧ PenAt a K H' pn l rs (D ++ [e ++ (Sg35.curve (st :: (told ++ [z]))).take i]) st bg (n + i) ∧
      H' cr = some (.lst ((s :: ts).map V.ref)) ∧ H' p = some (.lst (ts.map V.ref))) ⟨none, rfl, k2.up, by simpa using hP.keep0 k2, hcr2, k2.at hp⟩ ?_ ?_⟩
    · rintro i σ H3 hi ⟨kk, rfl, kp3, hP3, hcr3, hp3⟩
      obtain ⟨dx3, s3, b3, hob3, hst3, hbg3⟩ := hP3.ob
      obtain ⟨rs0, r, er, h0, ts3, hr3, hts3⟩ := hP3.li.split
      have hPs : PtsAt K H3 (s :: ts) (st :: (told ++ [z])) := .cons (hst.keep kp3) (hts.keep kp3)
      refine ⟨_, rfl, pn, a.cPen, dx3, _, _, rfl, hob3, T.cl_Pen, T.na_Pen_lines, pnF_lines, _, rfl, _, _, _, V.ref r, rfl, rfl, SqL.of hP3.lst, (by rw [er, List.map_append]; exact atI_last _ _), .inl ⟨rfl, _, SqL.of hr3⟩, _, rfl, _, rfl, _, rfl, cr, _, rfl, .inl (SqL.of hcr3),
        i, ((s :: ts).map V.ref).length, rfl, hi, fun t H4 kp4 hw => ?_⟩
      rw [hcl] at hw
      refine ⟨cr, t, s :: ts, st :: (told ++ [z]), _, rfl, kp4.at hcr3, hPs.keep kp4, ?_, hw, ?_, ?_, fun u H5 kp5 hu => ?_⟩
      · intro y hy
        rcases List.mem_cons.mp hy with rfl | hy
        · exact hns
        · exact hnr y hy
      · rw [List.length_cons, List.length_append]; simp only [List.length_cons, List.length_nil]; omega
      · unfold Sg35.weights
        rw [List.length_cons, List.length_append]
        simp only [List.length_cons, List.length_nil]
        split
        · simp only [List.length_cons, List.length_nil]; omega
        · simp only [List.length_cons, List.length_nil]; omega
      have k35 := kp4.trans kp5
      have hlen : ts3.length ≤ n + i := by
        rw [hts3.length]
        exact hP3.short _ (by simp)
      refine ⟨r, _, _, rfl, rfl, k35.at hr3, (by rw [List.length_map, sizeLine_eq]; omega), ?_⟩
      subst er
      obtain ⟨hP6, k6⟩ := (hP3.keep0 k35).more (t := u) (q := Sg35.weigh (st :: (told ++ [z])) (Sg35.weights ((i : Int) + 1) (st :: (told ++ [z])).length)) (h0.keep k35 fun x _ => by simp) (k35.at hr3) (hts3.keep k35) hu
      refine ⟨_, rfl, kp3.trans (k35.up.trans k6), ?_, k6.kp _ _ (k35.at hcr3) hcf, k6.kp _ _ (k35.at hp3) hpf⟩
      rw [curve_next hi, ← List.append_assoc]
      exact hP6
    · rintro σ H3 ⟨kk, rfl, kp3, hP3, hcr3, hp3⟩
      obtain ⟨dx3, s3, b3, hob3, hst3, hbg3⟩ := hP3.ob
      obtain ⟨ts0, tz, ets, htz⟩ := PtsAt.last hts
      refine ⟨_, rfl, _, rfl, _, _, _, V.ref tz, rfl, rfl, SqL.of hp3, (by rw [ets, List.map_append]; exact atI_last _ _), _, rfl, pn, a.cPen, dx3, _, rfl, hob3, T.cl_Pen, T.na_Pen_stands, (by show 3 < 1000; decide), ?_⟩
      show Q _ (upd H3 pn _)
      rw [pnF_puts]
      obtain ⟨hP4, k4⟩ := hP3.stand hob3 hbg3 (htz.keep kp3)
      rw [List.take_of_length_le (by rw [curve_len]; exact Nat.le_refl _)] at hP4
      exact k rs _ (kp3.trans k4) (fun x hx => .inl hx) hP4
theorem told_len {st : Pt} {rel : Bool} {c : Nat} {row : List Int} (h : row.length = Sg35.arity (Sg35.capital c)) (h0 : Sg35.arity (Sg35.capital c) ≠ 0) :
    (Sg35.toldOf st rel (Sg35.capital c) row).length = if Sg35.capital c = 81 then 2 else if Sg35.capital c = 67 then 3 else 1 := by
  generalize Sg35.capital c = g at *
  unfold Sg35.toldOf
  dsimp only
  unfold Sg35.arity at h h0
  by_cases g1 : g = 77 ∨ g = 76
  · rw [if_pos g1] at h
    rw [if_neg (show ¬ g = 72 by omega), if_neg (show ¬ g = 86 by omega), if_neg (show ¬ g = 81 by omega), if_neg (show ¬ g = 67 by omega)]
    exact upTwo_len (n := 1) h
  · rw [if_neg g1] at h h0
    by_cases g2 : g = 72 ∨ g = 86
    · rcases g2 with rfl | rfl <;> rfl
    · rw [if_neg g2] at h h0
      rw [if_neg (show ¬ g = 72 by omega), if_neg (show ¬ g = 86 by omega)]
      by_cases g3 : g = 81
      · rw [if_pos g3] at h ⊢
        exact upTwo_len (n := 2) h
      · rw [if_neg g3] at h h0 ⊢
        by_cases g4 : g = 67
        · rw [if_pos g4] at h ⊢
          exact upTwo_len (n := 3) h
        · rw [if_neg g4] at h0
          exact absurd rfl h0
theorem pl_arity {c : Nat} (h : Sg35.pathLetter c = true) (h90 : Sg35.capital c ≠ 90) : Sg35.arity (Sg35.capital c) ≠ 0 := by
  unfold Sg35.pathLetter at h
  rw [decide_eq_false h90, Bool.false_or, Bool.and_eq_true, decide_eq_true_eq] at h
  exact h.2
theorem snoc_of {α : Type} {l : List α} (h : l ≠ []) : ∃ D e, l = D ++ [e] := ⟨l.dropLast, l.getLast h, (List.dropLast_concat_getLast h).symm⟩
theorem decN (n k : Nat) : decide (V.int (n : Int) = V.int (k : Int)) = decide (n = k) := by
  rw [Bool.eq_iff_iff, decide_eq_true_eq, decide_eq_true_eq]
  constructor
  · intro z; injection z with z; omega
  · intro z; rw [z]
theorem ok_qbl (T : Txt K mg a) (G_qax : O_qax P w K mg base a) (G_qaw : O_qaw P w K mg base a) (G_qai : O_qai P w K mg base a) (G_qah : O_qah P w K mg base a) (G_qan : O_qan P w K mg base a) : O_qbl P w K mg base a := by
  refine T.fn_qbl.okX sc_qbl (fun vs H Q E h => ?_) (fun cdv A outer s H vs Q E hr h => ?_)
  · obtain ⟨pn, l, p, rs, ls, st, bg, n, x, c, row, begins, rfl, _⟩ := h
    rfl
  · obtain ⟨pn, l, p, rs, ls, st, bg, n, x, c, row, begins, rfl, hP, hL, h90, hrow, har, hb77, hbls, hns, hn, k1, k2⟩ := h
    refine ⟨_, (pss_cons (ps_set (i := 4) sc_qbl.nd rfl (by first | exact Or.inl rfl | exact Or.inr rfl) (pe_call G_qax (hr.mono (by decide)) (by rfl) T.mg_qax T.fn_qax.kp T.b_qax .nil passW (pa_cons (pe_fld (pv 0) rfl) (pa_cons (pv 1) (pa_cons (pv 2) pa_nil)))))
        (pss_cons (ps_for PassesOwn.leaving rfl (pi_list (pv 4)) (pg_name (i := 5) sc_qbl.nd rfl (Or.inl rfl)) (pss_one (ps_expr (pe_call G_qaw (hr.mono (by decide)) (by rfl) T.mg_qaw T.fn_qaw.kp T.b_qaw .nil passW (pa_cons (pv 5) pa_nil)))))
        (pss_one (ps_if (pt_val (pv 3)) (pss_one (ps_expr (pe_meth (pv 0) T.cl_Pen T.me_qai G_qai (hr.mono (by decide)) T.b_qai .nil passW (pa_cons (pe_ix ix_list (pv 4) pe_int (fun _ _ => rfl)) pa_nil)))) (pss_one (ps_if (pt_cmpR op_eq (pe_callB call_len_seq (by rfl) T.bl_len (by decide +kernel) (pa_cons (pv 4) pa_nil)) pe_int (nomark _)) (pss_one (ps_expr (pe_meth (pv 0) T.cl_Pen T.me_qah G_qah (hr.mono (by decide)) T.b_qah .nil passW (pa_cons (pe_ix ix_list (pv 4) pe_int (fun _ _ => rfl)) pa_nil)))) (pss_one (ps_expr (pe_meth (pv 0) T.cl_Pen T.me_qan G_qan (hr.mono (by decide)) T.b_qan .nil passW (pa_cons (pv 4) pa_nil)))))))))), ?_⟩
    obtain ⟨dx, s, b, hob, hst, hbg⟩ := hP.ob
    refine ⟨_, rfl, pn, a.cPen, dx, _, _, rfl, hob, T.cl_Pen, T.na_Pen_stands, pnF_stands, _, rfl, _, rfl, s, p, st, _, c, row, rfl, hst, hL, h90, hrow, har, fun t ts H1 kp1 ht0 ht1 hts => ?_⟩
    have htl := told_len (st := st) (rel := decide (97 ≤ c)) har (pl_arity hL.2 h90)
    generalize hT : Sg35.toldOf st (decide (97 ≤ c)) (Sg35.capital c) row = told at *
    have hP1 := hP.keep0 kp1
    have htf : t ∉ pn :: l :: rs := by
      intro hm
      rcases List.mem_cons.mp hm with rfl | hm
      · rw [hob] at ht0; cases ht0
      · rcases List.mem_cons.mp hm with rfl | hm
        · rw [hP.lst] at ht0; cases ht0
        · obtain ⟨_, e⟩ := hP.li.mem hm; rw [e] at ht0; cases ht0
    refine ⟨_, rfl, t, rfl, ⟨_, SqL.of ht1⟩, for_list (xs := ts.map V.ref) (fun i σ H' => ∃ pl, σ = [some (.ref pn), some (.str x), some (.ref p), some (.bl begins), some (.ref t), pl] ∧ H' = H1 ∧ ∀ (j : Nat) (y : Pt), j < i → told[j]? = some y → Sg35.nearP y = true) ⟨none, rfl, rfl, fun j y hj => by omega⟩ (fun i σ H' _ hq => by obtain ⟨_, _, rfl, _⟩ := hq; exact SqL.of ht1) ?_ ?_⟩
    · rintro i y σ H' hi ⟨pl, rfl, rfl, hnear⟩
      rw [List.getElem?_map] at hi
      obtain ⟨ty, hty, rfl⟩ := Option.map_eq_some_iff.mp hi
      have hlt : i < told.length := by
        rw [← hts.length]
        exact (List.getElem?_eq_some_iff.mp hty).1
      obtain ⟨y, hy⟩ : ∃ y, told[i]? = some y := ⟨_, List.getElem?_eq_getElem hlt⟩
      obtain ⟨ty', hty', hpt⟩ := hts.get hy
      rw [hty] at hty'
      cases hty'
      refine ⟨_, rfl, ty, y, rfl, hpt, fun hf => k1 ?_, fun hok => ⟨_, rfl, rfl, fun j u hj hu => ?_⟩⟩
      · rw [List.all_eq_false]
        exact ⟨y, List.mem_of_getElem? hy, by rw [hf]; exact Bool.false_ne_true⟩
      · by_cases hji : j = i
        · subst hji; rw [hy] at hu; cases hu; exact hok
        · exact hnear j u (by omega) hu
    rintro σ H' ⟨pl, rfl, rfl, hnear⟩
    have hall : told.all Sg35.nearP = true := by
      rw [List.all_eq_true]
      intro y hy
      obtain ⟨j, hj⟩ := List.mem_iff_getElem?.mp hy
      refine hnear j y ?_ hj
      rw [List.length_map, hts.length]
      exact (List.getElem?_eq_some_iff.mp hj).1
    obtain ⟨dx1, s1, b1, hob1, _, _⟩ := hP1.ob
    have one : told.length = 1 → ∃ z, told = [z] := fun h => by
      match told, h with
      | [z], _ => exact ⟨z, rfl⟩
    refine ⟨_, rfl, _, rfl, ?_⟩
    cases begins with
    | true =>
      have h77 := hb77 rfl
      rw [if_neg (by rw [h77]; decide), if_neg (by rw [h77]; decide)] at htl
      obtain ⟨z, rfl⟩ := one htl
      obtain ⟨t0, ht0', hpt⟩ := hts.get (i := 0) rfl
      refine iteT ⟨_, rfl, pn, dx1, _, rfl, hob1, pnF_no (by decide +kernel) (by decide +kernel) (by decide +kernel), _, rfl, _, _, _, V.ref t0, rfl, rfl, SqL.of ht1, atI_nat (j := 0) (by rw [List.getElem?_map, ht0']; rfl), pn, l, t0, rs, ls, st, bg, z, n, rfl, hP1, hpt, hn, ?_⟩
      have kk := k2 hall _ _ _ rfl
      exact fun rs' H2 kp2 d hP2 => kk rs' H2 (kp1.up.trans kp2) (fun x hx => (d x hx).imp id fun h => kp1.free0 h) (hP2.mono (by omega))
    | false =>
      obtain ⟨D, e, rfl⟩ := snoc_of (hbls rfl)
      refine iteF ⟨_, rfl, t, _, rfl, .inl (SqL.of ht1), rfl, decide (told.length = 1), ?_, ?_⟩
      · have := decN told.length 1
        rw [← this, ← hts.length]
        show V.bl (decide (V.int ((ts.map V.ref).length : Int) = _)) = _
        rw [List.length_map]
        rfl
      by_cases h1 : told.length = 1
      · rw [decide_eq_true h1]
        obtain ⟨z, rfl⟩ := one h1
        obtain ⟨t0, ht0', hpt⟩ := hts.get (i := 0) rfl
        refine iteT ⟨_, rfl, pn, dx1, _, rfl, hob1, pnF_no (by decide +kernel) (by decide +kernel) (by decide +kernel), _, rfl, _, _, _, V.ref t0, rfl, rfl, SqL.of ht1, atI_nat (j := 0) (by rw [List.getElem?_map, ht0']; rfl), pn, l, t0, rs, D, e, st, bg, z, n, rfl, hP1, hpt, hn, ?_⟩
        have kk := k2 hall (D ++ [e ++ [Sg35.wh z]]) z bg (by unfold Sg35.rowDo; rw [if_neg Bool.false_ne_true, if_pos (show List.length [z] = 1 from rfl), Sg35.dropLast_snoc', Sg35.getLastD_snoc]; rfl)
        exact fun rs' H2 kp2 d hP2 => kk rs' H2 (kp1.up.trans kp2) (fun x hx => (d x hx).imp id fun h => kp1.free0 h) (hP2.mono (by omega))
      · rw [decide_eq_false h1]
        have hne : told ≠ [] := by
          rintro rfl
          split at htl
          · cases htl
          · split at htl <;> cases htl
        obtain ⟨told0, z, rfl⟩ := snoc_of hne
        have hl0 : told0.length = 1 ∨ told0.length = 2 := by
          rw [List.length_append, List.length_cons, List.length_nil] at htl h1
          split at htl
          · omega
          · split at htl <;> omega
        refine iteF ⟨_, rfl, pn, dx1, _, rfl, hob1, pnF_no (by decide +kernel) (by decide +kernel) (by decide +kernel), _, rfl, pn, l, t, rs, ts, D, e, st, bg, z, told0, n, rfl, hP1, ht1, hts, hl0, fun y hy => List.all_eq_true.mp hall y hy, hns, hn, htf, ?_⟩
        have kk := k2 hall (D ++ [e ++ Sg35.curve (st :: (told0 ++ [z]))]) z bg (by unfold Sg35.rowDo; rw [if_neg Bool.false_ne_true, if_neg h1, Sg35.dropLast_snoc', Sg35.getLastD_snoc, Sg35.getLastD_snoc])
        exact fun rs' H2 kp2 d hP2 => kk rs' H2 (kp1.up.trans kp2) (fun x hx => (d x hx).imp id fun h => kp1.free0 h) hP2
end Pg
namespace Pg
open PySem PySem.Spec PyProof.Rows L2 TL
variable {P : Program} {w : World} {K : PySem.W.Frag} {mg : Str → Option Value} {base : Heap} {a : Adr}
theorem cutV_ints {nums : List Int} {p q : Nat} (h : p ≤ q) (hq : q ≤ nums.length) : cutV (nums.map V.int) (some (p : Int)) (some (q : Int)) = ((nums.drop p).take (q - p)).map V.int := by
  unfold cutV
  rw [HT.sIx_nat, HT.sIx_nat, List.length_map, Nat.min_eq_left hq, Nat.min_eq_left (Nat.le_trans h hq), List.map_take, List.map_drop]
theorem arity_cases {g : Nat} (h : Sg35.arity g ≠ 0) : g = 77 ∨ g = 76 ∨ g = 72 ∨ g = 86 ∨ g = 81 ∨ g = 67 := by
  unfold Sg35.arity at h
  split at h
  · omega
  · split at h
    · omega
    · split at h
      · omega
      · split at h
        · omega
        · exact absurd rfl h
theorem row_val {g : Nat} (h : Sg35.arity g ≠ 0) : valV (([("M", 2), ("L", 2), ("H", 1), ("V", 1), ("Q", 4), ("C", 6)] : List (Str × Int)).map fun p => ((Sum.inr p.1 : Key), V.int p.2)) (Sum.inr (sg [g])) = some (.int (Sg35.arity g : Int)) := by
  rcases arity_cases h with rfl | rfl | rfl | rfl | rfl | rfl <;> decide +kernel
theorem arity_le (g : Nat) : Sg35.arity g ≤ 6 := by
  unfold Sg35.arity
  split
  · decide
  · split
    · decide
    · split
      · decide
      · split <;> decide
theorem rowDo_ne (ls : Sg35.Lines) (st bg : Pt) (told : List Pt) (b : Bool) : (Sg35.rowDo ls st bg told b).1 ≠ [] := by
  unfold Sg35.rowDo
  split
  · simp
  · split <;> simp
theorem ok_qay (T : Txt K mg a) (hw : w.params = a.prm) (G_qbl : O_qbl P w K mg base a) : O_qay P w K mg base a := by
  refine T.fn_qay.okX sc_qay (fun vs H Q E h => ?_) (fun cdv A outer s H vs Q E hr h => ?_)
  · obtain ⟨pn, l, p, rs, ls, st, bg, n, pp, x, c, nums, rfl, _⟩ := h
    rfl
  · obtain ⟨pn, l, p, rs, ls, st, bg, n, pp, x, c, nums, rfl, hP, hS, ⟨rfl, hpl⟩, h90, hnum, hls, hsz, hpf, k1, k2⟩ := h
    refine ⟨_, (pss_cons (ps_set (i := 3) sc_qay.nd rfl (by first | exact Or.inl rfl | exact Or.inr rfl) (pe_kd (by rfl) T.ct_ROW_LENGTHS hw T.kd_ROW (pe_bm0 PySem.F.plainAttrs_str PySem.F.slot_str_upper PySem.F.type_str_upper mt_upper (pv 1)) (fun _ _ => rfl)))
        (pss_cons (ps_if (pw_or (pt_cmpR op_eq (pe_callB call_len_seq (by rfl) T.bl_len (by decide +kernel) (pa_cons (pv 2) pa_nil)) pe_int (nomark _)) (pw_or1 (pt_cmpR op_ne (pe_op op_mod (pe_callB call_len_seq (by rfl) T.bl_len (by decide +kernel) (pa_cons (pv 2) pa_nil)) (pv 3)) pe_int (nomark _)))).pt (pss_one (ps_raise T.xc_WrongText (by rfl))) pss_nil)
        (pss_one (ps_for PassesOwn.leaving rfl (pi_range3 (by rfl) T.bl_range (pa_cons pe_int (pa_cons (pe_callB call_len_seq (by rfl) T.bl_len (by decide +kernel) (pa_cons (pv 2) pa_nil)) (pa_cons (pv 3) pa_nil)))) (pg_name (i := 4) sc_qay.nd rfl (Or.inl rfl)) (pss_cons (ps_set (i := 5) sc_qay.nd rfl (by first | exact Or.inl rfl | exact Or.inr rfl) (pe_and (pe_cmpR op_eq (pv 4) pe_int (nomark _)) (pe_one (pe_cmpR op_eq (pe_bm0 PySem.F.plainAttrs_str PySem.F.slot_str_upper PySem.F.type_str_upper mt_upper (pv 1)) pe_str (nomark _)))))
        (pss_one (ps_expr (pe_call G_qbl (hr.mono (by decide)) (by rfl) T.mg_qbl T.fn_qbl.kp T.b_qbl .nil passW (pa_cons (pv 0) (pa_cons (pv 1) (pa_cons (pe_slice sl_list (pv 2) (po_some (pv 4)) (po_some (pe_op op_add (pv 4) (pv 3)))) (pa_cons (pv 5) pa_nil)))))))))))), ?_⟩
    have har := pl_arity hpl h90
    generalize hg : Sg35.capital c = g at *
    generalize hrel : decide (97 ≤ c) = rel at *
    have hapos : 0 < Sg35.arity g := Nat.pos_of_ne_zero har
    have ha6 := arity_le g
    have l1 : (sg [c]).length ≤ 5592405 := by rw [sg_len]; simp
    refine ⟨_, rfl, rfl, _, rfl, rfl, l1, _, (Sg35.arity g : Int), rfl, (by rw [upS hpl, hg]; exact row_val har), ?_⟩
    refine ⟨_, rfl, p, _, rfl, .inl (SqL.of hnum), rfl, decide (nums.length = 0), congrArg V.bl (by rw [List.length_map]; exact decN _ 0), ?_⟩
    by_cases h0 : nums.length = 0
    · rw [decide_eq_true h0]
      exact iteT (iteT (k1 (.inl (List.length_eq_zero_iff.mp h0)) _))
    rw [decide_eq_false h0]
    have hne : nums ≠ [] := fun z => h0 (by rw [z]; rfl)
    refine iteF ⟨_, rfl, p, _, rfl, .inl (SqL.of hnum), _, rfl, _, _, rfl, rfl, (by show (0 : Int) < (Sg35.arity g : Int); omega), rfl, !decide (nums.length % Sg35.arity g = 0), congrArg (fun z => V.bl (!z)) (by
      rw [List.length_map, Bool.eq_iff_iff, decide_eq_true_eq, decide_eq_true_eq]
      show V.int ((nums.length : Int) % (Sg35.arity g : Int)) = V.int 0 ↔ _
      rw [← Int.natCast_emod]
      constructor
      · intro z; injection z with z; omega
      · intro z; rw [z]; rfl), ?_⟩
    by_cases hmod : nums.length % Sg35.arity g = 0
    case neg =>
      rw [decide_eq_false hmod]
      exact iteT (k1 (.inr (Sg35.rows_odd _ _ _ _ _ _ har (Nat.le_refl _) hmod (Nat.lt_succ_self _))) _)
    rw [decide_eq_true hmod]
    obtain ⟨m, hm⟩ : ∃ m, nums.length = Sg35.arity g * m := ⟨nums.length / Sg35.arity g, by have := Nat.div_add_mod nums.length (Sg35.arity g); omega⟩
    have hmle : m ≤ nums.length := by rw [hm]; exact Nat.le_mul_of_pos_left m hapos
    refine iteF ⟨_, rfl, p, _, rfl, .inl (SqL.of hnum), _, rfl, 0, _, (Sg35.arity g : Int), m, rfl, (by rw [List.length_map, hm]; exact rgC hapos ha6 (by omega)), ?_⟩
    refine ⟨fun i mm σ H' => mm = m - i ∧ i ≤ m ∧ ∃ (rs' : List Addr) (ls' : Sg35.Lines) (st' bg' : Pt) (pp' : Sg35.Pen) (f b : Option V), σ = [some (.ref pn), some (.str (sg [c])), some (.ref p), some (.int (Sg35.arity g : Int)), f, b] ∧ Keep (pn :: l :: rs) H H' ∧ (∀ x ∈ rs', x ∈ rs ∨ H x = none) ∧
      PenAt a K H' pn l rs' ls' st' bg' (n + 16 * i) ∧ Sg35.Sim ls' st' bg' pp' ∧ LsI H' p nums ∧ (i ≠ 0 ∨ g ≠ 77 → ls' ≠ []) ∧ Sg35.Pen.rows (nums.length + 1) pp g rel nums = Sg35.Pen.rows (nums.length + 1 - i) pp' (Sg35.rowLetter g (decide (i = 0) && decide (g = 77))) rel (nums.drop (Sg35.arity g * i)),
      ⟨_, rfl, Nat.zero_le _, rs, ls, st, bg, pp, none, none, rfl, Keep.refl, fun x hx => .inl hx, hP, hS, hnum, fun h => hls (h.resolve_left fun z => z rfl), ?_⟩, ?_⟩
    · have : Sg35.rowLetter g (decide ((0 : Nat) = 0) && decide (g = 77)) = g := by
        unfold Sg35.rowLetter
        by_cases h7 : g = 77
        · rw [if_pos h7, decide_eq_true h7]; exact h7.symm
        · rw [if_neg h7]
      rw [this, Nat.mul_zero, List.drop_zero, Nat.sub_zero]
    rintro i mm σ H1 ⟨rfl, hi, rs', ls', st', bg', pp', f, b, rfl, kp1, hfr, hP1, hS1, hnum1, hls1, hrows⟩
    by_cases hlt : i < m
    case neg =>
      have : i = m := by omega
      subst this
      refine .inl ⟨Nat.le_refl _, ?_⟩
      rw [← hm, List.drop_length] at hrows
      obtain ⟨fu, hfu⟩ : ∃ fu, nums.length + 1 - i = fu + 1 := ⟨nums.length - i, by omega⟩
      rw [hfu, Sg35.rows_nil] at hrows
      have hi0 : i ≠ 0 := by rintro rfl; rw [Nat.mul_zero] at hm; exact h0 hm
      refine k2 pp' ls' st' bg' hne hrows hS1 (hls1 (.inl hi0)) rs' H1 kp1 hfr (hP1.mono ?_)
      omega
    have hmul : Sg35.arity g * (i + 1) ≤ nums.length := by rw [hm]; exact Nat.mul_le_mul_left _ hlt
    have hmul2 : Sg35.arity g * (i + 1) = Sg35.arity g * i + Sg35.arity g := Nat.mul_succ _ _
    refine .inr ⟨hlt, fun σ' H' => ∃ (rs' : List Addr) (ls' : Sg35.Lines) (st' bg' : Pt) (pp' : Sg35.Pen) (f b : Option V), σ' = [some (.ref pn), some (.str (sg [c])), some (.ref p), some (.int (Sg35.arity g : Int)), f, b] ∧ Keep (pn :: l :: rs) H H' ∧ (∀ x ∈ rs', x ∈ rs ∨ H x = none) ∧
      PenAt a K H' pn l rs' ls' st' bg' (n + 16 * (i + 1)) ∧ Sg35.Sim ls' st' bg' pp' ∧ LsI H' p nums ∧ ls' ≠ [] ∧ Sg35.Pen.rows (nums.length + 1) pp g rel nums = Sg35.Pen.rows (nums.length + 1 - (i + 1)) pp' (Sg35.rowLetter g false) rel (nums.drop (Sg35.arity g * (i + 1))),
      fun σ' H' ⟨rs', ls', st', bg', pp', f, b, e1, e2, e3, e4, e5, e6, e7, e8⟩ => ⟨m - (i + 1), by omega, rfl, hlt, rs', ls', st', bg', pp', f, b, e1, e2, e3, e4, e5, e6, fun _ => e7, by rw [e8, decide_eq_false (Nat.succ_ne_zero i)]; rfl⟩, ?_⟩
    rintro y H' ⟨rfl, rfl⟩
    have efirst : (0 + (i : Int) * (Sg35.arity g : Int)) = ((Sg35.arity g * i : Nat) : Int) := by rw [Int.natCast_mul, Int.mul_comm]; omega
    have hbeg : decide (V.int (0 + (i : Int) * (Sg35.arity g : Int)) = V.int 0) = decide (i = 0) := by
      rw [Bool.eq_iff_iff, decide_eq_true_eq, decide_eq_true_eq, efirst]
      constructor
      · intro z
        injection z with z
        have : Sg35.arity g * i = 0 := by omega
        rcases Nat.mul_eq_zero.mp this with q | q
        · exact absurd q har
        · exact q
      · intro z; rw [z]; rfl
    generalize hbv : (decide (i = 0) && decide (g = 77)) = bv at *
    have fin : tCall (sp_follow_row a K) [] E (tCons (tVar 0) (tCons (tVar 1) (tCons (tSl (rSlL K) (tVar 2) (tPart (tVar 4)) (tPart (tOp (rI0 fun i j => V.int (i + j)) (tVar 4) (tVar 3)))) (tCons (tVar 5) tNil)))) [some (.ref pn), some (.str (sg [c])), some (.ref p), some (.int (Sg35.arity g : Int)), some (.int (0 + (i : Int) * (Sg35.arity g : Int))), some (.bl bv)] H' (fun (_ : V) (H' : Hp) => ∃ (rs' : List Addr) (ls' : Sg35.Lines) (st' bg' : Pt) (pp' : Sg35.Pen) (f b : Option V), ([some (.ref pn), some (.str (sg [c])), some (.ref p), some (.int (Sg35.arity g : Int)), some (.int (0 + (i : Int) * (Sg35.arity g : Int))), some (.bl bv)] : L2.St) = [some (.ref pn), some (.str (sg [c])), some (.ref p), some (.int (Sg35.arity g : Int)), f, b] ∧ Keep (pn :: l :: rs) H H' ∧ (∀ x ∈ rs', x ∈ rs ∨ H x = none) ∧ PenAt a K H' pn l rs' ls' st' bg' (n + 16 * (i + 1)) ∧ Sg35.Sim ls' st' bg' pp' ∧ LsI H' p nums ∧ ls' ≠ [] ∧ Sg35.Pen.rows (nums.length + 1) pp g rel nums = Sg35.Pen.rows (nums.length + 1 - (i + 1)) pp' (Sg35.rowLetter g false) rel (nums.drop (Sg35.arity g * (i + 1)))) := by
      refine ⟨_, rfl, _, rfl, _, rfl, _, rfl, _, rfl, _, rfl, _, rfl, _, _, rfl, rfl, _, rfl, p, _, rfl, SqL.of hnum1, fun t ht => ⟨_, rfl, ?_⟩⟩
      have ecut : cutV (nums.map V.int) (some (0 + (i : Int) * (Sg35.arity g : Int))) (some (0 + (i : Int) * (Sg35.arity g : Int) + (Sg35.arity g : Int))) = ((nums.drop (Sg35.arity g * i)).take (Sg35.arity g)).map V.int := by
        rw [efirst, show (((Sg35.arity g * i : Nat) : Int) + (Sg35.arity g : Int)) = ((Sg35.arity g * (i + 1) : Nat) : Int) by rw [hmul2]; omega, cutV_ints (by omega) hmul, hmul2, Nat.add_sub_cancel_left]
      rw [ecut]
      generalize hrow : (nums.drop (Sg35.arity g * i)).take (Sg35.arity g) = row
      have hrl : row.length = Sg35.arity g := by rw [← hrow, List.length_take, List.length_drop]; omega
      have kt : Keep [] H' (upd H' t (.lst (row.map V.int))) := Keep.new ht
      have hst' : st' = (pp'.x, pp'.y) := hS1.st
      have hb7 : bv = true → g = 77 := fun z => by
        rw [← hbv, Bool.and_eq_true, decide_eq_true_eq, decide_eq_true_eq] at z
        exact z.2
      have hbl : bv = false → ls' ≠ [] := fun z => hls1 (by
        rw [← hbv, Bool.and_eq_false_iff, decide_eq_false_iff_not, decide_eq_false_iff_not] at z
        exact z)
      obtain ⟨s1, s2⟩ := Sg35.row_step hS1 har hb7 hbl (rel := rel) hrl
      have hdl : nums.drop (Sg35.arity g * i) ≠ [] := by
        intro z
        have := congrArg List.length z
        rw [List.length_drop, List.length_nil] at this
        omega
      obtain ⟨fu, hfu⟩ : ∃ fu, nums.length + 1 - i = fu + 1 := ⟨nums.length - i, by omega⟩
      have hr1 := Sg35.rows_one (f := fu) (p := pp') (c := Sg35.rowLetter g bv) (rel := rel) hdl (by rw [Sg35.arity_row, List.length_drop]; omega)
      rw [Sg35.arity_row, hrow, Sg35.letter_next, List.drop_drop, ← hmul2] at hr1
      rw [hfu, hr1] at hrows
      refine ⟨pn, l, t, rs', ls', st', bg', n + 16 * i, _, c, row, bv, rfl, hP1.keep0 kt, ⟨rfl, hpl⟩, by rw [hg]; exact h90, upd_same, by rw [hg]; exact hrl, fun z => by rw [hg]; exact hb7 z, hbl, ?_, by omega, ?_, ?_⟩
      · rw [hst']; unfold Sg35.nearP; rw [hS1.nr.1, hS1.nr.2]; rfl
      · rw [hrel, hg]
        intro hf
        refine k1 (.inr ?_)
        rw [hrows, s1 hf]; rfl
      · rw [hrel, hg]
        intro hok ls2 st2 bg2 hdo rs2 H2 kp2 hfr2 hP2
        obtain ⟨pp2, hst2, hS2⟩ := s2 hok
        rw [hdo] at hS2
        rw [hst2] at hrows
        have hne2 := rowDo_ne ls' st' bg' (Sg35.toldOf st' rel g row) bv
        rw [hdo] at hne2
        have k12 : Keep (pn :: l :: rs) H H2 := Keep.grow (kp1.trans kt.up) kp2 fun x hx => by
          rcases List.mem_cons.mp hx with rfl | hx
          · exact .inl (by simp)
          · rcases List.mem_cons.mp hx with rfl | hx
            · exact .inl (by simp)
            · exact (hfr x hx).imp (fun z => by simp [z]) id
        have hpf' : p ∉ pn :: l :: rs' := fun z => by
          rcases List.mem_cons.mp z with z | z
          · exact hpf (by rw [z]; simp)
          · rcases List.mem_cons.mp z with z | z
            · exact hpf (by rw [z]; simp)
            · rcases hfr p z with q | q
              · exact hpf (by simp [q])
              · rw [hnum] at q; cases q
        refine ⟨rs2, ls2, st2, bg2, pp2, _, _, rfl, k12, fun x hx => ?_, (by rw [show n + 16 * (i + 1) = n + 16 * i + 16 by omega]; exact hP2), hS2, kp2.kp _ _ (kt.at hnum1) hpf', hne2, ?_⟩
        · rcases hfr2 x hx with q | q
          · exact hfr x q
          · have q1 := kt.free0 q
            by_cases hm : x ∈ rs
            · exact .inl hm
            · refine .inr (kp1.free q1 fun z => ?_)
              rcases List.mem_cons.mp z with rfl | z
              · obtain ⟨_, _, _, e, _⟩ := hP1.ob; rw [q1] at e; cases e
              · rcases List.mem_cons.mp z with rfl | z
                · rw [hP1.lst] at q1; cases q1
                · exact hm z
        · rw [hrows, show nums.length + 1 - (i + 1) = fu by omega]; rfl
    refine ⟨_, rfl, rfl, decide (i = 0), congrArg V.bl hbeg, ?_⟩
    by_cases hi0 : i = 0
    · rw [decide_eq_true hi0]
      refine iteT ⟨_, rfl, rfl, _, rfl, rfl, l1, rfl, ?_⟩
      rw [upEq (d := 77) hpl (by decide +kernel), hg]
      have : decide (g = 77) = bv := by rw [← hbv, decide_eq_true hi0, Bool.true_and]
      rw [this]
      exact fin
    · rw [decide_eq_false hi0]
      have : false = bv := by rw [← hbv, decide_eq_false hi0, Bool.false_and]
      refine iteF ?_
      rw [← this] at fin
      exact fin
theorem ok_qam (T : Txt K mg a) (G_qay : O_qay P w K mg base a) (G_qai : O_qai P w K mg base a) : O_qam P w K mg base a := by
  refine T.fn_qam.okX sc_qam (fun vs H Q E h => ?_) (fun cdv A outer s H vs Q E hr h => ?_)
  · obtain ⟨pn, l, p, rs, ls, st, bg, n, pp, x, c, nums, rfl, _⟩ := h
    rfl
  · obtain ⟨pn, l, p, rs, ls, st, bg, n, pp, x, c, nums, rfl, hP, hS, hL, hnum, hls, hsz, hpf, k1, k2⟩ := h
    refine ⟨_, (pss_one (ps_if (pt_cmpR op_ne (pe_bm0 PySem.F.plainAttrs_str PySem.F.slot_str_upper PySem.F.type_str_upper mt_upper (pv 1)) pe_str (nomark _)) (pss_one (ps_expr (pe_call G_qay (hr.mono (by decide)) (by rfl) T.mg_qay T.fn_qay.kp T.b_qay .nil passW (pa_cons (pv 0) (pa_cons (pv 1) (pa_cons (pv 2) pa_nil)))))) (pss_one (ps_if (pt_cmpR op_eq (pe_callB call_len_seq (by rfl) T.bl_len (by decide +kernel) (pa_cons (pv 2) pa_nil)) pe_int (nomark _)) (pss_one (ps_expr (pe_meth (pv 0) T.cl_Pen T.me_qai G_qai (hr.mono (by decide)) T.b_qai .nil passW (pa_cons (pe_fld (pv 0) rfl) pa_nil)))) (pss_one (ps_raise T.xc_WrongText (by rfl))))))), ?_⟩
    obtain ⟨rfl, hpl⟩ := id hL
    have l1 : (sg [c]).length ≤ 5592405 := by rw [sg_len]; simp
    unfold letterDo at k1 k2
    refine ⟨_, rfl, rfl, _, rfl, rfl, l1, rfl, !decide (Sg35.capital c = 90), congrArg (fun z => V.bl (!z)) (upEq hpl (by decide +kernel)), ?_⟩
    by_cases h90 : Sg35.capital c = 90
    case neg =>
      rw [if_neg h90] at k1 k2
      rw [decide_eq_false h90]
      refine iteT ⟨_, rfl, _, rfl, _, rfl, pn, l, p, rs, ls, st, bg, n, pp, _, c, nums, rfl, hP, hS, hL, h90, hnum, hls, by omega, hpf, fun h => k1 ?_, fun pp' ls' st' bg' hne hr hS' hls' => ?_⟩
      · split
        · rfl
        · exact h.resolve_left (by assumption)
      · rw [if_neg hne] at k2
        exact PMv.mono (k2 pp' ls' st' bg' hr hS' hls') (by omega)
    rw [if_pos h90] at k1 k2
    rw [decide_eq_true h90]
    refine iteF ⟨_, rfl, p, _, rfl, .inl (SqL.of hnum), rfl, decide (nums.length = 0), congrArg V.bl (by rw [List.length_map]; exact decN _ 0), ?_⟩
    by_cases h0 : nums = []
    · rw [if_pos h0] at k2
      rw [decide_eq_true (by rw [h0]; rfl)]
      obtain ⟨dx, s, b, hob, hst, hbg⟩ := hP.ob
      refine iteT ⟨_, rfl, pn, dx, _, rfl, hob, pnF_no (by decide +kernel) (by decide +kernel) (by decide +kernel), _, rfl, pn, a.cPen, dx, _, _, rfl, hob, T.cl_Pen, T.na_Pen_line_begin, pnF_begin, pn, l, b, rs, ls, st, bg, bg, n, rfl, hP, hbg, by omega, ?_⟩
      have hz := hS.z
      rw [← Sg35.wh_whole] at hz
      exact PMv.mono (k2 _ _ _ _ rfl hz (by simp)) (by omega)
    · rw [if_neg h0] at k1
      rw [decide_eq_false (fun z => h0 (List.length_eq_zero_iff.mp z))]
      exact iteF (k1 rfl _)
theorem tr_letter {c : Nat} (h : Sg35.pathLetter c = true) : Sg35.tr c = c := by
  have h1 := pl_small h
  have h2 : 65 ≤ c := by
    unfold Sg35.pathLetter Sg35.letter at h
    simp only [Bool.and_eq_true, Bool.or_eq_true, decide_eq_true_eq] at h
    omega
  exact (Sg35.tr_fix (c := c) (d := c) (by omega) (by omega) (by omega) (by omega)).mpr rfl
theorem pathOf_eq (b : B) : Sg35.pathOf b = match Sg35.skip b with
    | [] => some []
    | c :: _ => if c = 77 ∨ c = 109 then (Sg35.pen.goes b).map Sg35.Pen.finish else none := rfl
theorem isM_iff {c : Nat} : isM c = true ↔ c = 77 ∨ c = 109 := by unfold isM; simp
theorem pathOf_nil {b : B} (h : Sg35.skip b = []) : Sg35.pathOf b = some [] := by rw [pathOf_eq, h]
theorem pathOf_m {b r : B} {c : Nat} (h : Sg35.skip b = c :: r) (hc : isM c = true) : Sg35.pathOf b = (Sg35.pen.goes b).map Sg35.Pen.finish := by rw [pathOf_eq, h]; exact if_pos (isM_iff.mp hc)
theorem pathOf_no {b r : B} {c : Nat} (h : Sg35.skip b = c :: r) (hc : isM c = false) : Sg35.pathOf b = none := by
  rw [pathOf_eq, h]
  exact if_neg fun z => by rw [isM_iff.mpr z] at hc; cases hc
theorem RdR.apart {H : Hp} {r pn l : Addr} {q : B} {rs : List Addr} {ls : Sg35.Lines} {st bg : Pt} {n : Nat} (hR : RdR a H r q) (hP : PenAt a K H pn l rs ls st bg n) : r ∉ pn :: l :: rs := by
  obtain ⟨b, dx, p, e, _⟩ := hR.ex
  intro z
  rcases List.mem_cons.mp z with rfl | z
  · obtain ⟨_, _, _, e2, _⟩ := hP.ob
    rw [e] at e2
    injection e2 with e2
    injection e2 with _ _ e2
    have := congrArg List.length e2
    simp [rdF, pnF] at this
  · rcases List.mem_cons.mp z with rfl | z
    · rw [hP.lst] at e; cases e
    · obtain ⟨_, e2⟩ := hP.li.mem z; rw [e] at e2; cases e2
theorem PenAt.not_one {H : Hp} {r pn l : Addr} {q : B} {rs : List Addr} {ls : Sg35.Lines} {st bg : Pt} {n : Nat} (hR : RdR a H r q) (hP : PenAt a K H pn l rs ls st bg n) : ∀ x ∈ pn :: l :: rs, x ∉ [r] := fun x hx z => by
  rw [List.mem_singleton.mp z] at hx
  exact hR.apart hP hx
theorem ok_qby (T : Txt K mg a) (G_qbf : O_qbf P w K mg base a) (G_qcf : O_qcf P w K mg base a) (G_qag : O_qag P w K mg base a) (G_qaq : O_qaq P w K mg base a) (G_qad : O_qad P w K mg base a) (G_qaf : O_qaf P w K mg base a) (G_qam : O_qam P w K mg base a) (G_qcc : O_qcc P w K mg base a) : O_qby P w K mg base a := by
  refine T.fn_qby.okX sc_qby (fun vs H Q E h => ?_) (fun cdv A outer s H vs Q E hr h => ?_)
  · obtain ⟨x, b, rfl, _⟩ := h
    rfl
  · obtain ⟨x, b, rfl, hx, k1, k2⟩ := h
    refine ⟨_, (pss_cons (ps_set (i := 1) sc_qby.nd rfl (by first | exact Or.inl rfl | exact Or.inr rfl) (pe_make T.mk_Reader G_qbf (hr.mono (by decide)) (by rfl) T.mgc_Reader T.b_qbf .nil passW (pa_cons (pv 0) pa_nil)))
        (pss_cons (ps_set (i := 2) sc_qby.nd rfl (by first | exact Or.inl rfl | exact Or.inr rfl) (pe_make0 T.mk_Pen G_qcf (hr.mono (by decide)) (by rfl) T.mgc_Pen T.b_qcf .nil passW))
        (pss_cons (ps_expr (pe_meth (pv 1) T.cl_Reader T.me_qag G_qag (hr.mono (by decide)) T.b_qag .nil passW (pa_cons (pe_globV (by rfl) T.ct_BLANK) pa_nil)))
        (pss_cons (ps_if (pw_and (pt_not (pt_val (pe_meth0 (pv 1) T.cl_Reader T.me_qaq G_qaq (hr.mono (by decide)) T.b_qaq .nil passW))) (pw_and1 (pt_not (pt_val (pe_meth (pv 1) T.cl_Reader T.me_qad G_qad (hr.mono (by decide)) T.b_qad .nil passW (pa_cons pe_str pa_nil)))))).pt (pss_one (ps_raise T.xc_WrongText (by rfl))) pss_nil)
        (pss_cons (ps_while PassesOwn.leaving (pt_not (pt_val (pe_meth0 (pv 1) T.cl_Reader T.me_qaq G_qaq (hr.mono (by decide)) T.b_qaq .nil passW))) (pss_cons (ps_set (i := 3) sc_qby.nd rfl (by first | exact Or.inl rfl | exact Or.inr rfl) (pe_meth (pv 1) T.cl_Reader T.me_qaf G_qaf (hr.mono (by decide)) T.b_qaf .nil passW (pa_cons (pe_globV (by rfl) T.ct_PATH_LETTERS) pa_nil)))
        (pss_one (ps_expr (pe_call G_qam (hr.mono (by decide)) (by rfl) T.mg_qam T.fn_qam.kp T.b_qam .nil passW (pa_cons (pv 2) (pa_cons (pv 3) (pa_cons (pe_call G_qcc (hr.mono (by decide)) (by rfl) T.mg_qcc T.fn_qcc.kp T.b_qcc .nil passW (pa_cons (pv 1) pa_nil)) pa_nil))))))))
        (pss_one (ps_ret (pe_fld (pv 2) rfl)))))))), ?_⟩
    refine m_reader_is (fun Q q => ⟨_, rfl, q⟩) hx fun r H1 hr1 kp1 hR1 => ?_
    intro pn dpn hpn hdpn hnpn
    refine ⟨pn, dpn, rfl, upd_same, fun l H2 kp2' hl2 hP2 => ⟨rfl, ?_⟩⟩
    have kp2 : Keep [] H1 H2 := Keep.made hpn hdpn kp2'
    have hl1 : H1 l = none := by
      have : (upd (upd H1 dpn (.own pn)) pn (.ins a.cPen dpn [])) l = none := hl2
      have e1 : l ≠ pn := fun z => by rw [z, upd_same] at this; cases this
      rw [upd_ne e1] at this
      have e2 : l ≠ dpn := fun z => by rw [z, upd_same] at this; cases this
      rw [upd_ne e2] at this
      exact this
    have hR2 := hR1.keep0 kp2
    refine m_take_all rfl hR2 zs_blank fun H3 kp3 hR3 => ?_
    rw [skip_is] at hR3
    have hP3 := hP2.keep kp3 (PenAt.not_one hR2 hP2)
    have K3 : Keep [] H H3 := (kp1.trans kp2).drop kp3 hr1
    have fresh0 : ∀ x ∈ pn :: l :: ([] : List Addr), H x = none := fun x hx => by
      rcases List.mem_cons.mp hx with rfl | hx
      · exact kp1.free0 hpn
      · rw [List.mem_singleton.mp hx]; exact kp1.free0 hl1
    have hb65 : (Sg35.skip b).length ≤ 65600 := hR3.len
    cases hsk : Sg35.skip b with
    | nil =>
      rw [hsk] at hR3
      refine m_ended rfl hR3 ⟨_, rfl, iteF (iteF ?_)⟩
      refine ⟨fun m σ H' => σ = [some (.str x), some (.ref r), some (.ref pn), none] ∧ H' = H3, ⟨0, rfl, rfl⟩, ?_⟩
      rintro m σ H' ⟨rfl, rfl⟩
      refine m_ended rfl hR3 ⟨_, rfl, iteF ?_⟩
      obtain ⟨dx, s, b', hob, _, _⟩ := hP3.ob
      refine ⟨_, rfl, pn, a.cPen, dx, _, _, rfl, hob, T.cl_Pen, T.na_Pen_lines, pnF_lines, ?_⟩
      exact k2 [] l _ (pathOf_nil hsk) K3 ⟨[], [], hP3.lst, kp1.free0 hl1, by simp, .nil, .nil⟩
    | cons c0 r0 =>
      rw [hsk] at hR3
      refine m_ended rfl hR3 ⟨_, rfl, iteT ?_⟩
      refine m_sees rfl hR3 zs_m ⟨_, rfl, ?_⟩
      have hhd : hd1 isM (c0 :: r0) = isM c0 := rfl
      rw [hhd]
      cases hm0 : isM c0 with
      | false => exact iteT (k1 (pathOf_no hsk hm0) _)
      | true =>
        refine iteF ?_
        have hpath := pathOf_m hsk hm0
        have hc77 : Sg35.capital c0 = 77 := by
          rcases isM_iff.mp hm0 with rfl | rfl <;> decide
        have hgo0 : Sg35.pen.goes b = Sg35.pen.goes (c0 :: r0) := by rw [← hsk, Sg35.goes_skip]
        have hl0 : (c0 :: r0).length ≤ 65600 := hR3.len
        refine ⟨fun m σ H' => ∃ (t : B) (rs : List Addr) (ls : Sg35.Lines) (st bg : Pt) (n : Nat) (pp : Sg35.Pen) (lt : Option V), σ = [some (.str x), some (.ref r), some (.ref pn), lt] ∧ Keep [] H H' ∧ RdR a H' r t ∧ Sg35.skip t = t ∧ PenAt a K H' pn l rs ls st bg n ∧ (∀ y ∈ pn :: l :: rs, H y = none) ∧ Sg35.Sim ls st bg pp ∧ Sg35.pen.goes b = pp.goes t ∧
          (∀ c t', t = c :: t' → Sg35.capital c ≠ 77 → ls ≠ []) ∧ n + 16 * t.length ≤ 1049600 ∧ m = t.length, ⟨_, c0 :: r0, [], [], (0, 0), (0, 0), 0, Sg35.pen, none, rfl, K3, hR3, (by rw [← hsk, Sg35.skip_skip]), hP3, fresh0, Sg35.sim_pen, hgo0, fun c t' e hn => ?_, by omega, rfl⟩, ?_⟩
        · injection e with e _
          subst e
          exact absurd hc77 hn
        rintro m σ H4 ⟨t, rs, ls, st, bg, n, pp, lt, rfl, K4, hR4, hst, hP4, hfr, hS, hgo, hls, hsz, rfl⟩
        refine m_ended rfl hR4 ⟨_, rfl, ?_⟩
        cases ht : t with
        | nil =>
          rw [decide_eq_true rfl]
          refine iteF ?_
          obtain ⟨dx, s, b', hob, _, _⟩ := hP4.ob
          refine ⟨_, rfl, pn, a.cPen, dx, _, _, rfl, hob, T.cl_Pen, T.na_Pen_lines, pnF_lines, ?_⟩
          refine k2 _ l _ ?_ K4 ⟨rs, ls, hP4.lst, hfr l (by simp), fun y hy => hfr y (by simp [hy]), hP4.li, hS.finish⟩
          rw [hpath, hgo, ht, Sg35.goes_nil (by rfl)]
          rfl
        | cons c t1 =>
          subst ht
          rw [decide_eq_false (by simp)]
          refine iteT ⟨fun σ' H' => ∃ (t' : B) (rs : List Addr) (ls : Sg35.Lines) (st bg : Pt) (n : Nat) (pp : Sg35.Pen) (lt : Option V), σ' = [some (.str x), some (.ref r), some (.ref pn), lt] ∧ Keep [] H H' ∧ RdR a H' r t' ∧ Sg35.skip t' = t' ∧ PenAt a K H' pn l rs ls st bg n ∧ (∀ y ∈ pn :: l :: rs, H y = none) ∧ Sg35.Sim ls st bg pp ∧ Sg35.pen.goes b = pp.goes t' ∧
            (∀ c t2, t' = c :: t2 → Sg35.capital c ≠ 77 → ls ≠ []) ∧ n + 16 * t'.length ≤ 1049600 ∧ t'.length < (c :: t1).length, fun σ' H' ⟨t', rs, ls, st, bg, n, pp, lt, e1, e2, e3, e4, e5, e6, e7, e8, e9, e10, e11⟩ => ⟨_, e11, t', rs, ls, st, bg, n, pp, lt, e1, e2, e3, e4, e5, e6, e7, e8, e9, e10, rfl⟩, ?_⟩
          refine m_take_one rfl hR4 zs_path (fun c' t1' e hpl H5 kp5 hR5 => ?_) (fun hn => k1 ?_)
          · injection e with e1 e2
            subst e1 e2
            rw [tr_letter hpl]
            have hP5 := hP4.keep kp5 (PenAt.not_one hR4 hP4)
            have K5 : Keep [] H H5 := K4.drop kp5 hr1
            refine ⟨_, rfl, _, rfl, _, rfl, r, t1, rfl, hR5, fun hn => k1 ?_, fun nums t2 p hrow hp H6 kp6 hR6 hp6 => ?_⟩
            · rw [hpath, hgo]
              by_cases h90 : Sg35.capital c = 90
              · rw [(Sg35.goes_z (p := pp) hst h90).2 (fun t z => by rw [hn] at z; cases z)]; rfl
              · rw [(Sg35.goes_letter (p := pp) hst h90 hpl).1 hn]; rfl
            have hP6 := hP5.keep kp6 (PenAt.not_one hR5 hP5)
            have K6 : Keep [] H H6 := K5.drop kp6 hr1
            obtain ⟨hlen, hsk2, _⟩ := Sg35.rowAt_more hrow
            have hpf : p ∉ pn :: l :: rs := fun z => by
              rcases List.mem_cons.mp z with rfl | z
              · obtain ⟨_, _, _, e, _⟩ := hP5.ob; rw [hp] at e; cases e
              · rcases List.mem_cons.mp z with rfl | z
                · rw [hP5.lst] at hp; cases hp
                · obtain ⟨_, e⟩ := hP5.li.mem z; rw [hp] at e; cases e
            simp only [List.length_cons] at hsz
            have hdo : Sg35.pen.goes b = (letterDo pp c nums).bind fun p' => p'.goes t2 := by
              rw [hgo]
              unfold letterDo
              by_cases h90 : Sg35.capital c = 90
              · rw [if_pos h90]
                by_cases hn0 : nums = []
                · rw [if_pos hn0]
                  subst hn0
                  exact (Sg35.goes_z (p := pp) hst h90).1 t2 hrow
                · rw [if_neg hn0, (Sg35.goes_z (p := pp) hst h90).2 (fun t z => by rw [hrow] at z; cases z; exact hn0 rfl)]; rfl
              · rw [if_neg h90]
                obtain ⟨_, g2, g3⟩ := Sg35.goes_letter (p := pp) hst h90 hpl
                by_cases hn0 : nums = []
                · rw [if_pos hn0]
                  subst hn0
                  rw [g2 t2 hrow]; rfl
                · rw [if_neg hn0, g3 nums t2 hrow hn0]
            refine ⟨pn, l, p, rs, ls, st, bg, n, pp, _, c, nums, rfl, hP6, hS, ⟨rfl, hpl⟩, hp6, hls c t1 rfl, by omega, hpf, fun hn => k1 ?_, fun pp' ls' st' bg' hd hS' hls' rs' H7 kp7 hfr7 hP7 => ?_⟩
            · rw [hpath, hdo, hn]; rfl
            · have hrf := hR6.apart hP6
              refine ⟨t2, rs', ls', st', bg', _, pp', _, rfl, Keep.grow K6 kp7 (fun y hy => .inr (hfr y hy)), hR6.keep kp7 hrf, hsk2, hP7, fun y hy => ?_, hS', ?_, fun _ _ _ _ => hls', ?_, ?_⟩
              · rcases List.mem_cons.mp hy with rfl | hy
                · exact hfr _ (by simp)
                · rcases List.mem_cons.mp hy with rfl | hy
                  · exact hfr _ (by simp)
                  · rcases hfr7 y hy with q | q
                    · exact hfr y (by simp [q])
                    · exact K6.free0 q
              · rw [hdo, hd]; rfl
              · omega
              · simp only [List.length_cons]; omega
          · have hn' : Sg35.pathLetter c = false := hn
            rw [hpath, hgo, Sg35.goes_bad hst hn']; rfl
end Pg
namespace Pg
open PySem PySem.Spec PyProof.Rows L2 TL
variable {P : Program} {w : World} {K : PySem.W.Frag} {mg : Str → Option Value} {base : Heap} {a : Adr}
theorem ok_qcl (T : Txt K mg a) : O_qcl P w K mg base a := by
  refine T.fn_qcl.okX sc_qcl (fun vs H Q E h => ?_) (fun cdv A outer s H vs Q E hr h => ?_)
  · obtain ⟨d, x, k, as, rfl, _⟩ := h
    rfl
  · obtain ⟨d, x, s, as, rfl, rfl, hat, k1, k2⟩ := h
    refine ⟨_, (pss_cons (ps_if (pt_cmp (pc_dnotin (hu_of hr) (pv 1) (pv 0))) (pss_one (ps_raise T.xc_WrongText (by rfl))) pss_nil)
        (pss_one (ps_ret (pe_dget (hu_of hr) (pv 0) (pv 1) (fun _ _ => rfl))))), ?_⟩
    refine ⟨_, rfl, _, rfl, d, _, rfl, DGet.k (k := Sum.inr (s : Str)) hat.1, _, rfl, ?_⟩
    rw [at_val]
    cases hv : Sg35.attr as s with
    | none => exact iteT (k1 hv _)
    | some v =>
      refine iteF ⟨_, rfl, _, rfl, d, _, rfl, (by rw [show (some (V.str (sg (v.map Sg35.tr)))) = valV (atK as) (Sum.inr (s : Str)) by rw [at_val, hv]; rfl]; exact DGet.k (k := Sum.inr (s : Str)) hat.1), ?_⟩
      exact k2 v _ hv (at_tx hat hv)
theorem tx_zero : TxB ("0" : Str) [48] := ⟨by decide +kernel, by decide, fun c hc => by rw [List.mem_singleton.mp hc]; decide⟩
theorem single_zero : Sg35.single [48] = some 0 := by decide +kernel
theorem get0 {H : Hp} {d : Addr} {as : List (B × B)} (hat : AtAt H d as) (s : String) : ∃ (y : Str) (v : B), DGet H d (.str (s : Str)) (valV (atK as) (Sum.inr (s : Str))) ∧ (valV (atK as) (Sum.inr (s : Str))).getD (.str "0") = .str y ∧ TxB y v ∧ Sg35.numIn as s (some 0) = Sg35.single v := by
  have hg : DGet H d (.str (s : Str)) (valV (atK as) (Sum.inr (s : Str))) := DGet.k (k := Sum.inr (s : Str)) hat.1
  cases hv : Sg35.attr as s with
  | none =>
    refine ⟨"0", [48], hg, by rw [at_val, hv]; rfl, tx_zero, ?_⟩
    unfold Sg35.numIn
    rw [hv, single_zero]
  | some v =>
    refine ⟨_, v, hg, by rw [at_val, hv]; rfl, at_tx hat hv, ?_⟩
    unfold Sg35.numIn
    rw [hv]
theorem ok_qbm (T : Txt K mg a) (G_qaj : O_qaj P w K mg base a) : O_qbm P w K mg base a := by
  refine T.fn_qbm.okX sc_qbm (fun vs H Q E h => ?_) (fun cdv A outer s H vs Q E hr h => ?_)
  · obtain ⟨d, x, y, kx, ky, as, rfl, _⟩ := h
    rfl
  · obtain ⟨d, x, y, kx, ky, as, rfl, rfl, rfl, hat, k1, k2⟩ := h
    refine ⟨_, (pss_one (ps_ret (pe_tup (pa_cons (pe_call G_qaj (hr.mono (by decide)) (by rfl) T.mg_qaj T.fn_qaj.kp T.b_qaj .nil passW (pa_cons (pe_dget2 (hu_of hr) (pv 0) (pv 1) pe_str ⟨rfl, rfl, rfl, rfl⟩) pa_nil)) (pa_cons (pe_call G_qaj (hr.mono (by decide)) (by rfl) T.mg_qaj T.fn_qaj.kp T.b_qaj .nil passW (pa_cons (pe_dget2 (hu_of hr) (pv 0) (pv 2) pe_str ⟨rfl, rfl, rfl, rfl⟩) pa_nil)) pa_nil))))), ?_⟩
    obtain ⟨y1, v1, g1, e1, t1, n1⟩ := get0 hat kx
    rw [n1] at k1 k2
    refine ⟨_, rfl, d, rfl, .inl ⟨_, .inl hat.1⟩, _, rfl, _, g1, y1, v1, (by rw [e1]; rfl), t1, fun hn => k1 (.inl hn), fun u H1 hu kp1 => ?_⟩
    obtain ⟨y2, v2, g2, e2, t2, n2⟩ := get0 (hat.keep kp1) ky
    rw [n2] at k1 k2
    refine ⟨_, rfl, d, rfl, .inl ⟨_, .inl (hat.keep kp1).1⟩, _, rfl, _, g2, y2, v2, (by rw [e2]; rfl), t2, fun hn => k1 (.inr hn), fun v H2 hv kp2 => ?_⟩
    exact ⟨(by show 2 ≤ sizeLine; decide), fun t ht => k2 u v t _ hu hv ((kp1.trans kp2).trans (Keep.new ht)) upd_same⟩
theorem single_le {b : B} {z : Int} (h : Sg35.single b = some z) : z ≤ 32767 := by
  unfold Sg35.single at h
  cases hx : Sg35.numberAt b with
  | none => rw [hx] at h; cases h
  | some x =>
    obtain ⟨y, q⟩ := x
    rw [hx] at h
    dsimp only [Option.bind_some] at h
    split at h
    · cases h
      rw [Sg35.numberAt_eq] at hx
      split at hx
      · cases hx
      · rename_i hc
        have hm : Sg35.natOf ((Sg35.unsigned b).takeWhile Sg35.digit) ≤ 32767 := by
          rw [not_or, not_or] at hc
          have := hc.2.2
          unfold Sg35.MOST at this
          omega
        injection hx with hx
        injection hx with hx _
        rw [← hx]
        split <;> omega
    · cases h
theorem ok_qaz (T : Txt K mg a) (G_qak : O_qak P w K mg base a) (G_qcl : O_qcl P w K mg base a) : O_qaz P w K mg base a := by
  refine T.fn_qaz.okX sc_qaz (fun vs H Q E h => ?_) (fun cdv A outer s H vs Q E hr h => ?_)
  · obtain ⟨d, x, k, as, rfl, _⟩ := h
    rfl
  · obtain ⟨d, x, s, as, rfl, rfl, hat, k1, k2⟩ := h
    refine ⟨_, (pss_one (ps_ret (pe_call G_qak (hr.mono (by decide)) (by rfl) T.mg_qak T.fn_qak.kp T.b_qak .nil passW (pa_cons (pe_call G_qcl (hr.mono (by decide)) (by rfl) T.mg_qcl T.fn_qcl.kp T.b_qcl .nil passW (pa_cons (pv 0) (pa_cons (pv 1) pa_nil))) (pa_cons pe_int (pa_cons (pe_globV (by rfl) T.ct_LARGEST) pa_nil)))))), ?_⟩
    refine ⟨_, rfl, _, rfl, d, _, s, as, rfl, rfl, hat, fun hn => k1 fun z hz => ?_, fun v y hv ht => ?_⟩
    · unfold Sg35.numIn at hz
      rw [hn] at hz
      cases hz
    have e : Sg35.numIn as s none = Sg35.single v := by unfold Sg35.numIn; rw [hv]
    rw [e] at k1 k2
    refine ⟨y, v, 0, 32767, rfl, ht, fun hn => k1 fun z hz => ?_, fun z H1 hz h0 _ kp => k2 z H1 hz h0 kp⟩
    have h1 := hn z hz
    have h2 := single_le hz
    omega
theorem kind_rect (as : List (B × B)) : Sg35.kindOf (Sg35.ascii "rect") as = (Sg35.numIn as "x" (some 0)).bind fun x => (Sg35.numIn as "y" (some 0)).bind fun y => (Sg35.numIn as "width" none).bind fun w => (Sg35.numIn as "height" none).bind fun h =>
    if w < 0 ∨ h < 0 then none else some (.lines [[Sg35.whole x y, Sg35.whole (x + w) y, Sg35.whole (x + w) (y + h), Sg35.whole x (y + h)]]) := by
  unfold Sg35.kindOf
  rw [if_pos rfl]
  rfl
theorem kind_circle (as : List (B × B)) : Sg35.kindOf (Sg35.ascii "circle") as = (Sg35.numIn as "cx" (some 0)).bind fun x => (Sg35.numIn as "cy" (some 0)).bind fun y => (Sg35.numIn as "r" none).bind fun r => if r < 0 then none else some (.circle x y r) := by
  unfold Sg35.kindOf
  rw [if_neg (by decide +kernel), if_pos rfl]
  rfl
theorem kind_points {n : B} (hn : n = Sg35.ascii "polygon" ∨ n = Sg35.ascii "polyline") (as : List (B × B)) : Sg35.kindOf n as = (Sg35.attr as "points").bind fun v => (Sg35.row v).bind fun l => (Sg35.pairs l).map fun ps => .lines [ps] := by
  have h1 : n ≠ Sg35.ascii "rect" := by rcases hn with rfl | rfl <;> decide +kernel
  have h2 : n ≠ Sg35.ascii "circle" := by rcases hn with rfl | rfl <;> decide +kernel
  unfold Sg35.kindOf
  rw [if_neg h1, if_neg h2, if_pos hn]
  cases Sg35.attr as "points" with
  | none => rfl
  | some v =>
    show ((Sg35.row v).bind fun l => (Sg35.pairs l).bind fun ps => some (Sg35.Kind.lines [ps])) = (Sg35.row v).bind fun l => (Sg35.pairs l).map fun ps => Sg35.Kind.lines [ps]
    congr 1
    funext l
    cases Sg35.pairs l <;> rfl
theorem kind_path (as : List (B × B)) : Sg35.kindOf (Sg35.ascii "path") as = (Sg35.attr as "d").bind fun v => (Sg35.pathOf v).map fun l => .lines l := by
  unfold Sg35.kindOf
  rw [if_neg (by decide +kernel), if_neg (by decide +kernel), if_neg (by rintro (z | z) <;> exact absurd z (by decide +kernel)), if_pos rfl]
  cases Sg35.attr as "d" with
  | none => rfl
  | some v => cases h : Sg35.pathOf v <;> simp [h]
theorem whp {K : PySem.W.Frag} {H : Hp} {t : Addr} {x y : Int} (h : H t = some (.tup [.int (4096 * x), .int (4096 * y)])) : PtT K H t (Sg35.whole x y) := by
  rw [← Sg35.wh_whole]
  exact SqT.of h
theorem ok_qbz (T : Txt K mg a) (G_qbm : O_qbm P w K mg base a) (G_qaz : O_qaz P w K mg base a) (G_qar : O_qar P w K mg base a) (G_fine : O_fine P w K mg base a) : O_qbz P w K mg base a := by
  refine T.fn_qbz.okX sc_qbz (fun vs H Q E h => ?_) (fun cdv A outer s H vs Q E hr h => ?_)
  · obtain ⟨d, as, rfl, _⟩ := h
    rfl
  · obtain ⟨d, as, rfl, hat, k1, k2⟩ := h
    refine ⟨_, (pss_cons (ps_set (i := 1) sc_qbz.nd rfl (by first | exact Or.inl rfl | exact Or.inr rfl) (pe_call G_qbm (hr.mono (by decide)) (by rfl) T.mg_qbm T.fn_qbm.kp T.b_qbm .nil passW (pa_cons (pv 0) (pa_cons pe_str (pa_cons pe_str pa_nil)))))
        (pss_cons (ps_set (i := 2) sc_qbz.nd rfl (by first | exact Or.inl rfl | exact Or.inr rfl) (pe_tup (pa_cons (pe_op op_add (pe_ix ix_tup (pv 1) pe_int (fun _ _ => rfl)) (pe_call G_qaz (hr.mono (by decide)) (by rfl) T.mg_qaz T.fn_qaz.kp T.b_qaz .nil passW (pa_cons (pv 0) (pa_cons pe_str pa_nil)))) (pa_cons (pe_op op_add (pe_ix ix_tup (pv 1) pe_int (fun _ _ => rfl)) (pe_call G_qaz (hr.mono (by decide)) (by rfl) T.mg_qaz T.fn_qaz.kp T.b_qaz .nil passW (pa_cons (pv 0) (pa_cons pe_str pa_nil)))) pa_nil))))
        (pss_one (ps_ret (pe_make T.mk_Outline G_qar (hr.mono (by decide)) (by rfl) T.mgc_Outline T.b_qar .nil passW (pa_cons (pe_lst (pa_cons (pe_lst (pa_cons (pe_call G_fine (hr.mono (by decide)) (by rfl) T.mg_fine T.fn_fine.kp T.b_fine .nil pass0 (pa_cons (pv 1) pa_nil)) (pa_cons (pe_call G_fine (hr.mono (by decide)) (by rfl) T.mg_fine T.fn_fine.kp T.b_fine .nil pass0 (pa_cons (pe_tup (pa_cons (pe_ix ix_tup (pv 2) pe_int (fun _ _ => rfl)) (pa_cons (pe_ix ix_tup (pv 1) pe_int (fun _ _ => rfl)) pa_nil))) pa_nil)) (pa_cons (pe_call G_fine (hr.mono (by decide)) (by rfl) T.mg_fine T.fn_fine.kp T.b_fine .nil pass0 (pa_cons (pv 2) pa_nil)) (pa_cons (pe_call G_fine (hr.mono (by decide)) (by rfl) T.mg_fine T.fn_fine.kp T.b_fine .nil pass0 (pa_cons (pe_tup (pa_cons (pe_ix ix_tup (pv 1) pe_int (fun _ _ => rfl)) (pa_cons (pe_ix ix_tup (pv 2) pe_int (fun _ _ => rfl)) pa_nil))) pa_nil)) pa_nil))))) pa_nil)) pa_nil)))))), ?_⟩
    rw [kind_rect] at k1 k2
    refine ⟨_, rfl, d, _, _, "x", "y", as, rfl, rfl, rfl, hat, fun hn => k1 ?_, fun x y nr H1 hx hy kp1 hnr => ?_⟩
    · rcases hn with hn | hn
      · rw [hn]; rfl
      · rw [hn]; cases Sg35.numIn as "x" (some 0) <;> rfl
    rw [hx, hy] at k1 k2
    dsimp only [Option.bind_some] at k1 k2
    have hn1 : SqT K H1 nr [.int x, .int y] := SqT.of hnr
    refine ⟨_, rfl, _, _, _, _, rfl, rfl, hn1, rfl, _, rfl, d, _, "width", as, rfl, rfl, hat.keep kp1, fun hn => k1 ?_, fun wd H2 hw hw0 kp2 => ?_⟩
    · cases hwv : Sg35.numIn as "width" none with
      | none => rfl
      | some wd =>
        have := hn wd hwv
        dsimp only [Option.bind_some]
        cases Sg35.numIn as "height" none with
        | none => rfl
        | some hh => exact if_pos (.inl this)
    rw [hw] at k1 k2
    dsimp only [Option.bind_some] at k1 k2
    refine ⟨_, _, rfl, rfl, _, rfl, _, _, _, _, rfl, rfl, kp2.sqT hn1, rfl, _, rfl, d, _, "height", as, rfl, rfl, (hat.keep kp1).keep kp2, fun hn => k1 ?_, fun ht H3 hh hh0 kp3 => ?_⟩
    · cases hhv : Sg35.numIn as "height" none with
      | none => rfl
      | some hh => exact if_pos (.inr (hn hh hhv))
    rw [hh] at k2
    dsimp only [Option.bind_some] at k2
    rw [if_neg (by omega)] at k2
    refine ⟨_, _, rfl, rfl, (by show 2 ≤ sizeLine; decide), fun fr hfr => ?_⟩
    have kf : Keep [] H3 (upd H3 fr (.tup [.int (x + wd), .int (y + ht)])) := Keep.new hfr
    have hf4 : (upd H3 fr (.tup [.int (x + wd), .int (y + ht)])) fr = some (.tup [.int (x + wd), .int (y + ht)]) := upd_same
    generalize upd H3 fr (.tup [.int (x + wd), .int (y + ht)]) = H4 at kf hf4 ⊢
    have K4 : Keep [] H H4 := ((kp1.trans kp2).trans kp3).trans kf
    have hn4 : H4 nr = some (.tup [.int x, .int y]) := kf.at (kp3.at (kp2.at hnr))
    refine ⟨_, rfl, nr, (x, y), rfl, SqT.of hn4, fun t1 H5 kp5 ht1 e1 => ?_⟩
    refine ⟨_, rfl, _, _, _, _, rfl, rfl, SqT.of (kp5.at hf4), rfl, _, rfl, _, _, _, _, rfl, rfl, SqT.of (kp5.at hn4), rfl, (by show 2 ≤ sizeLine; decide), fun u2 hu2 => ⟨u2, (x + wd, y), rfl, SqT.of upd_same, fun t2 H6 kp6 ht2 e2 => ?_⟩⟩
    have kp56 : Keep [] H5 H6 := (Keep.new hu2).trans kp6
    refine ⟨_, rfl, fr, (x + wd, y + ht), rfl, SqT.of (kp56.at (kp5.at hf4)), fun t3 H7 kp7 ht3 e3 => ?_⟩
    refine ⟨_, rfl, _, _, _, _, rfl, rfl, SqT.of (kp7.at (kp56.at (kp5.at hn4))), rfl, _, rfl, _, _, _, _, rfl, rfl, SqT.of (kp7.at (kp56.at (kp5.at hf4))), rfl, (by show 2 ≤ sizeLine; decide), fun u4 hu4 => ⟨u4, (x, y + ht), rfl, SqT.of upd_same, fun t4 H8 kp8 ht4 e4 => ?_⟩⟩
    have kp78 : Keep [] H7 H8 := (Keep.new hu4).trans kp8
    refine ⟨(by show 4 ≤ sizeLine; decide), fun li hli => ⟨(by show 1 ≤ sizeLine; decide), fun lo hlo => ?_⟩⟩
    intro ob dob hob hdob hne
    have K8 : Keep [] H H8 := K4.trans (kp5.trans (kp56.trans (kp7.trans kp78)))
    have kli : Keep [] H8 (upd H8 li (.lst [V.ref t1, V.ref t2, V.ref t3, V.ref t4])) := Keep.new hli
    have klo : Keep [] (upd H8 li (.lst [V.ref t1, V.ref t2, V.ref t3, V.ref t4])) (upd (upd H8 li (.lst [V.ref t1, V.ref t2, V.ref t3, V.ref t4])) lo (.lst [V.ref li])) := Keep.new hlo
    have hli1 := klo.at (upd_same (H := H8) (a := li) (o := .lst [V.ref t1, V.ref t2, V.ref t3, V.ref t4]))
    have hlo1 : (upd (upd H8 li (.lst [V.ref t1, V.ref t2, V.ref t3, V.ref t4])) lo (.lst [V.ref li])) lo = some (.lst [V.ref li]) := upd_same
    generalize (upd (upd H8 li (.lst [V.ref t1, V.ref t2, V.ref t3, V.ref t4])) lo (.lst [V.ref li])) = H9 at *
    have k89 : Keep [] H8 H9 := kli.trans klo
    refine ⟨ob, dob, _, rfl, upd_same, fun H10 kp10' h10 => ⟨rfl, ?_⟩⟩
    have kp10 : Keep [] H9 H10 := Keep.made hob hdob kp10'
    have K9 : Keep [] H H9 := K8.trans k89
    refine k2 _ ob H10 rfl (K9.trans kp10) ⟨dob, lo, h10, K9.free0 hob, [li], [[Sg35.whole x y, Sg35.whole (x + wd) y, Sg35.whole (x + wd) (y + ht), Sg35.whole x (y + ht)]], kp10.at hlo1, K8.free0 (kli.free0 hlo), fun z hz => by rw [List.mem_singleton.mp hz]; exact K8.free0 hli, .cons ⟨[t1, t2, t3, t4], kp10.at hli1, ?_⟩ .nil, Sg35.Drops.refl _⟩
    have kT : ∀ {G : Hp}, Keep [] G H8 → Keep [] G H10 := fun kk => kk.trans (k89.trans kp10)
    exact .cons (whp ((kT (kp56.trans (kp7.trans kp78))).at e1)) (.cons (whp ((kT (kp7.trans kp78)).at e2)) (.cons (whp ((kT kp78).at e3)) (.cons (whp ((kT Keep.refl).at e4)) .nil)))
theorem ok_qba (T : Txt K mg a) (G_qbm : O_qbm P w K mg base a) (G_qbi : O_qbi P w K mg base a) (G_qaz : O_qaz P w K mg base a) : O_qba P w K mg base a := by
  refine T.fn_qba.okX sc_qba (fun vs H Q E h => ?_) (fun cdv A outer s H vs Q E hr h => ?_)
  · obtain ⟨d, as, rfl, _⟩ := h
    rfl
  · obtain ⟨d, as, rfl, hat, k1, k2⟩ := h
    refine ⟨_, (pss_cons (ps_set (i := 1) sc_qba.nd rfl (by first | exact Or.inl rfl | exact Or.inr rfl) (pe_call G_qbm (hr.mono (by decide)) (by rfl) T.mg_qbm T.fn_qbm.kp T.b_qbm .nil passW (pa_cons (pv 0) (pa_cons pe_str (pa_cons pe_str pa_nil)))))
        (pss_one (ps_ret (pe_make T.mk_Circle G_qbi (hr.mono (by decide)) (by rfl) T.mgc_Circle T.b_qbi .nil passW (pa_cons (pe_ix ix_tup (pv 1) pe_int (fun _ _ => rfl)) (pa_cons (pe_ix ix_tup (pv 1) pe_int (fun _ _ => rfl)) (pa_cons (pe_call G_qaz (hr.mono (by decide)) (by rfl) T.mg_qaz T.fn_qaz.kp T.b_qaz .nil passW (pa_cons (pv 0) (pa_cons pe_str pa_nil))) pa_nil))))))), ?_⟩
    rw [kind_circle] at k1 k2
    refine ⟨_, rfl, d, _, _, "cx", "cy", as, rfl, rfl, rfl, hat, fun hn => k1 ?_, fun x y nr H1 hx hy kp1 hnr => ?_⟩
    · rcases hn with hn | hn
      · rw [hn]; rfl
      · rw [hn]; cases Sg35.numIn as "cx" (some 0) <;> rfl
    rw [hx, hy] at k1 k2
    dsimp only [Option.bind_some] at k1 k2
    have hn1 : SqT K H1 nr [.int x, .int y] := SqT.of hnr
    refine ⟨_, rfl, _, _, _, _, rfl, rfl, hn1, rfl, _, rfl, _, _, _, _, rfl, rfl, hn1, rfl, _, rfl, d, _, "r", as, rfl, rfl, hat.keep kp1, fun hn => k1 ?_, fun rd H2 hr hr0 kp2 => ?_⟩
    · cases hrv : Sg35.numIn as "r" none with
      | none => rfl
      | some rd => exact if_pos (hn rd hrv)
    rw [hr] at k2
    dsimp only [Option.bind_some] at k2
    rw [if_neg (by omega)] at k2
    intro ob dob hob hdob hne
    refine ⟨ob, dob, _, _, _, rfl, upd_same, fun H3 kp3' h3 => ⟨rfl, ?_⟩⟩
    have kp3 : Keep [] H2 H3 := Keep.made hob hdob kp3'
    exact k2 _ ob H3 rfl ((kp1.trans kp2).trans kp3) ⟨dob, h3, (kp1.trans kp2).free0 hob⟩
theorem pairs_eq : ∀ (l : List Int), Sg35.pairs l = if l.length % 2 = 0 then some ((Sg35.upTwo 0 0 l).map Sg35.wh) else none
  | [] => rfl
  | [_] => rfl
  | x :: y :: r => by
    rw [Sg35.pairs, pairs_eq r]
    have : (x :: y :: r).length % 2 = r.length % 2 := by simp only [List.length_cons]; omega
    rw [this]
    by_cases h : r.length % 2 = 0
    · rw [if_pos h, if_pos h]
      simp only [Option.map_some, Sg35.upTwo, List.map_cons, Int.zero_add, Sg35.wh_whole]
    · rw [if_neg h, if_neg h]; rfl
theorem ok_qbb (T : Txt K mg a) (G_qbt : O_qbt P w K mg base a) (G_qcl : O_qcl P w K mg base a) (G_qar : O_qar P w K mg base a) (G_fine : O_fine P w K mg base a) : O_qbb P w K mg base a := by
  refine T.fn_qbb.okX sc_qbb (fun vs H Q E h => ?_) (fun cdv A outer s H vs Q E hr h => ?_)
  · obtain ⟨d, as, rfl, _⟩ := h
    rfl
  · obtain ⟨d, as, rfl, hat, k1, k2⟩ := h
    refine ⟨_, (pss_cons (ps_set (i := 1) sc_qbb.nd rfl (by first | exact Or.inl rfl | exact Or.inr rfl) (pe_call G_qbt (hr.mono (by decide)) (by rfl) T.mg_qbt T.fn_qbt.kp T.b_qbt .nil passW (pa_cons (pe_call G_qcl (hr.mono (by decide)) (by rfl) T.mg_qcl T.fn_qcl.kp T.b_qcl .nil passW (pa_cons (pv 0) (pa_cons pe_str pa_nil))) pa_nil)))
        (pss_cons (ps_if (pt_cmpR op_ne (pe_op op_mod (pe_callB call_len_seq (by rfl) T.bl_len (by decide +kernel) (pa_cons (pv 1) pa_nil)) pe_int) pe_int (nomark _)) (pss_one (ps_raise T.xc_WrongText (by rfl))) pss_nil)
        (pss_one (ps_ret (pe_make T.mk_Outline G_qar (hr.mono (by decide)) (by rfl) T.mgc_Outline T.b_qar .nil passW (pa_cons (pe_lst (pa_cons (pe_lc rfl sc_qbb.nd (pi_range3 (by rfl) T.bl_range (pa_cons pe_int (pa_cons (pe_callB call_len_seq (by rfl) T.bl_len (by decide +kernel) (pa_cons (pv 1) pa_nil)) (pa_cons pe_int pa_nil)))) (blkOk_by (own := [("k", 2)]) (by with_unfolding_all rfl)) (fun s H C cl fp => (pg_name (i := 2) sc_qbb.nd rfl (Or.inl rfl))) (fun s H C cl fp => pts_nil) (fun s H C cl fp => (pe_call G_fine (hr.mono (by decide)) (by rfl) T.mg_fine T.fn_fine.kp T.b_fine .nil pass0 (pa_cons (pe_tup (pa_cons (pe_ix (show IxR _ (rIxL K) from ix_list) (pv 1) (pv 2) (fun _ _ => rfl)) (pa_cons (pe_ix (show IxR _ (rIxL K) from ix_list) (pv 1) (pe_op op_add (pv 2) pe_int) (fun _ _ => rfl)) pa_nil))) pa_nil)))) pa_nil)) pa_nil)))))), ?_⟩
    rw [kind_points (.inl rfl)] at k1 k2
    refine ⟨_, rfl, d, _, "points", as, rfl, rfl, hat, fun hn => k1 (by rw [hn]; rfl), fun v y hv ht => ?_⟩
    rw [hv] at k1 k2
    dsimp only [Option.bind_some] at k1 k2
    refine ⟨y, v, rfl, ht, fun hn => k1 (by rw [hn]; rfl), fun l p H1 hl hp kp1 hlp => ?_⟩
    rw [hl] at k1 k2
    dsimp only [Option.bind_some] at k1 k2
    rw [pairs_eq] at k1 k2
    refine ⟨_, rfl, p, _, rfl, .inl (SqL.of hlp), _, _, rfl, rfl, (by show (0 : Int) < 2; decide), rfl, !decide (l.length % 2 = 0), congrArg (fun z => V.bl (!z)) (by
      rw [List.length_map, Bool.eq_iff_iff, decide_eq_true_eq, decide_eq_true_eq]
      constructor
      · intro z; injection z with z; omega
      · intro z
        show V.int ((l.length : Int) % 2) = V.int 0
        congr 1; omega), ?_⟩
    by_cases hev : l.length % 2 = 0
    case neg =>
      rw [if_neg hev] at k1
      rw [decide_eq_false hev]
      exact iteT (k1 rfl _)
    rw [if_pos hev] at k2
    rw [decide_eq_true hev]
    obtain ⟨n, hn⟩ : ∃ n, l.length = 2 * n := ⟨l.length / 2, by omega⟩
    have hlen : l.length ≤ 65600 := by
      have hrow := Sg35.row_is v
      rw [hl] at hrow
      cases hra : Sg35.rowAt v with
      | none => rw [hra] at hrow; cases hrow
      | some z =>
        obtain ⟨l', t'⟩ := z
        rw [hra] at hrow
        dsimp only [Option.bind_some] at hrow
        split at hrow
        · cases hrow
          have := (Sg35.rowAt_more hra).1
          have := ht.2.1
          omega
        · cases hrow
    have hul := upTwo_len (bx := 0) (by_ := 0) hn
    refine iteF ⟨_, rfl, p, _, rfl, .inl (SqL.of hlp), 0, _, 2, n, rfl, (by rw [List.length_map, hn]; exact rgC (c := 2) (by decide) (by decide) (by omega)), fun D hD => ?_⟩
    refine ⟨fun i m H' => m = n - i ∧ i ≤ n ∧ Keep [] H1 H' ∧ ∃ ts, H' D = some (.lst (ts.map V.ref)) ∧ ts.length = i ∧ PtsAt K H' ts (((Sg35.upTwo 0 0 l).map Sg35.wh).take i), ⟨_, rfl, Nat.zero_le _, Keep.new hD, [], upd_same, rfl, .nil⟩, ?_⟩
    rintro i m H2 ⟨rfl, hi, kp2, ts, hts, htl, hpts⟩
    by_cases hlt : i < n
    · refine .inr ⟨hlt, fun H' => Keep [] H1 H' ∧ ∃ ts, H' D = some (.lst (ts.map V.ref)) ∧ ts.length = i + 1 ∧ PtsAt K H' ts (((Sg35.upTwo 0 0 l).map Sg35.wh).take (i + 1)), fun H' hq => ⟨n - (i + 1), by omega, rfl, hlt, hq.1, hq.2⟩, ?_⟩
      rintro y H3 ⟨rfl, rfl⟩
      obtain ⟨u, hu⟩ : ∃ u, l[2 * i]? = some u := ⟨_, List.getElem?_eq_getElem (by omega)⟩
      obtain ⟨v2, hv2⟩ : ∃ v, l[2 * i + 1]? = some v := ⟨_, List.getElem?_eq_getElem (by omega)⟩
      have hu' : atI (l.map V.int) (0 + (i : Int) * 2) = some (V.int u) := by
        rw [show (0 + (i : Int) * 2) = ((2 * i : Nat) : Int) by omega]
        exact atI_nat (by rw [List.getElem?_map, hu]; rfl)
      have hv' : atI (l.map V.int) (0 + (i : Int) * 2 + 1) = some (V.int v2) := by
        rw [show (0 + (i : Int) * 2 + 1) = ((2 * i + 1 : Nat) : Int) by omega]
        exact atI_nat (by rw [List.getElem?_map, hv2]; rfl)
      have hl3 : SqL K H3 p (l.map V.int) := SqL.of (kp2.at hlp)
      refine ⟨rfl, _, rfl, _, rfl, _, _, _, _, rfl, rfl, hl3, hu', _, rfl, _, rfl, _, _, rfl, rfl, _, _, _, _, rfl, rfl, hl3, hv', (by show 2 ≤ sizeLine; decide), fun t0 ht0 => ⟨t0, (u, v2), rfl, SqT.of upd_same, fun t1 H4 kp4 ht1 e1 => ?_⟩⟩
      have k34 : Keep [] H3 H4 := (Keep.new ht0).trans kp4
      refine ⟨_, k34.at hts, (by rw [List.length_map, sizeLine_eq]; omega), ?_, ts ++ [t1], ?_, ?_, ?_⟩
      · exact Keep.drop (kp2.trans k34) (Keep.set (by simp) (by rw [k34.at hts]; exact trivial)) hD
      · rw [upd_same, List.map_append]; rfl
      · rw [List.length_append, htl]; rfl
      · have kk : Keep [D] H3 (upd H4 D (.lst (ts.map V.ref ++ [V.ref t1]))) := k34.up.trans (Keep.set (by simp) (by rw [k34.at hts]; exact trivial))
        rw [List.take_succ, List.getElem?_map, upTwo_get hu hv2]
        refine (hpts.keep kk).snoc ?_
        have e2 : (upd H4 D (.lst (ts.map V.ref ++ [V.ref t1]))) t1 = some (.tup [.int (4096 * u), .int (4096 * v2)]) := (Keep.set (M := [D]) (by simp) (by rw [k34.at hts]; exact trivial)).tp _ _ e1
        rw [Int.zero_add, Int.zero_add]
        exact SqT.of e2
    · have : i = n := by omega
      subst this
      refine .inl ⟨Nat.le_refl _, (by show 1 ≤ sizeLine; decide), fun lo hlo => ?_⟩
      rw [List.take_of_length_le (by rw [List.length_map]; omega)] at hpts
      intro ob dob hob hdob hne
      have klo : Keep [] H2 (upd H2 lo (.lst [V.ref D])) := Keep.new hlo
      refine ⟨ob, dob, _, rfl, upd_same, fun H5 kp5' h5 => ⟨rfl, ?_⟩⟩
      have kp5 : Keep [] (upd H2 lo (.lst [V.ref D])) H5 := Keep.made hob hdob kp5'
      have K2 : Keep [] H H2 := kp1.trans kp2
      have k25 : Keep [] H2 H5 := klo.trans kp5
      exact k2 _ ob H5 rfl (K2.trans k25) ⟨dob, lo, h5, (K2.trans klo).free0 hob, [D], [(Sg35.upTwo 0 0 l).map Sg35.wh], kp5.at upd_same, K2.free0 hlo, fun z hz => by rw [List.mem_singleton.mp hz]; exact kp1.free0 hD, .cons ⟨ts, k25.at hts, hpts.keep k25⟩ .nil, Sg35.Drops.refl _⟩
theorem strEq2 {x : Str} {b : B} (hx : x = sg b) (s : String) : decide (V.str x = V.str (s : Str)) = decide (b = Sg35.ascii s) := by
  rw [Bool.eq_iff_iff, decide_eq_true_eq, decide_eq_true_eq, hx, lit]
  constructor
  · intro z; injection z with z; exact sg_inj z
  · intro z; rw [z]
theorem ok_qbc (T : Txt K mg a) (G_qbz : O_qbz P w K mg base a) (G_qba : O_qba P w K mg base a) (G_qar : O_qar P w K mg base a) (G_qby : O_qby P w K mg base a) (G_qcl : O_qcl P w K mg base a) (G_qbb : O_qbb P w K mg base a) : O_qbc P w K mg base a := by
  refine T.fn_qbc.okX sc_qbc (fun vs H Q E h => ?_) (fun cdv A outer s H vs Q E hr h => ?_)
  · obtain ⟨d, x, n, as, rfl, _⟩ := h
    rfl
  · obtain ⟨d, x, n, as, rfl, hx, hn, hat, k1, k2⟩ := h
    refine ⟨_, (pss_cons (ps_if (pt_cmpR op_eq (pv 0) pe_str (nomark _)) (pss_one (ps_ret (pe_call G_qbz (hr.mono (by decide)) (by rfl) T.mg_qbz T.fn_qbz.kp T.b_qbz .nil passW (pa_cons (pv 1) pa_nil)))) pss_nil)
        (pss_cons (ps_if (pt_cmpR op_eq (pv 0) pe_str (nomark _)) (pss_one (ps_ret (pe_call G_qba (hr.mono (by decide)) (by rfl) T.mg_qba T.fn_qba.kp T.b_qba .nil passW (pa_cons (pv 1) pa_nil)))) pss_nil)
        (pss_cons (ps_if (pt_cmpR op_eq (pv 0) pe_str (nomark _)) (pss_one (ps_ret (pe_make T.mk_Outline G_qar (hr.mono (by decide)) (by rfl) T.mgc_Outline T.b_qar .nil passW (pa_cons (pe_call G_qby (hr.mono (by decide)) (by rfl) T.mg_qby T.fn_qby.kp T.b_qby .nil passW (pa_cons (pe_call G_qcl (hr.mono (by decide)) (by rfl) T.mg_qcl T.fn_qcl.kp T.b_qcl .nil passW (pa_cons (pv 1) (pa_cons pe_str pa_nil))) pa_nil)) pa_nil)))) pss_nil)
        (pss_one (ps_ret (pe_call G_qbb (hr.mono (by decide)) (by rfl) T.mg_qbb T.fn_qbb.kp T.b_qbb .nil passW (pa_cons (pv 1) pa_nil))))))), ?_⟩
    refine ⟨_, rfl, rfl, decide (n = Sg35.ascii "rect"), congrArg V.bl (strEq2 hx _), ?_⟩
    by_cases n1 : n = Sg35.ascii "rect"
    · rw [decide_eq_true n1]
      subst n1
      exact iteT ⟨_, rfl, d, as, rfl, hat, k1, k2⟩
    rw [decide_eq_false n1]
    refine iteF ⟨_, rfl, rfl, decide (n = Sg35.ascii "circle"), congrArg V.bl (strEq2 hx _), ?_⟩
    by_cases n2 : n = Sg35.ascii "circle"
    · rw [decide_eq_true n2]
      subst n2
      exact iteT ⟨_, rfl, d, as, rfl, hat, k1, k2⟩
    rw [decide_eq_false n2]
    refine iteF ⟨_, rfl, rfl, decide (n = Sg35.ascii "path"), congrArg V.bl (strEq2 hx _), ?_⟩
    by_cases n3 : n = Sg35.ascii "path"
    · rw [decide_eq_true n3]
      subst n3
      rw [kind_path] at k1 k2
      refine iteT ⟨_, rfl, d, _, "d", as, rfl, rfl, hat, fun hv => k1 (by rw [hv]; rfl), fun v y hv ht => ?_⟩
      rw [hv] at k1 k2
      dsimp only [Option.bind_some] at k1 k2
      refine ⟨y, v, rfl, ht, fun hq => k1 (by rw [hq]; rfl), fun ls lo H1 hq kp1 hlo => ?_⟩
      rw [hq] at k2
      intro ob dob hob hdob hne
      refine ⟨ob, dob, _, rfl, upd_same, fun H2 kp2' h2 => ⟨rfl, ?_⟩⟩
      have kp2 : Keep [] H1 H2 := Keep.made hob hdob kp2'
      obtain ⟨rs, ls', e1, e2, e3, e4, e5⟩ := hlo
      exact k2 _ ob H2 rfl (kp1.trans kp2) ⟨dob, lo, h2, kp1.free0 hob, rs, ls', kp2.at e1, e2, e3, e4.keep kp2 (fun _ _ => by simp), e5⟩
    rw [decide_eq_false n3]
    have hp : n = Sg35.ascii "polygon" ∨ n = Sg35.ascii "polyline" := by
      unfold shapeNames at hn
      simp only [List.mem_cons, List.not_mem_nil, or_false] at hn
      rcases hn with h | h | h | h | h
      · exact absurd h n1
      · exact absurd h n2
      · exact .inl h
      · exact .inr h
      · exact absurd h n3
    have ek : Sg35.kindOf n as = Sg35.kindOf (Sg35.ascii "polygon") as := by rw [kind_points hp, kind_points (.inl rfl)]
    rw [ek] at k1 k2
    exact iteF ⟨_, rfl, d, as, rfl, hat, k1, k2⟩
end Pg
namespace Pg
open PySem PySem.Spec PyProof.Rows L2 TL
variable {P : Program} {w : World} {K : PySem.W.Frag} {mg : Str → Option Value} {base : Heap} {a : Adr}
section
variable {M : List Addr} {F : Addr → Prop} {H H' : Hp}
theorem StyAt.keep {s : Addr} {f : Option Nat} {o : Bool} (h : StyAt a H s f o) (k : Keep M H H') (n : s ∉ M) : StyAt a H' s f o := by
  obtain ⟨dx, e⟩ := h
  exact ⟨dx, k.kp _ _ e n⟩
theorem LinesNew.keep {l : Addr} {ls : Sg35.Lines} (h : LinesNew K F H l ls) (k : Keep M H H') (hF : ∀ x, F x → x ∉ M) : LinesNew K F H' l ls := by
  obtain ⟨rs, ls', e1, e2, e3, e4, e5⟩ := h
  exact ⟨rs, ls', k.kp _ _ e1 (hF _ e2), e2, e3, e4.keep k fun r hr => hF r (e3 r hr), e5⟩
theorem FigAt.keep {f : Addr} {kd : Sg35.Kind} (h : FigAt a K F H f kd) (k : Keep M H H') (hF : ∀ x, F x → x ∉ M) : FigAt a K F H' f kd := by
  cases kd with
  | lines ls =>
    obtain ⟨dx, l, e1, e2, e3⟩ := h
    exact ⟨dx, l, k.kp _ _ e1 (hF _ e2), e2, e3.keep k hF⟩
  | circle x y r =>
    obtain ⟨dx, e1, e2⟩ := h
    exact ⟨dx, k.kp _ _ e1 (hF _ e2), e2⟩
theorem FigAt.imp {G : Addr → Prop} {f : Addr} {kd : Sg35.Kind} (h : FigAt a K F H f kd) (hF : ∀ x, F x → G x) : FigAt a K G H f kd := by
  cases kd with
  | lines ls =>
    obtain ⟨dx, l, e1, e2, rs, ls', e3, e4, e5, e6⟩ := h
    exact ⟨dx, l, e1, hF _ e2, rs, ls', e3, hF _ e4, fun x hx => hF _ (e5 x hx), e6⟩
  | circle x y r =>
    obtain ⟨dx, e1, e2⟩ := h
    exact ⟨dx, e1, hF _ e2⟩
theorem ShAt.keep {s : Addr} {sh : Sg35.Shape} (h : ShAt a K F H s sh) (k : Keep M H H') (hF : ∀ x, F x → x ∉ M) : ShAt a K F H' s sh := by
  obtain ⟨dx, f, m, y, e1, e2, e3, e4, e5, e6, e7⟩ := h
  exact ⟨dx, f, m, y, k.kp _ _ e1 (hF _ e2), e2, e3, e4.keep k hF, k.sqT e5, e6, e7.keep k (hF _ e3)⟩
theorem HoAt.keep {x : Addr} {f : Sg35.Fr} (h : HoAt a K F H x f) (k : Keep M H H') (hF : ∀ x, F x → x ∉ M) : HoAt a K F H' x f := by
  obtain ⟨dx, m, y, e1, e2, e3, e4, e5, e6, e7⟩ := h
  exact ⟨dx, m, y, k.kp _ _ e1 (hF _ e2), e2, e3, k.sqT e4, e5, e6.keep k (hF _ e3), e7⟩
theorem StkAt.keep {hl : Addr} {hs : List Addr} {fs : List Sg35.Fr} (h : StkAt a K F H hl hs fs) (k : Keep M H H') (n : hl ∉ M) (hF : ∀ x, F x → x ∉ M) : StkAt a K F H' hl hs fs :=
  ⟨k.kp _ _ h.lst n, Paired.mapP h.ho fun _ _ z => HoAt.keep z k hF, h.few, h.dep⟩
theorem PicAt.keep {p l : Addr} {ss : List Addr} {w h : Nat} {shs : List Sg35.Shape} (z : PicAt a K F H p l ss w h shs) (k : Keep M H H') (n1 : p ∉ M) (n2 : l ∉ M) (hF : ∀ x, F x → x ∉ M) : PicAt a K F H' p l ss w h shs := by
  obtain ⟨dx, e⟩ := z.ob
  exact ⟨⟨dx, k.kp _ _ e n1⟩, k.kp _ _ z.lst n2, Paired.mapP z.sh fun _ _ q => ShAt.keep q k hF, z.few⟩
theorem pr_snoc {α β : Type} {R : α → β → Prop} {x : α} {y : β} : ∀ {l : List α} {m : List β}, Paired R l m → R x y → Paired R (l ++ [x]) (m ++ [y])
  | _, _, .nil, r => .cons r .nil
  | _, _, .cons q t, r => .cons q (pr_snoc t r)
theorem pr_unsnoc {α β : Type} {R : α → β → Prop} : ∀ {l : List α} {m : List β} {y : β}, Paired R l (m ++ [y]) → ∃ l0 x, l = l0 ++ [x] ∧ Paired R l0 m ∧ R x y
  | _, [], y, h => by
    cases h with
    | cons q t => cases t; exact ⟨[], _, rfl, .nil, q⟩
  | _, z :: m, y, h => by
    cases h with
    | cons q t =>
      obtain ⟨l0, x, e, h1, h2⟩ := pr_unsnoc (m := m) t
      exact ⟨_ :: l0, x, by rw [e]; rfl, .cons q h1, h2⟩
theorem PicAt.push {p l s : Addr} {ss : List Addr} {w h : Nat} {shs : List Sg35.Shape} {sh : Sg35.Shape} (z : PicAt a K F H p l ss w h shs) (hs : ShAt a K F H s sh) (hpl : p ≠ l) (hF : ∀ x, F x → x ≠ l) (hf : shs.length < 65600) :
    PicAt a K F (upd H l (.lst (ss.map V.ref ++ [V.ref s]))) p l (ss ++ [s]) w h (shs ++ [sh]) := by
  obtain ⟨dx, e⟩ := z.ob
  have k1 : Keep [l] H (upd H l (.lst (ss.map V.ref ++ [V.ref s]))) := Keep.set (by simp) (by rw [z.lst]; exact trivial)
  have hF' : ∀ x, F x → x ∉ [l] := fun x hx => by simpa using hF x hx
  refine ⟨⟨dx, k1.one e hpl⟩, by rw [upd_same, List.map_append]; rfl, pr_snoc (Paired.mapP z.sh fun _ _ q => ShAt.keep q k1 hF') (hs.keep k1 hF'), ?_⟩
  rw [List.length_append]; simp only [List.length_cons, List.length_nil]; omega
theorem StkAt.push {hl x : Addr} {hs : List Addr} {fs : List Sg35.Fr} {f : Sg35.Fr} (z : StkAt a K F H hl hs fs) (hx : HoAt a K F H x f) (hF : ∀ x, F x → x ≠ hl) (hf : fs.length < 19) (hd : f.shape = false → f.k + fs.length = 17) :
    StkAt a K F (upd H hl (.lst (hs.map V.ref ++ [V.ref x]))) hl (hs ++ [x]) (fs ++ [f]) := by
  have k1 : Keep [hl] H (upd H hl (.lst (hs.map V.ref ++ [V.ref x]))) := Keep.set (by simp) (by rw [z.lst]; exact trivial)
  have hF' : ∀ x, F x → x ∉ [hl] := fun x hx => by simpa using hF x hx
  refine ⟨by rw [upd_same, List.map_append]; rfl, pr_snoc (Paired.mapP z.ho fun _ _ q => HoAt.keep q k1 hF') (hx.keep k1 hF'), ?_, fun i g hg hs => ?_⟩
  · rw [List.length_append]; simp only [List.length_cons, List.length_nil]; omega
  · by_cases hi : i < fs.length
    · rw [List.getElem?_append_left hi] at hg
      exact z.dep i g hg hs
    · rw [List.getElem?_append_right (by omega)] at hg
      have : i = fs.length := by
        have := (List.getElem?_eq_some_iff.mp hg).1
        simp only [List.length_cons, List.length_nil] at this
        omega
      subst this
      simp at hg
      subst hg
      exact hd hs
end
theorem tgF_name {u v z : V} : (tgF u v z).lookup ("name" : Str) = some u := lk_here
theorem tgF_attributes {u v z : V} : (tgF u v z).lookup ("attributes" : Str) = some v := (lk_next (by decide +kernel)).trans lk_here
theorem tgF_closed {u v z : V} : (tgF u v z).lookup ("closed" : Str) = some z := (lk_next (by decide +kernel)).trans ((lk_next (by decide +kernel)).trans lk_here)
theorem hoF_name {u v z : V} : (hoF u v z).lookup ("name" : Str) = some u := lk_here
theorem hoF_matrix {u v z : V} : (hoF u v z).lookup ("matrix" : Str) = some v := (lk_next (by decide +kernel)).trans lk_here
theorem hoF_style {u v z : V} : (hoF u v z).lookup ("style" : Str) = some z := (lk_next (by decide +kernel)).trans ((lk_next (by decide +kernel)).trans lk_here)
theorem pcF_width {u v z : V} : (pcF u v z).lookup ("width" : Str) = some u := lk_here
theorem pcF_height {u v z : V} : (pcF u v z).lookup ("height" : Str) = some v := (lk_next (by decide +kernel)).trans lk_here
theorem pcF_shapes {u v z : V} : (pcF u v z).lookup ("shapes" : Str) = some z := (lk_next (by decide +kernel)).trans ((lk_next (by decide +kernel)).trans lk_here)
theorem inShapes (n : B) : inV (.str (sg n)) [.str "rect", .str "circle", .str "polygon", .str "polyline", .str "path"] = decide (n ∈ shapeNames) := by
  unfold inV shapeNames
  simp only [List.any_cons, List.any_nil, Bool.or_false, eqV]
  rw [Bool.eq_iff_iff]
  simp only [Bool.or_eq_true, beq_iff_eq, decide_eq_true_eq, List.mem_cons, List.not_mem_nil, or_false, lit, sg_iff]
  constructor
  · rintro (h | h | h | h | h) <;> simp [h]
  · rintro (h | h | h | h | h) <;> simp [h]
theorem ok_qas (T : Txt K mg a) : O_qas P w K mg base a := by
  refine T.fn_qas.okX sc_qas (fun vs H Q E h => ?_) (fun cdv A outer s H vs Q E hr h => ?_)
  · obtain ⟨x, dx, u, v, rfl, _⟩ := h
    rfl
  · obtain ⟨x, dx, u, v, rfl, hx, k⟩ := h
    refine ⟨_, (pss_cons (ps_fld (pv 0) (pv 1) rfl)
        (pss_cons (ps_fld (pv 0) (pv 2) rfl)
        (pss_one (ps_fld (pv 0) (pe_lst pa_nil) rfl)))), ?_⟩
    refine ⟨_, rfl, _, rfl, x, a.cPicture, dx, _, rfl, hx, T.cl_Picture, T.na_Picture_width, (by show 0 < 1000; decide), _, rfl, _, rfl, x, a.cPicture, dx, _, rfl, upd_same, T.cl_Picture, T.na_Picture_height, (by show 1 < 1000; decide), (by show 0 ≤ sizeLine; decide), fun l hl => ?_⟩
    have e0 : upd (upd H x (.ins a.cPicture dx (putF "width" u []))) x (.ins a.cPicture dx (putF "height" v (putF "width" u []))) = upd H x (.ins a.cPicture dx [("width", u), ("height", v)]) := by
      rw [upd_upd, pf_nil, pf_next (by decide +kernel), pf_nil]
    rw [e0] at hl
    refine ⟨_, rfl, x, a.cPicture, dx, [("width", u), ("height", v)], rfl, ?_, T.cl_Picture, T.na_Picture_shapes, (by show 2 < 1000; decide), ?_⟩
    · rw [e0]; exact (Keep.new (M := []) hl).at upd_same
    rw [e0]
    have e : putF "shapes" (V.ref l) ([("width", u), ("height", v)] : List (Str × V)) = pcF u v (.ref l) := by
      rw [pf_next (by decide +kernel), pf_next (by decide +kernel), pf_nil]
      rfl
    show Q _ (upd (upd (upd H x _) l _) x _)
    rw [e]
    have k1 : Keep [x] H (upd H x (.ins a.cPicture dx [("width", u), ("height", v)])) := Keep.set (by simp) (by rw [hx]; exact trivial)
    have k2 : Keep [x] (upd H x (.ins a.cPicture dx [("width", u), ("height", v)])) (upd (upd H x (.ins a.cPicture dx [("width", u), ("height", v)])) l (.lst [])) := Keep.new hl
    have ex := (Keep.new (M := []) (o := HO.lst []) hl).at (upd_same (H := H) (a := x) (o := .ins a.cPicture dx [("width", u), ("height", v)]))
    have nxl : l ≠ x := fun z => by rw [z, upd_same] at hl; cases hl
    have k3 : Keep [x] (upd (upd H x (.ins a.cPicture dx [("width", u), ("height", v)])) l (.lst [])) (upd (upd (upd H x (.ins a.cPicture dx [("width", u), ("height", v)])) l (.lst [])) x (.ins a.cPicture dx (pcF u v (.ref l)))) := Keep.set (by simp) (by rw [ex]; exact trivial)
    exact k l _ (k1.trans (k2.trans k3)) (by rw [upd_ne nxl] at hl; exact hl) (k3.one upd_same nxl) upd_same
theorem side_of {as : List (B × B)} {s : String} {v : B} (hv : Sg35.attr as s = some v) : Sg35.side as s = (Sg35.single v).bind fun z => if 1 ≤ z ∧ z ≤ 1024 then some z.toNat else none := by
  unfold Sg35.side Sg35.numIn
  rw [hv]
theorem side_no {as : List (B × B)} {s : String} (hv : Sg35.attr as s = none) : Sg35.side as s = none := by
  unfold Sg35.side Sg35.numIn
  rw [hv]
  rfl
theorem ok_qbo (T : Txt K mg a) (G_qak : O_qak P w K mg base a) (G_qcl : O_qcl P w K mg base a) (G_qas : O_qas P w K mg base a) : O_qbo P w K mg base a := by
  refine T.fn_qbo.okX sc_qbo (fun vs H Q E h => ?_) (fun cdv A outer s H vs Q E hr h => ?_)
  · obtain ⟨g, n, as, shut, rfl, _⟩ := h
    rfl
  · obtain ⟨g, n, as, shut, rfl, ⟨dx, d, hg, hat, hnm⟩, k1, k2⟩ := h
    refine ⟨_, (pss_cons (ps_if (pt_cmpR op_ne (pe_fld (pv 0) rfl) pe_str (nomark _)) (pss_one (ps_raise T.xc_WrongText (by rfl))) pss_nil)
        (pss_cons (ps_set (i := 1) sc_qbo.nd rfl (by first | exact Or.inl rfl | exact Or.inr rfl) (pe_call G_qak (hr.mono (by decide)) (by rfl) T.mg_qak T.fn_qak.kp T.b_qak .nil passW (pa_cons (pe_call G_qcl (hr.mono (by decide)) (by rfl) T.mg_qcl T.fn_qcl.kp T.b_qcl .nil passW (pa_cons (pe_fld (pv 0) rfl) (pa_cons pe_str pa_nil))) (pa_cons pe_int (pa_cons (pe_globV (by rfl) T.ct_LARGEST_SIDE) pa_nil)))))
        (pss_cons (ps_set (i := 2) sc_qbo.nd rfl (by first | exact Or.inl rfl | exact Or.inr rfl) (pe_call G_qak (hr.mono (by decide)) (by rfl) T.mg_qak T.fn_qak.kp T.b_qak .nil passW (pa_cons (pe_call G_qcl (hr.mono (by decide)) (by rfl) T.mg_qcl T.fn_qcl.kp T.b_qcl .nil passW (pa_cons (pe_fld (pv 0) rfl) (pa_cons pe_str pa_nil))) (pa_cons pe_int (pa_cons (pe_globV (by rfl) T.ct_LARGEST_SIDE) pa_nil)))))
        (pss_one (ps_ret (pe_make T.mk_Picture G_qas (hr.mono (by decide)) (by rfl) T.mgc_Picture T.b_qas .nil passW (pa_cons (pv 1) (pa_cons (pv 2) pa_nil)))))))), ?_⟩
    refine ⟨_, rfl, g, a.cTag, dx, _, _, rfl, hg, T.cl_Tag, T.na_Tag_name, tgF_name, rfl, !decide (n = Sg35.ascii "svg"), congrArg (fun z => V.bl (!z)) (strEq2 rfl _), ?_⟩
    by_cases hn : n = Sg35.ascii "svg"
    case neg =>
      rw [decide_eq_false hn]
      exact iteT (k1 (fun h => absurd h hn) _)
    rw [decide_eq_true hn]
    refine iteF ⟨_, rfl, g, a.cTag, dx, _, _, rfl, hg, T.cl_Tag, T.na_Tag_attributes, tgF_attributes, d, _, "width", as, rfl, rfl, hat, fun hv => k1 (fun _ => .inl (side_no hv)), fun v y hv ht => ?_⟩
    have hs1 := side_of hv
    refine ⟨y, v, 1, 1024, rfl, ht, fun hno => k1 (fun _ => .inl ?_), fun z H1 hz h1 h2 kp1 => ?_⟩
    · rw [hs1]
      cases hz : Sg35.single v with
      | none => rfl
      | some z => exact if_neg (hno z hz)
    rw [hz] at hs1
    have hs1' : Sg35.side as "width" = some z.toNat := by rw [hs1]; exact if_pos ⟨h1, h2⟩
    refine ⟨_, rfl, g, a.cTag, dx, _, _, rfl, kp1.at hg, T.cl_Tag, T.na_Tag_attributes, tgF_attributes, d, _, "height", as, rfl, rfl, hat.keep kp1, fun hv => k1 (fun _ => .inr (side_no hv)), fun v2 y2 hv2 ht2 => ?_⟩
    have hs2 := side_of hv2
    refine ⟨y2, v2, 1, 1024, rfl, ht2, fun hno => k1 (fun _ => .inr ?_), fun z2 H2 hz2 h3 h4 kp2 => ?_⟩
    · rw [hs2]
      cases hz : Sg35.single v2 with
      | none => rfl
      | some z => exact if_neg (hno z hz)
    rw [hz2] at hs2
    have hs2' : Sg35.side as "height" = some z2.toNat := by rw [hs2]; exact if_pos ⟨h3, h4⟩
    refine ⟨_, rfl, _, rfl, fun p dp hp hdp hne => ⟨p, dp, _, _, rfl, upd_same, fun l H3 kp3' hl hl3 hp3 => ⟨rfl, ?_⟩⟩⟩
    have kp3 : Keep [] H2 H3 := Keep.made hp hdp kp3'
    have K2 : Keep [] H H2 := kp1.trans kp2
    have hl2 : H2 l = none := by
      have e1 : l ≠ p := fun z => by rw [z, upd_same] at hl; cases hl
      rw [upd_ne e1] at hl
      have e2 : l ≠ dp := fun z => by rw [z, upd_same] at hl; cases hl
      rw [upd_ne e2] at hl
      exact hl
    refine k2 z.toNat z2.toNat p l H3 hn hs1' hs2' (K2.trans kp3) (K2.free0 hp) (K2.free0 hl2) ⟨⟨dp, ?_⟩, hl3, .nil, by simp⟩
    rw [hp3, Int.toNat_of_nonneg (by omega), Int.toNat_of_nonneg (by omega)]
theorem ok_qbd (T : Txt K mg a) : O_qbd P w K mg base a := by
  refine T.fn_qbd.okX sc_qbd (fun vs H Q E h => ?_) (fun cdv A outer s H vs Q E hr h => ?_)
  · obtain ⟨g, hl, n, as, shut, F, hs, fs, f, rfl, _⟩ := h
    rfl
  · obtain ⟨g, hl, n, as, shut, F, hs, fs, f, rfl, ⟨dx, d, hg, hat, hnm⟩, hstk, k1, k2⟩ := h
    refine ⟨_, (pss_cons (ps_if (pt_cmpR op_in_seq (pe_fld (pe_ix ix_list (pv 1) (pe_un un_neg pe_int) (fun _ _ => rfl)) rfl) (pe_glob (v := .ref _) (by rfl) T.ct_SHAPES rfl) (by with_unfolding_all rfl)) (pss_one (ps_raise T.xc_WrongText (by rfl))) pss_nil)
        (pss_one (ps_if (pw_and (pt_cmpR op_notIn_seq (pe_fld (pv 0) rfl) (pe_glob (v := .ref _) (by rfl) T.ct_SHAPES rfl) (by with_unfolding_all rfl)) (pw_and1 (pw_or (pt_cmpR op_ne (pe_fld (pv 0) rfl) pe_str (nomark _)) (pw_or1 (pt_cmpR op_gt (pe_op op_sub (pe_callB call_len_seq (by rfl) T.bl_len (by decide +kernel) (pa_cons (pv 1) pa_nil)) pe_int) (pe_globV (by rfl) T.ct_MOST_GROUPS_AROUND) (nomark _)))).pt)).pt (pss_one (ps_raise T.xc_WrongText (by rfl))) pss_nil))), ?_⟩
    obtain ⟨hs0, x, rfl, ho0, dxh, m, y, e1, e2, e3, e4, e5, e6, e7, e8⟩ := pr_unsnoc hstk.ho
    refine ⟨_, rfl, _, rfl, _, _, _, V.ref x, rfl, rfl, SqL.of hstk.lst, (by rw [List.map_append]; exact atI_last _ _), x, a.cHolder, dxh, _, _, rfl, e1, T.cl_Holder, T.na_Holder_name, hoF_name, _, _, rfl, .inr (T.kt_SHAPES H), rfl, rfl, decide (f.name ∈ shapeNames), congrArg V.bl (inShapes _), ?_⟩
    unfold childOk at k1 k2
    by_cases hsh : f.name ∈ shapeNames
    · rw [decide_eq_true hsh]
      rw [e8.mpr hsh] at k1
      exact iteT (k1 rfl _)
    have hf0 : f.shape = false := by
      cases hh : f.shape with
      | false => rfl
      | true => exact absurd (e8.mp hh) hsh
    rw [decide_eq_false hsh]
    rw [hf0] at k1 k2
    have hdep := hstk.dep fs.length f (by simp) hf0
    have hlen : (hs0 ++ [x]).length = fs.length + 1 := by rw [Paired.length hstk.ho, List.length_append]; rfl
    refine iteF ⟨_, rfl, g, a.cTag, dx, _, _, rfl, hg, T.cl_Tag, T.na_Tag_name, tgF_name, _, _, rfl, .inr (T.kt_SHAPES H), rfl, rfl, !decide (n ∈ shapeNames), congrArg (fun z => V.bl (!z)) (inShapes _), ?_⟩
    by_cases hn : n ∈ shapeNames
    · rw [decide_eq_true hn] at k2 ⊢
      exact iteF (iteF (k2 rfl))
    rw [decide_eq_false hn] at k1 k2 ⊢
    refine iteT ⟨_, rfl, g, a.cTag, dx, _, _, rfl, hg, T.cl_Tag, T.na_Tag_name, tgF_name, rfl, !decide (n = Sg35.ascii "g"), congrArg (fun z => V.bl (!z)) (strEq2 rfl _), ?_⟩
    by_cases hgg : n = Sg35.ascii "g"
    case neg =>
      rw [decide_eq_false hgg] at k1 ⊢
      exact iteT (iteT (k1 rfl _))
    rw [decide_eq_true hgg] at k1 k2 ⊢
    refine iteF ⟨_, rfl, hl, _, rfl, .inl (SqL.of hstk.lst), _, _, rfl, rfl, _, _, rfl, rfl, !decide (f.k ≠ 0), congrArg V.bl (by
      rw [List.length_map, hlen, Bool.eq_iff_iff, decide_eq_true_eq, Bool.not_eq_true', decide_eq_false_iff_not]
      constructor
      · intro z; omega
      · intro z; omega), ?_⟩
    by_cases hk : f.k ≠ 0
    · rw [decide_eq_true hk] at k2 ⊢
      exact iteF (k2 rfl)
    · rw [decide_eq_false hk] at k1 ⊢
      exact iteT (k1 rfl _)
end Pg
namespace Pg
open PySem PySem.Spec PyProof.Rows L2 TL
variable {P : Program} {w : World} {K : PySem.W.Frag} {mg : Str → Option Value} {base : Heap} {a : Adr}
theorem lit_lt60 : ("<" : Str) = sg [60] := by decide +kernel
theorem lit_end : ("</" : Str) = sg [60, 47] := by decide +kernel
def trIn (m : Sg35.Mat) (as : List (B × B)) : Option Sg35.Mat := match Sg35.attr as "transform" with
  | some v => Sg35.turned m v
  | none => some m
theorem tx_empty : TxB ("" : Str) [] := ⟨by decide +kernel, by decide, fun c hc => by simp at hc⟩
theorem turned_empty (m : Sg35.Mat) : Sg35.turned m [] = some m := by rw [Sg35.turned_eq]; rfl
theorem getT {H : Hp} {d : Addr} {as : List (B × B)} (hat : AtAt H d as) (m : Sg35.Mat) : ∃ (y : Str) (v : B), DGet H d (.str "transform") (valV (atK as) (Sum.inr "transform")) ∧ (valV (atK as) (Sum.inr "transform")).getD (.str "") = .str y ∧ TxB y v ∧ trIn m as = Sg35.turned m v := by
  have hg : DGet H d (.str "transform") (valV (atK as) (Sum.inr "transform")) := DGet.k (k := Sum.inr "transform") hat.1
  unfold trIn
  cases hv : Sg35.attr as "transform" with
  | none => exact ⟨"", [], hg, by rw [at_val, hv]; rfl, tx_empty, (turned_empty m).symm⟩
  | some v => exact ⟨_, v, hg, by rw [at_val, hv]; rfl, at_tx hat hv, rfl⟩
theorem styled_true (s : Sg35.Style) (as : List (B × B)) : Sg35.styled s as true = (styOf s.fill s.odd as).bind fun fo => (trIn s.mat as).map fun m => ⟨fo.1, fo.2, m⟩ := by
  have e : Sg35.styled s as true = (fillIn s.fill as).bind fun fill => (ruleIn s.odd as).bind fun odd => (trIn s.mat as).bind fun mat => some (⟨fill, odd, mat⟩ : Sg35.Style) := by
    unfold Sg35.styled fillIn ruleIn trIn
    rfl
  rw [e]
  unfold styOf
  cases fillIn s.fill as with
  | none => rfl
  | some f =>
    cases ruleIn s.odd as with
    | none => rfl
    | some o => cases trIn s.mat as <;> rfl
theorem styled_false (s : Sg35.Style) (as : List (B × B)) : Sg35.styled s as false = (styOf s.fill s.odd as).map fun fo => ⟨fo.1, fo.2, s.mat⟩ := by
  have e : Sg35.styled s as false = (fillIn s.fill as).bind fun fill => (ruleIn s.odd as).bind fun odd => some (⟨fill, odd, s.mat⟩ : Sg35.Style) := by
    unfold Sg35.styled fillIn ruleIn
    rfl
  rw [e]
  unfold styOf
  cases fillIn s.fill as with
  | none => rfl
  | some f => cases ruleIn s.odd as <;> rfl
theorem kind_none {n : B} (h : n ∉ shapeNames) (as : List (B × B)) : Sg35.kindOf n as = none := by
  unfold shapeNames at h
  simp only [List.mem_cons, List.not_mem_nil, or_false, not_or] at h
  unfold Sg35.kindOf
  rw [if_neg h.1, if_neg h.2.1, if_neg (by rintro (z | z); exact h.2.2.1 z; exact h.2.2.2.1 z), if_neg h.2.2.2.2]
theorem child_bad {f : Sg35.Fr} {n : B} (h : childOk f n = false) (as : List (B × B)) : Sg35.child f n as = none := by
  unfold childOk at h
  unfold Sg35.child
  cases hs : f.shape with
  | true => rfl
  | false =>
    rw [hs] at h
    simp only [Bool.not_false, Bool.true_and, Bool.or_eq_false_iff, decide_eq_false_iff_not, Bool.and_eq_false_iff] at h
    rw [if_neg Bool.false_ne_true]
    by_cases hg : n = Sg35.ascii "g"
    · rw [if_pos hg, if_pos]
      have := h.2.resolve_left fun z => z hg
      simpa using this
    · rw [if_neg hg, kind_none h.1]; rfl
theorem g_not : Sg35.ascii "g" ∉ shapeNames := by decide +kernel
theorem ok_qbp (T : Txt K mg a) (G_qbh : O_qbh P w K mg base a) (G_qcd : O_qcd P w K mg base a) (G_qbd : O_qbd P w K mg base a) (G_qav : O_qav P w K mg base a) (G_qck : O_qck P w K mg base a) (G_qbr : O_qbr P w K mg base a) (G_qbc : O_qbc P w K mg base a) (G_qbj : O_qbj P w K mg base a) : O_qbp P w K mg base a := by
  refine T.fn_qbp.okX sc_qbp (fun vs H Q E h => ?_) (fun cdv A outer s H vs Q E hr h => ?_)
  · obtain ⟨r, hl, p, l, q, F, hs, ss, fs, f, w, h, shs, rfl, _⟩ := h
    rfl
  · obtain ⟨r, hl, p, l, q, F, hs, ss, fs, f, wd, ht, shs, rfl, hR, hstk, hpic, hF0, hF1, nrh, nrp, nrl, nhp, nhl, npl, hsz, k1, k2⟩ := h
    refine ⟨_, (pss_cons (ps_expr (pe_meth (pv 0) T.cl_Reader T.me_qbh G_qbh (hr.mono (by decide)) T.b_qbh .nil passW (pa_cons pe_str pa_nil)))
        (pss_cons (ps_set (i := 3) sc_qbp.nd rfl (by first | exact Or.inl rfl | exact Or.inr rfl) (pe_call G_qcd (hr.mono (by decide)) (by rfl) T.mg_qcd T.fn_qcd.kp T.b_qcd .nil passW (pa_cons (pv 0) pa_nil)))
        (pss_cons (ps_expr (pe_call G_qbd (hr.mono (by decide)) (by rfl) T.mg_qbd T.fn_qbd.kp T.b_qbd .nil passW (pa_cons (pv 3) (pa_cons (pv 1) pa_nil))))
        (pss_cons (ps_set (i := 4) sc_qbp.nd rfl (by first | exact Or.inl rfl | exact Or.inr rfl) (pe_call G_qav (hr.mono (by decide)) (by rfl) T.mg_qav T.fn_qav.kp T.b_qav .nil passW (pa_cons (pe_fld (pe_ix ix_list (pv 1) (pe_un un_neg pe_int) (fun _ _ => rfl)) rfl) (pa_cons (pe_dget2 (hu_of hr) (pe_fld (pv 3) rfl) pe_str pe_str ⟨rfl, rfl, rfl, rfl⟩) pa_nil))))
        (pss_cons (ps_set (i := 5) sc_qbp.nd rfl (by first | exact Or.inl rfl | exact Or.inr rfl) (pe_call G_qck (hr.mono (by decide)) (by rfl) T.mg_qck T.fn_qck.kp T.b_qck .nil passW (pa_cons (pe_fld (pe_ix ix_list (pv 1) (pe_un un_neg pe_int) (fun _ _ => rfl)) rfl) (pa_cons (pe_fld (pv 3) rfl) pa_nil))))
        (pss_cons (ps_if (pt_cmpR op_in_seq (pe_fld (pv 3) rfl) (pe_glob (v := .ref _) (by rfl) T.ct_SHAPES rfl) (by with_unfolding_all rfl)) (pss_one (ps_expr (pe_bm PySem.F.plainAttrs_list PySem.F.slot_list_append PySem.F.type_list_append mt_append (pe_fld (pv 2) rfl) (pa_cons (pe_make T.mk_Shape G_qbr (hr.mono (by decide)) (by rfl) T.mgc_Shape T.b_qbr .nil passW (pa_cons (pe_call G_qbc (hr.mono (by decide)) (by rfl) T.mg_qbc T.fn_qbc.kp T.b_qbc .nil passW (pa_cons (pe_fld (pv 3) rfl) (pa_cons (pe_fld (pv 3) rfl) pa_nil))) (pa_cons (pv 4) (pa_cons (pv 5) pa_nil)))) pa_nil)))) pss_nil)
        (pss_one (ps_if (pt_not (pt_val (pe_fld (pv 3) rfl))) (pss_one (ps_expr (pe_bm PySem.F.plainAttrs_list PySem.F.slot_list_append PySem.F.type_list_append mt_append (pv 1) (pa_cons (pe_make T.mk_Holder G_qbj (hr.mono (by decide)) (by rfl) T.mgc_Holder T.b_qbj .nil passW (pa_cons (pe_fld (pv 3) rfl) (pa_cons (pv 4) (pa_cons (pv 5) pa_nil)))) pa_nil)))) pss_nil)))))))), ?_⟩
    refine m_need rfl hR lit_lt60 (by decide) (fun t e H1 kp1 hR1 => ?_) (fun hno => k1 fun t g e => absurd e (hno t))
    subst e
    refine ⟨_, rfl, r, t, rfl, hR1, fun hn => k1 fun t' g' e' hg' => ?_, fun g tg hg htg0 H2 kp2 hR2 htag => ?_⟩
    · have e2 : t = t' := (List.cons.inj (show 60 :: t = 60 :: t' from e')).2
      subst e2
      rw [hn] at hg'; cases hg'
    have k1' : Sg35.child f g.name g.attrs = none → Fails a E := fun hc => k1 fun t' g' e' hg' => by
      have e2 : t = t' := (List.cons.inj (show 60 :: t = 60 :: t' from e')).2
      subst e2
      rw [hg] at hg'
      cases hg'
      exact hc
    have K2 : Keep [r] H H2 := kp1.trans kp2
    have hFr : ∀ x, F x → x ∉ [r] := fun x hx => by simpa using (hF1 x hx).1
    have hstk2 := hstk.keep K2 (by simpa using nrh.symm) hFr
    have hpic2 := hpic.keep K2 (by simpa using nrp.symm) (by simpa using nrl.symm) hFr
    refine ⟨_, rfl, _, rfl, tg, hl, g.name, g.attrs, g.shut, F, hs, fs, f, rfl, htag, hstk2, fun hbad => k1' (child_bad hbad _), fun hok => ?_⟩
    obtain ⟨dxt, d, hg2, hat2, hnm⟩ := id htag
    obtain ⟨hs0, x, rfl, ho0, dxh, my, yy, e1, e2, e3, e4, e5, e6, e7, e8⟩ := pr_unsnoc hstk2.ho
    obtain ⟨y1, v1, g1, d1, t1, n1⟩ := getT hat2 f.style.mat
    have hsf : f.shape = false := by
      unfold childOk at hok
      rw [Bool.and_eq_true] at hok
      simpa using hok.1
    have hlast : atI ((hs0 ++ [x]).map V.ref) (-1) = some (V.ref x) := by rw [List.map_append]; exact atI_last _ _
    have nofail : Sg35.styled f.style g.attrs true = none → Sg35.child f g.name g.attrs = none := fun hs => by
      unfold Sg35.child
      rw [if_neg (by rw [hsf]; exact Bool.false_ne_true), hs]
      split
      · split <;> rfl
      · cases Sg35.kindOf g.name g.attrs <;> rfl
    refine ⟨_, rfl, _, rfl, _, _, _, V.ref x, rfl, rfl, SqL.of hstk2.lst, hlast, x, a.cHolder, dxh, _, _, rfl, e1, T.cl_Holder, T.na_Holder_matrix, hoF_matrix, _, rfl, tg, a.cTag, dxt, _, _, rfl, hg2, T.cl_Tag, T.na_Tag_attributes, tgF_attributes, d, rfl, .inl ⟨_, .inl hat2.1⟩, _, g1,
      my, f.style.mat, y1, v1, (by rw [d1]; rfl), e4, e5, t1, fun hn => k1' (nofail (by rw [styled_true, n1, hn]; cases styOf f.style.fill f.style.odd g.attrs <;> rfl)), fun m' mt H3 hm' kp3 hmt hms => ?_⟩
    have hm3 : trIn f.style.mat g.attrs = some m' := n1.trans hm'
    have hstk3 := hstk2.keep kp3 (by simp) (fun _ _ => by simp)
    refine ⟨_, rfl, _, rfl, _, _, _, V.ref x, rfl, rfl, SqL.of hstk3.lst, hlast, x, a.cHolder, dxh, _, _, rfl, kp3.at e1, T.cl_Holder, T.na_Holder_style, hoF_style, _, rfl, tg, a.cTag, dxt, _, _, rfl, kp3.at hg2, T.cl_Tag, T.na_Tag_attributes, tgF_attributes,
      yy, d, f.style.fill, f.style.odd, g.attrs, rfl, e6.keep kp3 (by simp), hat2.keep kp3, fun hn => k1' (nofail (by rw [styled_true, hn]; rfl)), fun f' o' st H4 hfo kp4 hst0 hst4 => ?_⟩
    have hsty : Sg35.styled f.style g.attrs true = some ⟨f', o', m'⟩ := by rw [styled_true, hfo]; show (trIn f.style.mat g.attrs).map _ = _; rw [hm3]; rfl
    have k24 : Keep [] H2 H4 := kp3.trans kp4
    have K4 : Keep [r] H H4 := K2.trans k24.up
    have hstk4 := hstk2.keep k24 (by simp) (fun _ _ => by simp)
    have hpic4 := hpic2.keep k24 (by simp) (by simp) (fun _ _ => by simp)
    have hR4 := hR2.keep0 k24
    have htag4 := htag.keep k24
    have hmt4 : MatAt K H4 mt m' := kp4.sqT hmt
    have fresh : ∀ {G : Hp} {z : Addr}, Keep [r, l] H G → RdR a G r g.rest → (∃ o, G l = some o) → G z = none → F z := fun {G z} kG hRG hlG hz => hF0 z (kG.free hz (by
      obtain ⟨o, ho⟩ := hlG
      have := hRG.ne hz
      have h2 := ne_of_none ho hz
      simp only [List.mem_cons, List.not_mem_nil, or_false, not_or]
      exact ⟨this.symm, h2.symm⟩))
    have hFst : F st := by
      refine fresh (G := H3) ((K2.trans kp3.up).mono (fun z hz => by simp at hz; simp [hz])) (hR2.keep0 kp3) ⟨_, kp3.at hpic2.lst⟩ hst0
    have rl : ∀ {z : Addr}, z ∈ [r] → z ∈ [r, l] := fun hz => by simp at hz; simp [hz]
    have hqlen : g.rest.length + 1 < t.length := Sg35.tagAt_len hg
    have hszt : shs.length + (t.length + 1) ≤ 65600 := by simpa using hsz
    have fin : ∀ (G : Hp) (ss' : List Addr) (c : Sg35.Fr × List Sg35.Shape), Sg35.child f g.name g.attrs = some c → c.1.name = g.name → c.1.style = ⟨f', o', m'⟩ → (c.1.shape = true ↔ g.name ∈ shapeNames) → (c.1.shape = false → c.1.k + 1 = f.k) → Keep [r, l] H G → Keep [l] H4 G → StkAt a K F G hl (hs0 ++ [x]) (fs ++ [f]) → PicAt a K F G p l ss' wd ht (shs ++ c.2) →
        tIfS (tNot (tB (tFld K (tVar 3) "closed"))) (tDrop (tBM K "list" rAppend (tVar 1) (tCons (tMake a.cHolder (sp_Holder_init a) [] E (tCons (tFld K (tVar 3) "name") (tCons (tVar 4) (tCons (tVar 5) tNil)))) tNil))) tNext { nx := fun _ H' => Q .non H', rt := Q } [some (.ref r), some (.ref hl), some (.ref p), some (.ref tg), some (.ref mt), some (.ref st)] G := by
      intro G ss' c hc hcn hcs hcsh hck kG k4G hstkG hpicG
      have hlG : ∃ o, G l = some o := ⟨_, hpicG.lst⟩
      have htgl : tg ≠ l := by
        obtain ⟨_, _, e, _⟩ := htag4
        exact ne_of e hpic4.lst (by intro z; cases z)
      have hgG := k4G.one (k24.at hg2) htgl
      have hRG : RdR a G r g.rest := hR4.keep k4G (by simpa using nrl)
      refine ⟨_, rfl, tg, a.cTag, dxt, _, _, rfl, hgG, T.cl_Tag, T.na_Tag_closed, tgF_closed, _, rfl, ?_⟩
      have kk := k2 t g c rfl hg hc
      cases hsh : g.shut with
      | true =>
        refine iteF (kk (hs0 ++ [x]) ss' G (kG.mono fun z hz => by simp at hz; rcases hz with rfl | rfl <;> simp) hRG ?_ hpicG)
        rw [hsh, if_pos rfl]
        exact hstkG
      | false =>
        refine iteT ⟨_, rfl, .inl ⟨rfl, _, SqL.of hstkG.lst⟩, _, rfl, tg, a.cTag, dxt, _, _, rfl, hgG, T.cl_Tag, T.na_Tag_name, tgF_name, _, rfl, _, rfl, fun z dz hz hdz hne => ⟨z, dz, _, _, _, rfl, upd_same, fun G2 kp5' h5 => ⟨rfl, ?_⟩⟩⟩
        have kp5 : Keep [] G G2 := Keep.made hz hdz kp5'
        have hdep := hstk.dep fs.length f (by simp) hsf
        have hfl : fs.length ≤ 17 := by omega
        have hlen : (hs0 ++ [x]).length ≤ 18 := by rw [Paired.length hstkG.ho, List.length_append]; simp only [List.length_cons, List.length_nil]; omega
        have hstk6 := hstkG.keep kp5 (by simp) (fun _ _ => by simp)
        have hpic6 := hpicG.keep kp5 (by simp) (by simp) (fun _ _ => by simp)
        refine ⟨hl, _, _, rfl, rfl, hstk6.lst, (by rw [List.length_map, sizeLine_eq]; omega), ?_⟩
        have hFz : F z := fresh kG hRG hlG hz
        have hst6 : StyAt a G2 st f' o' := (hst4.keep k4G (by simpa using (hF1 st hFst).2.2.2)).keep kp5 (by simp)
        have hho : HoAt a K F G2 z c.1 := ⟨dz, mt, st, by rw [hcn]; exact h5, hFz, hFst, by rw [hcs]; exact kp5.sqT (k4G.sqT hmt4), by rw [hcs]; exact hms, by rw [hcs]; exact hst6, by rw [hcn]; exact hnm, by rw [hcn]; exact hcsh⟩
        have hstk7 := hstk6.push (x := z) (f := c.1) hho (fun y hy => (hF1 y hy).2.1) (by rw [List.length_append]; simp only [List.length_cons, List.length_nil]; omega) (fun hs => by have := hck hs; rw [List.length_append]; simp only [List.length_cons, List.length_nil]; omega)
        have k7 : Keep [hl] G2 (upd G2 hl (.lst ((hs0 ++ [x]).map V.ref ++ [V.ref z]))) := Keep.set (by simp) (by rw [hstk6.lst]; exact trivial)
        refine kk (hs0 ++ [x] ++ [z]) ss' _ ?_ ((hRG.keep0 kp5).keep k7 (by simpa using nrh)) ?_ (hpic6.keep k7 (by simpa using nhp.symm) (by simpa using nhl.symm) (fun y hy => by simpa using (hF1 y hy).2.1))
        · exact ((kG.mono fun z hz => by simp at hz; rcases hz with rfl | rfl <;> simp).trans kp5.up).trans (k7.mono fun z hz => by simp at hz; simp [hz])
        · rw [hsh, if_neg Bool.false_ne_true]
          exact hstk7
    obtain ⟨dxp, hp4⟩ := hpic4.ob
    refine ⟨_, rfl, tg, a.cTag, dxt, _, _, rfl, k24.at hg2, T.cl_Tag, T.na_Tag_name, tgF_name, _, _, rfl, .inr (T.kt_SHAPES _), rfl, rfl, decide (g.name ∈ shapeNames), congrArg V.bl (inShapes _), ?_⟩
    by_cases hn : g.name ∈ shapeNames
    · have hng : g.name ≠ Sg35.ascii "g" := fun z => g_not (by rw [← z]; exact hn)
      have hch : Sg35.child f g.name g.attrs = (Sg35.kindOf g.name g.attrs).map fun kd => (⟨g.name, true, 0, ⟨f', o', m'⟩⟩, [⟨kd, f', o', m'⟩]) := by
        unfold Sg35.child
        rw [if_neg (by rw [hsf]; exact Bool.false_ne_true), if_neg hng, hsty]
        cases Sg35.kindOf g.name g.attrs <;> rfl
      rw [decide_eq_true hn]
      refine iteT ⟨_, rfl, p, a.cPicture, dxp, _, _, rfl, hp4, T.cl_Picture, T.na_Picture_shapes, pcF_shapes, .inl ⟨rfl, _, SqL.of hpic4.lst⟩, _, rfl, tg, a.cTag, dxt, _, _, rfl, k24.at hg2, T.cl_Tag, T.na_Tag_name, tgF_name, _, rfl, tg, a.cTag, dxt, _, _, rfl, k24.at hg2, T.cl_Tag, T.na_Tag_attributes, tgF_attributes,
        d, _, g.name, g.attrs, rfl, rfl, hn, hat2.keep k24, fun hk => k1' (by rw [hch, hk]; rfl), fun kd fg H5 hkd kp5 hfig => ⟨_, rfl, _, rfl, fun sh dsh hsh hdsh hne => ⟨sh, dsh, _, _, _, rfl, upd_same, fun H6 kp6' h6 => ⟨rfl, ?_⟩⟩⟩⟩
      have kp6 : Keep [] H5 H6 := Keep.made hsh hdsh kp6'
      have k46 : Keep [] H4 H6 := kp5.trans kp6
      have K4' : Keep [r, l] H H4 := K4.mono fun z hz => rl hz
      have hpic6 := hpic4.keep k46 (by simp) (by simp) (fun _ _ => by simp)
      have hstk6 := hstk4.keep k46 (by simp) (fun _ _ => by simp)
      refine ⟨l, _, _, rfl, rfl, hpic6.lst, (by rw [List.length_map, Paired.length hpic6.sh, sizeLine_eq]; have := hpic6.few; omega), ?_⟩
      have hF5 : ∀ {z : Addr}, H4 z = none → F z := fun hz => fresh K4' hR4 ⟨_, hpic4.lst⟩ hz
      have hFsh : F sh := fresh (K4'.trans kp5.up) (hR4.keep0 kp5) ⟨_, kp5.at hpic4.lst⟩ hsh
      have hsh6 : ShAt a K F H6 sh ⟨kd, f', o', m'⟩ := ⟨dsh, fg, mt, st, h6, hFsh, hFst, (FigAt.imp hfig fun z hz => hF5 hz).keep kp6 (fun _ _ => by simp), k46.sqT hmt4, hms, hst4.keep k46 (by simp)⟩
      have hpic7 := hpic6.push hsh6 npl (fun y hy => (hF1 y hy).2.2.2) (by omega)
      have k7 : Keep [l] H6 (upd H6 l (.lst (ss.map V.ref ++ [V.ref sh]))) := Keep.set (by simp) (by rw [hpic6.lst]; exact trivial)
      refine fin _ (ss ++ [sh]) (⟨g.name, true, 0, ⟨f', o', m'⟩⟩, [⟨kd, f', o', m'⟩]) (by rw [hch, hkd]; rfl) rfl rfl ⟨fun _ => hn, fun _ => rfl⟩ (nomatch ·) ?_ (k46.up.trans k7) (hstk6.keep k7 (by simpa using nhl) (fun y hy => by simpa using (hF1 y hy).2.2.2)) hpic7
      exact (K4'.trans k46.up).trans (k7.mono fun z hz => by simp at hz; simp [hz])
    · rw [decide_eq_false hn]
      unfold childOk at hok
      rw [Bool.and_eq_true, Bool.or_eq_true, decide_eq_true_eq, Bool.and_eq_true, decide_eq_true_eq, decide_eq_true_eq] at hok
      obtain ⟨hgn, hk0⟩ := hok.2.resolve_left hn
      have hch : Sg35.child f g.name g.attrs = some (⟨g.name, false, f.k - 1, ⟨f', o', m'⟩⟩, []) := by
        unfold Sg35.child
        rw [if_neg (by rw [hsf]; exact Bool.false_ne_true), if_pos hgn, if_neg hk0, hsty]
        rfl
      refine iteF (fin H4 ss _ hch rfl rfl ⟨(nomatch ·), fun h => absurd h hn⟩ (fun _ => by show f.k - 1 + 1 = f.k; omega) (K4.mono fun z hz => rl hz) Keep.refl hstk4 (by rw [List.append_nil]; exact hpic4))
end Pg
namespace Pg
open PySem PySem.Spec PyProof.Rows L2 TL
variable {P : Program} {w : World} {K : PySem.W.Frag} {mg : Str → Option Value} {base : Heap} {a : Adr}
theorem StkAt.pop {F : Addr → Prop} {H : Hp} {hl x : Addr} {hs : List Addr} {fs : List Sg35.Fr} {f : Sg35.Fr} (z : StkAt a K F H hl (hs ++ [x]) (fs ++ [f])) (hF : ∀ x, F x → x ≠ hl) :
    StkAt a K F (upd H hl (.lst ((hs ++ [x]).map V.ref).dropLast)) hl hs fs := by
  obtain ⟨hs', x', e, h1, h2⟩ := pr_unsnoc z.ho
  have e' := List.append_inj_left' e rfl
  subst e'
  have k1 : Keep [hl] H (upd H hl (.lst ((hs ++ [x]).map V.ref).dropLast)) := Keep.set (by simp) (by rw [z.lst]; exact trivial)
  refine ⟨by rw [upd_same, List.map_append]; simp, Paired.mapP h1 fun _ _ q => HoAt.keep q k1 (fun y hy => by simpa using hF y hy), ?_, fun i g hg hsh => ?_⟩
  · have := z.few
    rw [List.length_append] at this
    simp only [List.length_cons, List.length_nil] at this
    omega
  · refine z.dep i g ?_ hsh
    rw [List.getElem?_append_left (List.getElem?_eq_some_iff.mp hg).1]
    exact hg
theorem inName_plain {c : Nat} (h : Sg35.inName c = true) : 33 ≤ c ∧ c ≤ 126 ∧ c ≠ 37 ∧ c ≠ 63 := by
  unfold Sg35.inName Sg35.letter Sg35.digit at h
  simp only [Bool.or_eq_true, Bool.and_eq_true, decide_eq_true_eq, beq_iff_eq] at h
  omega
theorem nm_svg : Nm (Sg35.ascii "svg") := ⟨⟨115, [118, 103], by decide +kernel, by decide⟩, by decide +kernel, by decide +kernel⟩
theorem svg_not : Sg35.ascii "svg" ∉ shapeNames := by decide +kernel
theorem one_small : Small Sg35.Mat.one := by
  intro z hz
  simp only [Sg35.Mat.one, List.mem_cons, List.not_mem_nil, or_false] at hz
  rcases hz with rfl | rfl | rfl | rfl | rfl | rfl <;> decide
theorem fr_eq {f : Sg35.Fr} {fs : List Sg35.Fr} : (fs ++ [f]).reverse = f :: fs.reverse := by rw [List.reverse_append]; rfl
theorem ok_qbe (T : Txt K mg a) (G_qbj : O_qbj P w K mg base a) (G_qaa : O_qaa P w K mg base a) (G_qbg : O_qbg P w K mg base a) (G_qbh : O_qbh P w K mg base a) (G_qbp : O_qbp P w K mg base a) : O_qbe P w K mg base a := by
  refine T.fn_qbe.okX sc_qbe (fun vs H Q E h => ?_) (fun cdv A outer s H vs Q E hr h => ?_)
  · obtain ⟨r, p, l, y, q, w, h, s, rfl, _⟩ := h
    rfl
  · obtain ⟨r, p, l, y, q, wd, ht, st, rfl, hR, hpic, hsty, hmat, nyr, nyp, nyl, nrp, nrl, npl, hlen, k1, k2⟩ := h
    refine ⟨_, (pss_cons (ps_set (i := 3) sc_qbe.nd rfl (by first | exact Or.inl rfl | exact Or.inr rfl) (pe_lst (pa_cons (pe_make T.mk_Holder G_qbj (hr.mono (by decide)) (by rfl) T.mgc_Holder T.b_qbj .nil passW (pa_cons pe_str (pa_cons (pe_glob (v := .ref _) (by rfl) T.ct_UNMOVED rfl) (pa_cons (pv 2) pa_nil)))) pa_nil)))
        (pss_one (ps_while PassesOwn.leaving (pt_cmpR op_gt (pe_callB call_len_seq (by rfl) T.bl_len (by decide +kernel) (pa_cons (pv 3) pa_nil)) pe_int (nomark _)) (pss_cons (ps_expr (pe_call G_qaa (hr.mono (by decide)) (by rfl) T.mg_qaa T.fn_qaa.kp T.b_qaa .nil passW (pa_cons (pv 0) pa_nil)))
        (pss_one (ps_if (pt_val (pe_meth (pv 0) T.cl_Reader T.me_qbg G_qbg (hr.mono (by decide)) T.b_qbg .nil passW (pa_cons pe_str pa_nil))) (pss_one (ps_expr (pe_meth (pv 0) T.cl_Reader T.me_qbh G_qbh (hr.mono (by decide)) T.b_qbh .nil passW (pa_cons (pe_op op_add_str (pe_fld (pe_bm0 PySem.F.plainAttrs_list PySem.F.slot_list_pop PySem.F.type_list_pop mt_pop (pv 3)) rfl) pe_str) pa_nil)))) (pss_one (ps_expr (pe_call G_qbp (hr.mono (by decide)) (by rfl) T.mg_qbp T.fn_qbp.kp T.b_qbp .nil passW (pa_cons (pv 0) (pa_cons (pv 3) (pa_cons (pv 1) pa_nil)))))))))))), ?_⟩
    refine ⟨_, rfl, fun h0 dh hh0 hdh hne => ⟨h0, dh, _, _, _, rfl, upd_same, fun H1 kp1' e1 => ⟨rfl, (by show 1 ≤ sizeLine; decide), fun hl hhl => ?_⟩⟩⟩
    have kp1 : Keep [] H H1 := Keep.made hh0 hdh kp1'
    have k2' : Keep [] H1 (upd H1 hl (.lst [V.ref h0])) := Keep.new hhl
    have hl2 : (upd H1 hl (.lst [V.ref h0])) hl = some (.lst [V.ref h0]) := upd_same
    generalize upd H1 hl (.lst [V.ref h0]) = H2 at k2' hl2 ⊢
    have K2 : Keep [] H H2 := kp1.trans k2'
    obtain ⟨dxp, hp0⟩ := hpic.ob
    have hhlH : H hl = none := kp1.free0 hhl
    have nrhl : r ≠ hl := hR.ne hhlH
    have nphl : p ≠ hl := ne_of_none hp0 hhlH
    have nlhl : l ≠ hl := ne_of_none hpic.lst hhlH
    have nyhl : y ≠ hl := by obtain ⟨_, e⟩ := hsty; exact ne_of_none e hhlH
    have nh0hl : h0 ≠ hl := ne_of_none e1 hhl
    have nh0r : h0 ≠ r := (hR.ne hh0).symm
    have nh0p : h0 ≠ p := (ne_of_none hp0 hh0).symm
    have nh0l : h0 ≠ l := (ne_of_none hpic.lst hh0).symm
    generalize hFd : (fun x : Addr => x ≠ r ∧ x ≠ hl ∧ x ≠ p ∧ x ≠ l) = F
    have hF1 : ∀ x, F x → x ≠ r ∧ x ≠ hl ∧ x ≠ p ∧ x ≠ l := fun x hx => by rw [← hFd] at hx; exact hx
    have hFi : ∀ x, (x ≠ r ∧ x ≠ hl ∧ x ≠ p ∧ x ≠ l) → F x := fun x hx => by rw [← hFd]; exact hx
    have hho : HoAt a K F H2 h0 ⟨Sg35.ascii "svg", false, 17, st⟩ := ⟨dh, a.g_UNMOVED, y, by rw [← lit]; exact k2'.at e1, hFi _ ⟨nh0r, nh0hl, nh0p, nh0l⟩, hFi _ ⟨nyr, nyhl, nyp, nyl⟩, by rw [hmat]; exact T.kt_UNMOVED H2, by rw [hmat]; exact one_small, hsty.keep K2 (by simp), nm_svg, ⟨(nomatch ·), fun z => absurd z svg_not⟩⟩
    have hstk2 : StkAt a K F H2 hl [h0] [⟨Sg35.ascii "svg", false, 17, st⟩] := ⟨hl2, .cons hho .nil, by simp, fun i g hg _ => by
      cases i with
      | zero => simp at hg; subst hg; rfl
      | succ i => simp at hg⟩
    have hpic2 : PicAt a K F H2 p l [] wd ht [] := ⟨⟨dxp, K2.at hp0⟩, K2.at hpic.lst, .nil, by simp⟩
    generalize hX : Sg35.run [⟨Sg35.ascii "svg", false, 17, st⟩] q = X at k1 k2
    refine ⟨fun m σ H' => ∃ (t : B) (hs : List Addr) (fs : List Sg35.Fr) (ss : List Addr) (shs : List Sg35.Shape), σ = [some (.ref r), some (.ref p), some (.ref y), some (.ref hl)] ∧ Keep [r, l] H H' ∧ RdR a H' r t ∧ StkAt a K F H' hl hs fs ∧ PicAt a K F H' p l ss wd ht shs ∧ shs.length + t.length ≤ 65600 ∧
      X = (Sg35.run fs.reverse t).map (fun z => (shs ++ z.1, z.2)) ∧ m = t.length, ⟨_, q, [h0], [⟨Sg35.ascii "svg", false, 17, st⟩], [], [], rfl, K2.up, hR.keep0 K2, hstk2, hpic2, by have := hR.len; simpa using this, ?_, rfl⟩, ?_⟩
    · show X = (Sg35.run [_] q).map _
      rw [hX]
      cases X <;> rfl
    rintro m σ H3 ⟨t, hs, fs, ss, shs, rfl, K3, hR3, hstk3, hpic3, hsz, hrun, rfl⟩
    refine ⟨_, rfl, hl, _, rfl, .inl (SqL.of hstk3.lst), _, _, rfl, rfl, decide (0 < fs.length), congrArg V.bl (by
      rw [List.length_map, Paired.length hstk3.ho, Bool.eq_iff_iff, decide_eq_true_eq, decide_eq_true_eq]
      omega), ?_⟩
    by_cases hfs : fs = []
    · subst hfs
      refine iteF ?_
      refine k2 shs t ss F H3 ?_ K3 hR3 hpic3 (fun x hx => ⟨(hF1 x hx).1, (hF1 x hx).2.2.1, (hF1 x hx).2.2.2⟩)
      rw [hrun]
      show (Sg35.run [] t).map _ = _
      rw [Sg35.run_nil]
      simp
    rw [decide_eq_true (List.length_pos_iff.mpr hfs)]
    obtain ⟨fs0, f, rfl⟩ : ∃ D e, fs = D ++ [e] := ⟨fs.dropLast, fs.getLast hfs, (List.dropLast_concat_getLast hfs).symm⟩
    obtain ⟨hs0, x, rfl, ho0, hox⟩ := pr_unsnoc hstk3.ho
    obtain ⟨dxh, my, yy, f1, f2, f3, f4, f5, f6, f7, f8⟩ := id hox
    rw [fr_eq, Sg35.run_cons] at hrun
    refine iteT ⟨fun σ' H' => ∃ (t' : B) (hs : List Addr) (fs : List Sg35.Fr) (ss : List Addr) (shs : List Sg35.Shape), σ' = [some (.ref r), some (.ref p), some (.ref y), some (.ref hl)] ∧ Keep [r, l] H H' ∧ RdR a H' r t' ∧ StkAt a K F H' hl hs fs ∧ PicAt a K F H' p l ss wd ht shs ∧ shs.length + t'.length ≤ 65600 ∧
      X = (Sg35.run fs.reverse t').map (fun z => (shs ++ z.1, z.2)) ∧ t'.length < t.length, fun σ' H' ⟨t', hs, fs, ss, shs, g1, g2, g3, g4, g5, g6, g7, g8⟩ => ⟨_, g8, t', hs, fs, ss, shs, g1, g2, g3, g4, g5, g6, g7, rfl⟩, ?_⟩
    refine ⟨_, rfl, r, t, rfl, hR3, fun hn => k1 (by rw [hrun, hn]; rfl), fun t1 ht1 H4 kp4 hR4 => ?_⟩
    rw [ht1] at hrun
    dsimp only [Option.bind_some] at hrun
    have hml := Sg35.miscs_len ht1
    have hFr : ∀ x, F x → x ∉ [r] := fun x hx => by simpa using (hF1 x hx).1
    have hstk4 := hstk3.keep kp4 (by simpa using nrhl.symm) hFr
    have hpic4 := hpic3.keep kp4 (by simpa using nrp.symm) (by simpa using nrl.symm) hFr
    have K4 : Keep [r, l] H H4 := K3.trans (kp4.mono fun z hz => by simp at hz; simp [hz])
    refine m_skip rfl hR4 lit_end (by decide) (fun t2 e2 H5 kp5 hR5 => ⟨_, rfl, iteT ?_⟩) (fun hno => ⟨_, rfl, iteF ?_⟩)
    · subst e2
      rw [show Sg35.met ([60, 47] ++ t2) = some (.shut t2) from rfl] at hrun
      dsimp only [Option.bind_some] at hrun
      rw [Sg35.closeAt_word f7.1 f7.2.1] at hrun
      have hstk5 := hstk4.keep kp5 (by simpa using nrhl.symm) hFr
      have hpic5 := hpic4.keep kp5 (by simpa using nrp.symm) (by simpa using nrl.symm) hFr
      have K5 : Keep [r, l] H H5 := K4.trans (kp5.mono fun z hz => by simp at hz; simp [hz])
      obtain ⟨dxr, fsr, hr5, hno5⟩ := hR5.ins
      obtain ⟨hs0', x', ex, _, dxh5, my5, yy5, g1, _, _, _, _, _, _, _⟩ := pr_unsnoc hstk5.ho
      have ex1 := List.append_inj_right' ex rfl
      injection ex1 with ex1 _
      subst ex1
      have kp6 : Keep [hl] H5 (upd H5 hl (.lst ((hs0 ++ [x]).map V.ref).dropLast)) := Keep.set (by simp) (by rw [hstk5.lst]; exact trivial)
      have hR6 : RdR a (upd H5 hl (.lst ((hs0 ++ [x]).map V.ref).dropLast)) r t2 := hR5.keep kp6 (by simpa using nrhl)
      have g6 := kp6.one g1 (hF1 _ f2).2.1
      have hstk6 := hstk5.pop (fun x hx => (hF1 x hx).2.1)
      have hpic6 := hpic5.keep kp6 (by simpa using nphl) (by simpa using nlhl) (fun x hx => by simpa using (hF1 x hx).2.1)
      have K6 : Keep [r, l] H (upd H5 hl (.lst ((hs0 ++ [x]).map V.ref).dropLast)) := Keep.grow K5 kp6 (fun z hz => .inr (by rw [List.mem_singleton.mp hz]; exact hhlH))
      have hnl := f7.2.2
      refine ⟨_, rfl, r, dxr, fsr, rfl, hr5, hno5 _ (by decide +kernel) (by decide +kernel), _, rfl, .inl ⟨rfl, _, SqL.of hstk5.lst⟩, hl, _, V.ref x, rfl, rfl, hstk5.lst, (by rw [List.map_append]; simp), x, a.cHolder, dxh5, _, _, rfl, g6, T.cl_Holder, T.na_Holder_name, hoF_name, _, _, rfl, rfl, ?_, ?_⟩
      · rw [sg_len, lit_gt, sg_len, sizeLine_eq]; simp only [List.length_cons, List.length_nil]; omega
      have hsgn : sg f.name ++ (">" : Str) = sg (f.name ++ [62]) := by rw [lit_gt, sg_app]
      generalize upd H5 hl (.lst ((hs0 ++ [x]).map V.ref).dropLast) = H6 at *
      have hkey : (t2.take (f.name.length + 1) = f.name ++ [62]) ↔ ∃ u, t2 = (f.name ++ [62]) ++ u := by
        have := Sg35.take_eq_iff (w := f.name ++ [62]) (l := t2)
        rw [List.length_append] at this
        exact this
      refine ⟨r, t2, _, f.name ++ [62], rfl, hR6, hsgn, ?_, by simp, ?_, fun u hu H7 kp7 hR7 => ?_, fun hnu => k1 ?_⟩
      · intro d hd
        rcases List.mem_append.mp hd with hd | hd
        · exact inName_plain (f7.2.1 d hd)
        · rw [List.mem_singleton.mp hd]; decide
      · have h9 := hR5.len
        have h8 : f.name.length ≤ 65600 := hnl
        rw [List.length_append, List.length_cons, List.length_nil]
        omega
      · rw [if_pos (hkey.mpr ⟨u, hu⟩)] at hrun
        have hdrop : t2.drop (f.name.length + 1) = u := by
          rw [hu, show f.name.length + 1 = (f.name ++ [62]).length by simp, List.drop_left]
        rw [hdrop] at hrun
        have hul := congrArg List.length hu
        rw [List.length_append] at hul
        have ht1l : t2.length + 2 ≤ t.length := by simpa using hml
        refine ⟨u, hs0, fs0, ss, shs, rfl, K6.trans (kp7.mono fun z hz => by simp at hz; simp [hz]), hR7, hstk6.keep kp7 (by simpa using nrhl.symm) hFr, hpic6.keep kp7 (by simpa using nrp.symm) (by simpa using nrl.symm) hFr, by omega, hrun, by omega⟩
      · rw [hrun, if_neg (fun z => by obtain ⟨u, hu⟩ := hkey.mp z; exact hnu u hu)]; rfl
    · have hmet : ∀ u, t1 = 60 :: u → Sg35.met t1 = (Sg35.tagAt u).map .tag := fun u hu => by
        rw [hu]
        exact Sg35.met_tag fun v hv => hno v (by rw [hu, hv]; rfl)
      have hF0 : ∀ x, H4 x = none → F x := fun x hx => hFi x ⟨(hR4.ne hx).symm, (ne_of_none hstk4.lst hx).symm, (by obtain ⟨_, e⟩ := hpic4.ob; exact (ne_of_none e hx).symm), (ne_of_none hpic4.lst hx).symm⟩
      refine ⟨_, rfl, _, rfl, _, rfl, r, hl, p, l, t1, F, hs0 ++ [x], ss, fs0, f, wd, ht, shs, rfl, hR4, hstk4, hpic4, hF0, hF1, nrhl, nrp, nrl, nphl.symm, nlhl.symm, npl, by omega, fun hn => k1 ?_, fun u g c hu hg hc hs' ss' H5 kp5 hR5 hstk5 hpic5 => ?_⟩
      · rw [hrun]
        by_cases h6 : ∃ u, t1 = 60 :: u
        · obtain ⟨u, hu⟩ := h6
          rw [hmet u hu]
          cases hg : Sg35.tagAt u with
          | none => rfl
          | some g =>
            show (((Sg35.child f g.name g.attrs).bind _).map _) = none
            rw [hn u g hu hg]
            rfl
        · rw [Sg35.met_no fun u hu => h6 ⟨u, hu⟩]; rfl
      · rw [hmet u hu, hg] at hrun
        have hrun2 : X = (((Sg35.child f g.name g.attrs).bind fun c => (Sg35.run (if g.shut = true then f :: fs0.reverse else c.1 :: f :: fs0.reverse) g.rest).map fun z => (c.2 ++ z.1, z.2))).map (fun z => (shs ++ z.1, z.2)) := hrun
        rw [hc] at hrun2
        dsimp only [Option.bind_some] at hrun2
        have hgl := Sg35.tagAt_len hg
        have hul := congrArg List.length hu
        simp only [List.length_cons] at hul
        have hc2 : c.2.length ≤ 1 := by
          unfold Sg35.child at hc
          split at hc
          · cases hc
          · split at hc
            · split at hc
              · cases hc
              · cases hss : Sg35.styled f.style g.attrs true with
                | none => rw [hss] at hc; cases hc
                | some z => rw [hss] at hc; cases hc; simp
            · cases hkk : Sg35.kindOf g.name g.attrs with
              | none => rw [hkk] at hc; cases hc
              | some kd =>
                rw [hkk] at hc
                dsimp only [Option.bind_some] at hc
                cases hss : Sg35.styled f.style g.attrs true with
                | none => rw [hss] at hc; cases hc
                | some z => rw [hss] at hc; cases hc; simp
        refine ⟨g.rest, hs', _, ss', shs ++ c.2, rfl, Keep.grow K4 kp5 (fun z hz => ?_), hR5, hstk5, hpic5, by rw [List.length_append]; omega, ?_, by omega⟩
        · simp only [List.mem_cons, List.not_mem_nil, or_false] at hz
          rcases hz with rfl | rfl | rfl
          · exact .inl (by simp)
          · exact .inr hhlH
          · exact .inl (by simp)
        · rw [hrun2]
          have er : (if g.shut = true then fs0 ++ [f] else fs0 ++ [f] ++ [c.1]).reverse = (if g.shut = true then f :: fs0.reverse else c.1 :: f :: fs0.reverse) := by
            split
            · exact fr_eq
            · rw [fr_eq, fr_eq]
          rw [er, Option.map_map]
          congr 1
          funext z
          simp
end Pg
namespace Pg
open PySem PySem.Spec PyProof.Rows L2 TL
variable {P : Program} {w : World} {K : PySem.W.Frag} {mg : Str → Option Value} {base : Heap} {a : Adr}
theorem ok_qap (T : Txt K mg a) (G_qbf : O_qbf P w K mg base a) (G_qaa : O_qaa P w K mg base a) (G_qbh : O_qbh P w K mg base a) (G_qcd : O_qcd P w K mg base a) (G_qbo : O_qbo P w K mg base a) (G_qck : O_qck P w K mg base a) (G_qbq : O_qbq P w K mg base a) (G_qbe : O_qbe P w K mg base a) (G_qae : O_qae P w K mg base a) : O_qap P w K mg base a := by
  refine T.fn_qap.okX sc_qap (fun vs H Q E h => ?_) (fun cdv A outer s H vs Q E hr h => ?_)
  · obtain ⟨x, b, rfl, _⟩ := h
    rfl
  · obtain ⟨x, b, rfl, hx, k1, k2⟩ := h
    refine ⟨_, (pss_cons (ps_set (i := 1) sc_qap.nd rfl (by first | exact Or.inl rfl | exact Or.inr rfl) (pe_make T.mk_Reader G_qbf (hr.mono (by decide)) (by rfl) T.mgc_Reader T.b_qbf .nil passW (pa_cons (pv 0) pa_nil)))
        (pss_cons (ps_expr (pe_call G_qaa (hr.mono (by decide)) (by rfl) T.mg_qaa T.fn_qaa.kp T.b_qaa .nil passW (pa_cons (pv 1) pa_nil)))
        (pss_cons (ps_expr (pe_meth (pv 1) T.cl_Reader T.me_qbh G_qbh (hr.mono (by decide)) T.b_qbh .nil passW (pa_cons pe_str pa_nil)))
        (pss_cons (ps_set (i := 2) sc_qap.nd rfl (by first | exact Or.inl rfl | exact Or.inr rfl) (pe_call G_qcd (hr.mono (by decide)) (by rfl) T.mg_qcd T.fn_qcd.kp T.b_qcd .nil passW (pa_cons (pv 1) pa_nil)))
        (pss_cons (ps_set (i := 3) sc_qap.nd rfl (by first | exact Or.inl rfl | exact Or.inr rfl) (pe_call G_qbo (hr.mono (by decide)) (by rfl) T.mg_qbo T.fn_qbo.kp T.b_qbo .nil passW (pa_cons (pv 2) pa_nil)))
        (pss_cons (ps_set (i := 4) sc_qap.nd rfl (by first | exact Or.inl rfl | exact Or.inr rfl) (pe_call G_qck (hr.mono (by decide)) (by rfl) T.mg_qck T.fn_qck.kp T.b_qck .nil passW (pa_cons (pe_make T.mk_Style G_qbq (hr.mono (by decide)) (by rfl) T.mgc_Style T.b_qbq .nil passW (pa_cons (pe_globV (by rfl) T.ct_BLACK) (pa_cons (pe_globV (by rfl) T.ct_NONZERO) pa_nil))) (pa_cons (pe_fld (pv 2) rfl) pa_nil))))
        (pss_cons (ps_if (pt_not (pt_val (pe_fld (pv 2) rfl))) (pss_one (ps_expr (pe_call G_qbe (hr.mono (by decide)) (by rfl) T.mg_qbe T.fn_qbe.kp T.b_qbe .nil passW (pa_cons (pv 1) (pa_cons (pv 3) (pa_cons (pv 4) pa_nil)))))) pss_nil)
        (pss_cons (ps_expr (pe_call G_qaa (hr.mono (by decide)) (by rfl) T.mg_qaa T.fn_qaa.kp T.b_qaa .nil passW (pa_cons (pv 1) pa_nil)))
        (pss_cons (ps_expr (pe_meth0 (pv 1) T.cl_Reader T.me_qae G_qae (hr.mono (by decide)) T.b_qae .nil passW))
        (pss_one (ps_ret (pv 3)))))))))))), ?_⟩
    refine m_reader_is (fun Q q => ⟨_, rfl, q⟩) hx fun r H1 hr1 kp1 hR1 => ?_
    refine ⟨_, rfl, r, b, rfl, hR1, fun hn => k1 (by unfold Sg35.pic; rw [hn]; rfl), fun t ht H2 kp2 hR2 => ?_⟩
    have hpic0 : Sg35.pic b = Sg35.picRest t := by unfold Sg35.pic; rw [ht]; rfl
    refine m_need rfl hR2 lit_lt60 (by decide) (fun t1 e1 H3 kp3 hR3 => ?_) (fun hno => k1 (by rw [hpic0, Sg35.picRest_no fun q hq => hno q hq]))
    subst e1
    have hpic1 : Sg35.pic b = (Sg35.tagAt t1).bind Sg35.picTag := hpic0
    refine ⟨_, rfl, r, t1, rfl, hR3, fun hn => k1 (by rw [hpic1, hn]; rfl), fun g tg hg htg0 H4 kp4 hR4 htag => ?_⟩
    have hpic2 : Sg35.pic b = Sg35.picTag g := by rw [hpic1, hg]; rfl
    have K4 : Keep [] H H4 := ((kp1.drop kp2 hr1).drop kp3 hr1).drop kp4 hr1
    have ktop : Sg35.top g = none → Fails a E := fun hn => k1 (by rw [hpic2]; unfold Sg35.picTag; rw [hn]; rfl)
    refine ⟨_, rfl, tg, g.name, g.attrs, g.shut, rfl, htag, fun hn => ktop ?_, fun wd hd p l H5 hnm hw hh kp5 hp0 hl0 hpc => ?_⟩
    · unfold Sg35.top
      by_cases h : g.name = Sg35.ascii "svg"
      · rw [if_neg (fun z => z h)]
        rcases hn h with q | q
        · rw [q]; rfl
        · rw [q]; cases Sg35.side g.attrs "width" <;> rfl
      · rw [if_pos h]
    have htop : Sg35.top g = (styOf (some 0) false g.attrs).map fun fo => (wd, hd, ⟨fo.1, fo.2, Sg35.Mat.one⟩) := by
      unfold Sg35.top
      rw [if_neg (fun z => z hnm), hw, hh]
      show (Sg35.styled ⟨some 0, false, Sg35.Mat.one⟩ g.attrs false).map _ = _
      rw [styled_false]
      cases styOf (some 0) false g.attrs <;> rfl
    obtain ⟨dxt, d, hg4, hat4, hnm2⟩ := id htag
    refine fun y0 dy hy hdy hne => ⟨y0, dy, _, _, rfl, upd_same, fun H6 kp6' h6 => ⟨rfl, ?_⟩⟩
    have kp6 : Keep [] H5 H6 := Keep.made hy hdy kp6'
    have k46 : Keep [] H4 H6 := kp5.trans kp6
    refine ⟨_, rfl, tg, a.cTag, dxt, _, _, rfl, k46.at hg4, T.cl_Tag, T.na_Tag_attributes, tgF_attributes, y0, d, some 0, false, g.attrs, rfl, ⟨dy, h6⟩, hat4.keep k46, fun hn => ktop (by rw [htop, hn]; rfl), fun f' o' st H7 hfo kp7 hst0 hst7 => ?_⟩
    rw [hfo] at htop
    have htop' : Sg35.top g = some (wd, hd, ⟨f', o', Sg35.Mat.one⟩) := htop
    have k47 : Keep [] H4 H7 := k46.trans kp7
    have K7 : Keep [] H H7 := K4.trans k47
    have hR7 := hR4.keep0 k47
    have hpc6 := hpc.keep kp6 (by simp) (by simp) (fun _ _ => by simp)
    have hpc7 := hpc6.keep kp7 (by simp) (by simp) (fun _ _ => by simp)
    obtain ⟨dxp, hp7⟩ := hpc7.ob
    obtain ⟨_, hp6⟩ := hpc6.ob
    have nrp : r ≠ p := hR4.ne hp0
    have nrl : r ≠ l := hR4.ne hl0
    have npl : p ≠ l := ne_of hp7 hpc7.lst (by intro z; cases z)
    have nsr : st ≠ r := ((hR4.keep0 k46).ne hst0).symm
    have nsp : st ≠ p := (ne_of_none hp6 hst0).symm
    have nsl : st ≠ l := (ne_of_none hpc6.lst hst0).symm
    have fin : ∀ (G : Hp) (shs : List Sg35.Shape) (t2 : B) (ss : List Addr) (F : Addr → Prop), Sg35.inside g ⟨f', o', Sg35.Mat.one⟩ = some (shs, t2) → Keep [r, l] H7 G → RdR a G r t2 → PicAt a K F G p l ss wd hd shs → (∀ x, F x → x ≠ r) →
        tSeq (tDrop (tCall (sp_misc a) [] E (tCons (tVar 1) tNil))) (tSeq (tDrop (tMeth a.cReader "need_end" (sp_need_end a) [] E (tVar 1) tNil)) (tRet (tVar 3))) { nx := fun _ H' => Q .non H', rt := Q } [some (.str x), some (.ref r), some (.ref tg), some (.ref p), some (.ref st)] G := by
      intro G shs t2 ss F hin kG hRG hpG hF
      have hpt : Sg35.pic b = (Sg35.miscs t2).bind fun z => if z = [] then some ⟨wd, hd, shs⟩ else none := by
        rw [hpic2]
        unfold Sg35.picTag
        rw [htop']
        dsimp only [Option.bind_some]
        rw [hin]
        rfl
      refine ⟨_, rfl, r, t2, rfl, hRG, fun hn => k1 (by rw [hpt, hn]; rfl), fun t3 ht3 G2 kG2 hRG2 => ?_⟩
      rw [ht3] at hpt
      dsimp only [Option.bind_some] at hpt
      refine m_need_end rfl hRG2 (fun he => ⟨_, rfl, ?_⟩) (fun he => k1 (by rw [hpt, if_neg he]))
      rw [if_pos he] at hpt
      refine k2 _ p l ss F G2 hpt ?_ (hpG.keep kG2 (by simpa using nrp.symm) (by simpa using nrl.symm) (fun x hx => by simpa using hF x hx))
      have kk : Keep [r, l] H7 G2 := kG.trans (kG2.mono fun z hz => by simp at hz; simp [hz])
      refine Keep.grow K7 kk fun z hz => .inr ?_
      simp only [List.mem_cons, List.not_mem_nil, or_false] at hz
      rcases hz with rfl | rfl
      · exact hr1
      · exact K4.free0 hl0
    refine ⟨_, rfl, tg, a.cTag, dxt, _, _, rfl, k47.at hg4, T.cl_Tag, T.na_Tag_closed, tgF_closed, _, rfl, ?_⟩
    cases hsh : g.shut with
    | true =>
      refine iteF (fin H7 [] g.rest [] (fun x => x ≠ r) ?_ Keep.refl hR7 ⟨⟨dxp, hp7⟩, hpc7.lst, .nil, by simp⟩ (fun x hx => hx))
      unfold Sg35.inside
      rw [hsh]; rfl
    | false =>
      have hins : Sg35.inside g ⟨f', o', Sg35.Mat.one⟩ = Sg35.run [⟨Sg35.ascii "svg", false, 17, ⟨f', o', Sg35.Mat.one⟩⟩] g.rest := by
        unfold Sg35.inside
        rw [hsh, if_neg Bool.false_ne_true, hnm]
      refine iteT ⟨_, rfl, _, rfl, _, rfl, r, p, l, st, g.rest, wd, hd, ⟨f', o', Sg35.Mat.one⟩, rfl, hR7, hpc7, hst7, rfl, nsr, nsp, nsl, nrp, nrl, npl, trivial, fun hn => k1 ?_, fun shs t2 ss F G hrun kG hRG hpG hF => ?_⟩
      · rw [hpic2]
        unfold Sg35.picTag
        rw [htop']
        dsimp only [Option.bind_some]
        rw [hins, hn]
        rfl
      · exact fin G shs t2 ss F (by rw [hins]; exact hrun) kG hRG hpG (fun x hx => (hF x hx).1)
end Pg
namespace Pg
open PySem PySem.Spec PyProof.Rows L2 TL
variable {P : Program} {w : World} {K : PySem.W.Frag} {mg : Str → Option Value} {base : Heap} {a : Adr}
def sp_ans (a : Adr) (K : PySem.W.Frag) (ans : Sg35.Picture → List Int) : Sp := fun vs H Q _ => ∃ (p l : Addr) (ss : List Addr) (F : Addr → Prop) (pc : Sg35.Picture), vs = [.ref p] ∧ PicAt a K F H p l ss pc.width pc.height pc.shapes ∧ ∀ t H', LsI H' t (ans pc) → Q (.ref t) H'
def answerOf (ans : Sg35.Picture → List Int) (b : B) : List Int := if 65536 < b.length then [-1] else match Sg35.pic b with
  | none => [-2]
  | some pc => ans pc
def sp_answered (a : Adr) (K : PySem.W.Frag) (fA : Addr) (ans : Sg35.Picture → List Int) : Sp := fun vs H Q _ => ∃ (t : Addr) (b : B), vs = [.ref t, .ref fA] ∧ SqL K H t (b.map fun (c : Nat) => V.int (c : Int)) ∧ Sg35.Byt b ∧ b.length ≤ 65600 ∧ ∀ u H', LsI H' u (answerOf ans b) → Q (.ref u) H'
def sizeAns (pc : Sg35.Picture) : List Int := [0, (pc.width : Int), (pc.height : Int), (pc.shapes.length : Int)]
def sp_size (a : Adr) (K : PySem.W.Frag) : Sp := fun vs H Q _ => ∃ (t : Addr) (b : B), vs = [.ref t] ∧ SqL K H t (b.map fun (c : Nat) => V.int (c : Int)) ∧ Sg35.Byt b ∧ b.length ≤ 65600 ∧ ∀ u H', LsI H' u (answerOf sizeAns b) → Q (.ref u) H'
theorem blanks4 : ∀ c : Nat, c < 256 → inV (.int (c : Int)) [.int 32, .int 9, .int 10, .int 13] = Sg35.blank c := by decide +kernel
theorem printed_at : ∀ c < 256, 33 ≤ c → c ≤ 126 → (tl ("!\"#$?&'()*+,-./0123456789:;<=>?@ABCDEFGHIJKLMNOPQRSTUVWXYZ[\\]^_`abcdefghijklmnopqrstuvwxyz{|}~" : Str))[c - 33]? = some (Sg35.tr c) := by decide +kernel
theorem ok_qch (T : Txt K mg a) : O_qch P w K mg base a := by
  refine T.fn_qch.ok sc_qch (fun vs H Q E h => ?_) (fun cdv A outer s H vs Q E hr h => ?_)
  · obtain ⟨c, rfl, _⟩ := h
    rfl
  · obtain ⟨c, rfl, hc, k⟩ := h
    refine ⟨_, (pss_cons (ps_if (pt_cmpR op_in_seq (pv 0) (pe_tup (pa_cons pe_int (pa_cons pe_int (pa_cons pe_int (pa_cons pe_int pa_nil))))) (by with_unfolding_all rfl)) (pss_one (ps_ret (pe_globV (by rfl) T.ct_BLANK))) pss_nil)
        (pss_cons (ps_if (pt_chain op_le op_le pe_int (pv 0) pe_int) (pss_one (ps_ret (pe_ix ix_str (pe_globV (by rfl) T.ct_PRINTED) (pe_op op_sub (pv 0) pe_int) (fun _ _ => rfl)))) pss_nil)
        (pss_one (ps_ret (pe_globV (by rfl) T.ct_STRANGE))))), ?_⟩
    refine ⟨_, rfl, (by show 4 ≤ sizeLine; decide), fun t ht => ⟨t, _, rfl, .inr (SqT.of upd_same), rfl, rfl, Sg35.blank c, congrArg V.bl (blanks4 c hc), ?_⟩⟩
    cases hb : Sg35.blank c with
    | true =>
      refine iteT ?_
      have e : sg [Sg35.tr c] = (" " : Str) := by rw [Sg35.tr_blank.mpr hb]; decide +kernel
      exact (congrArg (fun z => Q (V.str z) _) e).mp (k _ (Keep.new ht))
    | false =>
      have hnb : ¬ Sg35.blank c = true := by rw [hb]; exact Bool.false_ne_true
      refine iteF ⟨_, rfl, _, _, rfl, rfl, decide (33 ≤ c), congrArg V.bl (by rw [Bool.eq_iff_iff, decide_eq_true_eq, decide_eq_true_eq]; omega), ?_⟩
      by_cases h33 : 33 ≤ c
      · rw [decide_eq_true h33]
        refine iteT ⟨_, _, rfl, rfl, decide (c ≤ 126), congrArg V.bl (by rw [Bool.eq_iff_iff, decide_eq_true_eq, decide_eq_true_eq]; omega), ?_⟩
        by_cases h126 : c ≤ 126
        · rw [decide_eq_true h126]
          refine iteT ⟨_, rfl, _, _, rfl, rfl, _, _, Sg35.tr c, rfl, rfl, ?_, ?_, ?_⟩
          · have : (("!\"#$?&'()*+,-./0123456789:;<=>?@ABCDEFGHIJKLMNOPQRSTUVWXYZ[\\]^_`abcdefghijklmnopqrstuvwxyz{|}~" : Str)).length = 94 := by decide +kernel
            rw [this]; decide
          · rw [show ((c : Int) - 33) = ((c - 33 : Nat) : Int) by omega]
            exact atI_nat (printed_at c hc h33 h126)
          · exact k _ (Keep.new ht)
        · rw [decide_eq_false h126]
          refine iteF ?_
          have e : sg [Sg35.tr c] = ("\n" : Str) := by
            unfold Sg35.tr
            rw [if_neg hnb, if_neg (fun z => h126 z.2)]
            decide +kernel
          exact (congrArg (fun z => Q (V.str z) _) e).mp (k _ (Keep.new ht))
      · rw [decide_eq_false h33]
        refine iteF ⟨_, rfl, iteF ?_⟩
        have e : sg [Sg35.tr c] = ("\n" : Str) := by
          unfold Sg35.tr
          rw [if_neg hnb, if_neg (fun z => h33 z.1)]
          decide +kernel
        exact (congrArg (fun z => Q (V.str z) _) e).mp (k _ (Keep.new ht))
theorem joinL_ones : ∀ l : List Nat, joinL [] (l.map fun c => [c]) = l
  | [] => rfl
  | [_] => rfl
  | x :: y :: r => by
    show [x] ++ ([] ++ joinL [] ((y :: r).map fun c => [c])) = x :: y :: r
    rw [joinL_ones (y :: r)]
    rfl
theorem join_ones (l : List Nat) : Txt.join "" (l.map fun c => sg [c]) = sg l := by
  rw [join_eq]
  apply ext_tl
  rw [tl_join, tl_sg, show tl ("" : Str) = [] by decide +kernel, List.map_map]
  have : (tl ∘ fun c => sg [c]) = fun c => [c] := by funext c; exact tl_sg
  rw [this]
  exact joinL_ones l
theorem sum_ones : ∀ l : List Nat, ((l.map fun c => sg [c]).map (·.length)).sum = l.length
  | [] => rfl
  | x :: r => by
    rw [List.map_cons, List.map_cons, List.sum_cons, sum_ones r, sg_len]
    simp only [List.length_cons, List.length_nil]
    omega
theorem ok_qcb (T : Txt K mg a) (G_qch : O_qch P w K mg base a) : O_qcb P w K mg base a := by
  refine T.fn_qcb.okX sc_qcb (fun vs H Q E h => ?_) (fun cdv A outer s H vs Q E hr h => ?_)
  · obtain ⟨p, b, rfl, _⟩ := h
    rfl
  · obtain ⟨p, b, rfl, hs, hlen, hby, k⟩ := h
    refine ⟨_, (pss_one (ps_ret (pe_bm PySem.F.plainAttrs_str PySem.F.slot_str_join PySem.F.type_str_join mt_join pe_str (pa_cons (pe_lc rfl sc_qcb.nd (pi_list (pv 0)) (blkOk_by (own := [("byte", 1)]) (by with_unfolding_all rfl)) (fun s H C cl fp => (pg_name (i := 1) sc_qcb.nd rfl (Or.inl rfl))) (fun s H C cl fp => pts_nil) (fun s H C cl fp => (pe_call G_qch (hr.mono (by decide)) (by rfl) T.mg_qch T.fn_qch.kp T.b_qch .nil pass0 (pa_cons (pv 1) pa_nil)))) pa_nil)))), ?_⟩
    refine ⟨rfl, _, rfl, p, rfl, ⟨_, hs⟩, fun D hD => ?_⟩
    refine ⟨fun i m H' => m = b.length - i ∧ i ≤ b.length ∧ Keep [] H H' ∧ H' D = some (.lst ((b.take i).map fun c => V.str (sg [Sg35.tr c]))), ⟨_, rfl, Nat.zero_le _, Keep.new hD, upd_same⟩, ?_⟩
    rintro i m H1 ⟨rfl, hi, kp1, hacc⟩
    have hs1 := kp1.sqL hs
    by_cases hlt : i < b.length
    · obtain ⟨c, hc⟩ : ∃ c, b[i]? = some c := ⟨_, List.getElem?_eq_getElem hlt⟩
      have hcx : (b.map fun (c : Nat) => V.int (c : Int))[i]? = some (V.int (c : Int)) := by rw [List.getElem?_map, hc]; rfl
      refine .inr ⟨⟨_, _, hs1, hcx⟩, fun H' => Keep [] H H' ∧ H' D = some (.lst ((b.take (i + 1)).map fun c => V.str (sg [Sg35.tr c]))), fun H' hq => ⟨b.length - (i + 1), by omega, rfl, hlt, hq.1, hq.2⟩, ?_⟩
      rintro y H2 ⟨rfl, hy⟩
      have := hy _ hs1
      rw [hcx] at this
      cases this
      refine ⟨rfl, _, rfl, c, rfl, hby c (List.mem_of_getElem? hc), fun H3 kp3 => ⟨_, kp3.at hacc, ?_, ?_, ?_⟩⟩
      · rw [List.length_map, List.length_take, sizeLine_eq]; omega
      · exact Keep.drop (kp1.trans kp3) (Keep.set (by simp) (by rw [kp3.at hacc]; exact trivial)) hD
      · rw [upd_same, List.take_succ, hc, List.map_append]
        rfl
    · have : i = b.length := by omega
      subst this
      rw [List.take_length] at hacc
      refine .inl ⟨⟨_, hs1, by rw [List.length_map]; exact Nat.le_refl _⟩, "", D, (b.map Sg35.tr).map (fun c => sg [c]), rfl, rfl, .inl (SqL.of ?_), ?_, ?_⟩
      · rw [hacc, List.map_map, List.map_map]; rfl
      · rw [sum_ones, List.length_map, List.length_map, show ("" : Str).length = 0 by decide +kernel, Nat.mul_zero]; omega
      · rw [join_ones]; exact k H1 kp1
theorem ok_qce (T : Txt K mg a) {fA : Addr} {dA : FuncData} {ans : Sg35.Picture → List Int} (A_answer : FnOk P w K mg base (CXW P w a.cWrongText) 1 fA dA ["picture"] (sp_ans a K ans)) (hk_answer : PySem.W.keepIn K (.ref fA) = true) (hb_answer : Binds K dA ["picture"] []) (G_qap : O_qap P w K mg base a) (G_qcb : O_qcb P w K mg base a) : FnOk P w K mg base (CXW P w a.cWrongText) 13 a.f_qce a.d_qce ["text", "answer"] (sp_answered a K fA ans) := by
  refine T.fn_qce.okX sc_qce (fun vs H Q E h => ?_) (fun cdv A outer s H vs Q E hr h => ?_)
  · obtain ⟨t, b, rfl, _⟩ := h
    rfl
  · obtain ⟨t, b, rfl, hs, hby, hlen, k⟩ := h
    refine ⟨_, (pss_cons (ps_if (pt_cmpR op_gt (pe_callB call_len_seq (by rfl) T.bl_len (by decide +kernel) (pa_cons (pv 0) pa_nil)) (pe_globV (by rfl) T.ct_MOST_BYTES) (nomark _)) (pss_one (ps_ret (pe_lst (pa_cons (pe_globV (by rfl) T.ct_BEYOND_BOUNDS) pa_nil)))) pss_nil)
        (pss_cons (ps_try T.xc_WrongText rfl rfl (fun pn E E1 hE => (pss_one (ps_set (i := 2) sc_qce.nd rfl (by first | exact Or.inl rfl | exact Or.inr rfl) (pe_call G_qap (hr.mono (by decide)) (by rfl) T.mg_qap T.fn_qap.kp T.b_qap .nil hE (pa_cons (pe_call G_qcb (hr.mono (by decide)) (by rfl) T.mg_qcb T.fn_qcb.kp T.b_qcb .nil hE (pa_cons (pv 0) pa_nil)) pa_nil))))) (fun e => (pss_one (ps_ret (pe_lst (pa_cons (pe_globV (by rfl) T.ct_NOT_RIGHT) pa_nil))))) (by rfl))
        (pss_one (ps_ret (pe_callL 1 A_answer (hr.mono (by decide)) hk_answer hb_answer passW (pa_cons (pv 2) pa_nil)))))), ?_⟩
    refine ⟨_, rfl, t, _, rfl, .inl hs, _, _, rfl, rfl, decide (65536 < b.length), congrArg V.bl (by rw [List.length_map, Bool.eq_iff_iff, decide_eq_true_eq, decide_eq_true_eq]; omega), ?_⟩
    unfold answerOf at k
    by_cases hbig : 65536 < b.length
    · rw [decide_eq_true hbig]
      rw [if_pos hbig] at k
      exact iteT ⟨(by show 1 ≤ sizeLine; decide), fun u hu => k u _ upd_same⟩
    rw [decide_eq_false hbig]
    rw [if_neg hbig] at k
    refine iteF ⟨_, rfl, t, b, rfl, hs, hlen, hby, fun H1 kp1 => ⟨_, b, rfl, ⟨rfl, hlen, hby⟩, fun hn => ?_, fun pc p l ss F H2 hpc kp2 hpic => ?_⟩⟩
    · intro H' σ' hσ'
      rw [hn] at k
      exact ⟨(by show 1 ≤ sizeLine; decide), fun u hu => k u _ upd_same⟩
    · rw [hpc] at k
      exact ⟨rfl, _, rfl, p, l, ss, F, pc, rfl, hpic, fun u H3 hu => k u H3 hu⟩
theorem ok_qcj (T : Txt K mg a) : FnOk P w K mg base (CXW P w a.cWrongText) 1 a.f_qcj a.d_qcj ["picture"] (sp_ans a K sizeAns) := by
  refine T.fn_qcj.okX sc_qcj (fun vs H Q E h => ?_) (fun cdv A outer s H vs Q E hr h => ?_)
  · obtain ⟨p, l, ss, F, pc, rfl, _⟩ := h
    rfl
  · obtain ⟨p, l, ss, F, pc, rfl, hpic, k⟩ := h
    refine ⟨_, (pss_one (ps_ret (pe_lst (pa_cons pe_int (pa_cons (pe_fld (pv 0) rfl) (pa_cons (pe_fld (pv 0) rfl) (pa_cons (pe_callB call_len_seq (by rfl) T.bl_len (by decide +kernel) (pa_cons (pe_fld (pv 0) rfl) pa_nil)) pa_nil))))))), ?_⟩
    obtain ⟨dx, hp⟩ := hpic.ob
    refine ⟨_, rfl, p, a.cPicture, dx, _, _, rfl, hp, T.cl_Picture, T.na_Picture_width, pcF_width, _, rfl, p, a.cPicture, dx, _, _, rfl, hp, T.cl_Picture, T.na_Picture_height, pcF_height, _, rfl, p, a.cPicture, dx, _, _, rfl, hp, T.cl_Picture, T.na_Picture_shapes, pcF_shapes, l, _, rfl, .inl (SqL.of hpic.lst), (by show 4 ≤ sizeLine; decide), fun u hu => k u _ ?_⟩
    unfold LsI sizeAns
    rw [upd_same, List.length_map, Paired.length hpic.sh]
    rfl
theorem ok_size (T : Txt K mg a) (G_qce : FnOk P w K mg base (CXW P w a.cWrongText) 13 a.f_qce a.d_qce ["text", "answer"] (sp_answered a K a.f_qcj sizeAns)) : FnOk P w K mg base (CXW P w a.cWrongText) 14 a.f_size a.d_size ["text"] (sp_size a K) := by
  refine T.fn_size.okX sc_size (fun vs H Q E h => ?_) (fun cdv A outer s H vs Q E hr h => ?_)
  · obtain ⟨t, b, rfl, _⟩ := h
    rfl
  · obtain ⟨t, b, rfl, hs, hby, hlen, k⟩ := h
    refine ⟨_, (pss_one (ps_ret (pe_call G_qce (hr.mono (by decide)) (by rfl) T.mg_qce T.fn_qce.kp T.b_qce .nil passW (pa_cons (pv 0) (pa_cons (pe_def (by rfl) T.mg_qcj) pa_nil))))), ?_⟩
    exact ⟨_, rfl, t, b, rfl, hs, hby, hlen, k⟩
end Pg
namespace L2
open PySem PySem.Spec PyProof.Rows
def Ans (out : List Int) : VK := fun v H' => ∃ l, v = .ref l ∧ H' l = some (.lst (out.map V.int))
def AnsAt (out : List Int) (r : Result) (s' : Shared) : Prop := ∃ l its n, r = .ok (.ret (.ref l)) ∧ s'.heap.get? l = some { cls := .type "list", data := .seq its n } ∧ IntsAre its.toList out
theorem spec_call {P : Program} {w : World} {K : PySem.W.Frag} {mg mb : Str → Option Value} {CX : CXT} {k : Nat} {fa a : Addr} {fd : FuncData} {ps : List Str} {sp : Sp} {s₁ : Shared} {vs us : List Value} {ns is out : List Int}
    (KX : K.In s₁.heap) (hns : s₁.heap.Ns mainGlobals mg) (hb : s₁.heap.Ns builtinsNs mb) (hbb : ∀ x : Str, x ≠ "__name__" → mb x = bootBuiltins x) (hlim : s₁.heap.NoLimit) (hg : s₁.gens = #[])
    (ha : s₁.heap.get? a = some { cls := .type "list", data := .seq vs.toArray }) (hi : IntsAre vs ns) (hl : ns.length ≤ sizeLine) (hu : IntsAre us is) (hr : Room k callerA)
    (F : ∀ base : Heap, K.In base → base.Ns mainGlobals mg → FnOk P w K mg base CX k fa fd ps sp) (hbind : BindsTo s₁ fd ⟨us ++ [.ref a], []⟩ (ps.zip (us ++ [.ref a])))
    (hsp : ∀ H : Hp, Only H → SqL K H a (ns.map V.int) → sp (is.map V.int ++ [.ref a]) H (Ans out) fun _ _ _ => False)
    (hCX : ∀ H e s', CX [] H s₁ (fun _ _ _ => False) e s' → False) :
    codeAny (model P w) callerA (.call (.ref fa) ⟨us ++ [.ref a], []⟩) (fun r s' => AnsAt out r s' ∧ OldK s₁.heap s'.heap ∧ s'.os = s₁.os ∧ AllBare s'.gens) s₁ := by
  have rv := vals_ints hi
  have lenV := hi.length
  have core : ∀ H : Hp, Only H → SqL K H a (ns.map V.int) → HOk P w H s₁.heap → (∀ b, H b ≠ none → b = a) → (H a ≠ none → K.lookup a = none) →
      codeAny (model P w) callerA (.call (.ref fa) ⟨us ++ [.ref a], []⟩) (fun r s' => AnsAt out r s' ∧ OldK s₁.heap s'.heap ∧ s'.os = s₁.os ∧ AllBare s'.gens) s₁ := by
    intro H hO hS hok hA hK
    have base_of : ∀ {b : Addr} {o : Obj}, s₁.heap.get? b = some o → H b = none → (hidT s₁.heap H).get? b = some o := fun e n => hidT_get e n
    have noA : ∀ {b : Addr} {o : Obj} {es : Array DictEntry} {ep : Nat}, s₁.heap.get? b = some o → o.data = .dict es ep → H b = none := fun {b o es ep} e d => by
      cases q : H b with
      | none => rfl
      | some u =>
        have e' : b = a := hA b (by rw [q]; simp)
        subst e'
        rw [ha] at e; cases e
        have d' : Data.seq vs.toArray _ = Data.dict es ep := d
        cases d'
    have nsK : ∀ {b : Addr} {m : Str → Option Value}, s₁.heap.Ns b m → (hidT s₁.heap H).Ns b m := fun {b m} ⟨o, es, ep, e, d, r⟩ => ⟨o, es, ep, base_of e (noA e d), d, r⟩
    have hKb : K.In (hidT s₁.heap H) := fun b o e => base_of (KX b o e) (by
      cases q : H b with
      | none => rfl
      | some u =>
        have e' : b = a := hA b (by rw [q]; simp)
        subst e'
        rw [hK (by rw [q]; simp)] at e; cases e)
    have hM : Mod K mg (hidT s₁.heap H) := ⟨hKb, nsK hns, ⟨mb, nsK hb, hbb⟩, let ⟨mc, h1, h2⟩ := hlim; ⟨mc, nsK h1, h2⟩⟩
    have e0 : Env0 P w K mg (hidT s₁.heap H) callerA [] s₁ H := ⟨rfl, hM, fun b o e => of_hidT e, Nat.le_of_eq (hidT_size _ _), trivial, fun b hb => absurd (show b ∈ ([] : List Addr) from hb) (by simp), hok, .of_eq hg⟩
    have rr : Vals (is.map V.int ++ [.ref a]) (us ++ [.ref a]) := (vals_ints hu).append (.cons rfl .nil)
    refine codeAny_mono ((F _ hKb (nsK hns)).run callerA [] s₁ H ⟨us ++ [.ref a], []⟩ (us ++ [.ref a]) _ _ _ hr e0 hbind rr (hsp H hO hS)) fun r s' h => ?_
    cases r with
    | error e => exact (hCX H e s' h).elim
    | ok fl =>
      cases fl with
      | next => exact False.elim h
      | brk => exact False.elim h
      | cont => exact False.elim h
      | ret u =>
        obtain ⟨v, H', os, bare, un, hok', r', l, rfl, hl'⟩ := h
        obtain rfl : u = Value.ref l := r'
        obtain ⟨_, its, n, ri, eo⟩ := hok' l _ hl'
        refine ⟨⟨l, its.toArray, n, rfl, eo, by simpa using intsAre_of ri⟩, OldK.of_keep fun b o e => ?_, os, bare⟩
        cases q : H b with
        | none => exact un.keep b o e q (by intro z; exact absurd (show b ∈ ([] : List Addr) from z) (by simp)) (by simp)
        | some u =>
          rcases hO b with z | ⟨ob, xs, z⟩
          · rw [q] at z; cases z
          · have z2 := un.frzs b ob _ z
            obtain ⟨e1, _⟩ := hok b _ z
            obtain ⟨e2, _⟩ := hok' b _ z2
            rw [e] at e1; cases e1
            exact e2
  cases hk : K.lookup a with
  | some o =>
    have e := KX a o hk
    rw [ha] at e
    cases e
    refine core (fun _ => none) (fun _ => .inl rfl) (.inr ⟨_, vs.toArray, _, hk, rfl, rfl, rfl, by rw [List.size_toArray, lenV]; exact hl, by simpa using rv⟩) (fun b u z => by have z' : (none : Option HO) = some u := z; cases z') (fun b z => absurd rfl z) fun z => absurd rfl z
  | none =>
    refine core (fun b => if b = a then some (.frz { cls := .type "list", data := .seq vs.toArray } (.lst (ns.map V.int))) else none) (fun b => ?_) (.inl (.inr ⟨{ cls := .type "list", data := .seq vs.toArray }, if_pos rfl⟩)) (fun b u z => ?_) (fun b z => ?_) fun _ => hk
    · by_cases hb : b = a
      · exact .inr ⟨_, _, if_pos hb⟩
      · exact .inl (if_neg hb)
    · by_cases hb : b = a
      · have z' := (if_pos hb).symm.trans z
        cases z'
        subst hb
        exact ⟨ha, by rw [List.length_map]; exact hl, vs, _, rv, ha⟩
      · have z' := (if_neg hb).symm.trans z
        cases z'
    · by_cases hb : b = a
      · exact hb
      · exact absurd (if_neg hb) z
theorem readsAllW_ints {R : PySem.W.WRecords} {cl : Str → Option Addr} {h : Heap} : ∀ {vs : List Value} {ns : List Int}, IntsAre vs ns → PySem.W.ReadsAllW R cl h vs (ns.map PySem.W.WData.int) []
  | _, _, .nil => .nil
  | _, _, .cons i t r => .cons (as := []) (bs := []) (.int i t) (readsAllW_ints r)
theorem spec_walk1 {r : PySem.W.OpenSpec} {n k : Nat} {lo hi : Int} {q : Program} {loose : List Str} {XP : (Str → Option Value) → Heap → Prop} {YP : World → Heap → Prop} {d : DefRec} {K : Params → PySem.W.Frag} {CX : World → CXT} {sp : World → Sp} {x : Str}
    {least most : Nat} {blo bhi : Int} {f : List Int → List Int} (asked : PySem.W.Codec.fn Bool [.list 0 n (.int lo hi)])
    (hrow : r = ⟨r.prog, r.name, [.list 0 n (.int lo hi)], .list least most (.int blo bhi), asked, f⟩)
    (hn2 : n ≤ sizeLine) (hdf : d.params.defaults = []) (hr : Room k callerA)
    (hY : ∀ (w : World) (h : Heap), YP w h → (K w.params).In h)
    (F : ∀ (w : World) (mg : Str → Option Value) (fa : Addr) (h : Heap), (K w.params).In h → h.Ns mainGlobals mg → mg d.name = some (.ref fa) →
      ∃ fd : FuncData, (∀ (s : Shared) (u : Value), (K w.params).In s.heap → BindsTo s fd ⟨[u], []⟩ [(x, u)]) ∧
        ∀ base : Heap, (K w.params).In base → base.Ns mainGlobals mg → FnOk r.prog w (K w.params) mg base (CX w) k fa fd [x] (sp w))
    (hsp : ∀ (w : World) (H : Hp) (a : Addr) (ns : List Int), ns.length ≤ n → (∀ z ∈ ns, lo ≤ z ∧ z ≤ hi) → SqL (K w.params) H a (ns.map V.int) → sp w [.ref a] H (Ans (f ns)) fun _ _ _ => False)
    (hCX : ∀ (w : World) (H : Hp) (s : Shared) (e : Value) (s' : Shared), CX w [] H s (fun _ _ _ => False) e s' → False) :
    PySem.W.WalkOS q loose XP YP r d [] (fun f vs => PySem.call f vs) := by
  intro w s₀ s₁ mg mb G Y fa o pm cd doc dV kV ho hd hcd hD hmg hg args vals as hpre hlay hrd hwl hlo
  have hsh := PySem.W.os_shapes _ hpre
  have ea : r.args = [.list 0 n (.int lo hi)] := by rw [hrow]
  have KX := hY w _ Y
  obtain ⟨fd, hb, hF⟩ := F w mg fa _ KX G.T.g hmg
  rw [ea] at hsh
  obtain ⟨dd, rest, rfl, h1, h2⟩ := PySem.W.hasAllW_cons hsh
  obtain rfl := PySem.W.hasAllW_nil h2
  obtain ⟨xs, rfl, h3⟩ := PySem.W.hasW_list h1
  obtain ⟨ns, rfl⟩ := PySem.W.items_int h3
  have hsome := PySem.W.os_pre_isSome hpre
  have e1 : PySem.W.WData.list (ns.map PySem.W.WData.int) = PySem.W.ofPy (PyData.list (ns.map PyData.int)) := (PySem.W.os_list rfl).symm
  have hdec : PySem.W.Codec.decAll [.list 0 n (.int lo hi)] [PySem.W.WData.list (ns.map PySem.W.WData.int)] = some (ns, ()) ∧ 0 ≤ ns.length ∧ ns.length ≤ n ∧ ∀ x ∈ ns, lo ≤ x ∧ x ≤ hi := by
    rw [e1]
    refine PySem.W.os_dec_ints ?_
    rw [← e1, ← ea]
    exact hsome
  obtain ⟨hd1, _, hlen, hitems⟩ := hdec
  cases hwl with
  | cons w1 w2 =>
    cases w2
    cases w1 with
    | list hob hall =>
      have hints := Att.ints_of_wellAll ns _ hall
      refine PySem.W.enter_call (codeAny_mono (spec_call (is := []) (us := []) (out := f ns) (ps := [x]) KX G.T.g G.T.b G.T.builtins G.T.nolimit hg hob hints (Nat.le_trans hlen hn2) .nil hr hF (hb s₁ _ KX) (fun H _ hS => hsp w H _ ns hlen hitems hS) fun H e s' => hCX w H s₁ e s') fun res s' hq => ?_)
      obtain ⟨⟨l, its, m, rfl, hl, hits⟩, h2, h3, h4⟩ := hq
      refine ⟨.inl ⟨.ref l, .list ((f ns).map PySem.W.WData.int), [l], rfl, fun _ => rfl, .list hl rfl rfl (readsAllW_ints hits), ?_, fun h => absurd h Bool.false_ne_true⟩, h2, h3, h4⟩
      show r.post _ _ = true
      rw [hrow]
      exact PySem.W.os_post (r := ⟨r.prog, r.name, [.list 0 n (.int lo hi)], .list least most (.int blo bhi), asked, f⟩) hd1 (PySem.W.same_self _)
end L2
namespace Pg
open PySem PySem.Spec PyProof.Rows L2 TL
theorem all_ok {P : Program} {w : World} {K : PySem.W.Frag} {mg : Str → Option Value} {base : Heap} {a : Adr} (T : Txt K mg a) (hw : w.params = a.prm) : FnOk P w K mg base (CXW P w a.cWrongText) 14 a.f_size a.d_size ["text"] (sp_size a K) := by
  have G_qcj := @ok_qcj P w K mg base a T
  have G_qbf := @ok_init P w K mg base a T
  have G_qaq := @ok_ended P w K mg base a T
  have G_qad := @ok_sees P w K mg base a T
  have G_qag := @ok_take_all P w K mg base a T
  have G_qbg := @ok_skip P w K mg base a T
  have G_qab := @ok_up_to P w K mg base a T
  have G_qaa := @ok_qaa P w K mg base a T G_qag G_qbg G_qab
  have G_qbh := @ok_need P w K mg base a T
  have G_qaf := @ok_take_one P w K mg base a T
  have G_qca := @ok_qca P w K mg base a T G_qaf G_qag
  have G_qbn := @ok_qbn P w K mg base a T G_qaf G_qab
  have G_qac := @ok_qac P w K mg base a T G_qag G_qad G_qca G_qbh G_qbn
  have G_qcg := @ok_qcg P w K mg base a T
  have G_qcd := @ok_qcd P w K mg base a T G_qca G_qac G_qbg G_qbh G_qcg
  have G_qbs := @ok_qbs P w K mg base a T G_qbg
  have G_qat := @ok_qat P w K mg base a T G_qbs G_qag
  have G_qae := @ok_need_end P w K mg base a T
  have G_qaj := @ok_qaj P w K mg base a T G_qbf G_qat G_qae
  have G_qak := @ok_qak P w K mg base a T G_qaj
  have G_qcl := @ok_qcl P w K mg base a T
  have G_qas := @ok_qas P w K mg base a T
  have G_qbo := @ok_qbo P w K mg base a T G_qak G_qcl G_qas
  have G_qbv := @ok_qbv P w K mg base a T
  have G_qbw := @ok_qbw P w K mg base a T G_qbf G_qbh G_qag G_qae G_qbv
  have G_qbx := @ok_qbx P w K mg base a T
  have G_qbq := @ok_qbq P w K mg base a T
  have G_qck := @ok_qck P w K mg base a T G_qbw G_qbx G_qbq
  have G_qbj := @ok_qbj P w K mg base a T
  have G_qbd := @ok_qbd P w K mg base a T
  have G_qbk := @ok_qbk P w K mg base a T
  have G_qcc := @ok_qcc P w K mg base a T G_qag G_qad G_qat G_qbg
  have G_turn := @ok_turn P w K mg base a T
  have G_qau := @ok_qau P w K mg base a T G_turn
  have G_qbu := @ok_qbu P w K mg base a T G_qag G_qbh G_qcc G_qau
  have G_qao := @ok_qao P w K mg base a T
  have G_qav := @ok_qav P w K mg base a T G_qbf G_qag G_qaq G_qbk G_qbu G_qao
  have G_qbr := @ok_qbr P w K mg base a T
  have G_qbm := @ok_qbm P w K mg base a T G_qaj
  have G_qaz := @ok_qaz P w K mg base a T G_qak G_qcl
  have G_qar := @ok_qar P w K mg base a T
  have G_fine := @ok_fine P w K mg base a T
  have G_qbz := @ok_qbz P w K mg base a T G_qbm G_qaz G_qar G_fine
  have G_qbi := @ok_qbi P w K mg base a T
  have G_qba := @ok_qba P w K mg base a T G_qbm G_qbi G_qaz
  have G_qcf := @ok_qcf P w K mg base a T
  have G_qax := @ok_qax P w K mg base a T
  have G_qaw := @ok_qaw P w K mg base a T
  have G_qai := @ok_qai P w K mg base a T G_fine
  have G_qah := @ok_qah P w K mg base a T G_fine
  have G_qci := @ok_qci P w K mg base a T
  have G_qal := @ok_qal P w K mg base a T
  have G_qan := @ok_qan P w K mg base a T G_qci G_qal
  have G_qbl := @ok_qbl P w K mg base a T G_qax G_qaw G_qai G_qah G_qan
  have G_qay := @ok_qay P w K mg base a T hw G_qbl
  have G_qam := @ok_qam P w K mg base a T G_qay G_qai
  have G_qby := @ok_qby P w K mg base a T G_qbf G_qcf G_qag G_qaq G_qad G_qaf G_qam G_qcc
  have G_qbt := @ok_qbt P w K mg base a T G_qbf G_qcc G_qae
  have G_qbb := @ok_qbb P w K mg base a T G_qbt G_qcl G_qar G_fine
  have G_qbc := @ok_qbc P w K mg base a T G_qbz G_qba G_qar G_qby G_qcl G_qbb
  have G_qbp := @ok_qbp P w K mg base a T G_qbh G_qcd G_qbd G_qav G_qck G_qbr G_qbc G_qbj
  have G_qbe := @ok_qbe P w K mg base a T G_qbj G_qaa G_qbg G_qbh G_qbp
  have G_qap := @ok_qap P w K mg base a T G_qbf G_qaa G_qbh G_qcd G_qbo G_qck G_qbq G_qbe G_qae
  have G_qch := @ok_qch P w K mg base a T
  have G_qcb := @ok_qcb P w K mg base a T G_qch
  have G_qce : FnOk P w K mg base (CXW P w a.cWrongText) 13 a.f_qce a.d_qce ["text", "answer"] (sp_answered a K a.f_qcj sizeAns) := ok_qce T G_qcj T.fn_qcj.kp T.b_qcj G_qap G_qcb
  have G_size := @ok_size P w K mg base a T G_qce
  exact G_size
section
variable {K : PySem.W.Frag} {mg : Str → Option Value} {h : Heap}
def DefAt (K : PySem.W.Frag) (mg : Str → Option Value) (x : Str) (st : Stmt) (ps : List Str) : Prop := ∃ (f : Addr) (d : FuncData), Fun K x x st f d ∧ Binds K d ps [] ∧ mg x = some (.ref f)
def MetAt (K : PySem.W.Frag) (C : Addr) (x qual : Str) (st : Stmt) (ps : List Str) : Prop := ∃ (f : Addr) (d : FuncData), Fun K x qual st f d ∧ Binds K d ps [] ∧ Meth K C x f
theorem def_mk {x : Str} {st : Stmt} {ps : List Str} {f : Addr} {oc : Value} {od an : Option Addr} {osl : Array (Option Value)} {kV doc pm cdv ct : Value} (X : K.In h) (G : h.Ns mainGlobals mg)
    (e : PySem.W.nsIn K mainGlobals x = some (some (.ref f))) (l : K.lookup f = some ⟨oc, od, .func (PySem.W.fnOf x x (defArgs st) (defBody st) (defScope st) .none kV doc pm an cdv ct), osl⟩)
    (c : PySem.W.codeIn K cdv x = true) (k : PySem.W.keepIn K (.ref f) = true)
    (b : ∀ (kV doc pm : Value) (an : Option Addr) (cdv ct : Value) (us : List Value), us.length = ps.length → bindArgs (PySem.W.fnOf x x (defArgs st) (defBody st) (defScope st) .none kV doc pm an cdv ct) ⟨us, []⟩ = pure (ps.zip us)) :
    DefAt K mg x st ps :=
  ⟨f, _, fun_mk l c k, (fun_mk l c k).binds b, PySem.W.mg_of X G e⟩
theorem met_mk {x qual : Str} {st : Stmt} {ps : List Str} {C f : Addr} {oc : Value} {od an : Option Addr} {osl : Array (Option Value)} {kV doc pm cdv ct : Value}
    (e : PySem.W.findIn K (.ref C) x = some (some (.ref f))) (l : K.lookup f = some ⟨oc, od, .func (PySem.W.fnOf x qual (defArgs st) (defBody st) (defScope st) .none kV doc pm an cdv ct), osl⟩)
    (c : PySem.W.codeIn K cdv qual = true) (k : PySem.W.keepIn K (.ref f) = true) (i : PySem.W.isFn K (.ref f) = true)
    (b : ∀ (kV doc pm : Value) (an : Option Addr) (cdv ct : Value) (us : List Value), us.length = ps.length → bindArgs (PySem.W.fnOf x qual (defArgs st) (defBody st) (defScope st) .none kV doc pm an cdv ct) ⟨us, []⟩ = pure (ps.zip us)) :
    MetAt K C x qual st ps :=
  ⟨f, _, fun_mk l c k, (fun_mk l c k).binds b, ⟨e, i, k⟩⟩
theorem xc_mk {C : Addr} {x : Str} (e : PySem.W.nsIn K mainGlobals x = some (some (.ref C))) (q : PySem.W.excIn K C [.type "ValueError", .type "Exception", .type "BaseException", .type "object"] "ValueError.__new__" = true) : ∃ C, XCls K mg x C := ⟨C, e, q⟩
theorem gl_int {x : Str} {n : Int} {t : Tok} (X : K.In h) (G : h.Ns mainGlobals mg) (e : PySem.W.nsIn K mainGlobals x = some (some (.int n t))) : Glob mg x (.int n) := ⟨_, PySem.W.mg_of X G e, t, rfl⟩
theorem gl_str {x s : Str} {t : Tok} (X : K.In h) (G : h.Ns mainGlobals mg) (e : PySem.W.nsIn K mainGlobals x = some (some (.str s t))) : Glob mg x (.str s) := ⟨_, PySem.W.mg_of X G e, t, rfl⟩
theorem tup_mk {g : Addr} {o : Obj} {its : Array Value} {n : Nat} {xs : List V} (l : K.lookup g = some o) (c : o.cls = .type "tuple") (d : o.data = .seq its n) (z : its.size ≤ sizeLine) (v : Vals xs its.toList) : KTu K g xs := fun _ => .inr ⟨o, its, n, l, c, d, z, v⟩
end
def ClsAt (K : PySem.W.Frag) (C : Addr) : Prop := Cls K C ∧ PySem.W.makesIn K C = true ∧ PySem.W.keepIn K (.ref C) = true
theorem cls_mk {K : PySem.W.Frag} {C : Addr} (pg : PySem.W.plainGet K C Str.empty = true) (hd : PySem.W.hasDictIn K C = true) (po : PySem.W.plainOver K C = true) (sa : PySem.W.findIn K (.ref C) "__setattr__" = some (some (.builtin "object.__setattr__"))) (mk : PySem.W.makesIn K C = true) (kc : PySem.W.keepIn K (.ref C) = true) : ClsAt K C := ⟨⟨pg, hd, po, sa⟩, mk, kc⟩
theorem na_mk {K : PySem.W.Frag} {C : Addr} {x : Str} (e : PySem.W.findIn K (.ref C) x = some none) : NoAttr K C x := e
structure B_Reader (K : PySem.W.Frag) (mg : Str → Option Value) (C : Addr) : Prop where
  cl : Cls K C
  mgc : mg "Reader" = some (.ref C)
  mks : PySem.W.makesIn K C = true
  kpc : PySem.W.keepIn K (.ref C) = true
  na_signs : NoAttr K C "signs"
  na_place : NoAttr K C "place"
  me_qbf : MetAt K C "__init__" "Reader.__init__" s_qbf ["self", "signs"]
  me_qaq : MetAt K C "ended" "Reader.ended" s_qaq ["self"]
  me_qad : MetAt K C "sees_one" "Reader.sees_one" s_qad ["self", "allowed"]
  me_qbg : MetAt K C "skip" "Reader.skip" s_qbg ["self", "word"]
  me_qbh : MetAt K C "need" "Reader.need" s_qbh ["self", "word"]
  me_qae : MetAt K C "need_end" "Reader.need_end" s_qae ["self"]
  me_qaf : MetAt K C "take_one" "Reader.take_one" s_qaf ["self", "allowed"]
  me_qag : MetAt K C "take_all" "Reader.take_all" s_qag ["self", "allowed"]
  me_qab : MetAt K C "take_up_to" "Reader.take_up_to" s_qab ["self", "word"]
structure B_Circle (K : PySem.W.Frag) (mg : Str → Option Value) (C : Addr) : Prop where
  cl : Cls K C
  mgc : mg "Circle" = some (.ref C)
  mks : PySem.W.makesIn K C = true
  kpc : PySem.W.keepIn K (.ref C) = true
  na_cx : NoAttr K C "cx"
  na_cy : NoAttr K C "cy"
  na_r : NoAttr K C "r"
  me_qbi : MetAt K C "__init__" "Circle.__init__" s_qbi ["self", "cx", "cy", "r"]
structure B_Style (K : PySem.W.Frag) (mg : Str → Option Value) (C : Addr) : Prop where
  cl : Cls K C
  mgc : mg "Style" = some (.ref C)
  mks : PySem.W.makesIn K C = true
  kpc : PySem.W.keepIn K (.ref C) = true
  na_fill : NoAttr K C "fill"
  na_rule : NoAttr K C "rule"
  me_qbq : MetAt K C "__init__" "Style.__init__" s_qbq ["self", "fill", "rule"]
structure B_Outline (K : PySem.W.Frag) (mg : Str → Option Value) (C : Addr) : Prop where
  cl : Cls K C
  mgc : mg "Outline" = some (.ref C)
  mks : PySem.W.makesIn K C = true
  kpc : PySem.W.keepIn K (.ref C) = true
  na_lines : NoAttr K C "lines"
  me_qar : MetAt K C "__init__" "Outline.__init__" s_qar ["self", "lines"]
structure B_Pen (K : PySem.W.Frag) (mg : Str → Option Value) (C : Addr) : Prop where
  cl : Cls K C
  mgc : mg "Pen" = some (.ref C)
  mks : PySem.W.makesIn K C = true
  kpc : PySem.W.keepIn K (.ref C) = true
  na_lines : NoAttr K C "lines"
  na_stands : NoAttr K C "stands"
  na_line_begin : NoAttr K C "line_begin"
  me_qcf : MetAt K C "__init__" "Pen.__init__" s_qcf ["self"]
  me_qai : MetAt K C "begin_line" "Pen.begin_line" s_qai ["self", "place"]
  me_qah : MetAt K C "go_straight" "Pen.go_straight" s_qah ["self", "place"]
  me_qan : MetAt K C "go_curved" "Pen.go_curved" s_qan ["self", "told"]
structure B_Shape (K : PySem.W.Frag) (mg : Str → Option Value) (C : Addr) : Prop where
  cl : Cls K C
  mgc : mg "Shape" = some (.ref C)
  mks : PySem.W.makesIn K C = true
  kpc : PySem.W.keepIn K (.ref C) = true
  na_figure : NoAttr K C "figure"
  na_matrix : NoAttr K C "matrix"
  na_style : NoAttr K C "style"
  me_qbr : MetAt K C "__init__" "Shape.__init__" s_qbr ["self", "figure", "matrix", "style"]
structure B_Tag (K : PySem.W.Frag) (mg : Str → Option Value) (C : Addr) : Prop where
  cl : Cls K C
  mgc : mg "Tag" = some (.ref C)
  mks : PySem.W.makesIn K C = true
  kpc : PySem.W.keepIn K (.ref C) = true
  na_name : NoAttr K C "name"
  na_attributes : NoAttr K C "attributes"
  na_closed : NoAttr K C "closed"
  me_qcg : MetAt K C "__init__" "Tag.__init__" s_qcg ["self", "name", "attributes", "closed"]
structure B_Picture (K : PySem.W.Frag) (mg : Str → Option Value) (C : Addr) : Prop where
  cl : Cls K C
  mgc : mg "Picture" = some (.ref C)
  mks : PySem.W.makesIn K C = true
  kpc : PySem.W.keepIn K (.ref C) = true
  na_width : NoAttr K C "width"
  na_height : NoAttr K C "height"
  na_shapes : NoAttr K C "shapes"
  me_qas : MetAt K C "__init__" "Picture.__init__" s_qas ["self", "width", "height"]
structure B_Holder (K : PySem.W.Frag) (mg : Str → Option Value) (C : Addr) : Prop where
  cl : Cls K C
  mgc : mg "Holder" = some (.ref C)
  mks : PySem.W.makesIn K C = true
  kpc : PySem.W.keepIn K (.ref C) = true
  na_name : NoAttr K C "name"
  na_matrix : NoAttr K C "matrix"
  na_style : NoAttr K C "style"
  me_qbj : MetAt K C "__init__" "Holder.__init__" s_qbj ["self", "name", "matrix", "style"]
theorem cls_Reader {K : PySem.W.Frag} {mg : Str → Option Value} {h : Heap} {C : Addr} (X : K.In h) (G : h.Ns mainGlobals mg) (e : PySem.W.nsIn K mainGlobals "Reader" = some (some (.ref C))) (o : ClsAt K C) (na_signs : NoAttr K C "signs") (na_place : NoAttr K C "place")
    (m0 : MetAt K C "__init__" "Reader.__init__" s_qbf ["self", "signs"])
    (m1 : MetAt K C "ended" "Reader.ended" s_qaq ["self"])
    (m2 : MetAt K C "sees_one" "Reader.sees_one" s_qad ["self", "allowed"])
    (m3 : MetAt K C "skip" "Reader.skip" s_qbg ["self", "word"])
    (m4 : MetAt K C "need" "Reader.need" s_qbh ["self", "word"])
    (m5 : MetAt K C "need_end" "Reader.need_end" s_qae ["self"])
    (m6 : MetAt K C "take_one" "Reader.take_one" s_qaf ["self", "allowed"])
    (m7 : MetAt K C "take_all" "Reader.take_all" s_qag ["self", "allowed"])
    (m8 : MetAt K C "take_up_to" "Reader.take_up_to" s_qab ["self", "word"]) : ∃ C, B_Reader K mg C :=
  ⟨C, o.1, PySem.W.mg_of X G e, o.2.1, o.2.2, na_signs, na_place, m0, m1, m2, m3, m4, m5, m6, m7, m8⟩
theorem cls_Circle {K : PySem.W.Frag} {mg : Str → Option Value} {h : Heap} {C : Addr} (X : K.In h) (G : h.Ns mainGlobals mg) (e : PySem.W.nsIn K mainGlobals "Circle" = some (some (.ref C))) (o : ClsAt K C) (na_cx : NoAttr K C "cx") (na_cy : NoAttr K C "cy") (na_r : NoAttr K C "r")
    (m0 : MetAt K C "__init__" "Circle.__init__" s_qbi ["self", "cx", "cy", "r"]) : ∃ C, B_Circle K mg C :=
  ⟨C, o.1, PySem.W.mg_of X G e, o.2.1, o.2.2, na_cx, na_cy, na_r, m0⟩
theorem cls_Style {K : PySem.W.Frag} {mg : Str → Option Value} {h : Heap} {C : Addr} (X : K.In h) (G : h.Ns mainGlobals mg) (e : PySem.W.nsIn K mainGlobals "Style" = some (some (.ref C))) (o : ClsAt K C) (na_fill : NoAttr K C "fill") (na_rule : NoAttr K C "rule")
    (m0 : MetAt K C "__init__" "Style.__init__" s_qbq ["self", "fill", "rule"]) : ∃ C, B_Style K mg C :=
  ⟨C, o.1, PySem.W.mg_of X G e, o.2.1, o.2.2, na_fill, na_rule, m0⟩
theorem cls_Outline {K : PySem.W.Frag} {mg : Str → Option Value} {h : Heap} {C : Addr} (X : K.In h) (G : h.Ns mainGlobals mg) (e : PySem.W.nsIn K mainGlobals "Outline" = some (some (.ref C))) (o : ClsAt K C) (na_lines : NoAttr K C "lines")
    (m0 : MetAt K C "__init__" "Outline.__init__" s_qar ["self", "lines"]) : ∃ C, B_Outline K mg C :=
  ⟨C, o.1, PySem.W.mg_of X G e, o.2.1, o.2.2, na_lines, m0⟩
theorem cls_Pen {K : PySem.W.Frag} {mg : Str → Option Value} {h : Heap} {C : Addr} (X : K.In h) (G : h.Ns mainGlobals mg) (e : PySem.W.nsIn K mainGlobals "Pen" = some (some (.ref C))) (o : ClsAt K C) (na_lines : NoAttr K C "lines") (na_stands : NoAttr K C "stands") (na_line_begin : NoAttr K C "line_begin")
    (m0 : MetAt K C "__init__" "Pen.__init__" s_qcf ["self"])
    (m1 : MetAt K C "begin_line" "Pen.begin_line" s_qai ["self", "place"])
    (m2 : MetAt K C "go_straight" "Pen.go_straight" s_qah ["self", "place"])
    (m3 : MetAt K C "go_curved" "Pen.go_curved" s_qan ["self", "told"]) : ∃ C, B_Pen K mg C :=
  ⟨C, o.1, PySem.W.mg_of X G e, o.2.1, o.2.2, na_lines, na_stands, na_line_begin, m0, m1, m2, m3⟩
theorem cls_Shape {K : PySem.W.Frag} {mg : Str → Option Value} {h : Heap} {C : Addr} (X : K.In h) (G : h.Ns mainGlobals mg) (e : PySem.W.nsIn K mainGlobals "Shape" = some (some (.ref C))) (o : ClsAt K C) (na_figure : NoAttr K C "figure") (na_matrix : NoAttr K C "matrix") (na_style : NoAttr K C "style")
    (m0 : MetAt K C "__init__" "Shape.__init__" s_qbr ["self", "figure", "matrix", "style"]) : ∃ C, B_Shape K mg C :=
  ⟨C, o.1, PySem.W.mg_of X G e, o.2.1, o.2.2, na_figure, na_matrix, na_style, m0⟩
theorem cls_Tag {K : PySem.W.Frag} {mg : Str → Option Value} {h : Heap} {C : Addr} (X : K.In h) (G : h.Ns mainGlobals mg) (e : PySem.W.nsIn K mainGlobals "Tag" = some (some (.ref C))) (o : ClsAt K C) (na_name : NoAttr K C "name") (na_attributes : NoAttr K C "attributes") (na_closed : NoAttr K C "closed")
    (m0 : MetAt K C "__init__" "Tag.__init__" s_qcg ["self", "name", "attributes", "closed"]) : ∃ C, B_Tag K mg C :=
  ⟨C, o.1, PySem.W.mg_of X G e, o.2.1, o.2.2, na_name, na_attributes, na_closed, m0⟩
theorem cls_Picture {K : PySem.W.Frag} {mg : Str → Option Value} {h : Heap} {C : Addr} (X : K.In h) (G : h.Ns mainGlobals mg) (e : PySem.W.nsIn K mainGlobals "Picture" = some (some (.ref C))) (o : ClsAt K C) (na_width : NoAttr K C "width") (na_height : NoAttr K C "height") (na_shapes : NoAttr K C "shapes")
    (m0 : MetAt K C "__init__" "Picture.__init__" s_qas ["self", "width", "height"]) : ∃ C, B_Picture K mg C :=
  ⟨C, o.1, PySem.W.mg_of X G e, o.2.1, o.2.2, na_width, na_height, na_shapes, m0⟩
theorem cls_Holder {K : PySem.W.Frag} {mg : Str → Option Value} {h : Heap} {C : Addr} (X : K.In h) (G : h.Ns mainGlobals mg) (e : PySem.W.nsIn K mainGlobals "Holder" = some (some (.ref C))) (o : ClsAt K C) (na_name : NoAttr K C "name") (na_matrix : NoAttr K C "matrix") (na_style : NoAttr K C "style")
    (m0 : MetAt K C "__init__" "Holder.__init__" s_qbj ["self", "name", "matrix", "style"]) : ∃ C, B_Holder K mg C :=
  ⟨C, o.1, PySem.W.mg_of X G e, o.2.1, o.2.2, na_name, na_matrix, na_style, m0⟩
structure B_QT (K : PySem.W.Frag) (mg : Str → Option Value) (g q0 q1 q2 q3 : Addr) : Prop where
  at_ : mg "QUARTER_TURNS" = some (.ref g)
  qt : KTu K g [.ref q0, .ref q1, .ref q2, .ref q3]
  t0 : KTu K q0 [.int 1, .int 0, .int 0, .int 1, .int 0, .int 0]
  t1 : KTu K q1 [.int 0, .int 1, .int (-1), .int 0, .int 0, .int 0]
  t2 : KTu K q2 [.int (-1), .int 0, .int 0, .int (-1), .int 0, .int 0]
  t3 : KTu K q3 [.int 0, .int (-1), .int 1, .int 0, .int 0, .int 0]
theorem qt_mk {K : PySem.W.Frag} {mg : Str → Option Value} {h : Heap} {g q0 q1 q2 q3 : Addr} {o : Obj} (X : K.In h) (G : h.Ns mainGlobals mg) (e : PySem.W.nsIn K mainGlobals "QUARTER_TURNS" = some (some (.ref g)))
    (l : K.lookup g = some o) (c : KTu K g [.ref q0, .ref q1, .ref q2, .ref q3]) (c0 : KTu K q0 [.int 1, .int 0, .int 0, .int 1, .int 0, .int 0]) (c1 : KTu K q1 [.int 0, .int 1, .int (-1), .int 0, .int 0, .int 0]) (c2 : KTu K q2 [.int (-1), .int 0, .int 0, .int (-1), .int 0, .int 0]) (c3 : KTu K q3 [.int 0, .int (-1), .int 1, .int 0, .int 0, .int 0]) :
    ∃ g q0 q1 q2 q3, B_QT K mg g q0 q1 q2 q3 := ⟨g, q0, q1, q2, q3, PySem.W.mg_of X G e, c, c0, c1, c2, c3⟩
theorem tupg_mk {K : PySem.W.Frag} {mg : Str → Option Value} {h : Heap} {x : Str} {g : Addr} {xs : List V} (X : K.In h) (G : h.Ns mainGlobals mg) (e : PySem.W.nsIn K mainGlobals x = some (some (.ref g))) (c : KTu K g xs) : ∃ g, mg x = some (.ref g) ∧ KTu K g xs := ⟨g, PySem.W.mg_of X G e, c⟩
theorem vals_int {n : Int} {t : Tok} {xs : List V} {us : List Value} (r : Vals xs us) : Vals (.int n :: xs) (.int n t :: us) := .cons ⟨t, rfl⟩ r
theorem vals_str {n : Str} {t : Tok} {xs : List V} {us : List Value} (r : Vals xs us) : Vals (.str n :: xs) (.str n t :: us) := .cons ⟨t, rfl⟩ r
theorem vals_ref {n : Addr} {xs : List V} {us : List Value} (r : Vals xs us) : Vals (.ref n :: xs) (.ref n :: us) := .cons rfl r
theorem row_mk {K : PySem.W.Frag} {mg : Str → Option Value} {h : Heap} {pr : Params} {g : Addr} {k1 k2 k3 k4 k5 k6 v1 v2 v3 v4 v5 v6 : Tok} (X : K.In h) (G : h.Ns mainGlobals mg) (e : PySem.W.nsIn K mainGlobals "ROW_LENGTHS" = some (some (.ref g)))
    (l : K.lookup g = some { cls := .type "dict", data := .dict #[⟨PyData.keyHash pr "M", .str "M" k1, .int 2 v1⟩, ⟨PyData.keyHash pr "L", .str "L" k2, .int 2 v2⟩, ⟨PyData.keyHash pr "H", .str "H" k3, .int 1 v3⟩, ⟨PyData.keyHash pr "V", .str "V" k4, .int 1 v4⟩, ⟨PyData.keyHash pr "Q", .str "Q" k5, .int 4 v5⟩, ⟨PyData.keyHash pr "C", .str "C" k6, .int 6 v6⟩] 6 }) :
    ∃ g, mg "ROW_LENGTHS" = some (.ref g) ∧ KD K pr g [("M", 2), ("L", 2), ("H", 1), ("V", 1), ("Q", 4), ("C", 6)] := by
  refine ⟨g, PySem.W.mg_of X G e, fun P w hp hw hK => ⟨[(.inr "M", .int 2 v1), (.inr "L", .int 2 v2), (.inr "H", .int 1 v3), (.inr "V", .int 1 v4), (.inr "Q", .int 4 v5), (.inr "C", .int 6 v6)], ?_, _, _, _, hK g _ l, ?_, rfl, ?_, ?_, ?_⟩⟩
  · exact .cons ⟨rfl, _, rfl⟩ (.cons ⟨rfl, _, rfl⟩ (.cons ⟨rfl, _, rfl⟩ (.cons ⟨rfl, _, rfl⟩ (.cons ⟨rfl, _, rfl⟩ (.cons ⟨rfl, _, rfl⟩ .nil)))))
  · exact ⟨rfl, rfl, rfl⟩
  · subst hw
    intro en hen
    have hm : en ∈ [(⟨PyData.keyHash w.params "M", .str "M" k1, .int 2 v1⟩ : DictEntry), ⟨PyData.keyHash w.params "L", .str "L" k2, .int 2 v2⟩, ⟨PyData.keyHash w.params "H", .str "H" k3, .int 1 v3⟩, ⟨PyData.keyHash w.params "V", .str "V" k4, .int 1 v4⟩, ⟨PyData.keyHash w.params "Q", .str "Q" k5, .int 4 v5⟩, ⟨PyData.keyHash w.params "C", .str "C" k6, .int 6 v6⟩] := by simpa using hen
    simp only [List.mem_cons, List.not_mem_nil, or_false] at hm
    rcases hm with rfl | rfl | rfl | rfl | rfl | rfl
    · exact ⟨.inr "M", mixKind_str P w _ _, rfl⟩
    · exact ⟨.inr "L", mixKind_str P w _ _, rfl⟩
    · exact ⟨.inr "H", mixKind_str P w _ _, rfl⟩
    · exact ⟨.inr "V", mixKind_str P w _ _, rfl⟩
    · exact ⟨.inr "Q", mixKind_str P w _ _, rfl⟩
    · exact ⟨.inr "C", mixKind_str P w _ _, rfl⟩
  · exact .cons (mixKind_str P w _ _) rfl (.cons (mixKind_str P w _ _) rfl (.cons (mixKind_str P w _ _) rfl (.cons (mixKind_str P w _ _) rfl (.cons (mixKind_str P w _ _) rfl (.cons (mixKind_str P w _ _) rfl .nil)))))
  · show ([Sum.inr "M", Sum.inr "L", Sum.inr "H", Sum.inr "V", Sum.inr "Q", Sum.inr "C"] : List Key).Nodup
    decide +kernel
def cOf (K : PySem.W.Frag) : Addr := match PySem.W.nsIn K mainGlobals "WrongText" with
  | some (some (.ref C)) => C
  | _ => 0
def szSp (K : PySem.W.Frag) : Sp := fun vs H Q _ => ∃ (t : Addr) (b : B), vs = [.ref t] ∧ SqL K H t (b.map fun (c : Nat) => V.int (c : Int)) ∧ Sg35.Byt b ∧ b.length ≤ 65600 ∧ ∀ u H', LsI H' u (answerOf sizeAns b) → Q (.ref u) H'
theorem go {P : Program} {w : World} {K : PySem.W.Frag} {h : Heap} {mg : Str → Option Value} {fa : Addr} (X : K.In h) (G : h.Ns mainGlobals mg) (hfa : mg "size" = some (.ref fa))
    (xc : ∃ C, XCls K mg "WrongText" C)
    (c_Reader : ∃ C, B_Reader K mg C)
    (c_Circle : ∃ C, B_Circle K mg C)
    (c_Style : ∃ C, B_Style K mg C)
    (c_Outline : ∃ C, B_Outline K mg C)
    (c_Pen : ∃ C, B_Pen K mg C)
    (c_Shape : ∃ C, B_Shape K mg C)
    (c_Tag : ∃ C, B_Tag K mg C)
    (c_Picture : ∃ C, B_Picture K mg C)
    (c_Holder : ∃ C, B_Holder K mg C)
    (d_qch : DefAt K mg "sign_of" s_qch ["byte"])
    (d_qcb : DefAt K mg "signs_of" s_qcb ["text"])
    (d_qbs : DefAt K mg "read_sign" s_qbs ["reader"])
    (d_qat : DefAt K mg "read_number" s_qat ["reader"])
    (d_qcc : DefAt K mg "read_row" s_qcc ["reader"])
    (d_qaj : DefAt K mg "single_number" s_qaj ["value"])
    (d_qak : DefAt K mg "number_within" s_qak ["value", "least", "most"])
    (d_qbt : DefAt K mg "whole_row" s_qbt ["value"])
    (d_qbk : DefAt K mg "put_behind" s_qbk ["outer", "inner"])
    (d_qao : DefAt K mg "check_bounds" s_qao ["matrix"])
    (d_turn : DefAt K mg "turn" s_turn ["angle"])
    (d_qau : DefAt K mg "step_matrix" s_qau ["word", "row"])
    (d_qbu : DefAt K mg "read_step" s_qbu ["reader"])
    (d_qav : DefAt K mg "transformed" s_qav ["outer", "transform"])
    (d_fine : DefAt K mg "fine" s_fine ["place"])
    (d_qbv : DefAt K mg "colour_of" s_qbv ["digits"])
    (d_qbw : DefAt K mg "read_fill" s_qbw ["value"])
    (d_qbx : DefAt K mg "read_rule" s_qbx ["value"])
    (d_qck : DefAt K mg "styled" s_qck ["around", "attributes"])
    (d_qal : DefAt K mg "curve_weights" s_qal ["k", "corner_count"])
    (d_qci : DefAt K mg "weighed" s_qci ["corners", "weights"])
    (d_qaw : DefAt K mg "check_place" s_qaw ["place"])
    (d_qax : DefAt K mg "told_places" s_qax ["stands", "letter", "row"])
    (d_qbl : DefAt K mg "follow_row" s_qbl ["pen", "letter", "row", "begins"])
    (d_qay : DefAt K mg "follow_rows" s_qay ["pen", "letter", "numbers"])
    (d_qam : DefAt K mg "follow_letter" s_qam ["pen", "letter", "numbers"])
    (d_qby : DefAt K mg "read_path" s_qby ["value"])
    (d_qcl : DefAt K mg "needed" s_qcl ["attributes", "name"])
    (d_qbm : DefAt K mg "place_told" s_qbm ["attributes", "x_name", "y_name"])
    (d_qaz : DefAt K mg "length_told" s_qaz ["attributes", "name"])
    (d_qbz : DefAt K mg "read_rect" s_qbz ["attributes"])
    (d_qba : DefAt K mg "read_circle" s_qba ["attributes"])
    (d_qbb : DefAt K mg "read_points" s_qbb ["attributes"])
    (d_qbc : DefAt K mg "read_figure" s_qbc ["name", "attributes"])
    (d_qaa : DefAt K mg "skip_blanks_and_notes" s_qaa ["reader"])
    (d_qca : DefAt K mg "read_name" s_qca ["reader"])
    (d_qbn : DefAt K mg "read_value" s_qbn ["reader"])
    (d_qac : DefAt K mg "read_attributes" s_qac ["reader"])
    (d_qcd : DefAt K mg "read_tag" s_qcd ["reader"])
    (d_qbo : DefAt K mg "picture_of" s_qbo ["tag"])
    (d_qbd : DefAt K mg "check_child" s_qbd ["tag", "holders"])
    (d_qbp : DefAt K mg "read_child" s_qbp ["reader", "holders", "picture"])
    (d_qbe : DefAt K mg "read_inside" s_qbe ["reader", "picture", "style"])
    (d_qap : DefAt K mg "read_picture" s_qap ["signs"])
    (d_qce : DefAt K mg "answered" s_qce ["text", "answer"])
    (d_qcj : DefAt K mg "size_of" s_qcj ["picture"])
    (d_size : DefAt K mg "size" s_size ["text"])
    (g_BLANK : Glob mg "BLANK" (.str " "))
    (g_STRANGE : Glob mg "STRANGE" (.str "\n"))
    (g_SMALLS : Glob mg "SMALLS" (.str "abcdefghijklmnopqrstuvwxyz"))
    (g_LETTERS : Glob mg "LETTERS" (.str "ABCDEFGHIJKLMNOPQRSTUVWXYZabcdefghijklmnopqrstuvwxyz"))
    (g_DIGITS : Glob mg "DIGITS" (.str "0123456789"))
    (g_PRINTED : Glob mg "PRINTED" (.str "!\"#$?&'()*+,-./0123456789:;<=>?@ABCDEFGHIJKLMNOPQRSTUVWXYZ[\\]^_`abcdefghijklmnopqrstuvwxyz{|}~"))
    (g_MOST_DIGITS : Glob mg "MOST_DIGITS" (.int 5))
    (g_LARGEST : Glob mg "LARGEST" (.int 32767))
    (g_NUMBER_BEGINS : Glob mg "NUMBER_BEGINS" (.str "+-0123456789"))
    (g_FARTHEST_TURN : Glob mg "FARTHEST_TURN" (.int 270))
    (g_LARGEST_FACTOR : Glob mg "LARGEST_FACTOR" (.int 1048576))
    (g_LARGEST_SHIFT : Glob mg "LARGEST_SHIFT" (.int 16777216))
    (g_FINE : Glob mg "FINE" (.int 4096))
    (g_DIGITS_OF_SIXTEEN : Glob mg "DIGITS_OF_SIXTEEN" (.str "0123456789abcdefABCDEF"))
    (g_BLACK : Glob mg "BLACK" (.int 0))
    (g_NO_FILL : Glob mg "NO_FILL" (.int (-1)))
    (g_NONZERO : Glob mg "NONZERO" (.str "nonzero"))
    (g_EVENODD : Glob mg "EVENODD" (.str "evenodd"))
    (g_PATH_LETTERS : Glob mg "PATH_LETTERS" (.str "MLHVQCZmlhvqcz"))
    (g_FARTHEST : Glob mg "FARTHEST" (.int 65536))
    (g_CURVE_PIECES : Glob mg "CURVE_PIECES" (.int 16))
    (g_NAME_SIGNS : Glob mg "NAME_SIGNS" (.str "ABCDEFGHIJKLMNOPQRSTUVWXYZabcdefghijklmnopqrstuvwxyz0123456789-:"))
    (g_LARGEST_SIDE : Glob mg "LARGEST_SIDE" (.int 1024))
    (g_MOST_GROUPS_AROUND : Glob mg "MOST_GROUPS_AROUND" (.int 16))
    (g_MOST_BYTES : Glob mg "MOST_BYTES" (.int 65536))
    (g_BEYOND_BOUNDS : Glob mg "BEYOND_BOUNDS" (.int (-1)))
    (g_NOT_RIGHT : Glob mg "NOT_RIGHT" (.int (-2)))
    (u_UNMOVED : ∃ g, mg "UNMOVED" = some (.ref g) ∧ KTu K g [.int 1, .int 0, .int 0, .int 1, .int 0, .int 0])
    (u_SHAPES : ∃ g, mg "SHAPES" = some (.ref g) ∧ KTu K g [.str "rect", .str "circle", .str "polygon", .str "polyline", .str "path"])
    (u_QT : ∃ g q0 q1 q2 q3, B_QT K mg g q0 q1 q2 q3)
    (u_ROW : ∃ g, mg "ROW_LENGTHS" = some (.ref g) ∧ KD K w.params g [("M", 2), ("L", 2), ("H", 1), ("V", 1), ("Q", 4), ("C", 6)])
    (b_abs : PySem.W.nsIn K mainGlobals "abs" = some none)
    (b_answer : PySem.W.nsIn K mainGlobals "answer" = some none)
    (b_int : PySem.W.nsIn K mainGlobals "int" = some none)
    (b_len : PySem.W.nsIn K mainGlobals "len" = some none)
    (b_max : PySem.W.nsIn K mainGlobals "max" = some none)
    (b_range : PySem.W.nsIn K mainGlobals "range" = some none)
    (b_sum : PySem.W.nsIn K mainGlobals "sum" = some none)
    (b_tuple : PySem.W.nsIn K mainGlobals "tuple" = some none)
    (b_zip : PySem.W.nsIn K mainGlobals "zip" = some none) :
    ∃ fd : FuncData, (∀ (s : Shared) (v : Value), K.In s.heap → BindsTo s fd ⟨[v], []⟩ [("text", v)]) ∧ ∀ base : Heap, K.In base → base.Ns mainGlobals mg → FnOk P w K mg base (CXW P w (cOf K)) 14 fa fd ["text"] (szSp K) := by
  obtain ⟨cWrongText, xc⟩ := xc
  obtain ⟨cReader, B_Reader⟩ := c_Reader
  obtain ⟨f_qbf, d_qbf, fn_qbf, b_qbf, me_qbf⟩ := B_Reader.me_qbf
  obtain ⟨f_qaq, d_qaq, fn_qaq, b_qaq, me_qaq⟩ := B_Reader.me_qaq
  obtain ⟨f_qad, d_qad, fn_qad, b_qad, me_qad⟩ := B_Reader.me_qad
  obtain ⟨f_qbg, d_qbg, fn_qbg, b_qbg, me_qbg⟩ := B_Reader.me_qbg
  obtain ⟨f_qbh, d_qbh, fn_qbh, b_qbh, me_qbh⟩ := B_Reader.me_qbh
  obtain ⟨f_qae, d_qae, fn_qae, b_qae, me_qae⟩ := B_Reader.me_qae
  obtain ⟨f_qaf, d_qaf, fn_qaf, b_qaf, me_qaf⟩ := B_Reader.me_qaf
  obtain ⟨f_qag, d_qag, fn_qag, b_qag, me_qag⟩ := B_Reader.me_qag
  obtain ⟨f_qab, d_qab, fn_qab, b_qab, me_qab⟩ := B_Reader.me_qab
  obtain ⟨cCircle, B_Circle⟩ := c_Circle
  obtain ⟨f_qbi, d_qbi, fn_qbi, b_qbi, me_qbi⟩ := B_Circle.me_qbi
  obtain ⟨cStyle, B_Style⟩ := c_Style
  obtain ⟨f_qbq, d_qbq, fn_qbq, b_qbq, me_qbq⟩ := B_Style.me_qbq
  obtain ⟨cOutline, B_Outline⟩ := c_Outline
  obtain ⟨f_qar, d_qar, fn_qar, b_qar, me_qar⟩ := B_Outline.me_qar
  obtain ⟨cPen, B_Pen⟩ := c_Pen
  obtain ⟨f_qcf, d_qcf, fn_qcf, b_qcf, me_qcf⟩ := B_Pen.me_qcf
  obtain ⟨f_qai, d_qai, fn_qai, b_qai, me_qai⟩ := B_Pen.me_qai
  obtain ⟨f_qah, d_qah, fn_qah, b_qah, me_qah⟩ := B_Pen.me_qah
  obtain ⟨f_qan, d_qan, fn_qan, b_qan, me_qan⟩ := B_Pen.me_qan
  obtain ⟨cShape, B_Shape⟩ := c_Shape
  obtain ⟨f_qbr, d_qbr, fn_qbr, b_qbr, me_qbr⟩ := B_Shape.me_qbr
  obtain ⟨cTag, B_Tag⟩ := c_Tag
  obtain ⟨f_qcg, d_qcg, fn_qcg, b_qcg, me_qcg⟩ := B_Tag.me_qcg
  obtain ⟨cPicture, B_Picture⟩ := c_Picture
  obtain ⟨f_qas, d_qas, fn_qas, b_qas, me_qas⟩ := B_Picture.me_qas
  obtain ⟨cHolder, B_Holder⟩ := c_Holder
  obtain ⟨f_qbj, d_qbj, fn_qbj, b_qbj, me_qbj⟩ := B_Holder.me_qbj
  obtain ⟨f_qch, d_qch, fn_qch, b_qch, mg_qch⟩ := d_qch
  obtain ⟨f_qcb, d_qcb, fn_qcb, b_qcb, mg_qcb⟩ := d_qcb
  obtain ⟨f_qbs, d_qbs, fn_qbs, b_qbs, mg_qbs⟩ := d_qbs
  obtain ⟨f_qat, d_qat, fn_qat, b_qat, mg_qat⟩ := d_qat
  obtain ⟨f_qcc, d_qcc, fn_qcc, b_qcc, mg_qcc⟩ := d_qcc
  obtain ⟨f_qaj, d_qaj, fn_qaj, b_qaj, mg_qaj⟩ := d_qaj
  obtain ⟨f_qak, d_qak, fn_qak, b_qak, mg_qak⟩ := d_qak
  obtain ⟨f_qbt, d_qbt, fn_qbt, b_qbt, mg_qbt⟩ := d_qbt
  obtain ⟨f_qbk, d_qbk, fn_qbk, b_qbk, mg_qbk⟩ := d_qbk
  obtain ⟨f_qao, d_qao, fn_qao, b_qao, mg_qao⟩ := d_qao
  obtain ⟨f_turn, d_turn, fn_turn, b_turn, mg_turn⟩ := d_turn
  obtain ⟨f_qau, d_qau, fn_qau, b_qau, mg_qau⟩ := d_qau
  obtain ⟨f_qbu, d_qbu, fn_qbu, b_qbu, mg_qbu⟩ := d_qbu
  obtain ⟨f_qav, d_qav, fn_qav, b_qav, mg_qav⟩ := d_qav
  obtain ⟨f_fine, d_fine, fn_fine, b_fine, mg_fine⟩ := d_fine
  obtain ⟨f_qbv, d_qbv, fn_qbv, b_qbv, mg_qbv⟩ := d_qbv
  obtain ⟨f_qbw, d_qbw, fn_qbw, b_qbw, mg_qbw⟩ := d_qbw
  obtain ⟨f_qbx, d_qbx, fn_qbx, b_qbx, mg_qbx⟩ := d_qbx
  obtain ⟨f_qck, d_qck, fn_qck, b_qck, mg_qck⟩ := d_qck
  obtain ⟨f_qal, d_qal, fn_qal, b_qal, mg_qal⟩ := d_qal
  obtain ⟨f_qci, d_qci, fn_qci, b_qci, mg_qci⟩ := d_qci
  obtain ⟨f_qaw, d_qaw, fn_qaw, b_qaw, mg_qaw⟩ := d_qaw
  obtain ⟨f_qax, d_qax, fn_qax, b_qax, mg_qax⟩ := d_qax
  obtain ⟨f_qbl, d_qbl, fn_qbl, b_qbl, mg_qbl⟩ := d_qbl
  obtain ⟨f_qay, d_qay, fn_qay, b_qay, mg_qay⟩ := d_qay
  obtain ⟨f_qam, d_qam, fn_qam, b_qam, mg_qam⟩ := d_qam
  obtain ⟨f_qby, d_qby, fn_qby, b_qby, mg_qby⟩ := d_qby
  obtain ⟨f_qcl, d_qcl, fn_qcl, b_qcl, mg_qcl⟩ := d_qcl
  obtain ⟨f_qbm, d_qbm, fn_qbm, b_qbm, mg_qbm⟩ := d_qbm
  obtain ⟨f_qaz, d_qaz, fn_qaz, b_qaz, mg_qaz⟩ := d_qaz
  obtain ⟨f_qbz, d_qbz, fn_qbz, b_qbz, mg_qbz⟩ := d_qbz
  obtain ⟨f_qba, d_qba, fn_qba, b_qba, mg_qba⟩ := d_qba
  obtain ⟨f_qbb, d_qbb, fn_qbb, b_qbb, mg_qbb⟩ := d_qbb
  obtain ⟨f_qbc, d_qbc, fn_qbc, b_qbc, mg_qbc⟩ := d_qbc
  obtain ⟨f_qaa, d_qaa, fn_qaa, b_qaa, mg_qaa⟩ := d_qaa
  obtain ⟨f_qca, d_qca, fn_qca, b_qca, mg_qca⟩ := d_qca
  obtain ⟨f_qbn, d_qbn, fn_qbn, b_qbn, mg_qbn⟩ := d_qbn
  obtain ⟨f_qac, d_qac, fn_qac, b_qac, mg_qac⟩ := d_qac
  obtain ⟨f_qcd, d_qcd, fn_qcd, b_qcd, mg_qcd⟩ := d_qcd
  obtain ⟨f_qbo, d_qbo, fn_qbo, b_qbo, mg_qbo⟩ := d_qbo
  obtain ⟨f_qbd, d_qbd, fn_qbd, b_qbd, mg_qbd⟩ := d_qbd
  obtain ⟨f_qbp, d_qbp, fn_qbp, b_qbp, mg_qbp⟩ := d_qbp
  obtain ⟨f_qbe, d_qbe, fn_qbe, b_qbe, mg_qbe⟩ := d_qbe
  obtain ⟨f_qap, d_qap, fn_qap, b_qap, mg_qap⟩ := d_qap
  obtain ⟨f_qce, d_qce, fn_qce, b_qce, mg_qce⟩ := d_qce
  obtain ⟨f_qcj, d_qcj, fn_qcj, b_qcj, mg_qcj⟩ := d_qcj
  obtain ⟨f_size, d_size, fn_size, b_size, mg_size⟩ := d_size
  obtain ⟨g_UNMOVED, ct_UNMOVED, kt_UNMOVED⟩ := u_UNMOVED
  obtain ⟨g_SHAPES, ct_SHAPES, kt_SHAPES⟩ := u_SHAPES
  obtain ⟨g_QT, q0, q1, q2, q3, B_QT⟩ := u_QT
  obtain ⟨g_ROW, ct_ROW, kd_ROW⟩ := u_ROW
  have e : f_size = fa := Value.ref.inj (Option.some.inj (mg_size.symm.trans hfa))
  subst e
  have T : Txt K mg ⟨w.params, cWrongText, cReader, cCircle, cStyle, cOutline, cPen, cShape, cTag, cPicture, cHolder, f_qch, d_qch, f_qcb, d_qcb, f_qbs, d_qbs, f_qat, d_qat, f_qcc,
    d_qcc, f_qaj, d_qaj, f_qak, d_qak, f_qbt, d_qbt, f_qbk, d_qbk, f_qao, d_qao, f_turn, d_turn, f_qau, d_qau, f_qbu, d_qbu, f_qav, d_qav, f_fine,
    d_fine, f_qbv, d_qbv, f_qbw, d_qbw, f_qbx, d_qbx, f_qck, d_qck, f_qal, d_qal, f_qci, d_qci, f_qaw, d_qaw, f_qax, d_qax, f_qbl, d_qbl, f_qay,
    d_qay, f_qam, d_qam, f_qby, d_qby, f_qcl, d_qcl, f_qbm, d_qbm, f_qaz, d_qaz, f_qbz, d_qbz, f_qba, d_qba, f_qbb, d_qbb, f_qbc, d_qbc, f_qaa,
    d_qaa, f_qca, d_qca, f_qbn, d_qbn, f_qac, d_qac, f_qcd, d_qcd, f_qbo, d_qbo, f_qbd, d_qbd, f_qbp, d_qbp, f_qbe, d_qbe, f_qap, d_qap, f_qce,
    d_qce, f_qcj, d_qcj, f_size, d_size, f_qbf, d_qbf, f_qaq, d_qaq, f_qad, d_qad, f_qbg, d_qbg, f_qbh, d_qbh, f_qae, d_qae, f_qaf, d_qaf, f_qag,
    d_qag, f_qab, d_qab, f_qbi, d_qbi, f_qbq, d_qbq, f_qar, d_qar, f_qcf, d_qcf, f_qai, d_qai, f_qah, d_qah, f_qan, d_qan, f_qbr, d_qbr, f_qcg,
    d_qcg, f_qas, d_qas, f_qbj, d_qbj, g_UNMOVED, g_QT, g_ROW, g_SHAPES, q0, q1, q2, q3⟩ := ⟨xc, B_Reader.cl, B_Reader.mgc, ⟨B_Reader.mks, me_qbf.at_, me_qbf.fn, B_Reader.kpc⟩, B_Reader.na_signs, B_Reader.na_place, me_qaq, me_qad, me_qbg, me_qbh, me_qae, me_qaf, me_qag, me_qab, B_Circle.cl, B_Circle.mgc, ⟨B_Circle.mks, me_qbi.at_, me_qbi.fn, B_Circle.kpc⟩, B_Circle.na_cx, B_Circle.na_cy, B_Circle.na_r,
    B_Style.cl, B_Style.mgc, ⟨B_Style.mks, me_qbq.at_, me_qbq.fn, B_Style.kpc⟩, B_Style.na_fill, B_Style.na_rule, B_Outline.cl, B_Outline.mgc, ⟨B_Outline.mks, me_qar.at_, me_qar.fn, B_Outline.kpc⟩, B_Outline.na_lines, B_Pen.cl, B_Pen.mgc, ⟨B_Pen.mks, me_qcf.at_, me_qcf.fn, B_Pen.kpc⟩, B_Pen.na_lines, B_Pen.na_stands, B_Pen.na_line_begin, me_qai, me_qah, me_qan, B_Shape.cl, B_Shape.mgc,
    ⟨B_Shape.mks, me_qbr.at_, me_qbr.fn, B_Shape.kpc⟩, B_Shape.na_figure, B_Shape.na_matrix, B_Shape.na_style, B_Tag.cl, B_Tag.mgc, ⟨B_Tag.mks, me_qcg.at_, me_qcg.fn, B_Tag.kpc⟩, B_Tag.na_name, B_Tag.na_attributes, B_Tag.na_closed, B_Picture.cl, B_Picture.mgc, ⟨B_Picture.mks, me_qas.at_, me_qas.fn, B_Picture.kpc⟩, B_Picture.na_width, B_Picture.na_height, B_Picture.na_shapes, B_Holder.cl, B_Holder.mgc, ⟨B_Holder.mks, me_qbj.at_, me_qbj.fn, B_Holder.kpc⟩, B_Holder.na_name,
    B_Holder.na_matrix, B_Holder.na_style, fn_qch, b_qch, fn_qcb, b_qcb, fn_qbs, b_qbs, fn_qat, b_qat, fn_qcc, b_qcc, fn_qaj, b_qaj, fn_qak, b_qak, fn_qbt, b_qbt, fn_qbk, b_qbk,
    fn_qao, b_qao, fn_turn, b_turn, fn_qau, b_qau, fn_qbu, b_qbu, fn_qav, b_qav, fn_fine, b_fine, fn_qbv, b_qbv, fn_qbw, b_qbw, fn_qbx, b_qbx, fn_qck, b_qck,
    fn_qal, b_qal, fn_qci, b_qci, fn_qaw, b_qaw, fn_qax, b_qax, fn_qbl, b_qbl, fn_qay, b_qay, fn_qam, b_qam, fn_qby, b_qby, fn_qcl, b_qcl, fn_qbm, b_qbm,
    fn_qaz, b_qaz, fn_qbz, b_qbz, fn_qba, b_qba, fn_qbb, b_qbb, fn_qbc, b_qbc, fn_qaa, b_qaa, fn_qca, b_qca, fn_qbn, b_qbn, fn_qac, b_qac, fn_qcd, b_qcd,
    fn_qbo, b_qbo, fn_qbd, b_qbd, fn_qbp, b_qbp, fn_qbe, b_qbe, fn_qap, b_qap, fn_qce, b_qce, fn_qcj, b_qcj, fn_size, b_size, fn_qbf, b_qbf, fn_qaq, b_qaq,
    fn_qad, b_qad, fn_qbg, b_qbg, fn_qbh, b_qbh, fn_qae, b_qae, fn_qaf, b_qaf, fn_qag, b_qag, fn_qab, b_qab, fn_qbi, b_qbi, fn_qbq, b_qbq, fn_qar, b_qar,
    fn_qcf, b_qcf, fn_qai, b_qai, fn_qah, b_qah, fn_qan, b_qan, fn_qbr, b_qbr, fn_qcg, b_qcg, fn_qas, b_qas, fn_qbj, b_qbj, mg_qch, mg_qcb, mg_qbs, mg_qat,
    mg_qcc, mg_qaj, mg_qak, mg_qbt, mg_qbk, mg_qao, mg_turn, mg_qau, mg_qbu, mg_qav, mg_fine, mg_qbv, mg_qbw, mg_qbx, mg_qck, mg_qal, mg_qci, mg_qaw, mg_qax, mg_qbl,
    mg_qay, mg_qam, mg_qby, mg_qcl, mg_qbm, mg_qaz, mg_qbz, mg_qba, mg_qbb, mg_qbc, mg_qaa, mg_qca, mg_qbn, mg_qac, mg_qcd, mg_qbo, mg_qbd, mg_qbp, mg_qbe, mg_qap,
    mg_qce, mg_qcj, mg_size, g_BLANK, g_STRANGE, g_SMALLS, g_LETTERS, g_DIGITS, g_PRINTED, g_MOST_DIGITS, g_LARGEST, g_NUMBER_BEGINS, ct_UNMOVED, B_QT.at_, g_FARTHEST_TURN, g_LARGEST_FACTOR, g_LARGEST_SHIFT, g_FINE, g_DIGITS_OF_SIXTEEN, g_BLACK,
    g_NO_FILL, g_NONZERO, g_EVENODD, ct_ROW, g_PATH_LETTERS, g_FARTHEST, g_CURVE_PIECES, ct_SHAPES, g_NAME_SIGNS, g_LARGEST_SIDE, g_MOST_GROUPS_AROUND, g_MOST_BYTES, g_BEYOND_BOUNDS, g_NOT_RIGHT, kt_UNMOVED, B_QT.qt, B_QT.t0, B_QT.t1, B_QT.t2, B_QT.t3,
    kt_SHAPES, kd_ROW, PySem.W.mg_none_of X G b_abs, PySem.W.mg_none_of X G b_answer, PySem.W.mg_none_of X G b_int, PySem.W.mg_none_of X G b_len, PySem.W.mg_none_of X G b_max, PySem.W.mg_none_of X G b_range, PySem.W.mg_none_of X G b_sum, PySem.W.mg_none_of X G b_tuple, PySem.W.mg_none_of X G b_zip⟩
  have hc : cOf K = cWrongText := by
    unfold cOf
    rw [xc.ns]
  rw [hc]
  exact ⟨d_size, fun s v hK => b_size s [v] hK rfl, fun base _ _ => all_ok T rfl⟩
theorem size_is {ns : List Int} (h : ∀ z ∈ ns, 0 ≤ z ∧ z ≤ 255) : ∃ b : B, ns = b.map (fun (c : Nat) => (c : Int)) ∧ Sg35.Byt b ∧ PySg35.size ns = answerOf sizeAns b := by
  refine ⟨ns.map Int.toNat, ?_, ?_, ?_⟩
  · rw [List.map_map]
    conv => lhs; rw [← List.map_id ns]
    refine List.map_congr_left fun z hz => ?_
    have := h z hz
    show z = ((z.toNat : Nat) : Int)
    omega
  · intro c hc
    obtain ⟨z, hz, rfl⟩ := List.mem_map.mp hc
    have := h z hz
    omega
  · have hb : Sg35.Byt (ns.map Int.toNat) := by
      intro c hc
      obtain ⟨z, hz, rfl⟩ := List.mem_map.mp hc
      have := h z hz
      omega
    have hd : Sg35.does (.size (ns.map Int.toNat) ns.length) = (if Sg35.within (ns.length : Int) = false then Sg35.says (-1) else match Sg35.pic (ns.map Int.toNat) with
        | none => Sg35.says (-2)
        | some p => ⟨0, [p.width, p.height, p.shapes.length]⟩) := by
      rw [← Sg35.picture_is]
      rfl
    show (Sg35.does (.size (ns.map Int.toNat) ns.length)).value :: Sg35Neutral.ints (Sg35.does (.size (ns.map Int.toNat) ns.length)).out = _
    unfold answerOf
    rw [hd, List.length_map]
    by_cases hl : 65536 < ns.length
    · rw [if_pos hl, if_pos (by unfold Sg35.within Sg35.SIZE; simp; omega)]
      rfl
    · rw [if_neg hl, if_neg (by unfold Sg35.within Sg35.SIZE; simp; omega)]
      cases Sg35.pic (ns.map Int.toNat) with
      | none => rfl
      | some pc => rfl
theorem walk {q : Program} {loose : List Str} {XP : (Str → Option Value) → Heap → Prop} {YP : World → Heap → Prop} {d : DefRec} {K : Params → PySem.W.Frag} (hdf : d.params.defaults = [])
    (hY : ∀ (w : World) (h : Heap), YP w h → (K w.params).In h)
    (F : ∀ (w : World) (mg : Str → Option Value) (fa : Addr) (h : Heap), (K w.params).In h → h.Ns mainGlobals mg → mg d.name = some (.ref fa) →
      ∃ fd : FuncData, (∀ (s : Shared) (u : Value), (K w.params).In s.heap → BindsTo s fd ⟨[u], []⟩ [("text", u)]) ∧ ∀ base : Heap, (K w.params).In base → base.Ns mainGlobals mg → FnOk PySem.Challenge.rw_shapedots_s01_size.prog w (K w.params) mg base (CXW PySem.Challenge.rw_shapedots_s01_size.prog w (cOf (K w.params))) 14 fa fd ["text"] (szSp (K w.params))) :
    PySem.W.WalkOS q loose XP YP PySem.Challenge.rw_shapedots_s01_size d [] (fun f vs => PySem.call f vs) :=
  L2.spec_walk1 (r := PySem.Challenge.rw_shapedots_s01_size) (n := 65600) (lo := 0) (hi := 255) (k := 14) (x := "text") (CX := fun w => CXW PySem.Challenge.rw_shapedots_s01_size.prog w (cOf (K w.params))) (sp := fun w => szSp (K w.params)) PySem.Challenge.as_shapedots_s01_size rfl (by decide) hdf ⟨rfl, by decide, by decide⟩ hY F
    (fun w H l ns hl hr hS => by
      obtain ⟨b, rfl, hb, hans⟩ := size_is hr
      rw [List.map_map] at hS
      rw [List.length_map] at hl
      refine ⟨l, b, rfl, hS, hb, hl, fun u H' hu => ⟨u, rfl, ?_⟩⟩
      show H' u = some (.lst ((PySg35.size (b.map fun (c : Nat) => (c : Int))).map V.int))
      rw [hans]
      exact hu)
    (fun w H s e s' hc => by
      obtain ⟨ea, t, B, H', _, _, hE⟩ := hc
      exact hE)
end Pg
def PySem.W.Fast.tw9216521255347669162 : Unit := ()
def PySem.W.Fast.tw12700961526247280579 : Unit := ()
def PySem.W.Fast.tw7158734247735475784 : Unit := ()
def PySem.W.Fast.tw11992813369478991112 : Unit := ()
def PySem.W.Fast.tw16670548409875925327 : Unit := ()
def PySem.W.Fast.tw5959564914980796855 : Unit := ()
def PySem.W.Fast.tw12261680178334370797 : Unit := ()
def PySem.W.Fast.tw14812311445404363169 : Unit := ()
def PySem.W.Fast.tw3535994836130240422 : Unit := ()
def PySem.W.Fast.tw14227121942191929494 : Unit := ()
def PySem.W.Fast.tw5552938266106903562 : Unit := ()
def PySem.W.Fast.tw17886908695322445596 : Unit := ()
def PySem.W.Fast.tw13432719818528813835 : Unit := ()
def PySem.W.Fast.tw4891467889599468649 : Unit := ()
def PySem.W.Fast.tw16323595738796767304 : Unit := ()
def PySem.W.Fast.tw12999098043659853387 : Unit := ()
def PySem.W.Fast.tw13350680202371971411 : Unit := ()
def PySem.W.Fast.tw6543571556991634563 : Unit := ()
def PySem.W.Fast.tw6202928581829264144 : Unit := ()
def PySem.W.Fast.tw9877106377254244602 : Unit := ()
def PySem.W.Fast.tw15464809344507631801 : Unit := ()
def PySem.W.Fast.tw51385978692503566 : Unit := ()
def PySem.W.Fast.tw6058983256427963497 : Unit := ()
def PySem.W.Fast.tw16434734148016492940 : Unit := ()
def PySem.W.Fast.tw1676018343312941173 : Unit := ()
def PySem.W.Fast.tw7214869410902638328 : Unit := ()
def PySem.W.Fast.tw9944945989875242727 : Unit := ()
def PySem.W.Fast.tw10254895480444970160 : Unit := ()
def PySem.W.Fast.tw2856980882977618451 : Unit := ()
def PySem.W.Fast.tw5899735091175049214 : Unit := ()
def PySem.W.Fast.tw17275158952963102806 : Unit := ()
def PySem.W.Fast.tw4059016773892357183 : Unit := ()
def PySem.W.Fast.tw15336215640974560337 : Unit := ()
def PySem.W.Fast.tw2728735441132855249 : Unit := ()
def PySem.W.Fast.tw17727574303246541712 : Unit := ()
def PySem.W.Fast.tw57029428304694584 : Unit := ()
def PySem.W.Fast.tw18073303611699469761 : Unit := ()
def PySem.W.Fast.tw723364374973241736 : Unit := ()
def PySem.W.Fast.tw6084824224841338485 : Unit := ()
def PySem.W.Fast.tw9700888152334447145 : Unit := ()
def PySem.W.Fast.tw11837730469351114371 : Unit := ()
open PySem PySem.W PyProof.Rows
set_option maxRecDepth 100000 in
set_option maxHeartbeats 0 in
theorem PySem.Challenge.cw_shapedots_s01_size_holds : PySem.Challenge.rw_shapedots_s01_size.Holds := by
  w_on; k_headS; (case hw => exact ⟨[.list []], by decide +kernel, by decide +kernel⟩)
  k_fillS
  refine Pg.walk rfl (fun w h Y => PySem.W.kIn_of Y) ?F
  case F =>
    intro w mg fa h KX G hmg
    refine' Pg.go KX G hmg ?xc ?c_Reader ?c_Circle ?c_Style ?c_Outline ?c_Pen ?c_Shape ?c_Tag ?c_Picture ?c_Holder ?d_qch ?d_qcb ?d_qbs ?d_qat ?d_qcc ?d_qaj ?d_qak ?d_qbt ?d_qbk ?d_qao ?d_turn ?d_qau ?d_qbu ?d_qav ?d_fine ?d_qbv ?d_qbw ?d_qbx ?d_qck ?d_qal ?d_qci ?d_qaw ?d_qax ?d_qbl ?d_qay ?d_qam ?d_qby ?d_qcl ?d_qbm ?d_qaz ?d_qbz ?d_qba ?d_qbb ?d_qbc ?d_qaa ?d_qca ?d_qbn ?d_qac ?d_qcd ?d_qbo ?d_qbd ?d_qbp ?d_qbe ?d_qap ?d_qce ?d_qcj ?d_size ?g_BLANK ?g_STRANGE ?g_SMALLS ?g_LETTERS ?g_DIGITS ?g_PRINTED ?g_MOST_DIGITS ?g_LARGEST ?g_NUMBER_BEGINS ?g_FARTHEST_TURN ?g_LARGEST_FACTOR ?g_LARGEST_SHIFT ?g_FINE ?g_DIGITS_OF_SIXTEEN ?g_BLACK ?g_NO_FILL ?g_NONZERO ?g_EVENODD ?g_PATH_LETTERS ?g_FARTHEST ?g_CURVE_PIECES ?g_NAME_SIGNS ?g_LARGEST_SIDE ?g_MOST_GROUPS_AROUND ?g_MOST_BYTES ?g_BEYOND_BOUNDS ?g_NOT_RIGHT ?u_UNMOVED ?u_SHAPES ?u_QT ?u_ROW ?b_abs ?b_answer ?b_int ?b_len ?b_max ?b_range ?b_sum ?b_tuple ?b_zip
    (case xc => apply Pg.xc_mk; k_is; k_exc)
    case c_Reader =>
      apply Pg.cls_Reader KX G
      k_is; (apply Pg.cls_mk; iterate 6 k_is)
      iterate 2 (apply Pg.na_mk; k_is)
      (apply Pg.met_mk; (iterate 5 k_is); exact fun _ _ _ _ _ _ us hl => match us, hl with | [_, _], _ => rfl)
      (apply Pg.met_mk; (iterate 5 k_is); exact fun _ _ _ _ _ _ us hl => match us, hl with | [_], _ => rfl)
      (apply Pg.met_mk; (iterate 5 k_is); exact fun _ _ _ _ _ _ us hl => match us, hl with | [_, _], _ => rfl)
      (apply Pg.met_mk; (iterate 5 k_is); exact fun _ _ _ _ _ _ us hl => match us, hl with | [_, _], _ => rfl)
      (apply Pg.met_mk; (iterate 5 k_is); exact fun _ _ _ _ _ _ us hl => match us, hl with | [_, _], _ => rfl)
      (apply Pg.met_mk; (iterate 5 k_is); exact fun _ _ _ _ _ _ us hl => match us, hl with | [_], _ => rfl)
      (apply Pg.met_mk; (iterate 5 k_is); exact fun _ _ _ _ _ _ us hl => match us, hl with | [_, _], _ => rfl)
      (apply Pg.met_mk; (iterate 5 k_is); exact fun _ _ _ _ _ _ us hl => match us, hl with | [_, _], _ => rfl)
      (apply Pg.met_mk; (iterate 5 k_is); exact fun _ _ _ _ _ _ us hl => match us, hl with | [_, _], _ => rfl)
    case c_Circle =>
      apply Pg.cls_Circle KX G
      k_is; (apply Pg.cls_mk; iterate 6 k_is)
      iterate 3 (apply Pg.na_mk; k_is)
      (apply Pg.met_mk; (iterate 5 k_is); exact fun _ _ _ _ _ _ us hl => match us, hl with | [_, _, _, _], _ => rfl)
    case c_Style =>
      apply Pg.cls_Style KX G
      k_is; (apply Pg.cls_mk; iterate 6 k_is)
      iterate 2 (apply Pg.na_mk; k_is)
      (apply Pg.met_mk; (iterate 5 k_is); exact fun _ _ _ _ _ _ us hl => match us, hl with | [_, _, _], _ => rfl)
    case c_Outline =>
      apply Pg.cls_Outline KX G
      k_is; (apply Pg.cls_mk; iterate 6 k_is)
      iterate 1 (apply Pg.na_mk; k_is)
      (apply Pg.met_mk; (iterate 5 k_is); exact fun _ _ _ _ _ _ us hl => match us, hl with | [_, _], _ => rfl)
    case c_Pen =>
      apply Pg.cls_Pen KX G
      k_is; (apply Pg.cls_mk; iterate 6 k_is)
      iterate 3 (apply Pg.na_mk; k_is)
      (apply Pg.met_mk; (iterate 5 k_is); exact fun _ _ _ _ _ _ us hl => match us, hl with | [_], _ => rfl)
      (apply Pg.met_mk; (iterate 5 k_is); exact fun _ _ _ _ _ _ us hl => match us, hl with | [_, _], _ => rfl)
      (apply Pg.met_mk; (iterate 5 k_is); exact fun _ _ _ _ _ _ us hl => match us, hl with | [_, _], _ => rfl)
      (apply Pg.met_mk; (iterate 5 k_is); exact fun _ _ _ _ _ _ us hl => match us, hl with | [_, _], _ => rfl)
    case c_Shape =>
      apply Pg.cls_Shape KX G
      k_is; (apply Pg.cls_mk; iterate 6 k_is)
      iterate 3 (apply Pg.na_mk; k_is)
      (apply Pg.met_mk; (iterate 5 k_is); exact fun _ _ _ _ _ _ us hl => match us, hl with | [_, _, _, _], _ => rfl)
    case c_Tag =>
      apply Pg.cls_Tag KX G
      k_is; (apply Pg.cls_mk; iterate 6 k_is)
      iterate 3 (apply Pg.na_mk; k_is)
      (apply Pg.met_mk; (iterate 5 k_is); exact fun _ _ _ _ _ _ us hl => match us, hl with | [_, _, _, _], _ => rfl)
    case c_Picture =>
      apply Pg.cls_Picture KX G
      k_is; (apply Pg.cls_mk; iterate 6 k_is)
      iterate 3 (apply Pg.na_mk; k_is)
      (apply Pg.met_mk; (iterate 5 k_is); exact fun _ _ _ _ _ _ us hl => match us, hl with | [_, _, _], _ => rfl)
    case c_Holder =>
      apply Pg.cls_Holder KX G
      k_is; (apply Pg.cls_mk; iterate 6 k_is)
      iterate 3 (apply Pg.na_mk; k_is)
      (apply Pg.met_mk; (iterate 5 k_is); exact fun _ _ _ _ _ _ us hl => match us, hl with | [_, _, _, _], _ => rfl)
    (case d_qch => apply Pg.def_mk KX G; (iterate 4 k_is); exact fun _ _ _ _ _ _ us hl => match us, hl with | [_], _ => rfl)
    (case d_qcb => apply Pg.def_mk KX G; (iterate 4 k_is); exact fun _ _ _ _ _ _ us hl => match us, hl with | [_], _ => rfl)
    (case d_qbs => apply Pg.def_mk KX G; (iterate 4 k_is); exact fun _ _ _ _ _ _ us hl => match us, hl with | [_], _ => rfl)
    (case d_qat => apply Pg.def_mk KX G; (iterate 4 k_is); exact fun _ _ _ _ _ _ us hl => match us, hl with | [_], _ => rfl)
    (case d_qcc => apply Pg.def_mk KX G; (iterate 4 k_is); exact fun _ _ _ _ _ _ us hl => match us, hl with | [_], _ => rfl)
    (case d_qaj => apply Pg.def_mk KX G; (iterate 4 k_is); exact fun _ _ _ _ _ _ us hl => match us, hl with | [_], _ => rfl)
    (case d_qak => apply Pg.def_mk KX G; (iterate 4 k_is); exact fun _ _ _ _ _ _ us hl => match us, hl with | [_, _, _], _ => rfl)
    (case d_qbt => apply Pg.def_mk KX G; (iterate 4 k_is); exact fun _ _ _ _ _ _ us hl => match us, hl with | [_], _ => rfl)
    (case d_qbk => apply Pg.def_mk KX G; (iterate 4 k_is); exact fun _ _ _ _ _ _ us hl => match us, hl with | [_, _], _ => rfl)
    (case d_qao => apply Pg.def_mk KX G; (iterate 4 k_is); exact fun _ _ _ _ _ _ us hl => match us, hl with | [_], _ => rfl)
    (case d_turn => apply Pg.def_mk KX G; (iterate 4 k_is); exact fun _ _ _ _ _ _ us hl => match us, hl with | [_], _ => rfl)
    (case d_qau => apply Pg.def_mk KX G; (iterate 4 k_is); exact fun _ _ _ _ _ _ us hl => match us, hl with | [_, _], _ => rfl)
    (case d_qbu => apply Pg.def_mk KX G; (iterate 4 k_is); exact fun _ _ _ _ _ _ us hl => match us, hl with | [_], _ => rfl)
    (case d_qav => apply Pg.def_mk KX G; (iterate 4 k_is); exact fun _ _ _ _ _ _ us hl => match us, hl with | [_, _], _ => rfl)
    (case d_fine => apply Pg.def_mk KX G; (iterate 4 k_is); exact fun _ _ _ _ _ _ us hl => match us, hl with | [_], _ => rfl)
    (case d_qbv => apply Pg.def_mk KX G; (iterate 4 k_is); exact fun _ _ _ _ _ _ us hl => match us, hl with | [_], _ => rfl)
    (case d_qbw => apply Pg.def_mk KX G; (iterate 4 k_is); exact fun _ _ _ _ _ _ us hl => match us, hl with | [_], _ => rfl)
    (case d_qbx => apply Pg.def_mk KX G; (iterate 4 k_is); exact fun _ _ _ _ _ _ us hl => match us, hl with | [_], _ => rfl)
    (case d_qck => apply Pg.def_mk KX G; (iterate 4 k_is); exact fun _ _ _ _ _ _ us hl => match us, hl with | [_, _], _ => rfl)
    (case d_qal => apply Pg.def_mk KX G; (iterate 4 k_is); exact fun _ _ _ _ _ _ us hl => match us, hl with | [_, _], _ => rfl)
    (case d_qci => apply Pg.def_mk KX G; (iterate 4 k_is); exact fun _ _ _ _ _ _ us hl => match us, hl with | [_, _], _ => rfl)
    (case d_qaw => apply Pg.def_mk KX G; (iterate 4 k_is); exact fun _ _ _ _ _ _ us hl => match us, hl with | [_], _ => rfl)
    (case d_qax => apply Pg.def_mk KX G; (iterate 4 k_is); exact fun _ _ _ _ _ _ us hl => match us, hl with | [_, _, _], _ => rfl)
    (case d_qbl => apply Pg.def_mk KX G; (iterate 4 k_is); exact fun _ _ _ _ _ _ us hl => match us, hl with | [_, _, _, _], _ => rfl)
    (case d_qay => apply Pg.def_mk KX G; (iterate 4 k_is); exact fun _ _ _ _ _ _ us hl => match us, hl with | [_, _, _], _ => rfl)
    (case d_qam => apply Pg.def_mk KX G; (iterate 4 k_is); exact fun _ _ _ _ _ _ us hl => match us, hl with | [_, _, _], _ => rfl)
    (case d_qby => apply Pg.def_mk KX G; (iterate 4 k_is); exact fun _ _ _ _ _ _ us hl => match us, hl with | [_], _ => rfl)
    (case d_qcl => apply Pg.def_mk KX G; (iterate 4 k_is); exact fun _ _ _ _ _ _ us hl => match us, hl with | [_, _], _ => rfl)
    (case d_qbm => apply Pg.def_mk KX G; (iterate 4 k_is); exact fun _ _ _ _ _ _ us hl => match us, hl with | [_, _, _], _ => rfl)
    (case d_qaz => apply Pg.def_mk KX G; (iterate 4 k_is); exact fun _ _ _ _ _ _ us hl => match us, hl with | [_, _], _ => rfl)
    (case d_qbz => apply Pg.def_mk KX G; (iterate 4 k_is); exact fun _ _ _ _ _ _ us hl => match us, hl with | [_], _ => rfl)
    (case d_qba => apply Pg.def_mk KX G; (iterate 4 k_is); exact fun _ _ _ _ _ _ us hl => match us, hl with | [_], _ => rfl)
    (case d_qbb => apply Pg.def_mk KX G; (iterate 4 k_is); exact fun _ _ _ _ _ _ us hl => match us, hl with | [_], _ => rfl)
    (case d_qbc => apply Pg.def_mk KX G; (iterate 4 k_is); exact fun _ _ _ _ _ _ us hl => match us, hl with | [_, _], _ => rfl)
    (case d_qaa => apply Pg.def_mk KX G; (iterate 4 k_is); exact fun _ _ _ _ _ _ us hl => match us, hl with | [_], _ => rfl)
    (case d_qca => apply Pg.def_mk KX G; (iterate 4 k_is); exact fun _ _ _ _ _ _ us hl => match us, hl with | [_], _ => rfl)
    (case d_qbn => apply Pg.def_mk KX G; (iterate 4 k_is); exact fun _ _ _ _ _ _ us hl => match us, hl with | [_], _ => rfl)
    (case d_qac => apply Pg.def_mk KX G; (iterate 4 k_is); exact fun _ _ _ _ _ _ us hl => match us, hl with | [_], _ => rfl)
    (case d_qcd => apply Pg.def_mk KX G; (iterate 4 k_is); exact fun _ _ _ _ _ _ us hl => match us, hl with | [_], _ => rfl)
    (case d_qbo => apply Pg.def_mk KX G; (iterate 4 k_is); exact fun _ _ _ _ _ _ us hl => match us, hl with | [_], _ => rfl)
    (case d_qbd => apply Pg.def_mk KX G; (iterate 4 k_is); exact fun _ _ _ _ _ _ us hl => match us, hl with | [_, _], _ => rfl)
    (case d_qbp => apply Pg.def_mk KX G; (iterate 4 k_is); exact fun _ _ _ _ _ _ us hl => match us, hl with | [_, _, _], _ => rfl)
    (case d_qbe => apply Pg.def_mk KX G; (iterate 4 k_is); exact fun _ _ _ _ _ _ us hl => match us, hl with | [_, _, _], _ => rfl)
    (case d_qap => apply Pg.def_mk KX G; (iterate 4 k_is); exact fun _ _ _ _ _ _ us hl => match us, hl with | [_], _ => rfl)
    (case d_qce => apply Pg.def_mk KX G; (iterate 4 k_is); exact fun _ _ _ _ _ _ us hl => match us, hl with | [_, _], _ => rfl)
    (case d_qcj => apply Pg.def_mk KX G; (iterate 4 k_is); exact fun _ _ _ _ _ _ us hl => match us, hl with | [_], _ => rfl)
    (case d_size => apply Pg.def_mk KX G; (iterate 4 k_is); exact fun _ _ _ _ _ _ us hl => match us, hl with | [_], _ => rfl)
    (case g_BLANK => apply Pg.gl_str KX G; k_is)
    (case g_STRANGE => apply Pg.gl_str KX G; k_is)
    (case g_SMALLS => apply Pg.gl_str KX G; k_is)
    (case g_LETTERS => apply Pg.gl_str KX G; k_is)
    (case g_DIGITS => apply Pg.gl_str KX G; k_is)
    (case g_PRINTED => apply Pg.gl_str KX G; k_is)
    (case g_MOST_DIGITS => apply Pg.gl_int KX G; k_is)
    (case g_LARGEST => apply Pg.gl_int KX G; k_is)
    (case g_NUMBER_BEGINS => apply Pg.gl_str KX G; k_is)
    (case g_FARTHEST_TURN => apply Pg.gl_int KX G; k_is)
    (case g_LARGEST_FACTOR => apply Pg.gl_int KX G; k_is)
    (case g_LARGEST_SHIFT => apply Pg.gl_int KX G; k_is)
    (case g_FINE => apply Pg.gl_int KX G; k_is)
    (case g_DIGITS_OF_SIXTEEN => apply Pg.gl_str KX G; k_is)
    (case g_BLACK => apply Pg.gl_int KX G; k_is)
    (case g_NO_FILL => apply Pg.gl_int KX G; k_is)
    (case g_NONZERO => apply Pg.gl_str KX G; k_is)
    (case g_EVENODD => apply Pg.gl_str KX G; k_is)
    (case g_PATH_LETTERS => apply Pg.gl_str KX G; k_is)
    (case g_FARTHEST => apply Pg.gl_int KX G; k_is)
    (case g_CURVE_PIECES => apply Pg.gl_int KX G; k_is)
    (case g_NAME_SIGNS => apply Pg.gl_str KX G; k_is)
    (case g_LARGEST_SIDE => apply Pg.gl_int KX G; k_is)
    (case g_MOST_GROUPS_AROUND => apply Pg.gl_int KX G; k_is)
    (case g_MOST_BYTES => apply Pg.gl_int KX G; k_is)
    (case g_BEYOND_BOUNDS => apply Pg.gl_int KX G; k_is)
    (case g_NOT_RIGHT => apply Pg.gl_int KX G; k_is)
    (case u_UNMOVED => apply Pg.tupg_mk KX G; k_is; apply Pg.tup_mk; k_is; rfl; rfl; decide; exact (Pg.vals_int (Pg.vals_int (Pg.vals_int (Pg.vals_int (Pg.vals_int (Pg.vals_int .nil)))))))
    (case u_SHAPES => apply Pg.tupg_mk KX G; k_is; apply Pg.tup_mk; k_is; rfl; rfl; decide; exact (Pg.vals_str (Pg.vals_str (Pg.vals_str (Pg.vals_str (Pg.vals_str .nil))))))
    (case u_QT => apply Pg.qt_mk KX G; k_is; k_is; (apply Pg.tup_mk; k_is; rfl; rfl; decide; exact (Pg.vals_ref (Pg.vals_ref (Pg.vals_ref (Pg.vals_ref .nil))))); (apply Pg.tup_mk; k_is; rfl; rfl; decide; exact (Pg.vals_int (Pg.vals_int (Pg.vals_int (Pg.vals_int (Pg.vals_int (Pg.vals_int .nil))))))); (apply Pg.tup_mk; k_is; rfl; rfl; decide; exact (Pg.vals_int (Pg.vals_int (Pg.vals_int (Pg.vals_int (Pg.vals_int (Pg.vals_int .nil))))))); (apply Pg.tup_mk; k_is; rfl; rfl; decide; exact (Pg.vals_int (Pg.vals_int (Pg.vals_int (Pg.vals_int (Pg.vals_int (Pg.vals_int .nil))))))); (apply Pg.tup_mk; k_is; rfl; rfl; decide; exact (Pg.vals_int (Pg.vals_int (Pg.vals_int (Pg.vals_int (Pg.vals_int (Pg.vals_int .nil))))))))
    (case u_ROW => apply Pg.row_mk KX G; k_is; k_is)
    (case b_abs => k_is)
    (case b_answer => k_is)
    (case b_int => k_is)
    (case b_len => k_is)
    (case b_max => k_is)
    (case b_range => k_is)
    (case b_sum => k_is)
    (case b_tuple => k_is)
    (case b_zip => k_is)
