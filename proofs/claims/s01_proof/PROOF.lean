import PyProof.Rows.All
import Wide.All
import OpenK.AllK
import Wide.FinOn
import PyProof.EqAt
import PyProof.EqKinds
import PyProof.TupleCall
import KE.BitLaws
import Open.SpecLaws
import KE.OsHead
import KE.OsGo
import KE.KDictList
import PySem.Challenge.RW_bridgefile_s01_answers
section
set_option Elab.async false
set_option linter.all false
set_option maxRecDepth 100000
namespace L2
open PySem PySem.Spec PyProof.Rows
abbrev Key := Sum Int Str
def keyIs : Key → Value → Bool
  | .inl k, v => Value.isInt k v
  | .inr x, v => Value.isStrOf x v
def keyH (w : World) : Key → Int
  | .inl k => hashInt k
  | .inr x => hashStr w x
theorem keyIs_shape : ∀ {k : Key} {v : Value}, keyIs k v = true → (∃ i t, k = Sum.inl i ∧ v = Value.int i t) ∨ (∃ x t, k = Sum.inr x ∧ v = Value.str x t)
  | .inl i, v, h => by
    obtain ⟨t, e⟩ := Value.isInt_shape (k := i) (v := v) h
    exact .inl ⟨i, t, rfl, e⟩
  | .inr x, v, h => by
    obtain ⟨t, e⟩ := Value.isStrOf_shape (x := x) (v := v) h
    exact .inr ⟨x, t, rfl, e⟩
theorem keyIs_int (i : Int) (t : Tok) : keyIs (.inl i) (.int i t) = true := by simp [keyIs, Value.isInt]
theorem keyIs_str (x : Str) (t : Tok) : keyIs (.inr x) (.str x t) = true := by simp [keyIs, Value.isStrOf]
theorem key_ll (a b : Int) : decide ((Sum.inl a : Key) = Sum.inl b) = (a == b) := by
  by_cases e : a = b
  · subst e; simp
  · have h : ¬ (Sum.inl a : Key) = Sum.inl b := fun q => e (Sum.inl.inj q)
    rw [decide_eq_false h]
    exact (beq_eq_false_iff_ne.mpr e).symm
theorem key_rr (a b : Str) : decide ((Sum.inr a : Key) = Sum.inr b) = decide (a = b) := by
  by_cases e : a = b
  · subst e; simp
  · have h : ¬ (Sum.inr a : Key) = Sum.inr b := fun q => e (Sum.inr.inj q)
    rw [decide_eq_false h, decide_eq_false e]
theorem key_lr (a : Int) (b : Str) : decide ((Sum.inl a : Key) = Sum.inr b) = false := decide_eq_false (fun q => nomatch q)
theorem key_rl (a : Str) (b : Int) : decide ((Sum.inr a : Key) = Sum.inl b) = false := decide_eq_false (fun q => nomatch q)
def mixKind (prog : Program) (w : World) : PySem.KeyKind prog w Key where
  is := keyIs
  hash := keyH w
  inj := fun v a b ha hb => by
    rcases keyIs_shape ha with ⟨i, t, rfl, rfl⟩ | ⟨x, t, rfl, rfl⟩
    · rcases keyIs_shape hb with ⟨j, u, rfl, e⟩ | ⟨y, u, rfl, e⟩
      · injection e with e1 _; rw [e1]
      · exact nomatch e
    · rcases keyIs_shape hb with ⟨j, u, rfl, e⟩ | ⟨y, u, rfl, e⟩
      · exact nomatch e
      · injection e with e1 _; rw [e1]
  byValue := fun k v h => by
    rcases keyIs_shape h with ⟨i, t, rfl, rfl⟩ | ⟨x, t, rfl, rfl⟩ <;> rfl
  pyHash := fun hv h => by
    rcases keyIs_shape hv with ⟨i, t, rfl, rfl⟩ | ⟨x, t, rfl, rfl⟩
    · exact wpAny_pyHash_int h
    · exact wpAny_pyHash_str h
  eqBool := fun hu hv h => by
    rcases keyIs_shape hu with ⟨i, t, rfl, rfl⟩ | ⟨x, t, rfl, rfl⟩
    · rcases keyIs_shape hv with ⟨j, u, rfl, rfl⟩ | ⟨y, u, rfl, rfl⟩
      · rw [key_ll] at h; exact wpAny_eqBool_int h
      · rw [key_lr] at h; exact SeqAt.EqAt.int_str i t y u _ _ _ _ h
    · rcases keyIs_shape hv with ⟨j, u, rfl, rfl⟩ | ⟨y, u, rfl, rfl⟩
      · rw [key_rl] at h; exact SeqAt.EqAt.str_int x t j u _ _ _ _ h
      · rw [key_rr] at h; exact wpAny_eqBool_str h
  «strs» := fun k x t v h => by
    rcases keyIs_shape h with ⟨i, u, rfl, e⟩ | ⟨y, u, rfl, e⟩
    · exact nomatch e
    · injection e with e1 _
      subst e1
      cases v <;> rfl
theorem mixKind_int (prog : Program) (w : World) (i : Int) (t : Tok) : (mixKind prog w).is (.inl i) (.int i t) = true := keyIs_int i t
theorem mixKind_str (prog : Program) (w : World) (x : Str) (t : Tok) : (mixKind prog w).is (.inr x) (.str x t) = true := keyIs_str x t
end L2
namespace L2
open PySem PySem.Spec PyProof.Rows
inductive V where
  | non | bl (b : Bool) | int (i : Int) | str (x : Str) | byt (b : Array UInt8) | flt (b : UInt64) | ref (a : Addr) | ty (n : String)
  deriving DecidableEq
def RelV : V → Value → Prop
  | .non, u => u = Value.none
  | .bl b, u => u = Value.bool b
  | .int i, u => ∃ t, u = Value.int i t
  | .str x, u => ∃ t, u = Value.str x t
  | .byt b, u => ∃ t, u = Value.bytes b t
  | .flt b, u => ∃ t, u = Value.float b t
  | .ref a, u => u = Value.ref a
  | .ty n, u => u = Value.type n
abbrev Vals : List V → List Value → Prop := Paired RelV
theorem Vals.length {xs : List V} {us : List Value} (r : Vals xs us) : xs.length = us.length := Paired.length r
theorem Vals.get : ∀ {xs : List V} {us : List Value} {i : Nat} {x : V}, Vals xs us → xs[i]? = some x → ∃ u, us[i]? = some u ∧ RelV x u
  | _, _, _, _, .nil, e => by simp at e
  | _, _, 0, _, .cons r _, e => by simp at e; subst e; exact ⟨_, rfl, r⟩
  | _, _, i + 1, x, .cons _ t, e => by
    obtain ⟨u, h1, h2⟩ := Vals.get (i := i) (x := x) t (by simpa using e)
    exact ⟨u, by simpa using h1, h2⟩
theorem Vals.set {x : V} {u : Value} (r : RelV x u) : ∀ {xs : List V} {us : List Value} (i : Nat), Vals xs us → Vals (xs.set i x) (us.set i u)
  | _, _, _, .nil => .nil
  | _, _, 0, .cons _ t => .cons r t
  | _, _, i + 1, .cons q t => .cons q (Vals.set r i t)
theorem Vals.append : ∀ {xs ys : List V} {us ws : List Value}, Vals xs us → Vals ys ws → Vals (xs ++ ys) (us ++ ws)
  | _, _, _, _, .nil, s => s
  | _, _, _, _, .cons r t, s => .cons r (Vals.append t s)
theorem Vals.take : ∀ {xs : List V} {us : List Value} (n : Nat), Vals xs us → Vals (xs.take n) (us.take n)
  | _, _, 0, _ => .nil
  | _, _, _ + 1, .nil => .nil
  | _, _, n + 1, .cons r t => .cons r (Vals.take n t)
theorem Vals.drop : ∀ {xs : List V} {us : List Value} (n : Nat), Vals xs us → Vals (xs.drop n) (us.drop n)
  | _, _, 0, r => r
  | _, _, _ + 1, .nil => .nil
  | _, _, n + 1, .cons _ t => Vals.drop n t
def RelO : Option V → Option Value → Prop
  | some v, some u => RelV v u
  | none, none => True
  | _, _ => False
def KV {κ : Type} : List (κ × V) → List (κ × Value) → Prop := Paired fun (p : κ × V) (q : κ × Value) => p.1 = q.1 ∧ RelV p.2 q.2
def kV : Key → V
  | .inl i => .int i
  | .inr x => .str x
inductive HO where
  /-- a list -/
  | lst (xs : List V)
  /-- a tuple (never changes) -/
  | tup (xs : List V)
  /-- a dict whose keys are ints and texts; one whose keys are tuples of ints and texts (the empty one is both) -/
  | dK (kvs : List (Key × V)) | dT (kvs : List (List Key × V))
  /-- a set of ints: its members, its size -/
  | set (S : Int → Bool) (n : Nat)
  /-- an instance of the class at C, its dict at dx, its attributes -/
  | ins (C dx : Addr) (fs : List (Str × V))
  /-- the dict of the instance at x -/
  | own (x : Addr)
  /-- the dict of an exception -/
  | xd (fs : List (Str × V))
  /-- a bound method, f of x -/
  | met (f x : Addr)
  /-- a range object lo, lo + 1, .. below hi -/
  | rng (lo hi : Int)
  /-- a thing that is known to the object (the script; a dict while a loop walks it): read, never written while it is so -/
  | frz (o : Obj) (u : HO)
  /-- a code object's table -/
  | tbl (ps : Array Value)
  /-- any other thing, by what is true of its one object (a def of one's own: SetO a S n := HO.ext fun h => ..) -/
  | ext (φ : Heap → Prop)
abbrev Hp := Addr → Option HO
def upd (H : Hp) (a : Addr) (o : HO) : Hp := fun b => if b = a then some o else H b
theorem upd_same {H : Hp} {a : Addr} {o : HO} : upd H a o a = some o := by unfold upd; rw [if_pos rfl]
theorem upd_ne {H : Hp} {a b : Addr} {o : HO} (h : b ≠ a) : upd H a o b = H b := by unfold upd; rw [if_neg h]
theorem upd_upd {H : Hp} {a : Addr} {o u : HO} : upd (upd H a o) a u = upd H a u := by
  funext b; unfold upd; split <;> rfl
theorem ne_of {H : Hp} {a b : Addr} {o u : HO} (h : H a = some o) (h' : H b = some u) (d : o ≠ u) : a ≠ b := by
  intro e; subst e; rw [h] at h'; exact d (Option.some.inj h')
theorem ne_of_none {H : Hp} {a b : Addr} {o : HO} (h : H a = some o) (h' : H b = none) : a ≠ b := by
  intro e; subst e; rw [h] at h'; cases h'
section
variable (P : Program) (w : World)
def ObjOk (H : Hp) (h : Heap) (a : Addr) : HO → Prop
  | .lst xs => xs.length ≤ sizeLine ∧ ∃ (its : List Value) (n : Nat), Vals xs its ∧ h.get? a = some { cls := .type "list", data := .seq its.toArray n }
  | .tup xs => xs.length ≤ sizeLine ∧ ∃ its : List Value, Vals xs its ∧ IsTup h a its.toArray
  | .dK kvs => kvs.length ≤ sizeLine ∧ (a == sysModules) = false ∧ ∃ vs, KV kvs vs ∧ h.DictOf (mixKind P w) a vs
  | .dT kvs => kvs.length ≤ sizeLine ∧ (a == sysModules) = false ∧ ∃ xs : List (List Key × Addr × Value),
      Paired (fun (p : List Key × V) (q : List Key × Addr × Value) => p.1 = q.1 ∧ H q.2.1 = some (.tup (p.1.map kV)) ∧ RelV p.2 q.2.2) kvs xs ∧
      ∃ o es ep, h.get? a = some o ∧ o.ExactDict ∧ o.data = .dict es ep ∧ es.toList = xs.map (entryOfKey (tupleKind (mixKind P w))) ∧ (xs.map (·.1)).Nodup
  | .set S n => h.SetOf (intKind P w) a S n
  | .ins C dx fs => H dx = some (.own a) ∧ fs.length ≤ 1000 ∧ dx ≠ a ∧ h.get? a = some (PySem.W.instObj C dx) ∧
      ∃ mA, h.Ns1 dx mA ∧ (∀ f, RelO (fs.lookup f) (mA f)) ∧ PySem.Within mA (fs.map (·.1))
  | .own _ => ∃ o, h.get? a = some o
  | .xd fs => ∃ mA, h.Ns1 a mA ∧ ∀ f, RelO (fs.lookup f) (mA f)
  | .rng lo hi => ∃ t u v, h.get? a = some { cls := .type "range", data := .fields #[.int lo t, .int hi u, .int 1 v] }
  | .frz o u => h.get? a = some o ∧ ObjOk H h a u
  | .tbl ps => h.get? a = some { cls := .none, data := .fields ps }
  | .met f x => h.get? a = some (PySem.W.methodObj (.ref f) (.ref x))
  | .ext φ => φ h ∧ (∃ o, h.get? a = some o) ∧ ∀ h1 h2 : Heap, φ h1 → (∀ o, h1.get? a = some o → h2.get? a = some o) → φ h2
def HOk (H : Hp) (h : Heap) : Prop := ∀ a o, H a = some o → ObjOk P w H h a o
end
section
variable {P : Program} {w : World} {H H' : Hp} {h h' : Heap} {a : Addr} {o : HO}
theorem ObjOk.lt (x : ObjOk P w H h a o) : a < h.objs.size := by
  cases o with
  | lst xs => obtain ⟨_, _, _, _, e⟩ := x; exact Heap.lt_size e
  | tup xs => obtain ⟨_, _, _, p⟩ := x; exact p.lt
  | dK kvs => obtain ⟨_, _, _, _, o, _, _, e, _⟩ := x; exact Heap.lt_size e
  | dT kvs => obtain ⟨_, _, _, _, o, _, _, e, _⟩ := x; exact Heap.lt_size e
  | set S n => obtain ⟨o, _, _, _, e, _⟩ := x; exact Heap.lt_size e
  | ins C dx fs => obtain ⟨_, _, _, e, _⟩ := x; exact Heap.lt_size e
  | own y => obtain ⟨_, e⟩ := x; exact Heap.lt_size e
  | xd fs => obtain ⟨_, ⟨_, _, _, e, _⟩, _⟩ := x; exact Heap.lt_size e
  | rng lo hi => obtain ⟨_, _, _, e⟩ := x; exact Heap.lt_size e
  | frz ob u => obtain ⟨e, _⟩ := x; exact Heap.lt_size e
  | tbl ps => exact Heap.lt_size (show h.get? a = some _ from x)
  | met f y => exact Heap.lt_size (show h.get? a = some _ from x)
  | ext φ => obtain ⟨_, ⟨_, e⟩, _⟩ := x; exact Heap.lt_size e
theorem Paired.mapP {α β : Type} {F G : α → β → Prop} : ∀ {l₁ : List α} {l₂ : List β}, Paired F l₁ l₂ → (∀ a b, F a b → G a b) → Paired G l₁ l₂
  | _, _, .nil, _ => .nil
  | _, _, .cons r t, f => .cons (f _ _ r) (Paired.mapP t f)
theorem ObjOk.stay (x : ObjOk P w H h a o) (k : ∀ b u, (b = a ∨ H b = some (.own a)) → h.get? b = some u → h'.get? b = some u)
    (ho : ∀ b, H b = some (.own a) → H' b = some (.own a)) (ht : ∀ b xs, H b = some (.tup xs) → H' b = some (.tup xs)) : ObjOk P w H' h' a o := by
  induction o with
  | lst xs => obtain ⟨z, its, n, r, e⟩ := x; exact ⟨z, its, n, r, k _ _ (.inl rfl) e⟩
  | tup xs => obtain ⟨z, its, r, ob, e, c⟩ := x; exact ⟨z, its, r, ob, k _ _ (.inl rfl) e, c⟩
  | dK kvs => obtain ⟨z, y, vs, r, ob, es, ep, e, c⟩ := x; exact ⟨z, y, vs, r, ob, es, ep, k _ _ (.inl rfl) e, c⟩
  | dT kvs =>
    obtain ⟨z, y, xs, r, ob, es, ep, e, c⟩ := x
    exact ⟨z, y, xs, Paired.mapP r fun p q z => ⟨z.1, ht _ _ z.2.1, z.2.2⟩, ob, es, ep, k _ _ (.inl rfl) e, c⟩
  | set S n => obtain ⟨ob, es, ep, t, e, c⟩ := x; exact ⟨ob, es, ep, t, k _ _ (.inl rfl) e, c⟩
  | ins C dx fs =>
    obtain ⟨d, z, ne, e, mA, ⟨od, es, ep, e2, c⟩, r⟩ := x
    exact ⟨ho _ d, z, ne, k _ _ (.inl rfl) e, mA, ⟨od, es, ep, k _ _ (.inr d) e2, c⟩, r⟩
  | own y => obtain ⟨ob, e⟩ := x; exact ⟨ob, k _ _ (.inl rfl) e⟩
  | xd fs => obtain ⟨mA, ⟨od, es, ep, e, c⟩, r⟩ := x; exact ⟨mA, ⟨od, es, ep, k _ _ (.inl rfl) e, c⟩, r⟩
  | rng lo hi => obtain ⟨t, u, v, e⟩ := x; exact ⟨t, u, v, k _ _ (.inl rfl) e⟩
  | frz ob u ih => obtain ⟨e, q⟩ := x; exact ⟨k _ _ (.inl rfl) e, ih q⟩
  | tbl ps =>
    have e : h.get? a = some { cls := .none, data := .fields ps } := x
    show h'.get? a = some { cls := .none, data := .fields ps }
    exact k a _ (.inl rfl) e
  | met f y =>
    have e : h.get? a = some (PySem.W.methodObj (.ref f) (.ref y)) := x
    show h'.get? a = some (PySem.W.methodObj (.ref f) (.ref y))
    exact k a _ (.inl rfl) e
  | ext φ => obtain ⟨p, ⟨o, e⟩, st⟩ := x; exact ⟨st _ _ p fun o q => k _ _ (.inl rfl) q, ⟨o, k _ _ (.inl rfl) e⟩, st⟩
theorem HOk.lt (x : HOk P w H h) (e : H a = some o) : a < h.objs.size := (x a o e).lt
theorem HOk.fresh (x : HOk P w H h) (e : h.objs.size ≤ a) : H a = none := by
  cases q : H a with
  | none => rfl
  | some u => exact absurd (Nat.lt_of_lt_of_le (x.lt q) e) (Nat.lt_irrefl _)
theorem HOk.kept (x : HOk P w H h) (k : ∀ b u, h.get? b = some u → h'.get? b = some u) : HOk P w H h' := fun a o e =>
  (x a o e).stay (fun b u _ q => k b u q) (fun _ q => q) fun _ _ q => q
theorem HOk.laid (x : HOk P w H h) (k : ∀ b u, h.get? b = some u → h'.get? b = some u) (hp : h.objs.size ≤ a) (new : ObjOk P w (upd H a o) h' a o) : HOk P w (upd H a o) h' := fun b u e => by
  have hn := x.fresh hp
  by_cases hb : b = a
  · subst hb; rw [upd_same] at e; cases e; exact new
  · rw [upd_ne hb] at e
    exact (x b u e).stay (fun c v _ q => k c v q) (fun c q => by rw [upd_ne (ne_of_none q hn)]; exact q) fun c xs q => by rw [upd_ne (ne_of_none q hn)]; exact q
end
def Rd (H : Hp) (a : Addr) (u : HO) : Prop := H a = some u ∨ ∃ o, H a = some (.frz o u)
theorem Rd.of {H : Hp} {a : Addr} {u : HO} (h : H a = some u) : Rd H a u := .inl h
theorem Rd.ok {P : Program} {w : World} {H : Hp} {h : Heap} {a : Addr} {u : HO} (r : Rd H a u) (x : HOk P w H h) : ObjOk P w H h a u := by
  rcases r with r | ⟨o, r⟩
  · exact x a u r
  · obtain ⟨_, q⟩ := x a _ r
    exact q
def Mut : Option HO → Prop
  | some (.lst _) => True
  | some (.dK _) => True
  | some (.dT _) => True
  | some (.set _ _) => True
  | some (.ins _ _ _) => True
  | some (.ext _) => True
  | _ => False
section
variable {P : Program} {w : World} {H : Hp} {h h' : Heap} {x e : Addr} {o' : HO}
theorem HOk.write (ok : HOk P w H h) (mu : Mut (H x)) (he : e = x ∨ H e = some (.own x)) (k : ∀ b u, b ≠ e → h.get? b = some u → h'.get? b = some u) (heo : ∃ u, h'.get? e = some u)
    (new : ObjOk P w (upd H x o') h' x o') : HOk P w (upd H x o') h' := fun b u q => by
  have nown : ∀ c y, H c = some (.own y) → c ≠ x := fun c y r z => by subst z; rw [r] at mu; exact mu
  have ntup : ∀ c xs, H c = some (.tup xs) → c ≠ x := fun c xs r z => by subst z; rw [r] at mu; exact mu
  by_cases hb : b = x
  · subst hb; rw [upd_same] at q; cases q; exact new
  · rw [upd_ne hb] at q
    by_cases hbe : b = e
    · have q' : H b = some (.own x) := by
        rcases he with z | z
        · exact absurd (hbe.trans z) hb
        · rw [hbe]; exact z
      rw [q] at q'; cases q'
      obtain ⟨v, hv⟩ := heo
      exact ⟨v, by rw [hbe]; exact hv⟩
    · refine (ok b u q).stay (fun c v hc r => k c v ?_ r) (fun c r => by rw [upd_ne (nown c b r)]; exact r) fun c xs r => by rw [upd_ne (ntup c xs r)]; exact r
      rcases hc with rfl | hc
      · exact hbe
      · rintro rfl
        rcases he with z | z
        · exact nown c b hc z
        · rw [hc] at z; cases z; exact hb rfl
end
structure Un (fs ex : List Addr) (H H' : Hp) (h h' : Heap) : Prop where
  keep : ∀ b o, h.get? b = some o → H b = none → b ∉ fs → b ∉ ex → h'.get? b = some o
  slot : ∀ b o, h.get? b = some o → H b = none → b ∈ fs → b ∉ ex → ∃ sl, h'.get? b = some { o with slots := sl }
  free : ∀ b o, h.get? b = some o → H b = none → b ∉ ex → H' b = none
  there : ∀ b o, h.get? b = some o → b ∉ ex → ∃ o', h'.get? b = some o'
  tups : ∀ b xs, H b = some (.tup xs) → H' b = some (.tup xs)
  frzs : ∀ b o u, H b = some (.frz o u) → H' b = some (.frz o u)
  tbls : ∀ b ps, H b = some (.tbl ps) → ∃ more, H' b = some (.tbl (ps ++ more))
section
variable {fs fs' ex ex' : List Addr} {H H1 H2 : Hp} {h h1 h2 h' : Heap} {a x e : Addr} {o : HO}
theorem Un.any (u : Un fs ex H H1 h h1) {b : Addr} {ob : Obj} (q : h.get? b = some ob) (n : H b = none) (hx : b ∉ ex) : ∃ sl, h1.get? b = some { ob with slots := sl } := by
  by_cases hb : b ∈ fs
  · exact u.slot b ob q n hb hx
  · exact ⟨ob.slots, u.keep b ob q n hb hx⟩
theorem Un.kept (k : ∀ b u, h.get? b = some u → h'.get? b = some u) : Un fs ex H H h h' :=
  ⟨fun b ob q _ _ _ => k b ob q, fun b ob q _ _ _ => ⟨ob.slots, k b ob q⟩, fun _ _ _ n _ => n, fun b ob q _ => ⟨ob, k b ob q⟩, fun _ _ q => q, fun _ _ _ q => q, fun _ ps q => ⟨#[], by rw [q]; simp⟩⟩
theorem Un.refl : Un fs ex H H h h := Un.kept fun _ _ q => q
theorem Un.laid (k : ∀ b u, h.get? b = some u → h'.get? b = some u) (hp : h.objs.size ≤ a) (hn : H a = none) : Un fs ex H (upd H a o) h h' where
  keep := fun b u q _ _ _ => k b u q
  slot := fun b u q _ _ _ => ⟨u.slots, k b u q⟩
  free := fun b u q n _ => by rw [upd_ne (Nat.ne_of_lt (Nat.lt_of_lt_of_le (Heap.lt_size q) hp))]; exact n
  there := fun b u q _ => ⟨u, k b u q⟩
  tups := fun b xs q => by rw [upd_ne (ne_of_none q hn)]; exact q
  frzs := fun b u xs q => by rw [upd_ne (ne_of_none q hn)]; exact q
  tbls := fun b ps q => ⟨#[], by rw [upd_ne (ne_of_none q hn), q]; simp⟩
theorem Un.write (mu : Mut (H x)) (he : e = x ∨ H e = some (.own x)) (k : ∀ b u, b ≠ e → h.get? b = some u → h'.get? b = some u) (heo : ∃ u, h'.get? e = some u) : Un fs ex H (upd H x o) h h' := by
  have hx : ∀ b, H b = none → b ≠ x := fun b n z => by subst z; rw [n] at mu; exact mu
  have hb : ∀ b, H b = none → b ≠ e := fun b n z => by
    subst z
    rcases he with r | r
    · exact hx b n r
    · rw [n] at r; cases r
  have hm : ∀ b u, H b = some u → ¬ Mut (some u) → b ≠ x := fun b u q nm z => by subst z; rw [q] at mu; exact nm mu
  refine ⟨fun b u q n _ _ => k b u (hb b n) q, fun b u q n _ _ => ⟨u.slots, k b u (hb b n) q⟩, fun b u q n _ => by rw [upd_ne (hx b n)]; exact n, fun b u q _ => ?_,
    fun b xs q => by rw [upd_ne (hm b _ q fun z => z)]; exact q, fun b u xs q => by rw [upd_ne (hm b _ q fun z => z)]; exact q, fun b ps q => ⟨#[], by rw [upd_ne (hm b _ q fun z => z), q]; simp⟩⟩
  by_cases hbe : b = e
  · subst hbe; exact heo
  · exact ⟨u, k b u hbe q⟩
end
def trk (h : Heap) (H : Hp) : List Addr := (List.range h.objs.size).filter fun a => (H a).isSome
def hidT (h : Heap) (H : Hp) : Heap := PySem.W.hideAll h (trk h H)
theorem hidT_size (h : Heap) (H : Hp) : (hidT h H).objs.size = h.objs.size := PySem.W.hideAll_size _ _
theorem hidT_get {h : Heap} {H : Hp} {b : Addr} {o : Obj} (e : h.get? b = some o) (n : H b = none) : (hidT h H).get? b = some o :=
  PySem.W.hideAll_get _ e fun hm => by
    have q : (H b).isSome = true := (List.mem_filter.mp hm).2
    rw [n] at q; simp at q
theorem of_hidT {h : Heap} {H : Hp} {b : Addr} {o : Obj} (e : (hidT h H).get? b = some o) : h.get? b = some o ∧ H b = none := by
  have e' : h.get? b = some o := PySem.W.of_hideAll (trk h H) e
  refine ⟨e', ?_⟩
  cases q : H b with
  | none => rfl
  | some x =>
    have hm : b ∈ trk h H := List.mem_filter.mpr ⟨List.mem_range.mpr (Heap.lt_size e'), by simp [q]⟩
    have z : (hidT h H).get? b = none := PySem.W.hideAll_none (trk h H) hm
    rw [z] at e; cases e
end L2
namespace L2
open PySem PySem.Spec PyProof.Rows
structure Mod (K : PySem.W.Frag) (mg : Str → Option Value) (base : Heap) : Prop where
  kin : K.In base
  glob : base.Ns mainGlobals mg
  blt : ∃ mb, base.Ns builtinsNs mb ∧ ∀ x : Str, x ≠ "__name__" → mb x = bootBuiltins x
  nolimit : base.NoLimit
structure Cx where
  prog : Program
  w : World
  K : PySem.W.Frag
  mg : Str → Option Value
  base : Heap
  A : Around
  N : List Str
  s_0 : Shared
  H_0 : Hp
  env : Env
  outer : List Env
  stack : List Env
  ex : List Addr
  fn : Str → Bool
  calm : Bool
  pn : List (Addr × Obj)
  xe : Value → Shared → Prop
def frs (l : List Env) : List Addr := l.filterMap (·.frame)
abbrev Cx.fs (X : Cx) : List Addr := frs X.outer
def Vis (sc : Scope) (x : Str) : Prop := sc.names.lookup x = some .local ∨ sc.names.lookup x = some .cell ∨ sc.names.lookup x = some .free
def Loc (sc : Scope) (x : Str) : Prop := sc.names.lookup x = some .local ∨ sc.names.lookup x = some .cell
def Look (env : Env) (h : Heap) (m : Str → Option Value) (x : Str) (u : Value) : Prop :=
  (env.kindOf x = some .local ∧ m x = some u) ∨ ((env.kindOf x = some .cell ∨ env.kindOf x = some .free) ∧ ∃ c, env.cells.lookup x = some c ∧ h.IsCell c (some u))
structure Cx.Ok (X : Cx) : Prop where
  mod : Mod X.K X.mg X.base
  kind : X.env.scope.kind = .function
  glob : X.env.globals = mainGlobals
  blt : X.env.builtins = builtinsNs
  above : X.s_0.heap.objs.size ≤ X.env.locals
  inj : ∀ x y c, X.env.cells.lookup x = some c → X.env.cells.lookup y = some c → x = y
  has : ∀ x, (X.env.kindOf x = some .cell ∨ X.env.kindOf x = some .free) → ∃ c, X.env.cells.lookup x = some c
  cab : ∀ x c, X.fn x = true → X.env.cells.lookup x = some c → X.s_0.heap.objs.size ≤ c
  hd : X.calm = true → X.A.handled = none
  frames : X.A.frames = some X.stack
  stk : X.stack = X.outer ∨ (X.stack = X.env :: X.outer ∧ X.env.frame = some X.env.locals)
  exf : ∀ b ∈ X.ex, b ≠ X.env.locals ∧ ∀ x c, X.env.cells.lookup x = some c → c ≠ b
  bs : ∀ b o, X.base.get? b = some o → X.s_0.heap.get? b = some o ∧ X.H_0 b = none
  bsz : X.base.objs.size ≤ X.s_0.heap.objs.size
  noex : ∀ b o, X.base.get? b = some o → b ∉ X.ex
  exfs : ∀ b ∈ X.ex, b ∉ X.fs
  funs : X.s_0.heap.FunFrames X.base X.outer
  frf : ∀ b ∈ X.fs, X.H_0 b = none
structure Inv (X : Cx) (pins : List (Addr × Obj)) (σ : List (Option V)) (H : Hp) (s : Shared) : Prop where
  ok : X.Ok
  os : s.os = X.s_0.os
  bare : AllBare s.gens
  base : Un X.fs X.ex X.H_0 H X.s_0.heap s.heap
  loc : ∃ m, s.heap.Ns X.env.locals m ∧ ∀ (i : Nat) (x : Str) (v : V), X.N[i]? = some x → σ[i]? = some (some v) → Vis X.env.scope x → ∃ u, RelV v u ∧ Look X.env s.heap m x u
  cell : ∀ x c, X.env.cells.lookup x = some c → ∃ v, s.heap.IsCell c v
  free : H X.env.locals = none
  freeC : ∀ x c, X.env.cells.lookup x = some c → H c = none
  pin : ∀ p ∈ X.pn ++ pins, s.heap.get? p.1 = some p.2 ∧ H p.1 = none ∧ p.1 ≠ X.env.locals ∧ p.1 ∉ X.fs ∧ ∀ v, p.2.data ≠ .cell v
  hok : HOk X.prog X.w H s.heap
  len : σ.length = X.N.length
section
variable {X : Cx} {pins : List (Addr × Obj)} {σ : List (Option V)} {H H' : Hp} {s : Shared} {h' : Heap}
theorem Cx.Ok.nofr (ok : X.Ok) {b : Addr} {o : Obj} (e : X.base.get? b = some o) : b ∉ X.fs := fun hb => by
  have := (ok.funs.mem hb).1
  rw [e] at this; cases this
theorem Inv.bs (I : Inv X pins σ H s) : ∀ b o, X.base.get? b = some o → s.heap.get? b = some o ∧ H b = none := fun b o e =>
  ⟨I.base.keep b o (I.ok.bs b o e).1 (I.ok.bs b o e).2 (I.ok.nofr e) (I.ok.noex b o e), I.base.free b o (I.ok.bs b o e).1 (I.ok.bs b o e).2 (I.ok.noex b o e)⟩
theorem Inv.bk (I : Inv X pins σ H s) : ∀ b o, X.base.get? b = some o → s.heap.get? b = some o := fun b o e => (I.bs b o e).1
theorem Inv.mod (I : Inv X pins σ H s) : Mod X.K X.mg X.base := I.ok.mod
theorem Inv.kIn (I : Inv X pins σ H s) : X.K.In s.heap := I.ok.mod.kin.keeps I.bk
theorem Inv.lt (I : Inv X pins σ H s) : X.env.locals < s.heap.objs.size := let ⟨_, hn, _⟩ := I.loc; hn.lt
theorem Inv.sz (I : Inv X pins σ H s) : X.s_0.heap.objs.size ≤ s.heap.objs.size := Nat.le_trans I.ok.above (Nat.le_of_lt I.lt)
theorem Inv.nofs (I : Inv X pins σ H s) {a : Addr} (h : s.heap.objs.size ≤ a) : a ∉ X.fs := fun hb => by
  obtain ⟨_, o, ho, _⟩ := I.ok.funs.mem hb
  exact absurd (Nat.lt_of_lt_of_le (Heap.lt_size ho) (Nat.le_trans I.sz h)) (Nat.lt_irrefl _)
theorem Inv.cne (I : Inv X pins σ H s) : ∀ x c, X.env.cells.lookup x = some c → c ≠ X.env.locals := fun x c e z => by
  obtain ⟨v, o, ho, hd⟩ := I.cell x c e
  obtain ⟨m, ⟨o', es, ep, ho', hd', _⟩, _⟩ := I.loc
  rw [z, ho'] at ho; cases ho; rw [hd'] at hd; cases hd
theorem Inv.funs (I : Inv X pins σ H s) : s.heap.FunFrames X.base X.outer := by
  have all : ∀ (l : List Env), (∀ b ∈ frs l, b ∈ X.fs) → X.s_0.heap.FunFrames X.base l → s.heap.FunFrames X.base l := by
    intro l
    induction l with
    | nil => intro _ _; trivial
    | cons env r ih =>
      intro hs hl
      obtain ⟨hk, ⟨L, o, hf, hn, ho, hd⟩, hr⟩ := hl
      have hL : L ∈ X.fs := hs L (by unfold frs; rw [List.filterMap_cons, hf]; exact List.mem_cons_self)
      obtain ⟨sl, e⟩ := I.base.slot L o ho (I.ok.frf L hL) hL fun z => I.ok.exfs L z hL
      exact ⟨hk, ⟨L, _, hf, hn, e, hd⟩, ih (fun b hb => hs b (by unfold frs; rw [List.filterMap_cons, hf]; exact List.mem_cons_of_mem _ hb)) hr⟩
  exact all X.outer (fun _ hb => hb) I.ok.funs
theorem Inv.stack (I : Inv X pins σ H s) : s.heap.FunFrames X.base X.stack := by
  rcases I.ok.stk with e | ⟨e, hf⟩
  · rw [e]; exact I.funs
  · rw [e]
    obtain ⟨m, hn, _⟩ := I.loc
    refine .cons (by rw [I.ok.kind]; decide) hf hn ?_ I.funs
    exact Heap.get?_none_of_le (Nat.le_trans I.ok.bsz I.ok.above)
theorem Inv.stkSub (I : Inv X pins σ H s) : ∀ b ∈ frs X.stack, b ∈ X.env.locals :: X.fs := fun b hb => by
  rcases I.ok.stk with e | ⟨e, hf⟩
  · rw [e] at hb; exact List.mem_cons_of_mem _ hb
  · rw [e] at hb
    unfold frs at hb
    rw [List.filterMap_cons, hf] at hb
    exact hb
theorem Inv.stkFree (I : Inv X pins σ H s) : ∀ b ∈ frs X.stack, H b = none := fun b hb => by
  rcases List.mem_cons.mp (I.stkSub b hb) with e | hb
  · rw [e]; exact I.free
  · obtain ⟨_, o, ho, _⟩ := I.ok.funs.mem hb
    exact I.base.free b o ho (I.ok.frf b hb) fun z => I.ok.exfs b z hb
theorem Inv.step {g' : Array GenState} {t' : Nat} {d' : Drawn} {ch : List Addr} (I : Inv X pins σ H s)
    (hch : ∀ b ∈ ch, (b ∈ X.ex ∨ X.s_0.heap.objs.size ≤ b) ∧ b ≠ X.env.locals ∧ (∀ x c, X.env.cells.lookup x = some c → c ≠ b) ∧ ∀ p ∈ X.pn ++ pins, p.1 ≠ b)
    (keep : ∀ b o, b ≠ X.env.locals → b ∉ X.fs → b ∉ ch → s.heap.get? b = some o → H b = none → h'.get? b = some o)
    (slot : ∀ b o, b ≠ X.env.locals → b ∈ X.fs → b ∉ ch → s.heap.get? b = some o → H b = none → ∃ sl, h'.get? b = some { o with slots := sl }) (free : ∀ b o, b ∉ ch → s.heap.get? b = some o → H b = none → H' b = none)
    (there : ∀ b o, b ∉ ch → s.heap.get? b = some o → ∃ o', h'.get? b = some o')
    (tups : ∀ b xs, H b = some (.tup xs) → H' b = some (.tup xs)) (frzs : ∀ b o u, H b = some (.frz o u) → H' b = some (.frz o u)) (tbls : ∀ b ps, H b = some (.tbl ps) → ∃ more, H' b = some (.tbl (ps ++ more)))
    (ns : ∀ m, s.heap.Ns X.env.locals m → h'.Ns X.env.locals m) (hok : HOk X.prog X.w H' h') (hg : AllBare g') :
    Inv X pins σ H' { s with heap := h', gens := g', drawn := d', toks := t' } := by
  have neL : ∀ b o, X.s_0.heap.get? b = some o → b ≠ X.env.locals := fun b o e => Nat.ne_of_lt (Nat.lt_of_lt_of_le (Heap.lt_size e) I.ok.above)
  have neC : ∀ b o, X.s_0.heap.get? b = some o → b ∉ X.ex → b ∉ ch := fun b o e hx hb => by
    rcases (hch b hb).1 with z | z
    · exact hx z
    · exact absurd (Nat.lt_of_lt_of_le (Heap.lt_size e) z) (Nat.lt_irrefl _)
  have cellK : ∀ x c, X.env.cells.lookup x = some c → ∀ v, s.heap.IsCell c v → h'.IsCell c v := fun x c e v ⟨o, ho, hd⟩ => by
    have nch : c ∉ ch := fun z => (hch c z).2.2.1 x c e rfl
    by_cases hc : c ∈ X.fs
    · obtain ⟨sl, q⟩ := slot c o (I.cne x c e) hc nch ho (I.freeC x c e)
      exact ⟨_, q, hd⟩
    · exact ⟨o, keep c o (I.cne x c e) hc nch ho (I.freeC x c e), hd⟩
  refine ⟨I.ok, I.os, hg, ⟨fun b o e n hb hx => ?_, fun b o e n hb hx => ?_, fun b o e n hx => ?_, fun b o e hx => ?_, fun b xs e => tups b xs (I.base.tups b xs e), fun b o xs e => frzs b o xs (I.base.frzs b o xs e), fun b ps e => ?_⟩, ?_, fun x c e => ?_, ?_, fun x c e => ?_, fun p hp => ?_, hok, I.len⟩
  · exact keep b o (neL b o e) hb (neC b o e hx) (I.base.keep b o e n hb hx) (I.base.free b o e n hx)
  · obtain ⟨sl, e1⟩ := I.base.slot b o e n hb hx
    obtain ⟨sl', e2⟩ := slot b _ (neL b o e) hb (neC b o e hx) e1 (I.base.free b o e n hx)
    exact ⟨sl', e2⟩
  · obtain ⟨o', e1⟩ := I.base.there b o e hx
    exact free b o' (neC b o e hx) e1 (I.base.free b o e n hx)
  · obtain ⟨o', e1⟩ := I.base.there b o e hx
    exact there b o' (neC b o e hx) e1
  · obtain ⟨m1, e1⟩ := I.base.tbls b ps e
    obtain ⟨m2, e2⟩ := tbls b _ e1
    exact ⟨m1 ++ m2, by rw [e2, Array.append_assoc]⟩
  · obtain ⟨m, hn, hl⟩ := I.loc
    refine ⟨m, ns m hn, fun i x v e1 e2 e3 => ?_⟩
    obtain ⟨u, r, l⟩ := hl i x v e1 e2 e3
    refine ⟨u, r, ?_⟩
    rcases l with l | ⟨k, c, e, z⟩
    · exact .inl l
    · exact .inr ⟨k, c, e, cellK x c e _ z⟩
  · obtain ⟨v, z⟩ := I.cell x c e
    exact ⟨v, cellK x c e v z⟩
  · obtain ⟨m, ⟨o, _, _, ho, _⟩, _⟩ := I.loc
    exact free _ o (fun z => (hch _ z).2.1 rfl) ho I.free
  · obtain ⟨v, o, ho, hd⟩ := I.cell x c e
    exact free c o (fun z => (hch c z).2.2.1 x c e rfl) ho (I.freeC x c e)
  · obtain ⟨e, n, ne, nf, d⟩ := I.pin p hp
    have nch : p.1 ∉ ch := fun z => (hch p.1 z).2.2.2 p hp rfl
    exact ⟨keep p.1 p.2 ne nf nch e n, free p.1 p.2 nch e n, ne, nf, d⟩
theorem Inv.un {t' : Nat} (I : Inv X pins σ H s) (u : Un X.fs [] H H' s.heap h') (hok : HOk X.prog X.w H' h') : Inv X pins σ H' { s with heap := h', toks := t' } := by
  obtain ⟨m, ⟨o, es, ep, ho, r⟩, _⟩ := id I.loc
  obtain ⟨sl, hL⟩ := u.any ho I.free (by simp)
  exact I.step (g' := s.gens) (d' := s.drawn) (ch := []) (fun _ z => nomatch z) (fun b o _ hb _ e n => u.keep b o e n hb (by simp)) (fun b o _ hb _ e n => u.slot b o e n hb (by simp)) (fun b o _ e n => u.free b o e n (by simp)) (fun b o _ e => u.there b o e (by simp)) u.tups u.frzs u.tbls (fun m' hm => by
    obtain ⟨o', es', ep', ho', r'⟩ := hm
    rw [ho] at ho'; cases ho'
    exact ⟨_, es', ep', hL, r'⟩) hok I.bare
theorem Inv.call {g' : Array GenState} {t' : Nat} {d' : Drawn} {ch : List Addr} (I : Inv X pins σ H s) (u : Un (frs X.stack) ch H H' s.heap h') (hok : HOk X.prog X.w H' h') (hg : AllBare g')
    (hch : ∀ b ∈ ch, (b ∈ X.ex ∨ X.s_0.heap.objs.size ≤ b) ∧ b ≠ X.env.locals ∧ (∀ x c, X.env.cells.lookup x = some c → c ≠ b) ∧ ∀ p ∈ X.pn ++ pins, p.1 ≠ b) :
    Inv X pins σ H' { s with heap := h', gens := g', drawn := d', toks := t' } := by
  obtain ⟨m, ⟨o, es, ep, ho, r⟩, _⟩ := id I.loc
  obtain ⟨sl, hL⟩ := u.any ho I.free fun z => (hch _ z).2.1 rfl
  exact I.step (ch := ch) hch (fun b o hL hb hc e n => u.keep b o e n (fun z => (List.mem_cons.mp (I.stkSub b z)).elim hL hb) hc) (fun b o _ _ hc e n => u.any e n hc) (fun b o hc e n => u.free b o e n hc) (fun b o hc e => u.there b o e hc) u.tups u.frzs u.tbls (fun m' hm => by
    obtain ⟨o', es', ep', ho', r'⟩ := hm
    rw [ho] at ho'; cases ho'
    exact ⟨_, es', ep', hL, r'⟩) hok hg
theorem Inv.turned {t' : Nat} {it : Addr} (I : Inv X pins σ H s) (k : ∀ b o, b ≠ it → s.heap.get? b = some o → h'.get? b = some o) (hn : H it = none) (hL : it ≠ X.env.locals)
    (h1 : it ∈ X.ex ∨ X.s_0.heap.objs.size ≤ it) (h2 : ∀ x c, X.env.cells.lookup x = some c → c ≠ it) (h3 : ∀ p ∈ X.pn ++ pins, p.1 ≠ it) : Inv X pins σ H { s with heap := h', toks := t' } := by
  have nit : ∀ b u, H b = some u → b ≠ it := fun b u e z => by rw [z, hn] at e; cases e
  refine I.step (g' := s.gens) (d' := s.drawn) (ch := [it]) (fun b hb => ?_) (fun b o _ _ hc e _ => k b o (fun z => hc (by simp [z])) e) (fun b o _ _ hc e _ => ⟨o.slots, k b o (fun z => hc (by simp [z])) e⟩) (fun _ _ _ _ n => n)
    (fun b o hc e => ⟨o, k b o (fun z => hc (by simp [z])) e⟩) (fun _ _ e => e) (fun _ _ _ e => e) (fun b ps e => ⟨#[], by rw [e]; simp⟩) (fun m hm => ?_) (fun b u e => ?_) I.bare
  · have e : b = it := by simpa using hb
    subst e
    exact ⟨h1, hL, h2, h3⟩
  · obtain ⟨o, es, ep, ho, r⟩ := hm
    exact ⟨o, es, ep, k _ o (Ne.symm hL) ho, r⟩
  · refine (I.hok b u e).stay (fun c v hc q => k c v ?_ q) (fun _ q => q) fun _ _ q => q
    rcases hc with z | z
    · rw [z]; exact nit b u e
    · exact nit c _ z
theorem Inv.tok (I : Inv X pins σ H s) (t : Nat) : Inv X pins σ H { s with toks := t } := I.un (h' := s.heap) (t' := t) Un.refl I.hok
theorem Inv.kept {t' : Nat} (I : Inv X pins σ H s) (k : ∀ b u, s.heap.get? b = some u → h'.get? b = some u) : Inv X pins σ H { s with heap := h', toks := t' } := I.un (Un.kept k) (I.hok.kept k)
theorem Inv.laid {a : Addr} {o : HO} {t' : Nat} (I : Inv X pins σ H s) (k : ∀ b u, s.heap.get? b = some u → h'.get? b = some u) (hp : s.heap.objs.size ≤ a) (new : ObjOk X.prog X.w (upd H a o) h' a o) :
    Inv X pins σ (upd H a o) { s with heap := h', toks := t' } := I.un (Un.laid k hp (I.hok.fresh hp)) (I.hok.laid k hp new)
theorem Inv.write {x e : Addr} {o : HO} {t' : Nat} (I : Inv X pins σ H s) (mu : Mut (H x)) (he : e = x ∨ H e = some (.own x)) (k : ∀ b u, b ≠ e → s.heap.get? b = some u → h'.get? b = some u) (heo : ∃ u, h'.get? e = some u)
    (new : ObjOk X.prog X.w (upd H x o) h' x o) : Inv X pins σ (upd H x o) { s with heap := h', toks := t' } := I.un (Un.write mu he k heo) (I.hok.write mu he k heo new)
theorem Inv.weak {σ' : List (Option V)} (I : Inv X pins σ H s) (hl : σ'.length = σ.length) (w : ∀ (i : Nat) v, σ'[i]? = some (some v) → σ[i]? = some (some v)) : Inv X pins σ' H s :=
  ⟨I.ok, I.os, I.bare, I.base, let ⟨m, hn, hl'⟩ := I.loc; ⟨m, hn, fun i x v e1 e2 e3 => hl' i x v e1 (w i v e2) e3⟩, I.cell, I.free, I.freeC, I.pin, I.hok, hl.trans I.len⟩
theorem Inv.pins_of {pins' : List (Addr × Obj)} (I : Inv X pins σ H s) (h : ∀ p ∈ pins', s.heap.get? p.1 = some p.2 ∧ H p.1 = none ∧ p.1 ≠ X.env.locals ∧ p.1 ∉ X.fs ∧ ∀ v, p.2.data ≠ .cell v) : Inv X pins' σ H s :=
  ⟨I.ok, I.os, I.bare, I.base, I.loc, I.cell, I.free, I.freeC, fun p hp => (List.mem_append.mp hp).elim (fun z => I.pin p (List.mem_append_left _ z)) (h p), I.hok, I.len⟩
theorem nodup_ix {N : List Str} (hN : N.Nodup) {i j : Nat} {x : Str} (a : N[i]? = some x) (b : N[j]? = some x) : i = j := by
  obtain ⟨h1, e1⟩ := List.getElem?_eq_some_iff.mp a
  obtain ⟨h2, e2⟩ := List.getElem?_eq_some_iff.mp b
  exact (List.getElem_inj hN).mp (e1.trans e2.symm)
theorem store_ok2 {M : Model} {A : Around} {E : Value → Shared → Prop} {i : Nat} {x : Str} {v : V} {u : Value} {Q : Unit → Shared → Prop} (I : Inv X pins σ H s) (hN : X.N.Nodup) (hi : X.N[i]? = some x) (hx : Loc X.env.scope x) (r : RelV v u)
    (h : ∀ s', Inv X pins (σ.set i (some v)) H s' → (∃ a, Heap.SameBut a s.heap s'.heap ∧ (a = X.env.locals ∨ X.env.cells.lookup x = some a)) → Q () s') (hf : X.fn x = true ∨ X.env.scope.names.lookup x = some .local := by first | exact .inl rfl | exact .inr rfl | assumption) : wpAny M A (storeName X.env x u) Q E s := by
  obtain ⟨m, hn, hl⟩ := id I.loc
  have hcls : (X.env.scope.kind == .class || (X.env.scope.kind == .module && X.env.locals != X.env.globals)) = false := by rw [I.ok.kind]; rfl
  have hiσ : i < σ.length := by rw [I.len]; exact (List.getElem?_eq_some_iff.mp hi).1
  have cne := I.cne
  have tracked : ∀ {a : Addr} {h' : Heap}, (∃ o, s.heap.get? a = some o ∧ H a = none) → Heap.SameBut a s.heap h' → HOk X.prog X.w H h' := fun {a h'} ha hs b ob e => by
    obtain ⟨_, _, hfree⟩ := ha
    refine (I.hok b ob e).stay (fun c w' hc q => (hs.2 c ?_).trans q) (fun _ q => q) fun _ _ q => q
    rintro rfl
    rcases hc with rfl | hc
    · rw [hfree] at e; cases e
    · rw [hfree] at hc; cases hc
  rcases hx with hk | hk
  · refine wpAny_storeName_local hk hn (fun h' hn' hs => ?_) hcls
    obtain ⟨oL, _, _, hoL, _⟩ := id hn
    refine h _ ⟨I.ok, I.os, I.bare, ⟨fun b o e n hb hx => ?_, fun b o e n hb hx => ?_, I.base.free, fun b o e hx => ?_, I.base.tups, I.base.frzs, I.base.tbls⟩, ⟨_, hn', fun j y v' e1 e2 e3 => ?_⟩, fun y c e => ?_, I.free, I.freeC, fun p hp => ?_, tracked ⟨oL, hoL, I.free⟩ hs, by simpa using I.len⟩ ⟨_, hs, .inl rfl⟩
    · exact (hs.2 b (Nat.ne_of_lt (Nat.lt_of_lt_of_le (Heap.lt_size e) I.ok.above))).trans (I.base.keep b o e n hb hx)
    · obtain ⟨sl, e1⟩ := I.base.slot b o e n hb hx
      exact ⟨sl, (hs.2 b (Nat.ne_of_lt (Nat.lt_of_lt_of_le (Heap.lt_size e) I.ok.above))).trans e1⟩
    · obtain ⟨o', e1⟩ := I.base.there b o e hx
      exact ⟨o', (hs.2 b (Nat.ne_of_lt (Nat.lt_of_lt_of_le (Heap.lt_size e) I.ok.above))).trans e1⟩
    · by_cases hj : j = i
      · subst hj
        rw [hi] at e1; cases e1
        rw [List.getElem?_set_self hiσ] at e2
        cases e2
        exact ⟨u, r, .inl ⟨hk, by simp⟩⟩
      · rw [List.getElem?_set_ne (Ne.symm hj)] at e2
        obtain ⟨u', r', q⟩ := hl j y v' e1 e2 e3
        refine ⟨u', r', ?_⟩
        rcases q with ⟨k, e⟩ | ⟨k, c, e, z⟩
        · refine .inl ⟨k, ?_⟩
          have : y ≠ x := fun e => hj (nodup_ix hN e1 (e ▸ hi))
          simp [this, e]
        · exact .inr ⟨k, c, e, z.sameBut hs (cne y c e)⟩
    · obtain ⟨w', z⟩ := I.cell y c e
      exact ⟨w', z.sameBut hs (cne y c e)⟩
    · obtain ⟨e, n, ne, nf, d⟩ := I.pin p hp
      exact ⟨(hs.2 p.1 ne).trans e, n, ne, nf, d⟩
  · have hfn : X.fn x = true := by
      rcases hf with z | z
      · exact z
      · rw [z] at hk; cases hk
    obtain ⟨c, hc⟩ := I.ok.has x (.inl hk)
    obtain ⟨w', z⟩ := I.cell x c hc
    refine wpAny_storeName_cell I.ok.kind hk hc z (fun h' hc' hs => ?_)
    obtain ⟨oc, hoc, hocd⟩ := id z
    refine h { s with heap := h' } ⟨I.ok, I.os, I.bare, ⟨fun b o e n hb hx => ?_, fun b o e n hb hx => ?_, I.base.free, fun b o e hx => ?_, I.base.tups, I.base.frzs, I.base.tbls⟩, ⟨m, hn.sameBut hs (Ne.symm (cne x c hc)), fun j y v' e1 e2 e3 => ?_⟩, fun y c' e => ?_, I.free, I.freeC, fun p hp => ?_, tracked ⟨oc, hoc, I.freeC x c hc⟩ hs, by simpa using I.len⟩ ⟨c, hs, .inr hc⟩
    · exact (hs.2 b (Nat.ne_of_lt (Nat.lt_of_lt_of_le (Heap.lt_size e) (I.ok.cab x c hfn hc)))).trans (I.base.keep b o e n hb hx)
    · obtain ⟨sl, e1⟩ := I.base.slot b o e n hb hx
      exact ⟨sl, (hs.2 b (Nat.ne_of_lt (Nat.lt_of_lt_of_le (Heap.lt_size e) (I.ok.cab x c hfn hc)))).trans e1⟩
    · obtain ⟨o', e1⟩ := I.base.there b o e hx
      exact ⟨o', (hs.2 b (Nat.ne_of_lt (Nat.lt_of_lt_of_le (Heap.lt_size e) (I.ok.cab x c hfn hc)))).trans e1⟩
    · by_cases hj : j = i
      · subst hj
        rw [hi] at e1; cases e1
        rw [List.getElem?_set_self hiσ] at e2
        cases e2
        exact ⟨u, r, .inr ⟨.inl hk, c, hc, hc'⟩⟩
      · rw [List.getElem?_set_ne (Ne.symm hj)] at e2
        obtain ⟨u', r', q⟩ := hl j y v' e1 e2 e3
        refine ⟨u', r', ?_⟩
        rcases q with q | ⟨k, c', e, z'⟩
        · exact .inl q
        · refine .inr ⟨k, c', e, z'.sameBut hs ?_⟩
          rintro rfl
          exact hj (nodup_ix hN e1 (I.ok.inj _ _ _ e hc ▸ hi))
    · by_cases hcc : c' = c
      · subst hcc; exact ⟨_, hc'⟩
      · obtain ⟨w2, z2⟩ := I.cell y c' e
        exact ⟨w2, z2.sameBut hs hcc⟩
    · obtain ⟨e, n, ne, nf, d⟩ := I.pin p hp
      refine ⟨(hs.2 p.1 ?_).trans e, n, ne, nf, d⟩
      intro q
      rw [q, hoc] at e
      have q' : oc = p.2 := Option.some.inj e
      exact d w' (by rw [← q']; exact hocd)
theorem store_ok {M : Model} {A : Around} {E : Value → Shared → Prop} {i : Nat} {x : Str} {v : V} {u : Value} {Q : Unit → Shared → Prop} (I : Inv X pins σ H s) (hN : X.N.Nodup) (hi : X.N[i]? = some x) (hx : Loc X.env.scope x) (r : RelV v u)
    (h : ∀ s', Inv X pins (σ.set i (some v)) H s' → Q () s') (hf : X.fn x = true ∨ X.env.scope.names.lookup x = some .local := by first | exact .inl rfl | exact .inr rfl | assumption) : wpAny M A (storeName X.env x u) Q E s :=
  store_ok2 I hN hi hx r (fun s' I' _ => h s' I') hf
theorem Inv.call' {s' : Shared} {ch : List Addr} (I : Inv X pins σ H s) (ho : s'.os = s.os) (u : Un (frs X.stack) ch H H' s.heap s'.heap) (hok : HOk X.prog X.w H' s'.heap) (hg : AllBare s'.gens)
    (hch : ∀ b ∈ ch, (b ∈ X.ex ∨ X.s_0.heap.objs.size ≤ b) ∧ b ≠ X.env.locals ∧ (∀ x c, X.env.cells.lookup x = some c → c ≠ b) ∧ ∀ p ∈ X.pn ++ pins, p.1 ≠ b) : Inv X pins σ H' s' := by
  obtain ⟨h', g', d', t', o'⟩ := s'
  have e : o' = s.os := ho
  subst e
  exact I.call (g' := g') (t' := t') (d' := d') u hok hg hch
end
abbrev XK := Value → Option Addr → Hp → Prop
abbrev St := List (Option V)
abbrev VK := V → Hp → Prop
abbrev TE := St → Hp → VK → Prop
abbrev TT := St → Hp → (Bool → Hp → Prop) → Prop
abbrev TA := St → Hp → (List V → Hp → Prop) → Prop
structure Ends where
  nx : St → Hp → Prop
  rt : VK
  bk : St → Hp → Prop := fun _ _ => False
  ct : St → Hp → Prop := fun _ _ => False
abbrev TS := Ends → St → Hp → Prop
def EP (X : Cx) (pins : List (Addr × Obj)) (σ : St) (Q : VK) (u : Value) (s' : Shared) : Prop := ∃ v H', Inv X pins σ H' s' ∧ RelV v u ∧ Q v H'
def TP (X : Cx) (pins : List (Addr × Obj)) (σ : St) (Q : Bool → Hp → Prop) (b : Bool) (s' : Shared) : Prop := ∃ H', Inv X pins σ H' s' ∧ Q b H'
def AP (X : Cx) (pins : List (Addr × Obj)) (σ : St) (Q : List V → Hp → Prop) (us : List Value) (s' : Shared) : Prop := ∃ vs H', Inv X pins σ H' s' ∧ Vals vs us ∧ Q vs H'
def SP (X : Cx) (pins : List (Addr × Obj)) (D : Ends) (f : Flow) (s' : Shared) : Prop :=
  match f with
  | .next => ∃ σ' H', Inv X pins σ' H' s' ∧ D.nx σ' H'
  | .brk => ∃ σ' H', Inv X pins σ' H' s' ∧ D.bk σ' H'
  | .cont => ∃ σ' H', Inv X pins σ' H' s' ∧ D.ct σ' H'
  | .ret u => ∃ v σ' H', Inv X pins σ' H' s' ∧ RelV v u ∧ D.rt v H'
def PE (X : Cx) (e : Expr) (t : TE) : Prop :=
  ∀ (pins : List (Addr × Obj)) (s : Shared) (σ : St) (H : Hp) (Q : VK), Inv X pins σ H s → t σ H Q → wpAny (model X.prog X.w) X.A (eval e X.env) (EP X pins σ Q) X.xe s
def PT (X : Cx) (e : Expr) (t : TT) : Prop :=
  ∀ (pins : List (Addr × Obj)) (s : Shared) (σ : St) (H : Hp) (Q : Bool → Hp → Prop), Inv X pins σ H s → t σ H Q → wpAny (model X.prog X.w) X.A (isTrue e X.env (eval e X.env)) (TP X pins σ Q) X.xe s
def PW (X : Cx) (e : Expr) (t : TT) : Prop :=
  ∀ (whole : Sem Value) (pins : List (Addr × Obj)) (s : Shared) (σ : St) (H : Hp) (Q : Bool → Hp → Prop), Inv X pins σ H s → t σ H Q → wpAny (model X.prog X.w) X.A (isTrue e X.env whole) (TP X pins σ Q) X.xe s
theorem PW.pt {X : Cx} {e : Expr} {t : TT} (h : PW X e t) : PT X e t := h _
def PA (X : Cx) (es : List Expr) (t : TA) : Prop :=
  ∀ (pos : Pos) (pins : List (Addr × Obj)) (s : Shared) (σ : St) (H : Hp) (Q : List V → Hp → Prop), Inv X pins σ H s → t σ H Q → wpAny (model X.prog X.w) X.A (spliced (backTo pos (starEach es X.env))) (AP X pins σ Q) X.xe s
def PS (X : Cx) (st : Stmt) (t : TS) : Prop :=
  ∀ (pins : List (Addr × Obj)) (s : Shared) (σ : St) (H : Hp) (D : Ends), Inv X pins σ H s → t D σ H → wpAny (model X.prog X.w) X.A (exec st X.env) (SP X pins D) X.xe s
def PSs (X : Cx) (st : List Stmt) (t : TS) : Prop :=
  ∀ (pins : List (Addr × Obj)) (s : Shared) (σ : St) (H : Hp) (D : Ends), Inv X pins σ H s → t D σ H → wpAny (model X.prog X.w) X.A (execs st X.env) (SP X pins D) X.xe s
theorem thn {α : Type} {t : Sem α} {Q Q' : α → Shared → Prop} {M : Model} {A : Around} {E : Value → Shared → Prop} {s : Shared} (h : wpAny M A t Q E s) (hQ : ∀ a s, Q a s → Q' a s) : wpAny M A t Q' E s := wpAny_mono h hQ fun _ _ x => x
end L2
namespace L2
open PySem PySem.Spec PyProof.Rows
section
variable {X : Cx}
def tVar (i : Nat) : TE := fun σ H Q => ∃ v, σ[i]? = some (some v) ∧ Q v H
def tC (v : V) : TE := fun _ H Q => Q v H
theorem pe_var {i : Nat} {x : Str} {pos : Pos} (hN : X.N[i]? = some x) (hv : Vis X.env.scope x) (hd : (x == ("__debug__" : Str)) = false := by decide) (hcd : (x == ("__classdict__" : Str)) = false := by decide) : PE X (.Name x pos) (tVar i) := by
  intro pins s σ H Q I h
  obtain ⟨v, e, h⟩ := h
  obtain ⟨m, hn, hl⟩ := I.loc
  obtain ⟨u, r, l⟩ := hl i x v hN e hv
  have fin : EP X pins σ Q u s := ⟨v, H, I, r, h⟩
  rcases l with ⟨hk, hm⟩ | ⟨hk, c, hc, hcell⟩
  · exact wpAny_Name (wpAny_loadName_local I.ok.kind hk hn hm fin) hd
  · rcases hk with hk | hk
    · exact wpAny_Name (wpAny_loadName_cell I.ok.kind hk hc hcell fin) hd
    · exact wpAny_Name (wpAny_loadName_free I.ok.kind hk hc hcell fin hcd) hd
theorem pe_int {i j pos} : PE X (.Constant (.int i) j pos) (tC (.int i)) := fun _ _ _ H _ I h => wpAny_Constant_int ⟨.int i, H, I.tok _, ⟨_, rfl⟩, h⟩
theorem pe_non {j pos} : PE X (.Constant .none j pos) (tC .non) := fun _ _ _ H _ I h => Constant_none ⟨.non, H, I, rfl, h⟩
def Gl (X : Cx) (x : Str) : Prop := X.env.kindOf x = some .globalImplicit
theorem ld_glob {E : Value → Shared → Prop} {pins : List (Addr × Obj)} {s : Shared} {σ : St} {H : Hp} {x : Str} {u : Value} {pos : Pos} {Q : Value → Shared → Prop} (I : Inv X pins σ H s) (hg : Gl X x) (hm : X.mg x = some u) (h : Q u s)
    (hd : (x == ("__debug__" : Str)) = false := by decide) : wpAny (model X.prog X.w) X.A (eval (.Name x pos) X.env) Q E s :=
  Calls.Name_function_global I.ok.kind hg (Calls.loadGlobal_global (by rw [I.ok.glob]; exact I.mod.glob.keeps I.bk) hm h) hd
theorem ld_blt {E : Value → Shared → Prop} {pins : List (Addr × Obj)} {s : Shared} {σ : St} {H : Hp} {x : Str} {u : Value} {pos : Pos} {Q : Value → Shared → Prop} (I : Inv X pins σ H s) (hg : Gl X x) (hm : X.mg x = none) (hv : bootBuiltins x = some u) (h : Q u s)
    (hn : x ≠ "__name__" := by decide) (hd : (x == ("__debug__" : Str)) = false := by decide) : wpAny (model X.prog X.w) X.A (eval (.Name x pos) X.env) Q E s := by
  obtain ⟨mb, h1, h2⟩ := I.mod.blt
  exact Calls.Name_function_global I.ok.kind hg (Calls.loadGlobal_builtin (by rw [I.ok.glob]; exact I.mod.glob.keeps I.bk) hm (by rw [I.ok.blt]; exact h1.keeps I.bk) ((h2 x hn).trans hv) h) hd
theorem pe_glob {x : Str} {v : V} {u : Value} {pos : Pos} (hg : Gl X x) (hm : X.mg x = some u) (r : RelV v u) (hd : (x == ("__debug__" : Str)) = false := by decide) : PE X (.Name x pos) (tC v) :=
  fun _ _ _ H _ I h => ld_glob I hg hm ⟨v, H, I, r, h⟩ hd
variable {a b : Expr} {ta tb : TE} {pos : Pos}
def PC (X : Cx) (op : CmpOp) (a b : Expr) (t : TE) : Prop :=
  ∀ (pins : List (Addr × Obj)) (s : Shared) (σ : St) (H : Hp) (Q : VK), Inv X pins σ H s → t σ H Q →
    wpAny (model X.prog X.w) X.A (eval a X.env) (fun v s₁ => wpAny (model X.prog X.w) X.A (eval b X.env) (fun u s₂ => wpAny (model X.prog X.w) X.A (compareOp op v u) (EP X pins σ Q) X.xe s₂) X.xe s₁) X.xe s
theorem nobehind (b : Expr) {op : CmpOp} (h : op ≠ .In) (h2 : op ≠ .NotIn) : behindInMarks op b = false := by
  have e1 : (op == CmpOp.In) = false := by cases op <;> first | rfl | exact absurd rfl h
  have e2 : (op == CmpOp.NotIn) = false := by cases op <;> first | rfl | exact absurd rfl h2
  cases b <;> simp [behindInMarks, e1, e2]
def tIsN (ta : TE) : TE := fun σ H Q => ta σ H fun x H1 => Q (.bl (decide (x = .non))) H1
theorem RelV.none_iff {x : V} {v : Value} (r : RelV x v) : (v == Value.none) = decide (x = .non) := by
  cases x with
  | non => cases r; rfl
  | bl _ => cases r; rfl
  | int _ => obtain ⟨t, rfl⟩ := r; rfl
  | str _ => obtain ⟨t, rfl⟩ := r; rfl
  | byt _ => obtain ⟨t, rfl⟩ := r; rfl
  | flt _ => obtain ⟨t, rfl⟩ := r; rfl
  | ref _ => cases r; rfl
  | ty _ => cases r; rfl
theorem pc_isN {j pos'} (ha : PE X a ta) : PC X .Is a (.Constant .none j pos') (tIsN ta) := by
  intro pins s σ H Q I h
  refine thn (ha pins s σ H _ I h) fun v s1 ⟨x, H1, I1, r1, q1⟩ => ?_
  exact Constant_none (is_none_gen ⟨.bl _, H1, I1, by rw [r1.none_iff]; rfl, q1⟩)
def tB (t : TE) : TT := fun σ H Q => t σ H fun x H1 => ∃ c, x = .bl c ∧ Q c H1
theorem pt_cmp {op : CmpOp} {t : TE} (h : PC X op a b t) (h1 : behindInMarks op b = false := by first | exact nobehind _ (by decide) (by decide) | rfl) : PT X (.Compare a [op] [b] pos) (tB t) := by
  intro pins s σ H Q I hw
  refine wpAny_isTrue_Compare1 (thn (h pins s σ H _ I hw) fun v s1 h1 => thn h1 fun u s2 h2 => thn h2 fun c s3 ⟨x, H1, I1, r1, q1⟩ => ?_) h1
  obtain ⟨d, rfl, q⟩ := q1
  cases r1
  exact wpAny_truthy_bool ⟨H1, I1, q⟩
theorem pt_val {e : Expr} {t : TE} (h : PE X e t) (he : ∀ whole, isTrue e X.env whole = (do let v ← whole; standAt e.pos; holding [v] (truthy v)) := by intro _; rfl) : PT X e (tB t) := by
  intro pins s σ H Q I hw
  refine isTrue_plain (thn (h pins s σ H _ I hw) fun v s1 ⟨x, H1, I1, r1, q1⟩ => ?_) (he _)
  obtain ⟨d, rfl, q⟩ := q1
  cases r1
  exact wpAny_truthy_bool ⟨H1, I1, q⟩
variable {tA tB' : TT} {rest : List Expr}
def tAnd (t u : TT) : TT := fun σ H Q => t σ H fun c H1 => if c = true then u σ H1 Q else Q false H1
def tOr (t u : TT) : TT := fun σ H Q => t σ H fun c H1 => if c = true then Q true H1 else u σ H1 Q
def tNot (t : TT) : TT := fun σ H Q => t σ H fun c H1 => Q (!c) H1
theorem pw_and1 (ha : PT X a tA) : PW X (.BoolOp .And [a] pos) tA := by
  intro wh pins s σ H Q I h
  refine isTrue_and (thn (ha pins s σ H Q I h) fun c s1 e => ?_)
  cases c with
  | true => exact isTrue_and_nil e
  | false => exact e
theorem pw_or1 (ha : PT X a tA) : PW X (.BoolOp .Or [a] pos) tA := by
  intro wh pins s σ H Q I h
  refine isTrue_or (thn (ha pins s σ H Q I h) fun c s1 e => ?_)
  cases c with
  | false => exact isTrue_or_nil e
  | true => exact e
theorem pw_and (ha : PT X a tA) (hb : PW X (.BoolOp .And (b :: rest) pos) tB') : PW X (.BoolOp .And (a :: b :: rest) pos) (tAnd tA tB') := by
  intro wh pins s σ H Q I h
  refine isTrue_and (thn (ha pins s σ H _ I h) fun c s1 ⟨H1, I1, q1⟩ => ?_)
  cases c with
  | true => exact hb wh pins s1 σ H1 Q I1 q1
  | false => exact ⟨H1, I1, q1⟩
theorem pw_or (ha : PT X a tA) (hb : PW X (.BoolOp .Or (b :: rest) pos) tB') : PW X (.BoolOp .Or (a :: b :: rest) pos) (tOr tA tB') := by
  intro wh pins s σ H Q I h
  refine isTrue_or (thn (ha pins s σ H _ I h) fun c s1 ⟨H1, I1, q1⟩ => ?_)
  cases c with
  | true => exact ⟨H1, I1, q1⟩
  | false => exact hb wh pins s1 σ H1 Q I1 q1
theorem pt_not (ha : PT X a tA) : PT X (.UnaryOp .Not a pos) (tNot tA) := by
  intro pins s σ H Q I h
  exact isTrue_not (ha pins s σ H (fun c H1 => Q (!c) H1) I h)
def tAndV (ta tb : TE) : TE := fun σ H Q => ta σ H fun x H1 => ∃ c, x = .bl c ∧ if c = true then tb σ H1 Q else Q (.bl false) H1
theorem pe_one {op} {t : TE} (h : PE X a t) : PE X (.BoolOp op [a] pos) t := fun pins s σ H Q I hw => BoolOp_one (h pins s σ H Q I hw)
theorem pe_and (ha : PE X a ta) (hb : PE X (.BoolOp .And (b :: rest) pos) tb) : PE X (.BoolOp .And (a :: b :: rest) pos) (tAndV ta tb) := by
  intro pins s σ H Q I h
  refine BoolOp_and (thn (ha pins s σ H _ I h) fun v s1 ⟨x, H1, I1, r1, q1⟩ => ?_)
  obtain ⟨c, rfl, q1⟩ := q1
  cases r1
  refine wpAny_truthy_bool ?_
  cases c with
  | true => exact hb pins s1 σ H1 Q I1 q1
  | false => exact ⟨.bl false, H1, I1, rfl, q1⟩
end
end L2
namespace L2
open PySem PySem.Spec PyProof.Rows
def SqL (K : PySem.W.Frag) (H : Hp) (a : Addr) (xs : List V) : Prop :=
  Rd H a (.lst xs) ∨
    ∃ (o : Obj) (its : Array Value) (n : Nat), K.lookup a = some o ∧ o.cls = .type "list" ∧ o.dict = none ∧ o.data = .seq its n ∧ its.size ≤ sizeLine ∧ Vals xs its.toList
def SqT (K : PySem.W.Frag) (H : Hp) (a : Addr) (xs : List V) : Prop :=
  Rd H a (.tup xs) ∨
    ∃ (o : Obj) (its : Array Value) (n : Nat), K.lookup a = some o ∧ o.cls = .type "tuple" ∧ o.data = .seq its n ∧ its.size ≤ sizeLine ∧ Vals xs its.toList
def absV : Value → Option V
  | .none => some .non
  | .bool b => some (.bl b)
  | .int i _ => some (.int i)
  | .str x _ => some (.str x)
  | .bytes b _ => some (.byt b)
  | .float b _ => some (.flt b)
  | .ref a => some (.ref a)
  | .type n => some (.ty n)
  | _ => none
theorem RelV.abs {x : V} {u : Value} (r : RelV x u) : absV u = some x := by
  cases x with
  | non => cases r; rfl
  | bl _ => cases r; rfl
  | int _ => obtain ⟨t, rfl⟩ := r; rfl
  | str _ => obtain ⟨t, rfl⟩ := r; rfl
  | byt _ => obtain ⟨t, rfl⟩ := r; rfl
  | flt _ => obtain ⟨t, rfl⟩ := r; rfl
  | ref _ => cases r; rfl
  | ty _ => cases r; rfl
theorem RelV.inj {x y : V} {u : Value} (r : RelV x u) (q : RelV y u) : x = y := Option.some.inj (r.abs.symm.trans q.abs)
theorem Vals.inj : ∀ {xs ys : List V} {us : List Value}, Vals xs us → Vals ys us → xs = ys
  | _, _, _, .nil, .nil => rfl
  | _, _, _, .cons r t, .cons r' t' => by rw [r.inj r', Vals.inj t t']
section
variable {X : Cx} {pins : List (Addr × Obj)} {σ : St} {H : Hp} {s : Shared} {a : Addr} {xs ys : List V}
theorem SqL.of {K : PySem.W.Frag} (h : H a = some (.lst xs)) : SqL K H a xs := .inl (.inl h)
theorem SqT.of {K : PySem.W.Frag} (h : H a = some (.tup xs)) : SqT K H a xs := .inl (.inl h)
theorem Inv.list (I : Inv X pins σ H s) (h : SqL X.K H a xs) : ∃ its : List Value, Vals xs its ∧ PlainL s.heap a its.toArray ∧ xs.length ≤ sizeLine := by
  rcases h with h | ⟨o, its, n, hk, hc, hd, hs, hz, r⟩
  · obtain ⟨z, its, n, r, e⟩ := h.ok I.hok
    exact ⟨its, r, ⟨_, n, e, rfl, rfl, rfl⟩, z⟩
  · refine ⟨its.toList, r, ⟨o, n, I.kIn a o hk, hc, hd, by simpa using hs⟩, ?_⟩
    have e := r.length
    simp only [Array.length_toList] at e
    omega
theorem Inv.tuple (I : Inv X pins σ H s) (h : SqT X.K H a xs) : ∃ its : List Value, Vals xs its ∧ IsTup s.heap a its.toArray ∧ xs.length ≤ sizeLine := by
  rcases h with h | ⟨o, its, n, hk, hc, hs, hz, r⟩
  · obtain ⟨z, its, r, p⟩ := h.ok I.hok
    exact ⟨its, r, p, z⟩
  · refine ⟨its.toList, r, ⟨o, I.kIn a o hk, hc, n, by simpa using hs⟩, ?_⟩
    have e := r.length
    simp only [Array.length_toList] at e
    omega
theorem Inv.list_inj (I : Inv X pins σ H s) (h : SqL X.K H a xs) (h' : SqL X.K H a ys) : xs = ys := by
  obtain ⟨its, r, ⟨o, n, e, _, _, d⟩, _⟩ := I.list h
  obtain ⟨its', r', ⟨o', n', e', _, _, d'⟩, _⟩ := I.list h'
  rw [e] at e'; cases e'
  rw [d] at d'
  injection d' with d1 _
  have : its = its' := by simpa using congrArg Array.toList d1
  subst this
  exact r.inj r'
end
abbrev Cx.wish (X : Cx) (E : Value → Shared → Prop) : Cx := { X with xe := E }
abbrev Cx.nox (X : Cx) : Cx := X.wish fun _ _ => False
theorem Cx.Ok.wish {X : Cx} (ok : X.Ok) (E : Value → Shared → Prop) : (X.wish E).Ok :=
  ⟨ok.mod, ok.kind, ok.glob, ok.blt, ok.above, ok.inj, ok.has, ok.cab, ok.hd, ok.frames, ok.stk, ok.exf, ok.bs, ok.bsz, ok.noex, ok.exfs, ok.funs, ok.frf⟩
theorem Cx.Ok.unwish {X : Cx} {E : Value → Shared → Prop} (ok : (X.wish E).Ok) : X.Ok :=
  ⟨ok.mod, ok.kind, ok.glob, ok.blt, ok.above, ok.inj, ok.has, ok.cab, ok.hd, ok.frames, ok.stk, ok.exf, ok.bs, ok.bsz, ok.noex, ok.exfs, ok.funs, ok.frf⟩
section
variable {X : Cx} {pins : List (Addr × Obj)} {σ : St} {H : Hp} {s : Shared} {E : Value → Shared → Prop}
theorem Inv.wish (I : Inv X pins σ H s) (E : Value → Shared → Prop) : Inv (X.wish E) pins σ H s := ⟨I.ok.wish E, I.os, I.bare, I.base, I.loc, I.cell, I.free, I.freeC, I.pin, I.hok, I.len⟩
theorem Inv.unwish (I : Inv (X.wish E) pins σ H s) : Inv X pins σ H s := ⟨I.ok.unwish, I.os, I.bare, I.base, I.loc, I.cell, I.free, I.freeC, I.pin, I.hok, I.len⟩
theorem SP.unwish {D : Ends} {f : Flow} {s' : Shared} (h : SP (X.wish E) pins D f s') : SP X pins D f s' := by
  cases f with
  | next => obtain ⟨σ', H', I, q⟩ := h; exact ⟨σ', H', I.unwish, q⟩
  | brk => obtain ⟨σ', H', I, q⟩ := h; exact ⟨σ', H', I.unwish, q⟩
  | cont => obtain ⟨σ', H', I, q⟩ := h; exact ⟨σ', H', I.unwish, q⟩
  | ret u => obtain ⟨v, σ', H', I, r, q⟩ := h; exact ⟨v, σ', H', I.unwish, r, q⟩
theorem PSs.nox {st : List Stmt} {t : TS} (h : PSs X.nox st t) : PSs X st t := fun pins s σ H D I hw =>
  wpAny_mono (h pins s σ H D (I.wish _) hw) (fun _ _ q => q.unwish) fun _ _ z => False.elim z
end
section
variable {X : Cx} {st : Stmt} {rest : List Stmt} {t u : TS} {e : Expr} {te : TE} {pos : Pos}
def tNext : TS := fun D σ H => D.nx σ H
def tSeq (t u : TS) : TS := fun D σ H => t { D with nx := u D } σ H
theorem pss_nil : PSs X [] tNext := fun _ _ σ H _ I h => wpAny_execs_nil ⟨σ, H, I, h⟩
theorem pss_cons (h1 : PS X st t) (h2 : PSs X rest u) : PSs X (st :: rest) (tSeq t u) := by
  intro pins s σ H D I h
  refine wpAny_execs_cons (thn (h1 pins s σ H { D with nx := u D } I h) fun f s1 q => ?_)
  cases f with
  | next =>
    obtain ⟨σ', H', I', q⟩ := q
    exact h2 pins s1 σ' H' D I' q
  | ret v => exact q
  | brk => exact q
  | cont => exact q
theorem pss_one (h1 : PS X st t) : PSs X [st] t := by
  intro pins s σ H D I h
  refine wpAny_execs_cons (thn (h1 pins s σ H D I h) fun f s1 q => ?_)
  cases f with
  | next => exact wpAny_execs_nil q
  | ret v => exact q
  | brk => exact q
  | cont => exact q
theorem Inv.quiet {pins : List (Addr × Obj)} {σ : St} {H : Hp} {s : Shared} (I : Inv X pins σ H s) : interactive X.env = false := by simp [interactive, I.ok.kind]
def tDrop (te : TE) : TS := fun D σ H => te σ H fun _ H1 => D.nx σ H1
theorem ps_expr (he : PE X e te) (hs : swapsWith e none pos.line X.env = pure false := by rfl) : PS X (.Expr e pos) (tDrop te) := by
  intro pins s σ H D I h
  exact wpAny_Expr_any (thn (he pins s σ H _ I h) fun v s1 ⟨x, H1, I1, r1, q1⟩ => ⟨σ, H1, I1, q1⟩) I.quiet hs
def tRet (te : TE) : TS := fun D σ H => te σ H D.rt
theorem ps_ret (he : PE X e te) : PS X (.Return (some e) pos) (tRet te) := by
  intro pins s σ H D I h
  exact wpAny_Return_some (thn (he pins s σ H _ I h) fun v s1 ⟨x, H1, I1, r1, q1⟩ => ⟨x, σ, H1, I1, r1, q1⟩)
def tIfS (c : TT) (t u : TS) : TS := fun D σ H => c σ H fun b H1 => if b = true then t D σ H1 else u D σ H1
theorem ps_if {c : Expr} {a b : List Stmt} {tc : TT} (hc : PT X c tc) (ha : PSs X a t) (hb : PSs X b u) : PS X (.If c a b pos) (tIfS tc t u) := by
  intro pins s σ H D I h
  refine wpAny_If (thn (hc pins s σ H _ I h) fun d s1 ⟨H1, I1, q1⟩ => ?_)
  cases d with
  | true => exact ha pins s1 σ H1 D I1 q1
  | false => exact hb pins s1 σ H1 D I1 q1
end
abbrev TG := V → St → Hp → (St → Hp → Prop) → Prop
abbrev TGs := List V → St → Hp → (St → Hp → Prop) → Prop
def PG (X : Cx) (target : Expr) (t : TG) : Prop :=
  ∀ (pins : List (Addr × Obj)) (s : Shared) (σ : St) (H : Hp) (v : V) (u : Value) (Q : St → Hp → Prop), Inv X pins σ H s → RelV v u → t v σ H Q →
    wpAny (model X.prog X.w) X.A (assign target X.env u) (fun _ s' => ∃ σ' H', Inv X pins σ' H' s' ∧ Q σ' H') X.xe s
def PGs (X : Cx) (ts : List Expr) (t : TGs) : Prop :=
  ∀ (pins : List (Addr × Obj)) (s : Shared) (σ : St) (H : Hp) (vs : List V) (us : List Value) (Q : St → Hp → Prop), Inv X pins σ H s → Vals vs us → t vs σ H Q →
    wpAny (model X.prog X.w) X.A (assignInOrder ((assignEach ts X.env).map (·.2)) us) (fun _ s' => ∃ σ' H', Inv X pins σ' H' s' ∧ Q σ' H') X.xe s
abbrev TSet := V → V → V → Hp → (Hp → Prop) → Prop
def PSet (X : Cx) (t : TSet) : Prop :=
  ∀ (pins : List (Addr × Obj)) (s : Shared) (σ : St) (H : Hp) (o i v : V) (ov iv u : Value) (Q : Hp → Prop), Inv X pins σ H s → RelV o ov → RelV i iv → RelV v u → t o i v H Q →
    wpAny (model X.prog X.w) X.A (setItem ov iv u) (fun _ s' => ∃ H', Inv X pins σ H' s' ∧ Q H') X.xe s
section
variable {X : Cx} {pos : Pos}
def gName (i : Nat) : TG := fun v σ H Q => Q (σ.set i (some v)) H
theorem pg_name {i : Nat} {x : Str} (hN : X.N.Nodup) (hi : X.N[i]? = some x) (hx : Loc X.env.scope x) (hf : X.fn x = true ∨ X.env.scope.names.lookup x = some .local := by first | exact .inl rfl | exact .inr rfl | assumption) : PG X (.Name x pos) (gName i) := by
  intro pins s σ H v u Q I r h
  exact wpAny_assign_Name (store_ok I hN hi hx r (fun s' I' => ⟨_, H, I', h⟩) hf)
def gNil : TGs := fun vs σ H Q => vs = [] ∧ Q σ H
def gCons (t : TG) (u : TGs) : TGs := fun vs σ H Q => ∃ v r, vs = v :: r ∧ t v σ H fun σ' H' => u r σ' H' Q
theorem pgs_nil : PGs X [] gNil := by
  intro pins s σ H vs us Q I r h
  obtain ⟨e, h⟩ := h
  subst e
  cases r
  exact assignInOrder_nil ⟨σ, H, I, h⟩
theorem pgs_cons {e : Expr} {es : List Expr} {t : TG} {u : TGs} (h1 : PG X e t) (h2 : PGs X es u)
    (hs : (assignEach (e :: es) X.env).map (·.2) = assign e X.env :: (assignEach es X.env).map (·.2) := by rfl) : PGs X (e :: es) (gCons t u) := by
  intro pins s σ H vs us Q I r h
  obtain ⟨v, vr, e1, h⟩ := h
  subst e1
  cases r with
  | cons r rr =>
    rw [hs]
    refine assignInOrder_cons (thn (h1 pins s σ H _ _ _ I r h) fun _ s1 ⟨σ1, H1, I1, q1⟩ => ?_)
    exact h2 pins s1 σ1 H1 _ _ Q I1 rr q1
def gTup (K : PySem.W.Frag) (n : Nat) (t : TGs) : TG := fun v σ H Q => ∃ a xs, v = .ref a ∧ SqT K H a xs ∧ xs.length = n ∧ t xs σ H Q
theorem pg_tup {es : List Expr} {k : Nat} {t : TGs} {n : Nat} (hc : X.calm = true) (h : PGs X es t)
    (hn : (assignEach es X.env).length = n := by rfl) (hst : (assignEach es X.env).findIdx? (·.1) = none := by rfl) : PG X (.Tuple es k pos) (gTup X.K n t) := by
  intro pins s σ H v u Q I r hw
  obtain ⟨a, xs, e1, hq, hl, hw⟩ := hw
  subst e1
  cases r
  obtain ⟨its, rv, ht, hz⟩ := I.tuple hq
  refine assign_Tuple_tuple (I.ok.hd hc) ht (by simp [hn, ← hl, rv.length]) hst fun h' hx => ?_
  have I1 : Inv X pins σ H { s with heap := h' } := I.kept (t' := s.toks) fun b o e => hx b o (Nat.ne_of_lt (Heap.lt_size e)) e
  exact h pins _ σ H xs _ Q I1 (by simpa using rv) hw
def gSub (to ti : TE) (t : TSet) : TG := fun v σ H Q => to σ H fun o H1 => ti σ H1 fun i H2 => t o i v H2 fun H3 => Q σ H3
theorem pg_sub {o i : Expr} {to ti : TE} {t : TSet} (ho : PE X o to) (hi : PE X i ti) (hs : PSet X t)
    (ha : ∀ v, assign (.Subscript o i pos) X.env v = (do
      let ov ← holding [v] (eval o X.env)
      let iv ← holding [v, ov] (eval i X.env)
      standAt pos
      holding [v, ov, iv] (setItem ov iv v)
      release [v, ov, iv] []) := by intro _; rfl) : PG X (.Subscript o i pos) (gSub to ti t) := by
  intro pins s σ H v u Q I r h
  rw [ha]
  refine wpAny_bind (wpAny_holding (thn (ho pins s σ H _ I h) fun ov s1 ⟨x, H1, I1, r1, q1⟩ => ?_))
  refine wpAny_bind (wpAny_holding (thn (hi pins s1 σ H1 _ I1 q1) fun iv s2 ⟨y, H2, I2, r2, q2⟩ => ?_))
  refine wpAny_bind (wpAny_standAt (wpAny_bind (wpAny_holding (thn (hs pins s2 σ H2 x y v ov iv u _ I2 r1 r2 r q2) fun _ s3 ⟨H3, I3, q3⟩ => ?_))))
  exact wpAny_release ⟨σ, H3, I3, q3⟩
def tAsg (te : TE) (g : TG) : TS := fun D σ H => te σ H fun x H1 => g x σ H1 D.nx
theorem ps_asg {tg e : Expr} {te : TE} {g : TG} (he : PE X e te) (hg : PG X tg g) (hs : swapsWithSole [tg] e pos.line X.env = pure false := by rfl) (hw : swappedStores [tg] e X.env = pure none := by rfl)
    (h1 : (assignEach [tg] X.env).map (·.2) = [assign tg X.env] := by rfl) : PS X (.Assign [tg] e pos) (tAsg te g) := by
  intro pins s σ H D I h
  refine wpAny_Assign_stores (thn (he pins s σ H _ I h) fun v s1 ⟨x, H1, I1, r1, q1⟩ => ?_) hs hw
  rw [h1]
  exact thn (hg pins s1 σ H1 x v _ I1 r1 q1) fun _ s2 q => q
theorem ps_set {i : Nat} {x : Str} {e : Expr} {te : TE} {pos' : Pos} (hN : X.N.Nodup) (hi : X.N[i]? = some x) (hx : Loc X.env.scope x) (he : PE X e te) (hs : swapsWith e (some (.Name x pos')) pos.line X.env = pure false := by rfl) (hf : X.fn x = true ∨ X.env.scope.names.lookup x = some .local := by first | exact .inl rfl | exact .inr rfl | assumption) :
    PS X (.Assign [.Name x pos'] e pos) (tAsg te (gName i)) := by
  intro pins s σ H D I h
  refine wpAny_Assign_Name (thn (he pins s σ H _ I h) fun v s1 ⟨y, H1, I1, r1, q1⟩ => ?_) hs
  exact store_ok I1 hN hi hx r1 (fun s2 I2 => ⟨_, H1, I2, q1⟩) hf
end
section
variable {X : Cx} {pos : Pos}
def tWhile (c : TT) (tb : TS) : TS := fun D σ H => ∃ W : Nat → St → Hp → Prop, (∃ m, W m σ H) ∧ ∀ m σ H, W m σ H →
  c σ H fun b H1 => if b = true then ∃ N : St → Hp → Prop, (∀ σ' H', N σ' H' → ∃ m', m' < m ∧ W m' σ' H') ∧ tb { D with nx := N, ct := N, bk := D.nx } σ H1 else D.nx σ H1
theorem ps_while {c : Expr} {body : List Stmt} {tc : TT} {tb : TS} (hp : PassesOwn (model X.prog X.w) X.A X.env X.xe) (hc : PT X c tc) (hb : PSs X body tb) : PS X (.While c body [] pos) (tWhile tc tb) := by
  intro pins s σ H D I h
  obtain ⟨W, ⟨m0, w0⟩, turn⟩ := h
  refine wpAny_While (codeAny_whileLoop (fun n s' => ∃ σ' H', Inv X pins σ' H' s' ∧ W n σ' H') ?_ m0 ⟨σ, H, I, w0⟩)
  rintro n s1 ⟨σ1, H1, I1, w1⟩
  refine wpAny_passesOwn hp (thn (hc pins s1 σ1 H1 _ I1 (turn n σ1 H1 w1)) fun b s2 ⟨H2, I2, q2⟩ => ?_)
  cases b with
  | true =>
    obtain ⟨N, hN, q2⟩ := q2
    rw [if_pos rfl]
    refine wpAny_passesOwn hp (thn (hb pins s2 σ1 H2 _ I2 q2) fun f s3 q3 => ?_)
    cases f with
    | next =>
      obtain ⟨σ3, H3, I3, n3⟩ := q3
      obtain ⟨m', hm, w3⟩ := hN σ3 H3 n3
      exact ⟨m', hm, σ3, H3, I3, w3⟩
    | cont =>
      obtain ⟨σ3, H3, I3, n3⟩ := q3
      obtain ⟨m', hm, w3⟩ := hN σ3 H3 n3
      exact ⟨m', hm, σ3, H3, I3, w3⟩
    | brk => exact q3
    | ret v => exact q3
  | false =>
    rw [if_neg Bool.false_ne_true]
    exact wpAny_execs_nil ⟨σ1, H2, I2, q2⟩
end
structure It where
  go : Nat → Hp → Prop
  yld : Nat → Hp → V → Hp → Prop
  stop : Nat → Hp → Prop
def FpOk (X : Cx) (pins : List (Addr × Obj)) (H : Hp) (b : Addr) : Prop :=
  H b = none ∧ b ≠ X.env.locals ∧ b ∉ X.fs ∧ (b ∈ X.ex ∨ X.s_0.heap.objs.size ≤ b) ∧ (∀ x c, X.env.cells.lookup x = some c → c ≠ b) ∧ ∀ p ∈ X.pn ++ pins, p.1 ≠ b
theorem Inv.fpOk {X : Cx} {pins : List (Addr × Obj)} {σ : St} {H H' : Hp} {s : Shared} {b : Addr} (I : Inv X pins σ H s) (hb : s.heap.objs.size ≤ b) (hn : H' b = none) : FpOk X pins H' b := by
  refine ⟨hn, Nat.ne_of_gt (Nat.lt_of_lt_of_le I.lt hb), I.nofs hb, .inr (Nat.le_trans I.sz hb), fun x c e z => ?_, fun p hp z => ?_⟩
  · obtain ⟨v, q⟩ := I.cell x c e
    exact absurd (Nat.lt_of_lt_of_le q.lt (by rw [z]; exact hb)) (Nat.lt_irrefl _)
  · exact absurd (Nat.lt_of_lt_of_le (Heap.lt_size (I.pin p hp).1) (by rw [z]; exact hb)) (Nat.lt_irrefl _)
structure Turn (P : Program) (w : World) (K : PySem.W.Frag) (tg : Expr) (J : It) (fp : List Addr) (it : Addr) (tn : Nat → Heap → Prop) : Prop where
  mem : it ∈ fp
  obj : ∀ i h, tn i h → ∀ b ∈ fp, ∃ o, h.get? b = some o ∧ ∀ v, o.data ≠ .cell v
  keep : ∀ i h h', tn i h → (∀ b ∈ fp, ∀ o, h.get? b = some o → h'.get? b = some o) → tn i h'
  item : ∀ (X : Cx), X.prog = P → X.w = w → X.K = K → X.calm = true → ∀ (i : Nat) (pins : List (Addr × Obj)) (s : Shared) (σ : St) (H : Hp) (E : Value → Shared → Prop), Inv X pins σ H s → (∀ b ∈ fp, FpOk X pins H b) → tn i s.heap → J.go i H →
    wpAny (model P w) X.A (pyNext (.ref it)) (fun r s1 => ∃ u, r = some u ∧
      wpAny (model P w) X.A (letOwnedTupleGo tg (.ref it) u) (fun _ s2 => ∃ x H', Inv X pins σ H' s2 ∧ RelV x u ∧ J.yld i H x H' ∧ tn (i + 1) s2.heap ∧ ∀ b ∈ fp, H' b = none) E s1) E s
  done : ∀ (X : Cx), X.prog = P → X.w = w → X.K = K → X.calm = true → ∀ (i : Nat) (pins : List (Addr × Obj)) (s : Shared) (σ : St) (H : Hp) (E : Value → Shared → Prop), Inv X pins σ H s → (∀ b ∈ fp, FpOk X pins H b) → tn i s.heap → J.stop i H →
    wpAny (model P w) X.A (pyNext (.ref it)) (fun r s1 => r = none ∧ Inv X pins σ H s1) E s
  self : ∀ (A : Around) (i : Nat) (s : Shared) (Q : Value → Shared → Prop) (E : Value → Shared → Prop), tn i s.heap → Q (.ref it) s → wpAny (model P w) A (pyIter (.ref it)) Q E s
abbrev TI := St → Hp → (It → Hp → Prop) → Prop
def PIE (X : Cx) (pins : List (Addr × Obj)) (σ : St) (tg : Expr) (R : It → Hp → Prop) (itv : Value) (s2 : Shared) : Prop :=
  ∃ (it : Addr) (fp : List Addr) (tn : Nat → Heap → Prop) (J : It) (H' : Hp), itv = .ref it ∧ Inv X pins σ H' s2 ∧ Turn X.prog X.w X.K tg J fp it tn ∧ tn 0 s2.heap ∧ (∀ b ∈ fp, FpOk X pins H' b) ∧ R J H'
def PI (X : Cx) (tg iter : Expr) (wi : TI) : Prop :=
  ∀ (pins : List (Addr × Obj)) (s : Shared) (σ : St) (H : Hp) (R : It → Hp → Prop), Inv X pins σ H s → wi σ H R →
    wpAny (model X.prog X.w) X.A (eval iter X.env) (fun v s1 => wpAny (model X.prog X.w) X.A (pyIter v) (PIE X pins σ tg R) X.xe s1) X.xe s
theorem go_of {M : Model} {A : Around} {E : Value → Shared → Prop} {s : Shared} {tg : Expr} {it : Addr} {u : Value} {o : Obj} {n : String} {vs : Array Value} {Q : Unit → Shared → Prop} (ho : s.heap.get? it = some o) (hc : o.cls = .type n) (hd : o.data = .fields vs)
    (hn : ["enumerate", "zip", "dict_itemiterator", "dict_reverseitemiterator", "odict_iterator", "itertools.zip_longest", "itertools.pairwise"].contains n = false) (hQ : Q () s) : wpAny M A (letOwnedTupleGo tg (.ref it) u) Q E s := by
  unfold letOwnedTupleGo
  cases tg <;> first
    | exact wpAny_pure hQ
    | (cases u <;> first
        | exact wpAny_pure hQ
        | (refine wpAny_bind (wpAny_load ho ?_)
           rw [hc, hd]
           show wpAny M A (if (["enumerate", "zip", "dict_itemiterator", "dict_reverseitemiterator", "odict_iterator", "itertools.zip_longest", "itertools.pairwise"].contains n && vs[0]? == some (rawInt _)) = true then _ else _) Q E s
           rw [if_neg (by intro h; rw [hn, Bool.false_and] at h; cases h)]
           exact wpAny_pure hQ))
def Itl (K : PySem.W.Frag) (a : Addr) : It :=
  ⟨fun i H => ∃ xs x, SqL K H a xs ∧ xs[i]? = some x, fun i H x H' => H' = H ∧ ∀ xs, SqL K H a xs → xs[i]? = some x, fun i H => ∃ xs, SqL K H a xs ∧ xs.length ≤ i⟩
def Itr (lo : Int) (n : Nat) : It := ⟨fun i _ => i < n, fun i H x H' => H' = H ∧ x = .int (lo + i), fun i _ => n ≤ i⟩
theorem turn_list {P : Program} {w : World} {K : PySem.W.Frag} {tg : Expr} (a it : Addr) : Turn P w K tg (Itl K a) [it] it (fun i h => h.IsListIter it a i) where
  mem := by simp
  obj := fun i h st b hb => by
    have e : b = it := by simpa using hb
    subst e
    obtain ⟨o, e, c, d⟩ := st
    exact ⟨o, e, fun v z => by rw [d] at z; cases z⟩
  keep := fun i h h' st k => st.at fun o e => k it (by simp) o e
  item := by
    intro X hP hw hK hc i pins s σ H E I hf st hg
    subst hP hw hK
    obtain ⟨xs, x, hq, hx⟩ := hg
    obtain ⟨its, rv, p, hz⟩ := I.list hq
    obtain ⟨u, hu, ru⟩ := rv.get hx
    obtain ⟨f0, f1, f2, f3, f4, f5⟩ := hf it (by simp)
    refine wpAny_pyNext_list_item st p.isList (x := u) (by simpa using hu) fun h' st' sb => ?_
    have I1 : Inv X pins σ H { s with heap := h' } := I.turned (t' := s.toks) (fun b o hb e => (sb.2 b hb).trans e) f0 f1 f3 f4 f5
    obtain ⟨o, e, c, d⟩ := id st'
    exact ⟨u, rfl, go_of (s := { s with heap := h' }) e c d (by decide) ⟨x, H, I1, ru, ⟨rfl, fun ys hy => by rw [I.list_inj hy hq]; exact hx⟩, st', fun b hb => (hf b hb).1⟩⟩
  done := by
    intro X hP hw hK hc i pins s σ H E I hf st hg
    subst hP hw hK
    obtain ⟨xs, hq, hx⟩ := hg
    obtain ⟨its, rv, p, hz⟩ := I.list hq
    obtain ⟨f0, f1, f2, f3, f4, f5⟩ := hf it (by simp)
    have hl := rv.length
    exact wpAny_pyNext_list_end (I.ok.hd hc) st p.isList (by simp; omega) fun h' eb => ⟨rfl, I.turned (t' := s.toks) (fun b o hb e => eb b o hb e) f0 f1 f3 f4 f5⟩
  self := fun _ _ _ _ _ st h => wpAny_pyIter_listiter st h
theorem turn_range {P : Program} {w : World} {K : PySem.W.Frag} {tg : Expr} (it : Addr) (lo : Int) (n : Nat) : Turn P w K tg (Itr lo n) [it] it (fun i h => IsRangeIter h it (lo + (i : Nat) * 1) ((n : Int) - (i : Nat)) 1) where
  mem := by simp
  obj := fun i h st b hb => by
    have e : b = it := by simpa using hb
    subst e
    exact ⟨_, st, fun v z => by
      have z' : Data.fields _ = Data.cell v := z
      cases z'⟩
  keep := fun i h h' st k => k it (by simp) _ st
  item := by
    intro X hP hw hK hc i pins s σ H E I hf st hg
    subst hP hw hK
    obtain ⟨f0, f1, f2, f3, f4, f5⟩ := hf it (by simp)
    have W := Walks.range (prog := X.prog) (w := X.w) (I.ok.hd hc) it lo 1 n
    refine W.item i s _ _ hg st fun v h' tk hv st' kk => ?_
    obtain ⟨t, rfl⟩ := hv
    have I1 : Inv X pins σ H { s with heap := h', toks := tk } := I.turned (fun b o hb e => kk b o (by simpa using hb) e) f0 f1 f3 f4 f5
    refine ⟨_, rfl, go_of (s := { s with heap := h', toks := tk }) (n := "range_iterator") st' rfl rfl (by decide) ⟨.int (lo + i), H, I1, ⟨t, ?_⟩, ⟨rfl, rfl⟩, st', fun b hb => (hf b hb).1⟩⟩
    rw [Int.mul_one]
  done := by
    intro X hP hw hK hc i pins s σ H E I hf st hg
    subst hP hw hK
    obtain ⟨f0, f1, f2, f3, f4, f5⟩ := hf it (by simp)
    exact wpAny_pyNext_range_end (I.ok.hd hc) st (by have : n ≤ i := hg; omega) fun h' eb => ⟨rfl, I.turned (t' := s.toks) (fun b o hb e => eb b o hb e) f0 f1 f3 f4 f5⟩
  self := fun _ _ _ _ _ st h => wpAny_pyIter_rangeiter st h
end L2
namespace L2
open PySem PySem.Spec PyProof.Rows
section
variable {X : Cx} {tg : Expr}
def iList (K : PySem.W.Frag) (tl : TE) : TI := fun σ H R => tl σ H fun x H1 => ∃ a, x = .ref a ∧ (∃ xs, SqL K H1 a xs) ∧ R (Itl K a) H1
theorem pi_list {l : Expr} {tl : TE} (hl : PE X l tl) : PI X tg l (iList X.K tl) := by
  intro pins s σ H R I h
  refine thn (hl pins s σ H _ I h) fun v s1 ⟨x, H1, I1, r1, q1⟩ => ?_
  obtain ⟨a, e, ⟨xs, hq⟩, q⟩ := q1
  subst e
  cases r1
  obtain ⟨its, rv, p, hz⟩ := I1.list hq
  refine wpAny_pyIter_list p.isList ?_
  refine ⟨s1.heap.objs.size, [s1.heap.objs.size], _, _, H1, rfl, I1.kept (t' := s1.toks) fun b o e => Heap.get?_push_of_some _ e, turn_list a _, ⟨_, Heap.get?_push_size _ rfl, rfl, rfl⟩, fun b hb => ?_, q⟩
  have e : b = s1.heap.objs.size := by simpa using hb
  subst e
  exact I1.fpOk (Nat.le_refl _) (I1.hok.fresh (Nat.le_refl _))
theorem range_it {pins : List (Addr × Obj)} {σ : St} {H : Hp} {s : Shared} {R : It → Hp → Prop} {E : Value → Shared → Prop} {lo hi : Int} {t u v : Tok} {tk : Nat} (I : Inv X pins σ H s) (h1 : -(2 ^ 62) ≤ lo) (h2 : lo < 2 ^ 62) (h3 : -(2 ^ 62) ≤ hi) (h4 : hi < 2 ^ 62)
    (q : R (Itr lo (hi - lo).toNat) H) : wpAny (model X.prog X.w) X.A (pyIter (.ref s.heap.objs.size)) (PIE X pins σ tg R) E { s with heap := s.heap.push { cls := .type "range", data := .fields #[.int lo t, .int hi u, .int 1 v] }, toks := tk } := by
  refine wpAny_pyIter_range (IsRange.new ..) (small_one h1 h2 h3 h4) ?_
  have I1 : Inv X pins σ H { s with heap := s.heap.push { cls := .type "range", data := .fields #[.int lo t, .int hi u, .int 1 v] }, toks := tk } := I.kept fun b o e => Heap.get?_push_of_some _ e
  refine ⟨(s.heap.push { cls := .type "range", data := .fields #[.int lo t, .int hi u, .int 1 v] }).objs.size, [(s.heap.push { cls := .type "range", data := .fields #[.int lo t, .int hi u, .int 1 v] }).objs.size], _, _, H, rfl,
    I1.kept (t' := tk) fun b o e => Heap.get?_push_of_some _ e, turn_range _ lo (hi - lo).toNat, ?_, fun b hb => ?_, q⟩
  · have e1 : lo + ((0 : Nat) : Int) * 1 = lo := by simp
    have e2 : (((hi - lo).toNat : Nat) : Int) - ((0 : Nat) : Int) = Builtin.Range.rangeSize lo hi 1 := by rw [rangeSize_one]; split <;> omega
    show IsRangeIter _ _ (lo + ((0 : Nat) : Int) * 1) ((((hi - lo).toNat : Nat) : Int) - ((0 : Nat) : Int)) 1
    rw [e1, e2]
    exact Heap.get?_push_size _ rfl
  · have e : b = (s.heap.push { cls := .type "range", data := .fields #[.int lo t, .int hi u, .int 1 v] }).objs.size := by simpa using hb
    subst e
    exact I1.fpOk (Nat.le_refl _) (I1.hok.fresh (Nat.le_refl _))
def iRng1 (ta : TA) : TI := fun σ H R => ta σ H fun vs H1 => ∃ j : Int, vs = [.int j] ∧ -(2 ^ 62) ≤ j ∧ j < 2 ^ 62 ∧ R (Itr 0 j.toNat) H1
def iRng2 (ta : TA) : TI := fun σ H R => ta σ H fun vs H1 => ∃ i j : Int, vs = [.int i, .int j] ∧ (-(2 ^ 62) ≤ i ∧ i < 2 ^ 62 ∧ -(2 ^ 62) ≤ j ∧ j < 2 ^ 62) ∧ R (Itr i (j - i).toNat) H1
theorem pi_range1 {a : Expr} {ta : TA} {p pos : Pos} (hg : Gl X "range") (hm : X.mg "range" = none) (ha : PA X [a] ta) (hs : starEach [a] X.env = [(false, eval a X.env)] := by rfl) : PI X tg (.Call (.Name "range" p) [a] [] pos) (iRng1 ta) := by
  intro pins s σ H R I h
  refine Call_ (ld_blt I hg hm boot_range (PyProof.Rows.callWith_type1 (thn (ha pos pins s σ H _ I h) fun us s1 ⟨vs, H1, I1, r1, q1⟩ => ?_) hs rfl))
  obtain ⟨j, e, q1, q2, q⟩ := q1
  subst e
  cases r1 with
  | cons r rr =>
    cases rr
    obtain ⟨t, rfl⟩ := r
    exact call_range_1 (range_it I1 (by omega) (by omega) q1 q2 (by simpa using q))
theorem pi_range2 {a b : Expr} {ta : TA} {p pos : Pos} (hg : Gl X "range") (hm : X.mg "range" = none) (ha : PA X [a, b] ta) (hs : starEach [a, b] X.env = [(false, eval a X.env), (false, eval b X.env)] := by rfl) (hs2 : starEach [b] X.env = [(false, eval b X.env)] := by rfl) :
    PI X tg (.Call (.Name "range" p) [a, b] [] pos) (iRng2 ta) := by
  intro pins s σ H R I h
  refine Call_ (ld_blt I hg hm boot_range (PyProof.Rows.callWith_type1 (thn (ha pos pins s σ H _ I h) fun us s1 ⟨vs, H1, I1, r1, q1⟩ => ?_) (by rw [hs, hs2]) (by rw [hs2]; rfl)))
  obtain ⟨i, j, e, ⟨q1, q2, q3, q4⟩, q⟩ := q1
  subst e
  cases r1 with
  | cons r rr =>
    cases rr with
    | cons r' rr =>
      cases rr
      obtain ⟨t, rfl⟩ := r
      obtain ⟨t', rfl⟩ := r'
      exact call_range_2 (range_it I1 q1 q2 q3 q4 q)
def tFor (wi : TI) (g : TG) (tb : TS) : TS := fun D σ H => wi σ H fun J H1 => ∃ W : Nat → Nat → St → Hp → Prop, (∃ m, W 0 m σ H1) ∧ ∀ i m σ H, W i m σ H →
  (J.stop i H ∧ D.nx σ H) ∨ (J.go i H ∧ ∃ N : St → Hp → Prop, (∀ σ' H', N σ' H' → ∃ m', m' < m ∧ W (i + 1) m' σ' H') ∧ ∀ x H', J.yld i H x H' → g x σ H' fun σ2 H2 => tb { D with nx := N, ct := N, bk := D.nx } σ2 H2)
def pinsAt (fp : List Addr) (h : Heap) : List (Addr × Obj) := fp.filterMap fun b => (h.get? b).map fun o => (b, o)
theorem mem_pinsAt {fp : List Addr} {h : Heap} {b : Addr} {o : Obj} (hb : b ∈ fp) (e : h.get? b = some o) : (b, o) ∈ pinsAt fp h := List.mem_filterMap.mpr ⟨b, hb, by rw [e]; rfl⟩
theorem of_pinsAt {fp : List Addr} {h : Heap} {p : Addr × Obj} (hp : p ∈ pinsAt fp h) : p.1 ∈ fp ∧ h.get? p.1 = some p.2 := by
  obtain ⟨b, hb, e⟩ := List.mem_filterMap.mp hp
  cases q : h.get? b with
  | none => rw [q] at e; cases e
  | some o =>
    rw [q] at e
    have e' : (b, o) = p := Option.some.inj e
    subst e'
    exact ⟨hb, q⟩
theorem Inv.pinned {pins : List (Addr × Obj)} {σ : St} {H : Hp} {s : Shared} {fp : List Addr} (I : Inv X pins σ H s) (hf : ∀ b ∈ fp, FpOk X pins H b) (ho : ∀ b ∈ fp, ∃ o, s.heap.get? b = some o ∧ ∀ v, o.data ≠ .cell v) : Inv X (pins ++ pinsAt fp s.heap) σ H s :=
  I.pins_of fun p hp => (List.mem_append.mp hp).elim (fun z => I.pin p (List.mem_append_right _ z)) fun z => by
    obtain ⟨hb, e⟩ := of_pinsAt z
    obtain ⟨f0, f1, f2, _⟩ := hf p.1 hb
    obtain ⟨o, e', d⟩ := ho p.1 hb
    rw [e] at e'; cases e'
    exact ⟨e, f0, f1, f2, d⟩
theorem Inv.unpinned {pins pl : List (Addr × Obj)} {σ : St} {H : Hp} {s : Shared} (I : Inv X (pins ++ pl) σ H s) : Inv X pins σ H s := I.pins_of fun p hp => I.pin p (List.mem_append_right _ (List.mem_append_left _ hp))
theorem ps_for {iter : Expr} {body : List Stmt} {wi : TI} {g : TG} {tb : TS} {pos : Pos} (hp : PassesOwn (model X.prog X.w) X.A X.env X.xe) (hc : X.calm = true) (hi : PI X tg iter wi) (hg : PG X tg g) (hb : PSs X body tb)
    (hs : ∀ x, foldedSetIterable iter X.env x = pure x := by intro _; rfl) : PS X (.For tg iter body [] pos) (tFor wi g tb) := by
  intro pins s σ H D I h
  refine wpAny_For (thn (hi pins s σ H _ I h) fun v s1 h1 => thn h1 fun itv s2 h2 => ?_) hs
  obtain ⟨it, fp, tn, J, H2, e, I2, T, st2, f2, W, ⟨m0, w0⟩, turn⟩ := h2
  subst e
  -- what stays true of the iterator's objects through the loop
  have stat : ∀ {H' : Hp}, (∀ b ∈ fp, H' b = none) → ∀ b ∈ fp, FpOk X pins H' b := fun hn b hb => ⟨hn b hb, (f2 b hb).2⟩
  refine codeAny_forLoop_any (fun n s' => ∃ i σ' H', Inv X pins σ' H' s' ∧ tn i s'.heap ∧ (∀ b ∈ fp, H' b = none) ∧ W i n σ' H') ?_ m0 ⟨0, σ, H2, I2, st2, fun b hb => (f2 b hb).1, w0⟩
  rintro n s3 ⟨i, σ3, H3, I3, st3, fr3, w3⟩
  rcases turn i n σ3 H3 w3 with ⟨stop, qn⟩ | ⟨go, N, hN, step⟩
  · refine wpAny_passesOwn hp (thn (T.done X rfl rfl rfl hc i pins s3 σ3 H3 X.xe I3 (stat fr3) st3 stop) fun r s4 ⟨hr, I4⟩ => ?_)
    subst hr
    exact wpAny_execs_nil ⟨σ3, H3, I4, qn⟩
  · refine wpAny_passesOwn hp (thn (T.item X rfl rfl rfl hc i pins s3 σ3 H3 X.xe I3 (stat fr3) st3 go) fun r s4 ⟨u, hr, h4⟩ => ?_)
    subst hr
    refine wpAny_passesOwn hp (thn h4 fun _ s5 ⟨x, H5, I5, r5, y5, st5, fr5⟩ => ?_)
    have I5' := I5.pinned (stat fr5) (T.obj _ _ st5)
    refine wpAny_passesOwn hp (thn (hg _ s5 σ3 H5 x u _ I5' r5 (step x H5 y5)) fun _ s6 ⟨σ6, H6, I6, q6⟩ => ?_)
    refine wpAny_passesOwn hp (thn (hb _ s6 σ6 H6 _ I6 q6) fun f s7 q7 => ?_)
    have again : ∀ {σ7 : St} {H7 : Hp}, Inv X (pins ++ pinsAt fp s5.heap) σ7 H7 s7 → N σ7 H7 → ∃ m, m < n ∧ ∃ i σ' H', Inv X pins σ' H' s7 ∧ tn i s7.heap ∧ (∀ b ∈ fp, H' b = none) ∧ W i m σ' H' := fun {σ7 H7} I7 n7 => by
      obtain ⟨m', hm, w7⟩ := hN σ7 H7 n7
      refine ⟨m', hm, i + 1, σ7, H7, I7.unpinned, T.keep _ _ _ st5 fun b hb o e => (I7.pin (b, o) (List.mem_append_right _ (List.mem_append_right _ (mem_pinsAt hb e)))).1, fun b hb => ?_, w7⟩
      obtain ⟨o, e, d⟩ := T.obj _ _ st5 b hb
      exact (I7.pin (b, o) (List.mem_append_right _ (List.mem_append_right _ (mem_pinsAt hb e)))).2.1
    cases f with
    | next => obtain ⟨σ7, H7, I7, n7⟩ := q7; exact again I7 n7
    | cont => obtain ⟨σ7, H7, I7, n7⟩ := q7; exact again I7 n7
    | brk => obtain ⟨σ7, H7, I7, q7⟩ := q7; exact ⟨σ7, H7, I7.unpinned, q7⟩
    | ret v => obtain ⟨x7, σ7, H7, I7, r7, q7⟩ := q7; exact ⟨x7, σ7, H7, I7.unpinned, r7, q7⟩
end
theorem for_list {K : PySem.W.Frag} {a : Addr} {xs : List V} {g : TG} {tb : TS} {D : Ends} {σ : St} {H : Hp} (Pv : Nat → St → Hp → Prop) (h0 : Pv 0 σ H) (hl : ∀ i σ H, i ≤ xs.length → Pv i σ H → SqL K H a xs)
    (hs : ∀ i x σ H, xs[i]? = some x → Pv i σ H → g x σ H fun σ2 H2 => tb { D with nx := Pv (i + 1), ct := Pv (i + 1), bk := D.nx } σ2 H2) (hd : ∀ σ H, Pv xs.length σ H → D.nx σ H) :
    ∃ W : Nat → Nat → St → Hp → Prop, (∃ m, W 0 m σ H) ∧ ∀ i m σ H, W i m σ H →
      ((Itl K a).stop i H ∧ D.nx σ H) ∨ ((Itl K a).go i H ∧ ∃ N : St → Hp → Prop, (∀ σ' H', N σ' H' → ∃ m', m' < m ∧ W (i + 1) m' σ' H') ∧ ∀ x H', (Itl K a).yld i H x H' → g x σ H' fun σ2 H2 => tb { D with nx := N, ct := N, bk := D.nx } σ2 H2) := by
  refine ⟨fun i m σ H => m = xs.length - i ∧ i ≤ xs.length ∧ Pv i σ H, ⟨xs.length, by simp, Nat.zero_le _, h0⟩, ?_⟩
  rintro i m σ H ⟨rfl, hi, p⟩
  have q := hl i σ H hi p
  by_cases hlt : i < xs.length
  · refine .inr ⟨⟨xs, xs[i], q, by simp [hlt]⟩, Pv (i + 1), fun σ' H' p' => ⟨xs.length - (i + 1), by omega, rfl, hlt, p'⟩, fun x H' y => ?_⟩
    obtain ⟨e, y⟩ := y
    subst e
    exact hs i x σ _ (y xs q) p
  · have e : i = xs.length := by omega
    subst e
    exact .inl ⟨⟨xs, q, Nat.le_refl _⟩, hd σ H p⟩
theorem for_range {lo : Int} {n : Nat} {g : TG} {tb : TS} {D : Ends} {σ : St} {H : Hp} (Pv : Nat → St → Hp → Prop) (h0 : Pv 0 σ H)
    (hs : ∀ i σ H, i < n → Pv i σ H → g (.int (lo + i)) σ H fun σ2 H2 => tb { D with nx := Pv (i + 1), ct := Pv (i + 1), bk := D.nx } σ2 H2) (hd : ∀ σ H, Pv n σ H → D.nx σ H) :
    ∃ W : Nat → Nat → St → Hp → Prop, (∃ m, W 0 m σ H) ∧ ∀ i m σ H, W i m σ H →
      ((Itr lo n).stop i H ∧ D.nx σ H) ∨ ((Itr lo n).go i H ∧ ∃ N : St → Hp → Prop, (∀ σ' H', N σ' H' → ∃ m', m' < m ∧ W (i + 1) m' σ' H') ∧ ∀ x H', (Itr lo n).yld i H x H' → g x σ H' fun σ2 H2 => tb { D with nx := N, ct := N, bk := D.nx } σ2 H2) := by
  refine ⟨fun i m σ H => m = n - i ∧ i ≤ n ∧ Pv i σ H, ⟨n, by simp, Nat.zero_le _, h0⟩, ?_⟩
  rintro i m σ H ⟨rfl, hi, p⟩
  by_cases hlt : i < n
  · refine .inr ⟨hlt, Pv (i + 1), fun σ' H' p' => ⟨n - (i + 1), by omega, rfl, hlt, p'⟩, fun x H' y => ?_⟩
    obtain ⟨e, y⟩ := y
    subst e y
    exact hs i σ _ hlt p
  · have e : i = n := by omega
    subst e
    exact .inl ⟨Nat.le_refl _, hd σ H p⟩
end L2
namespace L2
open PySem PySem.Spec PyProof.Rows
abbrev R2 := V → V → Hp → VK → Prop
def OpR (X : Cx) (f : Value → Value → Sem Value) (r : R2) : Prop :=
  ∀ (pins : List (Addr × Obj)) (s : Shared) (σ : St) (H : Hp) (x y : V) (v u : Value) (Q : VK), Inv X pins σ H s → RelV x v → RelV y u → r x y H Q →
    wpAny (model X.prog X.w) X.A (f v u) (EP X pins σ Q) X.xe s
def CallR (X : Cx) (f : Value) (r : List V → Hp → VK → Prop) : Prop :=
  ∀ (pins : List (Addr × Obj)) (s : Shared) (σ : St) (H : Hp) (xs : List V) (us : List Value) (Q : VK), Inv X pins σ H s → Vals xs us → r xs H Q →
    wpAny (model X.prog X.w) X.A (call f us) (EP X pins σ Q) X.xe s
def tOp (r : R2) (ta tb : TE) : TE := fun σ H Q => ta σ H fun x H1 => tb σ H1 fun y H2 => r x y H2 Q
def rI (C : Int → Int → Prop) (g : Int → Int → V) : R2 := fun x y H Q => ∃ i j, x = .int i ∧ y = .int j ∧ C i j ∧ Q (g i j) H
def rI0 (g : Int → Int → V) : R2 := fun x y H Q => ∃ i j, x = .int i ∧ y = .int j ∧ Q (g i j) H
section
variable {X : Cx} {a b c : Expr} {ta tb tc : TE} {pos : Pos}
theorem binT (ha : PE X a ta) (hb : PE X b tb) {pins : List (Addr × Obj)} {s : Shared} {σ : St} {H : Hp} {R : V → V → Hp → Prop} (I : Inv X pins σ H s)
    (h : ta σ H fun x H1 => tb σ H1 fun y H2 => R x y H2) {Q : Value → Shared → Prop} {f : Value → Value → Sem Value}
    (hf : ∀ v u s2 x y H2, Inv X pins σ H2 s2 → RelV x v → RelV y u → R x y H2 → wpAny (model X.prog X.w) X.A (f v u) Q X.xe s2) :
    wpAny (model X.prog X.w) X.A (eval a X.env) (fun v s₁ => wpAny (model X.prog X.w) X.A (eval b X.env) (fun u s₂ => wpAny (model X.prog X.w) X.A (f v u) Q X.xe s₂) X.xe s₁) X.xe s := by
  refine thn (ha pins s σ H _ I h) fun v s1 ⟨x, H1, I1, r1, q1⟩ => ?_
  refine thn (hb pins s1 σ H1 _ I1 q1) fun u s2 ⟨y, H2, I2, r2, q2⟩ => ?_
  exact hf v u s2 x y H2 I2 r1 r2 q2
theorem pe_op {op : Operator} {r : R2} (ho : OpR X (binaryOp op) r) (ha : PE X a ta) (hb : PE X b tb) : PE X (.BinOp a op b pos) (tOp r ta tb) := by
  intro pins s σ H Q I h
  exact wpAny_BinOp (binT ha hb I h fun v u s2 x y H2 I2 rx ry q => ho pins s2 σ H2 x y v u Q I2 rx ry q)
theorem opI {f : Value → Value → Sem Value} {C : Int → Int → Prop} {g : Int → Int → Int}
    (rule : ∀ (i j : Int) (t u : Tok) (s : Shared) (Q : Value → Shared → Prop) (E : Value → Shared → Prop), C i j → Q (.int (g i j) s.toks) { s with toks := s.toks + 1 } → wpAny (model X.prog X.w) X.A (f (.int i t) (.int j u)) Q E s) :
    OpR X f (rI C fun i j => .int (g i j)) := by
  intro pins s σ H x y v u Q I rx ry h
  obtain ⟨i, j, rfl, rfl, hc, q⟩ := h
  obtain ⟨t, rfl⟩ := rx
  obtain ⟨t', rfl⟩ := ry
  exact rule i j t t' s _ _ hc ⟨.int (g i j), H, I.tok _, ⟨_, rfl⟩, q⟩
theorem opI0 {f : Value → Value → Sem Value} {g : Int → Int → Int}
    (rule : ∀ (i j : Int) (t u : Tok) (s : Shared) (Q : Value → Shared → Prop) (E : Value → Shared → Prop), Q (.int (g i j) s.toks) { s with toks := s.toks + 1 } → wpAny (model X.prog X.w) X.A (f (.int i t) (.int j u)) Q E s) :
    OpR X f (rI0 fun i j => .int (g i j)) := by
  intro pins s σ H x y v u Q I rx ry h
  obtain ⟨i, j, rfl, rfl, q⟩ := h
  obtain ⟨t, rfl⟩ := rx
  obtain ⟨t', rfl⟩ := ry
  exact rule i j t t' s _ _ ⟨.int (g i j), H, I.tok _, ⟨_, rfl⟩, q⟩
theorem opB0 {f : Value → Value → Sem Value} {g : Int → Int → Bool}
    (rule : ∀ (i j : Int) (t u : Tok) (s : Shared) (Q : Value → Shared → Prop) (E : Value → Shared → Prop), Q (.bool (g i j)) s → wpAny (model X.prog X.w) X.A (f (.int i t) (.int j u)) Q E s) :
    OpR X f (rI0 fun i j => .bl (g i j)) := by
  intro pins s σ H x y v u Q I rx ry h
  obtain ⟨i, j, rfl, rfl, q⟩ := h
  obtain ⟨t, rfl⟩ := rx
  obtain ⟨t', rfl⟩ := ry
  exact rule i j t t' s _ _ ⟨.bl (g i j), H, I, rfl, q⟩
def CDiv (i j : Int) : Prop := 0 < j ∧ j < 1073741824
def CMul (i j : Int) : Prop := (-(2 ^ 64) < i ∧ i < 2 ^ 64) ∨ (-(2 ^ 64) < j ∧ j < 2 ^ 64)
theorem CMul.ok {i j : Int} (h : CMul i j) : IntMulOk i j := by
  rcases h with ⟨h1, h2⟩ | ⟨h1, h2⟩
  · exact .of_left (intBits_le_64 h1 h2)
  · exact .of_right (intBits_le_64 h1 h2)
theorem op_add : OpR X (binaryOp .Add) (rI0 fun i j => .int (i + j)) := opI0 fun _ _ _ _ _ _ _ q => add_int q
theorem op_sub : OpR X (binaryOp .Sub) (rI0 fun i j => .int (i - j)) := opI0 fun _ _ _ _ _ _ _ q => sub_int q
theorem op_mul : OpR X (binaryOp .Mult) (rI CMul fun i j => .int (i * j)) := opI fun _ _ _ _ _ _ _ hc q => mul_int q hc.ok
theorem op_fdiv : OpR X (binaryOp .FloorDiv) (rI CDiv fun i j => .int (i / j)) := opI fun i j _ _ _ _ _ hc q => by
  have h1 : (0 : Int) < j := hc.1
  have h2 : j < 1073741824 := hc.2
  exact floordiv_int (by omega) (by rw [Int.fdiv_eq_ediv_of_nonneg i (by omega)]; exact q) (.inl (PyProof.noPylong_small (by omega)))
theorem op_mod : OpR X (binaryOp .Mod) (rI (fun _ j => 0 < j) fun i j => .int (i % j)) := opI fun i j _ _ _ _ _ hc q => by
  have h1 : (0 : Int) < j := hc
  exact mod_int' (by omega) (by rw [Int.fmod_eq_emod_of_nonneg i (by omega)]; exact q)
end
def scal : V → V → Bool
  | .non, .non => true | .non, .int _ => true | .int _, .non => true | .non, .bl _ => true | .bl _, .non => true | .non, .str _ => true | .str _, .non => true
  | .int _, .int _ => true | .bl _, .bl _ => true | .str _, .str _ => true | .byt _, .byt _ => true
  | .int _, .str _ => true | .str _, .int _ => true | .bl _, .str _ => true | .str _, .bl _ => true
  | _, _ => false
def rEq : R2 := fun x y H Q => scal x y = true ∧ Q (.bl (decide (x = y))) H
def rNe : R2 := fun x y H Q => scal x y = true ∧ Q (.bl (!decide (x = y))) H
theorem dec_int {i j : Int} : decide (V.int i = V.int j) = (i == j) := by
  rw [Bool.eq_iff_iff]
  simp
theorem dec_bl {i j : Bool} : decide (V.bl i = V.bl j) = (i == j) := by
  rw [Bool.eq_iff_iff]
  simp
theorem dec_str {i j : Str} : decide (V.str i = V.str j) = (i == j) := by
  rw [Bool.eq_iff_iff]
  simp
theorem dec_byt {i j : Array UInt8} : decide (V.byt i = V.byt j) = (i.toList == j.toList) := by
  rw [Bool.eq_iff_iff]
  cases i
  cases j
  simp
section
variable {X : Cx} {a b c : Expr} {ta tb tc : TE} {pos : Pos}
theorem fin_bl {pins : List (Addr × Obj)} {σ : St} {H : Hp} {s : Shared} {Q : VK} {k k' : Bool} (I : Inv X pins σ H s) (q : Q (.bl k) H) (e : k = k') : EP X pins σ Q (.bool k') s := by
  subst e
  exact ⟨.bl k, H, I, rfl, q⟩
theorem op_eq : OpR X (compareOp .Eq) rEq := by
  intro pins s σ H x y v u Q I rx ry h
  obtain ⟨hs, q⟩ := h
  cases x with
  | non =>
    cases rx
    cases y with
    | non => cases ry; exact PySem.EqNone.eq_none_none (fin_bl I q (by simp))
    | bl j => cases ry; exact PySem.EqNone.eq_none_bool (fin_bl I q (by simp))
    | int j => obtain ⟨t', rfl⟩ := ry; exact PySem.EqNone.eq_none_int (fin_bl I q (by simp))
    | str j => obtain ⟨t', rfl⟩ := ry; exact PySem.EqNone.eq_none_str (fin_bl I q (by simp))
    | _ => exact absurd (show false = true from hs) Bool.false_ne_true
  | bl i =>
    cases rx
    cases y with
    | non => cases ry; exact PySem.EqNone.eq_bool_none (fin_bl I q (by simp))
    | bl j => cases ry; exact eq_bool (fin_bl I q dec_bl)
    | str j => obtain ⟨t', rfl⟩ := ry; exact PySem.EqMixed.eq_bool_str (fin_bl I q (by simp))
    | _ => exact absurd (show false = true from hs) Bool.false_ne_true
  | int i =>
    obtain ⟨t, rfl⟩ := rx
    cases y with
    | non => cases ry; exact PySem.EqNone.eq_int_none (fin_bl I q (by simp))
    | int j => obtain ⟨t', rfl⟩ := ry; exact eq_int (fin_bl I q dec_int)
    | str j => obtain ⟨t', rfl⟩ := ry; exact PySem.EqMixed.eq_int_str (fin_bl I q (by simp))
    | _ => exact absurd (show false = true from hs) Bool.false_ne_true
  | str i =>
    obtain ⟨t, rfl⟩ := rx
    cases y with
    | non => cases ry; exact PySem.EqNone.eq_str_none (fin_bl I q (by simp))
    | bl j => cases ry; exact PySem.EqMixed.eq_str_bool (fin_bl I q (by simp))
    | int j => obtain ⟨t', rfl⟩ := ry; exact PySem.EqMixed.eq_str_int (fin_bl I q (by simp))
    | str j => obtain ⟨t', rfl⟩ := ry; exact eq_str (fin_bl I q dec_str)
    | _ => exact absurd (show false = true from hs) Bool.false_ne_true
  | byt i =>
    obtain ⟨t, rfl⟩ := rx
    cases y with
    | byt j => obtain ⟨t', rfl⟩ := ry; exact PySem.W.eq_bytes (fin_bl I q dec_byt)
    | _ => exact absurd (show false = true from hs) Bool.false_ne_true
  | _ => cases y <;> exact absurd (show false = true from hs) Bool.false_ne_true
theorem op_ne : OpR X (compareOp .NotEq) rNe := by
  intro pins s σ H x y v u Q I rx ry h
  obtain ⟨hs, q⟩ := h
  cases x with
  | non =>
    cases rx
    cases y with
    | non => cases ry; exact PySem.EqNone.ne_none_none (fin_bl I q (by simp))
    | bl j => cases ry; exact PySem.EqNone.ne_none_bool (fin_bl I q (by simp))
    | int j => obtain ⟨t', rfl⟩ := ry; exact PySem.EqNone.ne_none_int (fin_bl I q (by simp))
    | str j => obtain ⟨t', rfl⟩ := ry; exact PySem.EqNone.ne_none_str (fin_bl I q (by simp))
    | _ => exact absurd (show false = true from hs) Bool.false_ne_true
  | bl i =>
    cases rx
    cases y with
    | non => cases ry; exact PySem.EqNone.ne_bool_none (fin_bl I q (by simp))
    | bl j => cases ry; exact ne_bool (fin_bl I q (congrArg not dec_bl))
    | str j => obtain ⟨t', rfl⟩ := ry; exact PySem.EqMixed.ne_bool_str (fin_bl I q (by simp))
    | _ => exact absurd (show false = true from hs) Bool.false_ne_true
  | int i =>
    obtain ⟨t, rfl⟩ := rx
    cases y with
    | non => cases ry; exact PySem.EqNone.ne_int_none (fin_bl I q (by simp))
    | int j => obtain ⟨t', rfl⟩ := ry; exact ne_int (fin_bl I q (congrArg not dec_int))
    | str j => obtain ⟨t', rfl⟩ := ry; exact PySem.EqMixed.ne_int_str (fin_bl I q (by simp))
    | _ => exact absurd (show false = true from hs) Bool.false_ne_true
  | str i =>
    obtain ⟨t, rfl⟩ := rx
    cases y with
    | non => cases ry; exact PySem.EqNone.ne_str_none (fin_bl I q (by simp))
    | bl j => cases ry; exact PySem.EqMixed.ne_str_bool (fin_bl I q (by simp))
    | int j => obtain ⟨t', rfl⟩ := ry; exact PySem.EqMixed.ne_str_int (fin_bl I q (by simp))
    | str j => obtain ⟨t', rfl⟩ := ry; exact ne_str (fin_bl I q (congrArg not dec_str))
    | _ => exact absurd (show false = true from hs) Bool.false_ne_true
  | byt i =>
    obtain ⟨t, rfl⟩ := rx
    cases y with
    | byt j => obtain ⟨t', rfl⟩ := ry; exact PySem.W.ne_bytes (fin_bl I q (congrArg not dec_byt))
    | _ => exact absurd (show false = true from hs) Bool.false_ne_true
  | _ => cases y <;> exact absurd (show false = true from hs) Bool.false_ne_true
theorem op_lt : OpR X (compareOp .Lt) (rI0 fun i j => .bl (decide (i < j))) := opB0 fun _ _ _ _ _ _ _ q => lt_int q
theorem op_le : OpR X (compareOp .LtE) (rI0 fun i j => .bl (decide (i ≤ j))) := opB0 fun _ _ _ _ _ _ _ q => le_int q
theorem op_gt : OpR X (compareOp .Gt) (rI0 fun i j => .bl (decide (j < i))) := opB0 fun _ _ _ _ _ _ _ q => gt_int q
theorem op_ge : OpR X (compareOp .GtE) (rI0 fun i j => .bl (decide (j ≤ i))) := opB0 fun _ _ _ _ _ _ _ q => ge_int q
theorem nomark (b : Expr) {op : CmpOp} (h : op ≠ .In := by decide) (h2 : op ≠ .NotIn := by decide) : behindInMarks op b = false := by
  have e1 : (op == CmpOp.In) = false := by cases op <;> first | rfl | exact absurd rfl h
  have e2 : (op == CmpOp.NotIn) = false := by cases op <;> first | rfl | exact absurd rfl h2
  cases b <;> simp [behindInMarks, e1, e2]
theorem pe_cmpR {op : CmpOp} {r : R2} (ho : OpR X (compareOp op) r) (ha : PE X a ta) (hb : PE X b tb) (hm : behindInMarks op b = false) : PE X (.Compare a [op] [b] pos) (tOp r ta tb) := by
  intro pins s σ H Q I h
  exact wpAny_Compare1 (binT ha hb I h fun v u s2 x y H2 I2 rx ry q => ho pins s2 σ H2 x y v u Q I2 rx ry q) hm
def tTest (t : TE) : TT := fun σ H Q => t σ H fun x H' => ∃ k, x = .bl k ∧ Q k H'
theorem pt_cmpR {op : CmpOp} {r : R2} (ho : OpR X (compareOp op) r) (ha : PE X a ta) (hb : PE X b tb) (hm : behindInMarks op b = false) : PT X (.Compare a [op] [b] pos) (tTest (tOp r ta tb)) := by
  intro pins s σ H Q I h
  refine wpAny_isTrue_Compare1 (thn (ha pins s σ H _ I h) fun v s1 ⟨x, H1, I1, r1, q1⟩ => thn (hb pins s1 σ H1 _ I1 q1) fun u s2 ⟨y, H2, I2, r2, q2⟩ =>
    thn (ho pins s2 σ H2 x y v u _ I2 r1 r2 q2) fun c s3 ⟨z, H3, I3, r3, k, e, q3⟩ => ?_) hm
  subst e
  cases r3
  exact wpAny_truthy_bool ⟨H3, I3, q3⟩
def tChain (r r' : R2) (ta tb tc : TE) : TE := fun σ H Q => ta σ H fun x H1 => tb σ H1 fun y H2 => r x y H2 fun z H3 => ∃ k, z = .bl k ∧
  (if k = true then tc σ H3 fun w' H4 => r' y w' H4 Q else Q (.bl false) H3)
theorem pe_chain {op op' : CmpOp} {r r' : R2} (ho : OpR X (compareOp op) r) (ho' : OpR X (compareOp op') r') (ha : PE X a ta) (hb : PE X b tb) (hc : PE X c tc)
    (hm : lastMarks [op, op'] [b, c] = false := by with_unfolding_all rfl) : PE X (.Compare a [op, op'] [b, c] pos) (tChain r r' ta tb tc) := by
  intro pins s σ H Q I h
  refine Compare_chain (thn (ha pins s σ H _ I h) fun v s1 ⟨x, H1, I1, r1, q1⟩ => chain_link (thn (hb pins s1 σ H1 _ I1 q1) fun u s2 ⟨y, H2, I2, r2, q2⟩ =>
    thn (ho pins s2 σ H2 x y v u _ I2 r1 r2 q2) fun d s3 ⟨z, H3, I3, r3, k, e, q3⟩ => ?_)) hm
  subst e
  cases r3
  refine wpAny_truthy_bool ?_
  cases k with
  | false => exact ite_ff ⟨.bl false, H3, I3, rfl, q3⟩
  | true => exact ite_tt (chain_last (thn (hc pins s3 σ H3 _ I3 q3) fun w' s4 ⟨z', H4, I4, r4, q4⟩ => ho' pins s4 σ H4 y z' u w' Q I4 r2 r4 q4))
theorem pt_chain {op op' : CmpOp} {r r' : R2} (ho : OpR X (compareOp op) r) (ho' : OpR X (compareOp op') r') (ha : PE X a ta) (hb : PE X b tb) (hc : PE X c tc)
    (hm : lastMarks [op, op'] [b, c] = false := by with_unfolding_all rfl) : PT X (.Compare a [op, op'] [b, c] pos) (tTest (tChain r r' ta tb tc)) := by
  intro pins s σ H Q I h
  refine isTrue_chain (thn (ha pins s σ H _ I h) fun v s1 ⟨x, H1, I1, r1, q1⟩ => test_link (thn (hb pins s1 σ H1 _ I1 q1) fun u s2 ⟨y, H2, I2, r2, q2⟩ =>
    thn (ho pins s2 σ H2 x y v u _ I2 r1 r2 q2) fun d s3 ⟨z, H3, I3, r3, k, e, q3⟩ => ?_)) hm
  subst e
  cases r3
  refine wpAny_truthy_bool ?_
  cases k with
  | false =>
    obtain ⟨k', e', q'⟩ := q3
    cases e'
    exact ite_ff ⟨H3, I3, q'⟩
  | true =>
    refine ite_tt (test_last (thn (hc pins s3 σ H3 _ I3 q3) fun w' s4 ⟨z', H4, I4, r4, q4⟩ => thn (ho' pins s4 σ H4 y z' u w' _ I4 r2 r4 q4) fun d' s5 ⟨z2, H5, I5, r5, k2, e2, q5⟩ => ?_))
    subst e2
    cases r5
    exact wpAny_truthy_bool ⟨H5, I5, q5⟩
theorem line63 : (sizeLine : Nat) < 2 ^ 63 := by rw [sizeLine_eq]; decide
theorem vals1 {x : V} {us : List Value} (r : Vals [x] us) : ∃ u, us = [u] ∧ RelV x u := by
  cases r with
  | cons r1 r2 => cases r2; exact ⟨_, rfl, r1⟩
theorem vals2 {x y : V} {us : List Value} (r : Vals [x, y] us) : ∃ u w', us = [u, w'] ∧ RelV x u ∧ RelV y w' := by
  cases r with
  | cons r1 r2 =>
    cases r2 with
    | cons r3 r4 => cases r4; exact ⟨_, _, rfl, r1, r3⟩
theorem call_max2 (hc : X.calm = true) : CallR X (.builtin "max") (fun xs H Q => ∃ i j, xs = [.int i, .int j] ∧ Q (.int (if j > i then j else i)) H) := by
  intro pins s σ H xs us Q I r h
  obtain ⟨i, j, rfl, q⟩ := h
  obtain ⟨u, w', rfl, ⟨t, rfl⟩, ⟨t', rfl⟩⟩ := vals2 r
  refine max_two_ints (I.ok.hd hc) fun h' tk k => ⟨_, H, I.kept k, ?_, q⟩
  by_cases hj : j > i
  · rw [if_pos hj, if_pos hj]; exact ⟨_, rfl⟩
  · rw [if_neg hj, if_neg hj]; exact ⟨_, rfl⟩
end
end L2
namespace L2
open PySem PySem.Spec PyProof.Rows
structure ObjM (h : Heap) (x dx C : Addr) (mA : Str → Option Value) : Prop where
  obj : h.get? x = some (PySem.W.instObj C dx)
  ns : h.Ns1 dx mA
  ne : dx ≠ x
theorem lookIn_ns {h : Heap} {dx : Addr} {mA : Str → Option Value} (n : h.Ns1 dx mA) : ∃ od, h.get? dx = some od ∧ ∀ name, PySem.W.lookIn name od = some (mA name) := by
  obtain ⟨o, es, ep, ho, hd, hk, _, hm⟩ := n
  refine ⟨o, ho, fun name => ?_⟩
  have e := hm name
  unfold nsFind findBy at e
  rw [← Array.find?_toList] at e
  unfold PySem.W.lookIn
  rw [hd]
  dsimp only
  split
  · rename_i y q
    rw [q] at e
    exact congrArg some e
  · rename_i q
    rw [q] at e
    have a : es.toList.any (·.refKey) = false := by
      rw [List.any_eq_false]
      intro y hy
      obtain ⟨z, t, hkey⟩ := hk y (Array.mem_toList_iff.mp hy)
      simp [DictEntry.refKey, hkey]
    have a' : ¬ es.toList.any (·.refKey) = true := by rw [a]; exact Bool.false_ne_true
    rw [if_neg a']
    exact congrArg some e
theorem ObjM.look {h : Heap} {x dx C : Addr} {mA : Str → Option Value} (I : ObjM h x dx C mA) : ∃ od, PySem.W.InstAt h x (PySem.W.instObj C dx) C (some od) ∧ ∀ name, PySem.W.lookIn name od = some (mA name) :=
  let ⟨od, ho, hl⟩ := lookIn_ns I.ns
  ⟨od, ⟨I.obj, rfl, rfl, ho⟩, hl⟩
section
variable {prog : Program} {w : World} {A : Around} {E : Value → Shared → Prop} {s : Shared} {K : PySem.W.Frag} {x dx C f : Addr} {mA : Str → Option Value} {name : Str} {v : Value}
theorem get_map {expr : Bool} {Q : Value → Shared → Prop} (X : K.In s.heap) (I : ObjM s.heap x dx C mA) (hg : PySem.W.plainGet K C name = true) (hh : PySem.W.hasDictIn K C = true)
    (ha : PySem.W.findIn K (.ref C) name = some none) (hv : mA name = some v) (hv' : PySem.W.handedIn v = true) (h : Q v { s with toks := s.toks + 1 }) :
    wpAny (model prog w) A (getAttr (.ref x) name expr) Q E s := by
  obtain ⟨od, J, hl⟩ := I.look
  exact PySem.W.get_value X J (PySem.W.plainGet_of hg).1 (PySem.W.findObj_own hh ha rfl (by rw [hl, hv])) hv' h
theorem get_meth {pl : Sem Bool} {Q : Value × List Value → Shared → Prop} (X : K.In s.heap) (I : ObjM s.heap x dx C mA) (hg : PySem.W.plainGet K C name = true)
    (hf : PySem.W.findIn K (.ref C) name = some (some (.ref f))) (ht : PySem.W.isFn K (.ref f) = true) (hv : mA name = none) (h : Q (.ref f, [.ref x]) s) :
    wpAny (model prog w) A (getMethod (.ref x) name pl) Q E s := by
  obtain ⟨od, J, hl⟩ := I.look
  exact PySem.W.method_fn X J (PySem.W.plainGet_of hg).1 (PySem.W.plainGet_of hg).2 hf (beq_iff_eq.mp ht) (by show (PySem.W.lookIn name od).map (·.isSome) = some false; rw [hl, hv]; rfl) h
theorem set_map {ns : List Str} {Q : Unit → Shared → Prop} (X : K.In s.heap) (I : ObjM s.heap x dx C mA)
    (hs : PySem.W.findIn K (.ref C) "__setattr__" = some (some (.builtin "object.__setattr__"))) (hp : PySem.W.plainOver K C = true) (ht : PySem.W.takerIn K C name = some none) (hh : PySem.W.hasDictIn K C = true)
    (hw : PySem.Within mA ns) (hsz : ns.length ≤ sizeLine)
    (h : ∀ h', ObjM h' x dx C (fun y => if y = name then some v else mA y) → Heap.SameBut dx s.heap h' → Q () { s with heap := h', toks := s.toks + 2 }) :
    wpAny (model prog w) A (setAttr (.ref x) name v) Q E s := by
  obtain ⟨od, J, hl⟩ := I.look
  refine PySem.W.set_plain X J hs (PySem.W.osa_open (s := { s with toks := s.toks + 1 }) (r := none) X J hp ht fun b => ?_)
  obtain ⟨cd, hc, hd'⟩ := PySem.W.any_some hh
  have hx : s.heap.get? x = some ⟨.ref C, some dx, .plain, #[]⟩ := I.obj
  refine wpAny_bind (wpAny_pure (wpAny_bind (wpAny_bind (wpAny_loadPart hx (wpAny_bind (PySem.W.Looks.here (s := { s with toks := s.toks + 1 }) (PySem.W.looks_clsIn X hc) ?_))))))
  rw [hd']
  refine wpAny_pure (a := some dx) (wpAny_bind (wpAny_pure (wpAny_bind ?_)))
  refine wpAny_nsSet1 (s := { s with toks := s.toks + 1 }) I.ns fun h' hn2 hs2 => ?_
  obtain ⟨oD, esD, epD, hoD, hdD, hcD⟩ := hn2.count (PySem.Within.cons name v hw)
  refine wpAny_bind (wpAny_lookBehind hoD (by rw [hdD]; exact pastItsLine_dict (Nat.le_trans hcD (by rw [List.length_cons]; omega))) ?_)
  exact wpAny_pure (h _ ⟨(hs2.2 _ (Ne.symm I.ne)).trans I.obj, hn2, I.ne⟩ hs2)
theorem make_map {R : Result → Shared → Prop} {vs : List Value} {kw : List (Str × Value)} (X : K.In s.heap) (hm : PySem.W.makesIn K C = true)
    (hi : PySem.W.findIn K (.ref C) "__init__" = some (some (.ref f))) (hf : PySem.W.typeIn K (.ref f) = some (.type "function"))
    (h : codeAny (model prog w) (A.under (.builtin "type.__call__" ⟨.ref C :: vs, kw⟩)) (.call (.ref f) ⟨.ref (s.heap.objs.size + 1) :: vs, kw⟩) (PySem.W.InitBack (s.heap.objs.size + 1) R)
      { s with heap := (s.heap.push PySem.W.emptyDict).push (PySem.W.instObj C s.heap.objs.size) }) :
    codeAny (model prog w) A (.call (.ref C) ⟨vs, kw⟩) R s := by
  obtain ⟨hh, g, d, t, os⟩ := s
  exact PySem.W.make_core (PySem.W.makes_of X hm) (PySem.W.looks_findIn X hi) (fun self => PySem.W.bind_fn X self hf) (.inl rfl) h
end
def putF (f : Str) (v : V) : List (Str × V) → List (Str × V)
  | [] => [(f, v)]
  | (g, x) :: r => if g = f then (g, v) :: r else (g, x) :: putF f v r
theorem lookup_putF (f g : Str) (v : V) : ∀ fs : List (Str × V), (putF f v fs).lookup g = if g = f then some v else fs.lookup g
  | [] => by
    show List.lookup g [(f, v)] = _
    by_cases h : g = f
    · have hb : (g == f) = true := beq_iff_eq.mpr h
      simp only [List.lookup, hb, if_pos h]
    · have hb : (g == f) = false := beq_eq_false_iff_ne.mpr h
      simp only [List.lookup, hb, if_neg h]
  | (k, x) :: r => by
    have ih := lookup_putF f g v r
    rw [show putF f v ((k, x) :: r) = (if k = f then (k, v) :: r else (k, x) :: putF f v r) from rfl]
    by_cases hk : k = f
    · rw [if_pos hk]
      by_cases h : g = k
      · have hb : (g == k) = true := beq_iff_eq.mpr h
        simp only [List.lookup, hb, if_pos (h.trans hk)]
      · have hb : (g == k) = false := beq_eq_false_iff_ne.mpr h
        simp only [List.lookup, hb, if_neg (fun e : g = f => h (e.trans hk.symm))]
    · rw [if_neg hk]
      by_cases h : g = k
      · have hb : (g == k) = true := beq_iff_eq.mpr h
        simp only [List.lookup, hb, if_neg (fun e : g = f => hk (h.symm.trans e))]
      · have hb : (g == k) = false := beq_eq_false_iff_ne.mpr h
        simp only [List.lookup, hb]
        exact ih
theorem keys_putF (f : Str) (v : V) : ∀ fs : List (Str × V), f ∈ (putF f v fs).map (·.1) ∧ ∀ g, g ∈ fs.map (·.1) → g ∈ (putF f v fs).map (·.1)
  | [] => ⟨by simp [putF], fun g h => by simp at h⟩
  | (k, x) :: r => by
    obtain ⟨i1, i2⟩ := keys_putF f v r
    rw [show putF f v ((k, x) :: r) = (if k = f then (k, v) :: r else (k, x) :: putF f v r) from rfl]
    by_cases hk : k = f
    · rw [if_pos hk]
      subst hk
      exact ⟨by simp, fun g h => by simpa using h⟩
    · rw [if_neg hk]
      refine ⟨?_, fun g h => ?_⟩
      · rw [List.map_cons]
        exact List.mem_cons_of_mem _ i1
      · rw [List.map_cons] at h ⊢
        rcases List.mem_cons.mp h with e | e
        · exact List.mem_cons.mpr (.inl e)
        · exact List.mem_cons_of_mem _ (i2 g e)
theorem length_putF (f : Str) (v : V) : ∀ fs : List (Str × V), (putF f v fs).length ≤ fs.length + 1
  | [] => by simp [putF]
  | (k, x) :: r => by
    have ih := length_putF f v r
    rw [show putF f v ((k, x) :: r) = (if k = f then (k, v) :: r else (k, x) :: putF f v r) from rfl]
    by_cases hk : k = f
    · rw [if_pos hk, List.length_cons, List.length_cons]; omega
    · rw [if_neg hk, List.length_cons, List.length_cons]; omega
theorem RelO.some_of {v : V} {o : Option Value} (r : RelO (some v) o) : ∃ u, o = some u ∧ RelV v u := by
  cases o with
  | none => exact (show False from r).elim
  | some u => exact ⟨u, rfl, r⟩
theorem RelO.none_of {o : Option Value} (r : RelO none o) : o = none := by
  cases o with
  | none => rfl
  | some u => exact (show False from r).elim
theorem handed_of {v : V} {u : Value} (r : RelV v u) : PySem.W.handedIn u = true := by
  cases v with
  | non => cases (show u = Value.none from r); rfl
  | bl b => cases (show u = Value.bool b from r); rfl
  | int i => obtain ⟨t, e⟩ := (show ∃ t, u = Value.int i t from r); cases e; rfl
  | str x => obtain ⟨t, e⟩ := (show ∃ t, u = Value.str x t from r); cases e; rfl
  | byt b => obtain ⟨t, e⟩ := (show ∃ t, u = Value.bytes b t from r); cases e; rfl
  | flt b => obtain ⟨t, e⟩ := (show ∃ t, u = Value.float b t from r); cases e; rfl
  | ref a => cases (show u = Value.ref a from r); rfl
  | ty n => cases (show u = Value.type n from r); rfl
section
variable {P : Program} {w : World} {H H' : Hp} {h h' : Heap} {a C dx : Addr} {fs fs' : List (Str × V)}
theorem ins_get (hok : HOk P w H h) (e : H a = some (.ins C dx fs)) : ∃ mA, ObjM h a dx C mA ∧ (∀ f, RelO (fs.lookup f) (mA f)) ∧ PySem.Within mA (fs.map (·.1)) ∧ fs.length ≤ 1000 ∧ H dx = some (.own a) := by
  obtain ⟨d, z, ne, ob, mA, n, r, q⟩ := (show ObjOk P w H h a (.ins C dx fs) from hok a _ e)
  exact ⟨mA, ⟨ob, n, ne⟩, r, q, z, d⟩
end
structure Cls (K : PySem.W.Frag) (C : Addr) : Prop where
  pg : PySem.W.plainGet K C Str.empty = true
  hd : PySem.W.hasDictIn K C = true
  po : PySem.W.plainOver K C = true
  sa : PySem.W.findIn K (.ref C) "__setattr__" = some (some (.builtin "object.__setattr__"))
theorem Cls.get {K : PySem.W.Frag} {C : Addr} (c : Cls K C) (f : Str) : PySem.W.plainGet K C f = true := c.pg
def NoAttr (K : PySem.W.Frag) (C : Addr) (f : Str) : Prop := PySem.W.findIn K (.ref C) f = some none
theorem NoAttr.taker {K : PySem.W.Frag} {C : Addr} {f : Str} (n : NoAttr K C f) : PySem.W.takerIn K C f = some none := by
  unfold PySem.W.takerIn
  rw [show PySem.W.findIn K (.ref C) f = some none from n]
  rfl
structure Meth (K : PySem.W.Frag) (C : Addr) (m : Str) (f : Addr) : Prop where
  at_ : PySem.W.findIn K (.ref C) m = some (some (.ref f))
  fn : PySem.W.isFn K (.ref f) = true
  kp : PySem.W.keepIn K (.ref f) = true
section
variable {X : Cx} {pins : List (Addr × Obj)} {σ : St} {H : Hp} {s : Shared} {a C dx : Addr} {fs : List (Str × V)} {f : Str} {v : V} {A : Around} {E : Value → Shared → Prop}
theorem getattr_ok {b : Bool} {Q : Value → Shared → Prop} (I : Inv X pins σ H s) (e : H a = some (.ins C dx fs)) (c : Cls X.K C) (n : NoAttr X.K C f) (l : fs.lookup f = some v)
    (h : ∀ u s', Inv X pins σ H s' → RelV v u → Q u s') : wpAny (model X.prog X.w) A (getAttr (.ref a) f b) Q E s := by
  obtain ⟨mA, O, r, _, _, _⟩ := ins_get I.hok e
  obtain ⟨u, hu, ru⟩ := RelO.some_of (v := v) (o := mA f) (by rw [← l]; exact r f)
  exact get_map I.kIn O (c.get f) c.hd n hu (handed_of ru) (h u _ (I.tok _) ru)
theorem getmeth_ok {m : Str} {g : Addr} {pl : Sem Bool} {Q : Value × List Value → Shared → Prop} (I : Inv X pins σ H s) (e : H a = some (.ins C dx fs)) (c : Cls X.K C) (k : Meth X.K C m g) (l : fs.lookup m = none)
    (h : Q (.ref g, [.ref a]) s) : wpAny (model X.prog X.w) A (getMethod (.ref a) m pl) Q E s := by
  obtain ⟨mA, O, r, _, _, _⟩ := ins_get I.hok e
  have hn : mA m = none := RelO.none_of (by rw [← l]; exact r m)
  exact get_meth I.kIn O (c.get m) k.at_ k.fn hn h
theorem setattr_ok {y : V} {u : Value} {Q : Unit → Shared → Prop} (I : Inv X pins σ H s) (e : H a = some (.ins C dx fs)) (c : Cls X.K C) (n : NoAttr X.K C f) (hl : fs.length < 1000) (ry : RelV y u)
    (h : ∀ s', Inv X pins σ (upd H a (.ins C dx (putF f y fs))) s' → Q () s') : wpAny (model X.prog X.w) A (setAttr (.ref a) f u) Q E s := by
  obtain ⟨mA, O, r, wi, _, ho⟩ := ins_get I.hok e
  have hz : (fs.map (·.1)).length ≤ sizeLine := by rw [List.length_map, sizeLine_eq]; omega
  refine set_map I.kIn O c.sa c.po n.taker c.hd wi hz fun h' O' sb => h _ ?_
  have hd : ∃ o, h'.get? dx = some o := let ⟨o, _, _, e', _⟩ := O'.ns; ⟨o, e'⟩
  refine I.write (x := a) (e := dx) (by rw [e]; exact True.intro) (.inr ho) (fun b q hb z => (sb.2 b hb).trans z) hd ?_
  refine ⟨by rw [upd_ne O.ne]; exact ho, ?_, O.ne, O'.obj, _, O'.ns, fun g => ?_, fun g hg => ?_⟩
  · have := length_putF f y fs; omega
  · show RelO ((putF f y fs).lookup g) (if g = f then some u else mA g)
    rw [lookup_putF]
    by_cases q : g = f
    · rw [if_pos q, if_pos q]; exact ry
    · rw [if_neg q, if_neg q]; exact r g
  · by_cases q : g = f
    · rw [q]; exact (keys_putF f y fs).1
    · refine (keys_putF f y fs).2 g (wi g fun z => hg ?_)
      show (if g = f then some u else mA g) = none
      rw [if_neg q]; exact z
theorem Inv.made (I : Inv X pins σ H s) : Inv X pins σ (upd (upd H s.heap.objs.size (.own (s.heap.objs.size + 1))) (s.heap.objs.size + 1) (.ins C s.heap.objs.size []))
    { s with heap := (s.heap.push PySem.W.emptyDict).push (PySem.W.instObj C s.heap.objs.size) } := by
  have e1 : (s.heap.push PySem.W.emptyDict).get? s.heap.objs.size = some PySem.W.emptyDict := Heap.get?_push_size s.heap rfl
  have e2 : ((s.heap.push PySem.W.emptyDict).push (PySem.W.instObj C s.heap.objs.size)).get? (s.heap.objs.size + 1) = some (PySem.W.instObj C s.heap.objs.size) := by
    have := Heap.get?_push_size (s.heap.push PySem.W.emptyDict) (o := PySem.W.instObj C s.heap.objs.size) rfl
    rwa [Heap.size_push] at this
  have e3 : (s.heap.push PySem.W.emptyDict).Ns s.heap.objs.size (fun _ => none) := ⟨PySem.W.emptyDict, #[], _, e1, rfl, (fun e he => absurd he (by simp)), fun _ => rfl⟩
  have I1 := I.laid (a := s.heap.objs.size) (o := .own (s.heap.objs.size + 1)) (h' := s.heap.push PySem.W.emptyDict) (t' := s.toks) (fun b u q => Heap.get?_push_of_some _ q) (Nat.le_refl _) ⟨_, e1⟩
  refine I1.laid (a := s.heap.objs.size + 1) (o := .ins C s.heap.objs.size []) (t' := s.toks) (fun b u q => Heap.get?_push_of_some _ q) (Nat.le_of_eq (Heap.size_push _ _)) ?_
  have ne : s.heap.objs.size ≠ s.heap.objs.size + 1 := Nat.ne_of_lt (Nat.lt_succ_self _)
  refine ⟨by rw [upd_ne ne, upd_same], Nat.zero_le _, ne, e2, fun _ => none, (Heap.Ns1.of_empty e3).at fun o q => Heap.get?_push_of_some _ q, fun _ => True.intro, fun y hy => absurd rfl hy⟩
theorem attr_of {prog : Program} {w : World} {env : Env} {e : Expr} {f : Str} {pos : Pos} {s : Shared} {Q : Value → Shared → Prop} (hb : attributeBase e f env (eval e env) = eval e env)
    (h : wpAny (model prog w) A (eval e env) (fun o s₁ => wpAny (model prog w) A (getAttr o f true) Q E s₁) E s) : wpAny (model prog w) A (eval (.Attribute e f pos) env) Q E s :=
  Attribute_any_ h (by rw [arm_eval_Attribute, hb])
end
def tFld (K : PySem.W.Frag) (ta : TE) (f : Str) : TE := fun σ H Q => ta σ H fun x H1 => ∃ a C dx fs v, x = .ref a ∧ H1 a = some (.ins C dx fs) ∧ Cls K C ∧ NoAttr K C f ∧ fs.lookup f = some v ∧ Q v H1
def sFld (K : PySem.W.Frag) (ta tv : TE) (f : Str) : TS := fun D σ H => tv σ H fun y H1 => ta σ H1 fun x H2 => ∃ a C dx fs, x = .ref a ∧ H2 a = some (.ins C dx fs) ∧ Cls K C ∧ NoAttr K C f ∧ fs.length < 1000 ∧
  D.nx σ (upd H2 a (.ins C dx (putF f y fs)))
section
variable {X : Cx} {o e value : Expr} {f : Str} {pos pos' tpos : Pos} {ta tv : TE}
theorem pe_fld (he : PE X e ta) (hb : attributeBase e f X.env (eval e X.env) = eval e X.env) : PE X (.Attribute e f pos) (tFld X.K ta f) := by
  intro pins s σ H Q I h
  refine attr_of hb (thn (he pins s σ H _ I h) fun u s1 ⟨x, H1, I1, rx, a, C, dx, fs, v, ex, ea, c, n, l, q⟩ => ?_)
  subst ex
  obtain rfl : u = Value.ref a := rx
  exact getattr_ok I1 ea c n l fun u' s2 I2 ru => ⟨v, H1, I2, ru, q⟩
theorem ps_fld (ha : PE X o ta) (hv : PE X value tv) (hs : swapsWith value (some (.Attribute o f pos')) pos.line X.env = pure false) : PS X (.Assign [.Attribute o f pos'] value pos) (sFld X.K ta tv f) := by
  intro pins s σ H D I h
  refine plainObj_wpAny_Assign_Attribute (thn (hv pins s σ H _ I h) fun u s1 ⟨y, H1, I1, ry, q⟩ => thn (ha pins s1 σ H1 _ I1 q) fun ov s2 ⟨x, H2, I2, rx, a, C, dx, fs, ex, ea, c, n, l, q2⟩ => ?_) hs
  subst ex
  obtain rfl : ov = Value.ref a := rx
  exact setattr_ok I2 ea c n l ry fun s3 I3 => ⟨σ, _, I3, q2⟩
end
section
variable {X : Cx} {pins : List (Addr × Obj)} {σ : St} {H : Hp} {s : Shared} {A : Around} {E : Value → Shared → Prop} {Q : Value → Shared → Prop} {c : Value} {b : Bool}
end
end L2
namespace L2
open PySem PySem.Spec PyProof.Rows
structure Room (k : Nat) (A : Around) : Prop where
  hd : A.handled = none
  dp : A.depth + 3 * k + 5 < recursionLimit
  un : A.units + 16 * k + 200 < cLine
theorem Room.mono {j k : Nat} {A : Around} (r : Room k A) (h : j ≤ k) : Room j A := ⟨r.hd, by have := r.dp; omega, by have := r.un; omega⟩
theorem Room.deeper {k : Nat} {A : Around} (r : Room (k + 1) A) (env : Env) : Room k (A.deeper env) :=
  ⟨r.hd, by have := r.dp; show A.depth + 1 + 3 * k + 5 < _; omega, by have := r.un; show A.units + 3 + 16 * k + 200 < _; omega⟩
theorem make_depth {A : Around} {C : Addr} {us : List Value} {kw : List (Str × Value)} : (A.under (.builtin "type.__call__" ⟨.ref C :: us, kw⟩)).depth = A.depth + 1 := by
  first | rfl | simp [Around.under, Code.weight, Code.isCreation, Code.isGuard, Code.isCaller, Code.frames, Code.isFrame, guardIds]
theorem make_units {A : Around} {C : Addr} {us : List Value} {kw : List (Str × Value)} : (A.under (.builtin "type.__call__" ⟨.ref C :: us, kw⟩)).units = A.units + 1 := by
  first | rfl | simp [Around.under, Code.cUnits, Code.frames, Code.isFrame]
theorem Room.make {k : Nat} {A : Around} (r : Room (k + 1) A) (C : Addr) (us : List Value) (kw : List (Str × Value)) : Room k (A.under (.builtin "type.__call__" ⟨.ref C :: us, kw⟩)) :=
  ⟨r.hd, by have := r.dp; rw [make_depth]; omega, by have := r.un; rw [make_units]; omega⟩
theorem Room.depth {k : Nat} {A : Around} (r : Room k A) : A.depth < recursionLimit := by have := r.dp; omega
theorem Room.units {k : Nat} {A : Around} (r : Room k A) : A.units + 64 < cLine := by have := r.un; omega
def tNil : TA := fun _ H Q => Q [] H
def tCons (ta : TE) (tr : TA) : TA := fun σ H Q => ta σ H fun x H1 => tr σ H1 fun xs H2 => Q (x :: xs) H2
section
variable {X : Cx} {e : Expr} {es : List Expr} {te : TE} {t : TA} {pos : Pos}
theorem pa_nil : PA X [] tNil := fun _ _ _ _ H Q I h => Calls.spliced_nil ⟨[], H, I, .nil, h⟩
theorem pa_cons (ha : PE X e te) (hr : PA X es t) (hs : starEach (e :: es) X.env = (false, eval e X.env) :: starEach es X.env := by rfl) : PA X (e :: es) (tCons te t) := by
  intro pos pins s σ H Q I h
  rw [hs]
  show wpAny _ _ (spliced ((false, eval e X.env) :: backTo pos (starEach es X.env))) _ _ s
  refine Calls.spliced_cons (thn (ha pins s σ H _ I h) fun u s1 ⟨x, H1, I1, r1, q1⟩ => ?_)
  exact thn (hr pos pins s1 σ H1 _ I1 q1) fun us s2 ⟨xs, H2, I2, r2, q2⟩ => ⟨x :: xs, H2, I2, .cons r1 r2, q2⟩
def tTup (t : TA) : TE := fun σ H Q => t σ H fun xs H1 => xs.length ≤ sizeLine ∧ ∀ p, H1 p = none → Q (.ref p) (upd H1 p (.tup xs))
def tLst (t : TA) : TE := fun σ H Q => t σ H fun xs H1 => xs.length ≤ sizeLine ∧ ∀ p, H1 p = none → Q (.ref p) (upd H1 p (.lst xs))
theorem pe_tup {x1} (h : PA X es t) : PE X (.Tuple es x1 pos) (tTup t) := by
  intro pins s σ H Q I hq
  refine wpAny_Tuple_spliced (thn (h pos pins s σ H _ I hq) fun us s1 ⟨xs, H1, I1, r, z, q⟩ => ⟨by rw [← r.length]; exact z, ?_⟩)
  have hf : H1 s1.heap.objs.size = none := I1.hok.fresh (Nat.le_refl _)
  refine ⟨.ref s1.heap.objs.size, upd H1 s1.heap.objs.size (.tup xs), I1.laid (t' := s1.toks) (fun b u e => Heap.get?_push_of_some _ e) (Nat.le_refl _) ?_, rfl, q _ hf⟩
  exact ⟨z, us, r, ⟨_, Heap.get?_push_size _ rfl, rfl, _, rfl⟩⟩
theorem pe_lst (h : PA X es t) : PE X (.List es pos) (tLst t) := by
  intro pins s σ H Q I hq
  refine wpAny_List_spliced (thn (h pos pins s σ H _ I hq) fun us s1 ⟨xs, H1, I1, r, z, q⟩ => ⟨by rw [← r.length]; exact z, ?_⟩)
  have hf : H1 s1.heap.objs.size = none := I1.hok.fresh (Nat.le_refl _)
  refine ⟨.ref s1.heap.objs.size, upd H1 s1.heap.objs.size (.lst xs), I1.laid (t' := s1.toks) (fun b u e => Heap.get?_push_of_some _ e) (Nat.le_refl _) ?_, rfl, q _ hf⟩
  exact ⟨z, us, 0, r, Heap.get?_push_size _ rfl⟩
end
abbrev Sp := List V → Hp → VK → XK → Prop
abbrev CXT := List Env → Hp → Shared → XK → Value → Shared → Prop
structure Env0 (P : Program) (w : World) (K : PySem.W.Frag) (mg : Str → Option Value) (base : Heap) (A : Around) (outer : List Env) (s : Shared) (H : Hp) : Prop where
  frames : A.frames = some outer
  mod : Mod K mg base
  bs : ∀ b o, base.get? b = some o → s.heap.get? b = some o ∧ H b = none
  bsz : base.objs.size ≤ s.heap.objs.size
  funs : s.heap.FunFrames base outer
  frf : ∀ b ∈ frs outer, H b = none
  hok : HOk P w H s.heap
  bare : AllBare s.gens
def CE (outer : List Env) (P : Program) (w : World) (H : Hp) (s : Shared) (Q : VK) (u : Value) (s' : Shared) : Prop :=
  ∃ v H', s'.os = s.os ∧ AllBare s'.gens ∧ Un (frs outer) [] H H' s.heap s'.heap ∧ HOk P w H' s'.heap ∧ RelV v u ∧ Q v H'
def CR (CX : CXT) (outer : List Env) (P : Program) (w : World) (H : Hp) (s : Shared) (Q : VK) (E : XK) (r : Result) (s' : Shared) : Prop :=
  match r with
  | .ok (.ret u) => CE outer P w H s Q u s'
  | .ok _ => False
  | .error e => CX outer H s E e s'
structure FnOk (P : Program) (w : World) (K : PySem.W.Frag) (mg : Str → Option Value) (base : Heap) (CX : CXT) (k : Nat) (f : Addr) (fd : FuncData) (ps : List Str) (sp : Sp) : Prop where
  len : ∀ vs H Q E, sp vs H Q E → vs.length = ps.length
  run : ∀ (A : Around) (outer : List Env) (s : Shared) (H : Hp) (args : Args) (us : List Value) (vs : List V) (Q : VK) (E : XK), Room k A → Env0 P w K mg base A outer s H → BindsTo s fd args (ps.zip us) → Vals vs us → sp vs H Q E →
    codeAny (model P w) A (.call (.ref f) args) (CR CX outer P w H s Q E) s
theorem Env0.make {P : Program} {w : World} {K : PySem.W.Frag} {mg : Str → Option Value} {base : Heap} {A : Around} {outer : List Env} {s : Shared} {H : Hp} (e : Env0 P w K mg base A outer s H) (C : Addr) (us : List Value) (kw : List (Str × Value)) :
    Env0 P w K mg base (A.under (.builtin "type.__call__" ⟨.ref C :: us, kw⟩)) outer s H := ⟨by first | exact e.frames | (simpa [Around.under, Code.envs, Code.isFrame, pushEnvs] using e.frames), e.mod, e.bs, e.bsz, e.funs, e.frf, e.hok, e.bare⟩
section
variable {X : Cx} {pins : List (Addr × Obj)} {σ : St} {H : Hp} {s s' : Shared}
theorem Inv.env0 (I : Inv X pins σ H s) : Env0 X.prog X.w X.K X.mg X.base X.A X.stack s H :=
  ⟨I.ok.frames, I.ok.mod, I.bs, Nat.le_trans I.ok.bsz I.sz, I.stack, I.stkFree, I.hok, I.bare⟩
theorem Inv.after {Q : VK} {u : Value} (I : Inv X pins σ H s) (h : CE X.stack X.prog X.w H s Q u s') : EP X pins σ Q u s' := by
  obtain ⟨v, H', os, bare, un, hok, r, q⟩ := h
  obtain ⟨hh, g, d, t, os'⟩ := s'
  obtain rfl : os' = s.os := os
  exact ⟨v, H', I.call (h' := hh) (g' := g) (d' := d) (t' := t) (ch := []) un hok bare (fun b z => absurd z (by simp)), r, q⟩
end
def tCall (sp : Sp) (dvs : List V) (E : XK) (t : TA) : TE := fun σ H Q => t σ H fun vs H1 => sp (vs ++ dvs) H1 Q E
def tMeth (C : Addr) (m : Str) (sp : Sp) (dvs : List V) (E : XK) (ta : TE) (t : TA) : TE := fun σ H Q => ta σ H fun x H1 => ∃ a dx fs, x = .ref a ∧ H1 a = some (.ins C dx fs) ∧ fs.lookup m = none ∧
  t σ H1 fun vs H2 => sp (x :: (vs ++ dvs)) H2 Q E
def tMake (C : Addr) (sp : Sp) (dvs : List V) (E : XK) (t : TA) : TE := fun σ H Q => t σ H fun vs H1 => ∀ x dx, H1 x = none → H1 dx = none → dx ≠ x →
  sp (.ref x :: (vs ++ dvs)) (upd (upd H1 dx (.own x)) x (.ins C dx [])) (fun v H2 => v = .non ∧ Q (.ref x) H2) E
def Binds (K : PySem.W.Frag) (fd : FuncData) (ps : List Str) (ds : List Value) : Prop :=
  ∀ (s : Shared) (us : List Value), K.In s.heap → (us ++ ds).length = ps.length → BindsTo s fd ⟨us, []⟩ (ps.zip (us ++ ds))
theorem Binds.all {K : PySem.W.Frag} {fd : FuncData} {ps : List Str} (h : ∀ us : List Value, us.length = ps.length → bindArgs fd ⟨us, []⟩ = pure (ps.zip us)) : Binds K fd ps [] := fun s us _ hl => by
  rw [List.append_nil] at hl ⊢
  exact .of_eq (h us hl)
def Passes (CX : CXT) (X : Cx) (E : XK) : Prop := ∀ (pins : List (Addr × Obj)) (σ : St) (H : Hp) (s : Shared) (e : Value) (s' : Shared), Inv X pins σ H s → CX X.stack H s E e s' → X.xe e s'
section
variable {X : Cx} {CX : CXT} {k : Nat} {f C : Addr} {fd : FuncData} {ps : List Str} {sp : Sp} {dvs : List V} {ds : List Value} {E : XK} {x m : Str} {p pos apos : Pos} {e o : Expr} {es : List Expr} {ta : TE} {t : TA}
theorem run_fn {pins : List (Addr × Obj)} {σ : St} {H : Hp} {s : Shared} {Q : VK} {us : List Value} {vs : List V} (F : FnOk X.prog X.w X.K X.mg X.base CX k f fd ps sp) (hr : Room k X.A) (hb : Binds X.K fd ps ds) (hd : Vals dvs ds) (hx : Passes CX X E)
    (I : Inv X pins σ H s) (r : Vals vs us) (h : sp (vs ++ dvs) H Q E) : wpAny (model X.prog X.w) X.A (call (.ref f) us) (EP X pins σ Q) X.xe s := by
  have r2 : Vals (vs ++ dvs) (us ++ ds) := r.append hd
  have hl : (us ++ ds).length = ps.length := by rw [← r2.length]; exact F.len _ _ _ _ h
  refine wpAny_call (codeAny_mono (F.run X.A X.stack s H ⟨us, []⟩ (us ++ ds) (vs ++ dvs) Q E hr I.env0 (hb s us I.kIn hl) r2 h) fun r s' hq => ?_)
  cases r with
  | error e => exact hx pins σ H s e s' I hq
  | ok fl =>
    cases fl with
    | ret u => exact I.after hq
    | next => exact False.elim hq
    | brk => exact False.elim hq
    | cont => exact False.elim hq
theorem pe_call (F : FnOk X.prog X.w X.K X.mg X.base CX k f fd ps sp) (hr : Room k X.A) (hg : Gl X x) (hm : X.mg x = some (.ref f)) (hk : PySem.W.keepIn X.K (.ref f) = true) (hb : Binds X.K fd ps ds) (hd : Vals dvs ds) (hx : Passes CX X E)
    (ha : PA X (e :: es) t) (hdb : (x == ("__debug__" : Str)) = false := by decide) (he : starEach (e :: es) X.env = (false, eval e X.env) :: starEach es X.env := by rfl) (hpl : (backTo pos (starEach es X.env)).any (·.1) = false := by rfl) :
    PE X (.Call (.Name x p) (e :: es) [] pos) (tCall sp dvs E t) := by
  intro pins s σ H Q I h
  refine wpAny_Call_Name_kw (ld_glob I hg hm ?_ hdb)
  refine PySem.W.callWith_K (h₀ := X.base) I.ok.mod.kin hk (thn (ha pos pins s σ H _ I h) fun us s1 ⟨vs, H1, I1, r, q⟩ => ⟨I1.kIn, ?_⟩) he hpl
  exact run_fn F hr hb hd hx I1 r q
theorem pe_meth {pl : Sem Bool} (he : PE X o ta) (c : Cls X.K C) (hm : Meth X.K C m f) (F : FnOk X.prog X.w X.K X.mg X.base CX k f fd ps sp) (hr : Room k X.A) (hb : Binds X.K fd ps ds) (hd : Vals dvs ds) (hx : Passes CX X E) (ha : PA X (e :: es) t)
    (hst : starEach (e :: es) X.env = (false, eval e X.env) :: starEach es X.env := by rfl) (hpl : (backTo pos (starEach es X.env)).any (·.1) = false := by rfl)
    (ht : eval (.Call (.Attribute o m apos) (e :: es) [] pos) X.env = (do
      let ov ← eval o X.env
      standAt apos.atName
      let (f, first) ← holding [ov] (getMethod ov m pl)
      callWith pos f first (backTo pos (starEach (e :: es) X.env)) (backToKw pos (keywordEach [] X.env))) := by rfl) :
    PE X (.Call (.Attribute o m apos) (e :: es) [] pos) (tMeth C m sp dvs E ta t) := by
  intro pins s σ H Q I h
  refine PySem.W.methodCall_KW (pl := pl) (thn (he pins s σ H _ I h) fun u s1 ⟨x, H1, I1, rx, a, dx, fs, ex, ea, l, q⟩ => ?_) ht
  subst ex
  obtain rfl : u = Value.ref a := rx
  refine getmeth_ok I1 ea c hm l ?_
  refine PySem.W.callWith_K (first := [.ref a]) (h₀ := X.base) I.ok.mod.kin hm.kp (thn (ha pos pins s1 σ H1 _ I1 q) fun us s2 ⟨vs, H2, I2, r, q2⟩ => ⟨I2.kIn, ?_⟩) hst hpl
  exact run_fn (us := .ref a :: us) (vs := .ref a :: vs) F hr hb hd hx I2 (.cons rfl r) q2
structure Mk (K : PySem.W.Frag) (C f : Addr) : Prop where
  makes : PySem.W.makesIn K C = true
  init : PySem.W.findIn K (.ref C) "__init__" = some (some (.ref f))
  fn : PySem.W.isFn K (.ref f) = true
  kp : PySem.W.keepIn K (.ref C) = true
theorem run_make {pins : List (Addr × Obj)} {σ : St} {H : Hp} {s : Shared} {Q : VK} {us : List Value} {vs : List V} (M : Mk X.K C f) (F : FnOk X.prog X.w X.K X.mg X.base CX k f fd ps sp) (hr : Room (k + 1) X.A) (hb : Binds X.K fd ps ds) (hd : Vals dvs ds)
    (hx : Passes CX X E) (I : Inv X pins σ H s) (r : Vals vs us)
    (h : ∀ x dx, H x = none → H dx = none → dx ≠ x → sp (.ref x :: (vs ++ dvs)) (upd (upd H dx (.own x)) x (.ins C dx [])) (fun v H2 => v = .non ∧ Q (.ref x) H2) E) :
    wpAny (model X.prog X.w) X.A (call (.ref C) us) (EP X pins σ Q) X.xe s := by
  have hq := h (s.heap.objs.size + 1) s.heap.objs.size (I.hok.fresh (Nat.le_succ _)) (I.hok.fresh (Nat.le_refl _)) (Nat.ne_of_lt (Nat.lt_succ_self _))
  have I2 := Inv.made (C := C) I
  have r2 : Vals (V.ref (s.heap.objs.size + 1) :: (vs ++ dvs)) (Value.ref (s.heap.objs.size + 1) :: (us ++ ds)) := .cons rfl (r.append hd)
  have hl : (Value.ref (s.heap.objs.size + 1) :: us ++ ds).length = ps.length := by
    have e := r2.length
    rw [F.len _ _ _ _ hq] at e
    exact e.symm
  refine wpAny_call (make_map (f := f) I.kIn M.makes M.init (beq_iff_eq.mp M.fn) (codeAny_mono (F.run _ X.stack _ _ ⟨Value.ref (s.heap.objs.size + 1) :: us, []⟩ (Value.ref (s.heap.objs.size + 1) :: (us ++ ds)) _ _ E (hr.make C us [])
    (I2.env0.make C us []) (hb _ (Value.ref (s.heap.objs.size + 1) :: us) I2.kIn hl) r2 hq) fun r s' hq' => ?_))
  cases r with
  | error e => exact hx pins σ _ _ e s' I2 hq'
  | ok fl =>
    cases fl with
    | ret u =>
      obtain ⟨v, H', I3, rv, ev, q3⟩ := I2.after hq'
      subst ev
      exact ⟨rv, ⟨V.ref (s.heap.objs.size + 1), H', I3, rfl, q3⟩⟩
    | next => exact False.elim hq'
    | brk => exact False.elim hq'
    | cont => exact False.elim hq'
theorem pe_make (M : Mk X.K C f) (F : FnOk X.prog X.w X.K X.mg X.base CX k f fd ps sp) (hr : Room (k + 1) X.A) (hg : Gl X x) (hm : X.mg x = some (.ref C)) (hb : Binds X.K fd ps ds) (hd : Vals dvs ds) (hx : Passes CX X E)
    (ha : PA X (e :: es) t) (hdb : (x == ("__debug__" : Str)) = false := by decide) (he : starEach (e :: es) X.env = (false, eval e X.env) :: starEach es X.env := by rfl) (hpl : (backTo pos (starEach es X.env)).any (·.1) = false := by rfl) :
    PE X (.Call (.Name x p) (e :: es) [] pos) (tMake C sp dvs E t) := by
  intro pins s σ H Q I h
  refine wpAny_Call_Name_kw (ld_glob I hg hm ?_ hdb)
  refine PySem.W.callWith_K (h₀ := X.base) I.ok.mod.kin M.kp (thn (ha pos pins s σ H _ I h) fun us s1 ⟨vs, H1, I1, r, q⟩ => ⟨I1.kIn, ?_⟩) he hpl
  exact run_make M F hr hb hd hx I1 r q
theorem pe_make0 (M : Mk X.K C f) (F : FnOk X.prog X.w X.K X.mg X.base CX k f fd ps sp) (hr : Room (k + 1) X.A) (hg : Gl X x) (hm : X.mg x = some (.ref C)) (hb : Binds X.K fd ps ds) (hd : Vals dvs ds) (hx : Passes CX X E)
    (hdb : (x == ("__debug__" : Str)) = false := by decide) : PE X (.Call (.Name x p) [] [] pos) (tMake C sp dvs E tNil) := by
  intro pins s σ H Q I h
  refine wpAny_Call_Name_kw (ld_glob I hg hm ?_ hdb)
  exact PySem.W.callWith_K0 I.kIn M.kp (run_make (us := []) M F hr hb hd hx I .nil h)
end
section
variable {X : Cx} {CX : CXT} {k : Nat} {f C : Addr} {fd : FuncData} {ps ks : List Str} {sp : Sp} {E : XK} {x m : Str} {p pos apos kpos : Pos} {e o : Expr} {es : List Expr} {kws : List Keyword} {te ta : TE} {t tk : TA} {nm : Option Str}
variable {g : List Value → List Value → List Value} {gV : List V → List V → List V}
end
structure FnScope (N P : List Str) (sc : Scope) : Prop where
  kind : sc.kind = .function
  co : sc.isCoroutine = false
  gen : sc.isGenerator = false
  nd : N.Nodup
  pre : N.take P.length = P
  par : ∀ x ∈ P, sc.names.lookup x = some .local ∨ sc.names.lookup x = some .cell
  nofree : ∀ y ∈ sc.names, y.2 ≠ .free
theorem bindL_out {kindOf : Str → Option NameKind} {x : Str} : ∀ {binds : List (Str × Value)} {m : Str → Option Value}, (∀ v, (x, v) ∉ binds) → bindL kindOf binds m x = m x
  | [], _, _ => rfl
  | (n, v) :: r, m, h => by
    unfold bindL
    rw [bindL_out fun w hw => h w (List.mem_cons_of_mem _ hw)]
    split
    · have : x ≠ n := by rintro rfl; exact h v List.mem_cons_self
      simp [this]
    · rfl
theorem bindC_out {kindOf : Str → Option NameKind} {x : Str} : ∀ {binds : List (Str × Value)} {m : Str → Option Value}, (∀ v, (x, v) ∉ binds) → bindC kindOf binds m x = m x
  | [], _, _ => rfl
  | (n, v) :: r, m, h => by
    unfold bindC
    rw [bindC_out fun w hw => h w (List.mem_cons_of_mem _ hw)]
    split
    · rfl
    · have : x ≠ n := by rintro rfl; exact h v List.mem_cons_self
      simp [this]
theorem bindL_get {kindOf : Str → Option NameKind} {x : Str} {v : Value} : ∀ {P : List Str} {vs : List Value} {i : Nat} {m : Str → Option Value}, P.Nodup → P[i]? = some x → vs[i]? = some v → kindOf x = some .local →
    bindL kindOf (P.zip vs) m x = some v
  | [], _, _, _, _, h, _, _ => by simp at h
  | _ :: _, [], _, _, _, _, h, _ => by simp at h
  | p :: P, w :: vs, 0, m, nd, h1, h2, hk => by
    simp at h1 h2; subst h1; subst h2
    show bindL kindOf ((p, w) :: P.zip vs) m p = _
    unfold bindL
    rw [bindL_out fun v hv => (List.nodup_cons.mp nd).1 (List.of_mem_zip hv).1, if_pos hk]
    simp
  | p :: P, w :: vs, i + 1, m, nd, h1, h2, hk => by
    show bindL kindOf ((p, w) :: P.zip vs) m x = _
    unfold bindL
    exact bindL_get (i := i) (List.nodup_cons.mp nd).2 (by simpa using h1) (by simpa using h2) hk
theorem bindC_get {kindOf : Str → Option NameKind} {x : Str} {v : Value} : ∀ {P : List Str} {vs : List Value} {i : Nat} {m : Str → Option Value}, P.Nodup → P[i]? = some x → vs[i]? = some v → kindOf x ≠ some .local →
    bindC kindOf (P.zip vs) m x = some v
  | [], _, _, _, _, h, _, _ => by simp at h
  | _ :: _, [], _, _, _, _, h, _ => by simp at h
  | p :: P, w :: vs, 0, m, nd, h1, h2, hk => by
    simp at h1 h2; subst h1; subst h2
    show bindC kindOf ((p, w) :: P.zip vs) m p = _
    unfold bindC
    rw [bindC_out fun v hv => (List.nodup_cons.mp nd).1 (List.of_mem_zip hv).1, if_neg hk]
    simp
  | p :: P, w :: vs, i + 1, m, nd, h1, h2, hk => by
    show bindC kindOf ((p, w) :: P.zip vs) m x = _
    unfold bindC
    exact bindC_get (i := i) (List.nodup_cons.mp nd).2 (by simpa using h1) (by simpa using h2) hk
def start (N : List Str) (vs : List V) : St := vs.map some ++ List.replicate (N.length - vs.length) none
def cxOf (CX : CXT) (P : Program) (w : World) (K : PySem.W.Frag) (mg : Str → Option Value) (base : Heap) (N : List Str) (qual : Str) (scope : Scope) (f : Addr) (cd : Value) (A : Around) (outer : List Env) (s : Shared) (H : Hp) (E : XK) : Cx where
  prog := P
  w := w
  K := K
  mg := mg
  base := base
  A := A.deeper (envOfC qual scope s.heap.objs.size f cd)
  N := N
  s_0 := s
  H_0 := H
  env := envOfC qual scope s.heap.objs.size f cd
  outer := outer
  stack := envOfC qual scope s.heap.objs.size f cd :: outer
  ex := []
  calm := true
  fn := fun _ => true
  pn := []
  xe := fun e s' => wpAny (model P w) (A.deeper (envOfC qual scope s.heap.objs.size f cd)) (leaving (envOfC qual scope s.heap.objs.size f cd) e) (fun _ s'' => CX outer H s E e s'') (fun e' s'' => CX outer H s E e' s'') s'
theorem cell_has {sc : Scope} {n : Nat} {x : Str} (h : sc.names.lookup x = some .cell) : ∃ c, (cellsFrom n sc.names []).lookup x = some c := by
  have q := PySem.W.cellsFrom_some sc.names n [] (.inl h)
  exact Option.isSome_iff_exists.mp q
theorem inv_start {CX : CXT} {P : Program} {w : World} {K : PySem.W.Frag} {mg : Str → Option Value} {base : Heap} {N ps : List Str} {qual : Str} {scope : Scope} {f : Addr} {cd : Value} {A : Around} {outer : List Env} {s s1 : Shared} {H : Hp} {E : XK} {us : List Value} {vs : List V}
    (S : FnScope N ps scope) (hd : A.handled = none) (e0 : Env0 P w K mg base A outer s H) (hl : vs.length = ps.length) (r : Vals vs us)
    (x : InCallC s s.heap.objs.size (bindL (envOfC qual scope s.heap.objs.size f cd).kindOf (ps.zip us) fun _ => none) (cellsFrom (s.heap.objs.size + 1) scope.names []) (bindC (envOfC qual scope s.heap.objs.size f cd).kindOf (ps.zip us) fun _ => none) s1) :
    Inv (cxOf CX P w K mg base N qual scope f cd A outer s H E) [] (start N vs) H s1 := by
  have hpl : ps.length ≤ N.length := by have := congrArg List.length S.pre; rw [List.length_take] at this; omega
  obtain ⟨h1, tk, rfl, hk⟩ := x.done
  have noA : ∀ b : Addr, b ∉ (cxOf CX P w K mg base N qual scope f cd A outer s H E).ex := fun b z => absurd (show b ∈ ([] : List Addr) from z) (by simp)
  refine ⟨⟨e0.mod, S.kind, rfl, rfl, Nat.le_refl _, fun y z c h1 h2 => ?_, fun y hy => ?_, fun y c _ h => ?_, fun _ => hd, Around.frames_deeper e0.frames, .inr ⟨rfl, rfl⟩, fun b z => absurd z (noA b), e0.bs, e0.bsz, fun b _ _ => noA b, fun b z => absurd z (noA b), e0.funs, e0.frf⟩,
    rfl, e0.bare, Un.kept hk, ⟨_, x.toInCall.ns, fun i y v h1 h2 h3 => ?_⟩, fun y c h => ⟨_, x.cell y c h⟩, e0.hok.fresh (Nat.le_refl _), fun y c h => ?_, fun p hp => absurd (show p ∈ ([] : List (Addr × Obj)) from hp) (by simp), e0.hok.kept hk, ?_⟩
  · exact name_of_addr x.apart (PySem.mem_of_lookup h1) (PySem.mem_of_lookup h2)
  · have hy : scope.names.lookup y = some .cell ∨ scope.names.lookup y = some .free := hy
    rcases hy with hy | hy
    · exact cell_has hy
    · exact absurd rfl (S.nofree _ (PySem.mem_of_lookup hy))
  · exact Nat.le_of_lt (x.above y c (PySem.mem_of_lookup h))
  · have hi : i < vs.length := by
      unfold start at h2
      by_cases hi : i < vs.length
      · exact hi
      · rw [List.getElem?_append_right (by simpa using hi)] at h2
        rw [List.getElem?_replicate] at h2
        split at h2 <;> cases h2
    have ha : vs[i]? = some v := by
      unfold start at h2
      rw [List.getElem?_append_left (by simpa using hi), List.getElem?_map] at h2
      cases e : vs[i]? with
      | none => rw [e] at h2; cases h2
      | some a => rw [e] at h2; cases h2; rfl
    obtain ⟨u, hu, rv⟩ := r.get ha
    have hp : ps[i]? = some y := by
      rw [← S.pre, List.getElem?_take_of_lt (by omega)]; exact h1
    have ndP : ps.Nodup := by rw [← S.pre]; exact S.nd.sublist (List.take_sublist _ _)
    refine ⟨u, rv, ?_⟩
    rcases S.par y (List.mem_of_getElem? hp) with k | k
    · exact .inl ⟨k, bindL_get ndP hp hu k⟩
    · obtain ⟨c, e⟩ := cell_has (n := s.heap.objs.size + 1) k
      refine .inr ⟨.inl k, c, e, ?_⟩
      have q := x.cell y c e
      rw [bindC_get ndP hp hu (by show scope.names.lookup y ≠ _; rw [k]; decide)] at q
      exact q
  · exact e0.hok.fresh (Nat.le_of_lt (x.above y c (PySem.mem_of_lookup h)))
  · unfold start
    show _ = N.length
    rw [List.length_append, List.length_map, List.length_replicate]
    omega
theorem fn_of {CX : CXT} {P : Program} {w : World} {K : PySem.W.Frag} {mg : Str → Option Value} {base : Heap} {k : Nat} {f : Addr} {name qual : Str} {params : Arguments} {body : List Stmt} {scope : Scope} {dV kV doc pm cdv ct oc : Value} {an od : Option Addr}
    {osl : Array (Option Value)} {N ps : List Str} {sp : Sp} (lk : K.lookup f = some ⟨oc, od, .func (PySem.W.fnOf name qual params body scope dV kV doc pm an cdv ct), osl⟩) (hcd : PySem.W.codeIn K cdv qual = true) (S : FnScope N ps scope)
    (len : ∀ vs H Q E, sp vs H Q E → vs.length = ps.length)
    (hbody : ∀ (A : Around) (outer : List Env) (s : Shared) (H : Hp) (vs : List V) (Q : VK) (E : XK), Room k (A.deeper (envOfC qual scope s.heap.objs.size f cdv)) → sp vs H Q E →
      ∃ t, PSs (cxOf CX P w K mg base N qual scope f cdv A outer s H E) body t ∧ t { nx := fun _ H' => Q .non H', rt := Q } (start N vs) H) :
    FnOk P w K mg base CX (k + 1) f (PySem.W.fnOf name qual params body scope dV kV doc pm an cdv ct) ps sp := by
  refine ⟨len, fun A outer s H args us vs Q E hr e0 hb r hsp => ?_⟩
  have hl := len _ _ _ _ hsp
  have KX : K.In s.heap := e0.mod.kin.keeps fun b o e => (e0.bs b o e).1
  have lim : s.heap.NoLimit := e0.mod.nolimit.keeps fun b o e => (e0.bs b o e).1
  have hkind : ∀ y ∈ ps.zip us, scope.names.lookup y.1 = some .local ∨ (scope.names.lookup y.1 = some .cell ∧ ((cellsFrom (s.heap.objs.size + 1) scope.names []).lookup y.1).isSome = true) := fun ⟨n, v⟩ hy => by
    rcases S.par n (List.of_mem_zip hy).1 with q | q
    · exact .inl q
    · exact .inr ⟨q, PySem.W.cellsFrom_some _ _ _ (.inl q)⟩
  refine codeAny_call_function hr.depth (KX _ _ lk) rfl S.co S.gen rfl (PySem.W.codeRec_of KX hcd) (hb _ _ _ _ ?_)
  refine wpAny_newFunctionEnv_cells S.kind hkind fun env he s1 x => ?_
  subst he
  refine ⟨lim.keeps x.toInCall.keep, codeAny_func ?_⟩
  obtain ⟨t, ht, hq⟩ := hbody A outer s H vs Q E (hr.deeper _) hsp
  have I : Inv (cxOf CX P w K mg base N qual scope f cdv A outer s H E) [] (start N vs) H s1 := inv_start S hr.hd e0 hl r x
  refine wpAny_mono (ht [] s1 (start N vs) H _ I hq) (fun fl s' hs => ?_) fun e s' hs => hs
  have fin : ∀ {σ' : St} {H' : Hp} {v : V} {u : Value}, Inv (cxOf CX P w K mg base N qual scope f cdv A outer s H E) [] σ' H' s' → RelV v u → Q v H' → CE outer P w H s Q u s' :=
    fun {σ' H' v u} J rv q => ⟨v, H', J.os, J.bare, J.base, J.hok, rv, q⟩
  cases fl with
  | ret u =>
    obtain ⟨v, σ', H', J, rv, q⟩ := hs
    exact fin J rv q
  | next =>
    obtain ⟨σ', H', J, q⟩ := hs
    exact fin (v := V.non) (u := Value.none) J rfl q
  | brk =>
    obtain ⟨_, _, _, q⟩ := hs
    exact False.elim q
  | cont =>
    obtain ⟨_, _, _, q⟩ := hs
    exact False.elim q
end L2
namespace L2
open PySem PySem.Spec PyProof.Rows
section
variable {X : Cx} {x : Str} {p pos : Pos} {e : Expr} {es : List Expr} {t : TA} {id T : String} {r : List V → Hp → VK → Prop}
def tCB (r : List V → Hp → VK → Prop) (t : TA) : TE := fun σ H Q => t σ H fun vs H1 => r vs H1 Q
theorem pe_callB (hc : CallR X (.builtin id) r) (hg : Gl X x) (hm : X.mg x = none) (hv : bootBuiltins x = some (.builtin id)) (ha : PA X (e :: es) t) (hn : x ≠ "__name__" := by decide) (hdb : (x == ("__debug__" : Str)) = false := by decide)
    (he : starEach (e :: es) X.env = (false, eval e X.env) :: starEach es X.env := by rfl) (hpl : (backTo pos (starEach es X.env)).any (·.1) = false := by rfl) : PE X (.Call (.Name x p) (e :: es) [] pos) (tCB r t) := by
  intro pins s σ H Q I h
  refine wpAny_Call_Name_kw (ld_blt I hg hm hv ?_ hn hdb)
  exact PyProof.Rows.callWith_builtin1 (thn (ha pos pins s σ H _ I h) fun us s1 ⟨vs, H1, I1, r1, q1⟩ => hc pins s1 σ H1 vs us Q I1 r1 q1) he hpl
theorem pe_callTy (hc : CallR X (.type T) r) (hg : Gl X x) (hm : X.mg x = none) (hv : bootBuiltins x = some (.type T)) (ha : PA X (e :: es) t) (hn : x ≠ "__name__" := by decide) (hdb : (x == ("__debug__" : Str)) = false := by decide)
    (he : starEach (e :: es) X.env = (false, eval e X.env) :: starEach es X.env := by rfl) (hpl : (backTo pos (starEach es X.env)).any (·.1) = false := by rfl) : PE X (.Call (.Name x p) (e :: es) [] pos) (tCB r t) := by
  intro pins s σ H Q I h
  refine wpAny_Call_Name_kw (ld_blt I hg hm hv ?_ hn hdb)
  exact PyProof.Rows.callWith_type1 (thn (ha pos pins s σ H _ I h) fun us s1 ⟨vs, H1, I1, r1, q1⟩ => hc pins s1 σ H1 vs us Q I1 r1 q1) he hpl
end
end L2
namespace HT
open PySem PyProof.Rows
section
open PySem.SeqAt
open PySem.AutoSeq1 (wpAny_loadPart')
open PySem.MeetsSeq PySem.MeetsSeq2 PySem.MeetsSeq3
end
section
variable {prog : Program} {w : World} {A : Around} {E : Value → Shared → Prop} {s : Shared}
def sIx (n d : Nat) : Option Int → Nat
  | none => d
  | some v => if v < 0 then (v + (n : Int)).toNat else min v.toNat n
theorem sIx_none (n d : Nat) : sIx n d none = d := rfl
theorem sIx_nat (n d k : Nat) : sIx n d (some (k : Int)) = min k n := by
  show (if (k : Int) < 0 then ((k : Int) + (n : Int)).toNat else min (k : Int).toNat n) = min k n
  rw [if_neg (by omega), Int.toNat_natCast]
end
end HT
namespace L2
open PySem PySem.Spec PyProof.Rows
abbrev TO := St → Hp → (Option Int → Hp → Prop) → Prop
def PO (X : Cx) (e : Option Expr) (t : TO) : Prop :=
  ∀ (pins : List (Addr × Obj)) (s : Shared) (σ : St) (H : Hp) (Q : Option Int → Hp → Prop), Inv X pins σ H s → t σ H Q →
    wpAny (model X.prog X.w) X.A (evalPart e X.env) (fun u s' => ∃ o H', Inv X pins σ H' s' ∧ IsPart u o ∧ Q o H') X.xe s
def tNoPart : TO := fun _ H Q => Q none H
def tPart (t : TE) : TO := fun σ H Q => t σ H fun x H1 => ∃ i, x = .int i ∧ Q (some i) H1
section
variable {X : Cx} {e : Expr} {te : TE} {lo hi : Option Expr} {tl th : TO} {pos p2 : Pos}
theorem po_none : PO X none tNoPart := by
  intro pins s σ H Q I h
  rw [evalPart_none]
  exact wpAny_pure ⟨none, H, I, .none, h⟩
theorem po_some (h : PE X e te) : PO X (some e) (tPart te) := by
  intro pins s σ H Q I hw
  rw [evalPart_some]
  refine thn (h pins s σ H _ I hw) fun u s1 ⟨x, H1, I1, r1, q1⟩ => ?_
  obtain ⟨i, rfl, q⟩ := q1
  obtain ⟨t, rfl⟩ := r1
  exact ⟨some i, H1, I1, .int i t, q⟩
def SlR (X : Cx) (r : V → Option Int → Option Int → Hp → VK → Prop) : Prop :=
  ∀ (pins : List (Addr × Obj)) (s : Shared) (σ : St) (H : Hp) (x : V) (v vl vu : Value) (lo hi : Option Int) (sl : Addr) (Q : VK), Inv X pins σ H s → RelV x v → s.heap.IsSliceOf sl vl vu .none → IsPart vl lo → IsPart vu hi → r x lo hi H Q →
    ∃ T id, typeLookup (.type T) "__getitem__" = pure (some (.builtin id)) ∧ s.TypeIs v T ∧ wpAny (model X.prog X.w) X.A (getItem v (.ref sl)) (EP X pins σ Q) X.xe s
def tSl (r : V → Option Int → Option Int → Hp → VK → Prop) (te : TE) (tl th : TO) : TE := fun σ H Q => te σ H fun x H1 => tl σ H1 fun l H2 => th σ H2 fun u H3 => r x l u H3 Q
theorem pe_slice {r : V → Option Int → Option Int → Hp → VK → Prop} (hr : SlR X r) (he : PE X e te) (hl : PO X lo tl) (hu : PO X hi th) : PE X (.Subscript e (.Slice lo hi none p2) pos) (tSl r te tl th) := by
  intro pins s σ H Q I h
  refine Subscript_ (thn (he pins s σ H _ I h) fun v s1 ⟨x, H1, I1, r1, q1⟩ => ?_)
  refine wpAny_Slice (thn (hl pins s1 σ H1 _ I1 q1) fun vl s2 ⟨l, H2, I2, pl, q2⟩ => thn (hu pins s2 σ H2 _ I2 q2) fun vu s3 ⟨u, H3, I3, pu, q3⟩ => ?_)
  rw [evalPart_none]
  refine wpAny_pure ?_
  have I4 : Inv X pins σ H3 { s3 with heap := s3.heap.push { cls := .type "slice", data := .fields #[vl, vu, .none] } } := I3.kept (t' := s3.toks) fun b ob q => Heap.get?_push_of_some _ q
  obtain ⟨T, id, hT, ht, hg⟩ := hr pins { s3 with heap := s3.heap.push { cls := .type "slice", data := .fields #[vl, vu, .none] } } σ H3 x v vl vu l u s3.heap.objs.size Q I4 r1 (Heap.IsSliceOf.new ..) pl pu q3
  show wpAny (model X.prog X.w) X.A (subscriptTail e (.Slice lo hi none p2) v (.ref s3.heap.objs.size)) (EP X pins σ Q) X.xe { s3 with heap := s3.heap.push { cls := .type "slice", data := .fields #[vl, vu, .none] } }
  exact tail_any (ops := [.ref s3.heap.objs.size, v]) ht hT hg (by with_unfolding_all rfl)
def cutV (xs : List V) (lo hi : Option Int) : List V := (xs.drop (HT.sIx xs.length 0 lo)).take (HT.sIx xs.length xs.length hi - HT.sIx xs.length 0 lo)
theorem cutV_length (xs : List V) (lo hi : Option Int) : (cutV xs lo hi).length ≤ xs.length := by
  unfold cutV
  rw [List.length_take, List.length_drop]
  omega
end
end L2
namespace L2
open PySem PySem.Spec PyProof.Rows
def ixN (n : Nat) (i : Int) : Option Nat := if 0 ≤ i then (if i < n then some i.toNat else none) else if -(n : Int) ≤ i then some (i + n).toNat else none
def atI {α : Type} (xs : List α) (i : Int) : Option α := (ixN xs.length i).bind fun j => xs[j]?
theorem ixN_seq {n : Nat} {i : Int} {j : Nat} (h : ixN n i = some j) : seqIndex? i n = some j ∧ j < n ∧ -(n : Int) ≤ i ∧ i < n := by
  unfold ixN at h
  by_cases h0 : 0 ≤ i
  · rw [if_pos h0] at h
    by_cases h1 : i < n
    · rw [if_pos h1] at h
      have e : i.toNat = j := Option.some.inj h
      exact ⟨by rw [seqIndex_of h0 h1, e], by omega, by omega, h1⟩
    · rw [if_neg h1] at h; cases h
  · rw [if_neg h0] at h
    by_cases h1 : -(n : Int) ≤ i
    · rw [if_pos h1] at h
      have e : (i + n).toNat = j := Option.some.inj h
      exact ⟨by rw [seqIndex_neg (by omega) h1, e], by omega, h1, by omega⟩
    · rw [if_neg h1] at h; cases h
theorem atI_get {α : Type} {xs : List α} {i : Int} {v : α} (h : atI xs i = some v) : ∃ j, seqIndex? i xs.length = some j ∧ xs[j]? = some v ∧ j < xs.length ∧ -(xs.length : Int) ≤ i ∧ i < xs.length := by
  unfold atI at h
  cases e : ixN xs.length i with
  | none => rw [e] at h; cases h
  | some j =>
    rw [e] at h
    obtain ⟨h1, h2, h3, h4⟩ := ixN_seq e
    exact ⟨j, h1, h, h2, h3, h4⟩
theorem atI_nat {α : Type} {xs : List α} {j : Nat} {v : α} (h : xs[j]? = some v) : atI xs (j : Int) = some v := by
  have hj : j < xs.length := (List.getElem?_eq_some_iff.mp h).1
  have e : ixN xs.length (j : Int) = some j := by
    unfold ixN
    rw [if_pos (by omega), if_pos (by omega)]; simp
  unfold atI; rw [e]; exact h
def PlainIx (b : Expr) : Prop := ∀ o i, subscripted b false o i = operate [o, i] (getItem o i)
def IxR (X : Cx) (r : R2) : Prop :=
  ∀ (value slice : Expr) (pins : List (Addr × Obj)) (s : Shared) (σ : St) (H : Hp) (x y : V) (v u : Value) (Q : VK), Inv X pins σ H s → RelV x v → RelV y u → r x y H Q →
    subscripted slice false v u = operate [v, u] (getItem v u) → wpAny (model X.prog X.w) X.A (subscriptTail value slice v u) (EP X pins σ Q) X.xe s
def MtR (X : Cx) (id : String) (r : V → List V → Hp → VK → Prop) : Prop :=
  ∀ (pins : List (Addr × Obj)) (s : Shared) (σ : St) (H : Hp) (x : V) (xs : List V) (v : Value) (us : List Value) (Q : VK), Inv X pins σ H s → RelV x v → Vals xs us → r x xs H Q →
    wpAny (model X.prog X.w) X.A (call (.builtin id) (v :: us)) (EP X pins σ Q) X.xe s
section
variable {X : Cx} {a b : Expr} {ta tb : TE} {pos : Pos}
theorem pe_ix {r : R2} (hr : IxR X r) (ha : PE X a ta) (hb : PE X b tb) (hs : PlainIx b) : PE X (.Subscript a b pos) (tOp r ta tb) := by
  intro pins s σ H Q I h
  exact Subscript_ (binT ha hb I h fun v u s2 x y H2 I2 rx ry q => hr a b pins s2 σ H2 x y v u Q I2 rx ry q (hs _ _))
def rIxL (K : PySem.W.Frag) : R2 := fun x y H Q => ∃ p xs i v, x = .ref p ∧ y = .int i ∧ SqL K H p xs ∧ atI xs i = some v ∧ Q v H
def rIxT (K : PySem.W.Frag) : R2 := fun x y H Q => ∃ p xs i v, x = .ref p ∧ y = .int i ∧ SqT K H p xs ∧ atI xs i = some v ∧ Q v H
theorem ix_list : IxR X (rIxL X.K) := by
  intro value slice pins s σ H x y v u Q I rx ry h hs
  obtain ⟨p, xs, i, z, rfl, rfl, hq, he, q⟩ := h
  cases rx
  obtain ⟨t, rfl⟩ := ry
  obtain ⟨its, r, pl, hz⟩ := I.list hq
  obtain ⟨j, h1, h2, h3, h4, h5⟩ := atI_get he
  obtain ⟨w, ew, rw'⟩ := r.get h2
  have hl := r.length
  have hn := line63
  have fin : EP X pins σ Q w s := ⟨z, H, I, rw', q⟩
  by_cases h0 : 0 ≤ i
  · have hj : i.toNat = j := by
      rw [seqIndex_of h0 h5] at h1
      exact Option.some.inj h1
    exact item_listR pl.isList h0 (by omega) (by rw [hj]; simpa using ew) fin hs
  · have hj : (i + (its.toArray.size : Int)).toNat = j := by
      rw [seqIndex_neg (by omega) h4] at h1
      rw [List.size_toArray, ← hl]
      exact Option.some.inj h1
    exact subscriptTail_builtinR (x := w) pl.isList.typeIs slot_list_getitem.lookup
      (wpAny_getItem_list_neg (Q := fun r s' => r = w ∧ EP X pins σ Q r s') pl.isList (by omega) (by rw [List.size_toArray] <;> omega) (by omega) (by rw [hj]; simpa using ew) ⟨rfl, fin⟩) hs
theorem ix_tup : IxR X (rIxT X.K) := by
  intro value slice pins s σ H x y v u Q I rx ry h hs
  obtain ⟨p, xs, i, z, rfl, rfl, hq, he, q⟩ := h
  cases rx
  obtain ⟨t, rfl⟩ := ry
  obtain ⟨its, r, pl, hz⟩ := I.tuple hq
  obtain ⟨j, h1, h2, h3, h4, h5⟩ := atI_get he
  obtain ⟨w, ew, rw'⟩ := r.get h2
  have hl := r.length
  have hn := line63
  have fin : EP X pins σ Q w s := ⟨z, H, I, rw', q⟩
  exact subscriptTail_builtinR (x := w) pl.typeIs slot_tuple_getitem.lookup
    (getItem_tuple (j := j) (Q := fun r s' => r = w ∧ EP X pins σ Q r s') pl (by omega) (by omega) (by rw [List.size_toArray, ← hl]; exact h1) (by simpa using ew) ⟨rfl, fin⟩) hs
theorem mapSeq_set (its : List Value) (n j : Nat) (u : Value) : Obj.mapSeq (·.setIfInBounds j u) { cls := .type "list", data := .seq its.toArray n } = { cls := .type "list", data := .seq (its.set j u).toArray n } := by
  simp [Obj.mapSeq]
theorem Inv.lst {pins : List (Addr × Obj)} {σ : St} {H : Hp} {s : Shared} {p : Addr} {xs : List V} (I : Inv X pins σ H s) (h : H p = some (.lst xs)) :
    ∃ (its : List Value) (n : Nat), Vals xs its ∧ s.heap.get? p = some { cls := .type "list", data := .seq its.toArray n } ∧ xs.length ≤ sizeLine := by
  obtain ⟨z, its, n, r, e⟩ := I.hok p _ h
  exact ⟨its, n, r, e, z⟩
theorem Inv.lstUpd {pins : List (Addr × Obj)} {σ : St} {H : Hp} {s : Shared} {p : Addr} {xs ys : List V} {its its' : List Value} {n n' : Nat} {f : Obj → Obj} (I : Inv X pins σ H s) (h : H p = some (.lst xs))
    (ho : s.heap.get? p = some { cls := .type "list", data := .seq its.toArray n }) (hf : f { cls := .type "list", data := .seq its.toArray n } = { cls := .type "list", data := .seq its'.toArray n' }) (r : Vals ys its') (hz : ys.length ≤ sizeLine) (t : Nat) :
    Inv X pins σ (upd H p (.lst ys)) { s with heap := s.heap.update p f, toks := t } := by
  have e : (s.heap.update p f).get? p = some { cls := .type "list", data := .seq its'.toArray n' } := by
    rw [Heap.get?_update_self f ho (by rw [hf] <;> rfl), hf]
  refine I.write (x := p) (e := p) (by rw [h]; trivial) (.inl rfl) (fun b u hb q => (Heap.get?_update_other _ _ (Ne.symm hb)).trans q) ⟨_, e⟩ ?_
  exact ⟨hz, its', n', r, e⟩
def rSetL : V → V → V → Hp → (Hp → Prop) → Prop := fun o i v H Q => ∃ p xs k j, o = .ref p ∧ i = .int k ∧ H p = some (.lst xs) ∧ ixN xs.length k = some j ∧ Q (upd H p (.lst (xs.set j v)))
theorem set_list : PSet X rSetL := by
  intro pins s σ H o i v ov iv u Q I ro ri rv h
  obtain ⟨p, xs, k, j, rfl, rfl, hp, hj, q⟩ := h
  cases ro
  obtain ⟨t, rfl⟩ := ri
  obtain ⟨its, n, r, ho, hz⟩ := I.lst hp
  obtain ⟨h1, h2, h3, h4⟩ := ixN_seq hj
  have hl := r.length
  have hn := line63
  have I' : Inv X pins σ (upd H p (.lst (xs.set j v))) { s with heap := s.heap.update p (Obj.mapSeq (·.setIfInBounds j u)) } :=
    I.lstUpd hp ho (mapSeq_set its n j u) (r.set rv j) (by rw [List.length_set]; exact hz) s.toks
  by_cases h0 : 0 ≤ k
  · have hk : k.toNat = j := by
      rw [seqIndex_of h0 h4] at h1
      exact Option.some.inj h1
    exact PySem.W.ki_setAt ho h0 (by omega) (by rw [List.size_toArray, ← hl]; exact h4) (by rw [hk]; exact ⟨_, I', q⟩)
  · have hk : (k + (its.toArray.size : Int)).toNat = j := by
      rw [seqIndex_neg (by omega) h3] at h1
      rw [List.size_toArray, ← hl]
      exact Option.some.inj h1
    exact PySem.W.ki_setBack ho (by omega) (by rw [List.size_toArray, ← hl]; exact h3) (by omega) (by rw [hk]; exact ⟨_, I', q⟩)
theorem slice_bounds (lo hi : Option Int) (n : Nat) : (sliceBounds lo hi none n).1 = ((HT.sIx n 0 lo : Nat) : Int) ∧ (sliceBounds lo hi none n).2.1 = ((HT.sIx n n hi : Nat) : Int) ∧ (sliceBounds lo hi none n).2.2 = 1 := by
  refine ⟨?_, ?_, rfl⟩
  · cases lo with
    | none => simp [sliceBounds, HT.sIx]
    | some i =>
      simp only [sliceBounds, HT.sIx, Option.getD_none, show (1 : Int) > 0 by decide, if_true]
      by_cases h : i < 0
      · simp only [h, if_true] <;> omega
      · simp only [h, if_false] <;> omega
  · cases hi with
    | none => simp [sliceBounds, HT.sIx]
    | some i =>
      simp only [sliceBounds, HT.sIx, Option.getD_none, show (1 : Int) > 0 by decide, if_true]
      by_cases h : i < 0
      · simp only [h, if_true] <;> omega
      · simp only [h, if_false] <;> omega
theorem slicePick_cut (its : List Value) (lo hi : Option Int) : slicePick its.toArray lo hi none = ((its.drop (HT.sIx its.length 0 lo)).take (HT.sIx its.length its.length hi - HT.sIx its.length 0 lo)).toArray := by
  obtain ⟨h1, h2, h3⟩ := slice_bounds lo hi its.toArray.size
  unfold slicePick
  rw [h1, h2, h3]
  simp only [sliceRange_one, pick_run, List.size_toArray] <;> rfl
def rSlL (K : PySem.W.Frag) : V → Option Int → Option Int → Hp → VK → Prop := fun x lo hi H Q => ∃ a xs, x = .ref a ∧ SqL K H a xs ∧ ∀ p, H p = none → Q (.ref p) (upd H p (.lst (cutV xs lo hi)))
theorem sl_list : SlR X (rSlL X.K) := by
  intro pins s σ H x v vl vu lo hi sl Q I rx hs pl pu h
  obtain ⟨a, xs, rfl, hx, q⟩ := h
  cases rx
  obtain ⟨its, r, ht, hz⟩ := I.list hx
  have hlen := r.length
  refine ⟨"list", _, slot_list_getitem.lookup, ht.isList.typeIs, ?_⟩
  refine wpAny_getItem_list_slice ht.isList hs pl pu .none (by simp) ?_ (by rw [List.size_toArray] <;> omega)
  rw [slicePick_cut, ← hlen]
  refine ⟨.ref s.heap.objs.size, _, I.laid (t' := s.toks) (o := .lst (cutV xs lo hi)) (fun b ob q => Heap.get?_push_of_some _ q) (Nat.le_refl _) ?_, rfl, q _ (I.hok.fresh (Nat.le_refl _))⟩
  exact ⟨Nat.le_trans (cutV_length xs lo hi) hz, _, 0, (r.drop (HT.sIx xs.length 0 lo)).take (HT.sIx xs.length xs.length hi - HT.sIx xs.length 0 lo), Heap.get?_push_size _ rfl⟩
def flatV : V → Bool
  | .non => true
  | .bl _ => true
  | .int _ => true
  | .str _ => true
  | _ => false
def eqV : V → V → Bool
  | .non, .non => true
  | .bl a, .bl b => a == b
  | .bl a, .int b => (if a then 1 else 0) == b
  | .int a, .bl b => a == (if b then 1 else 0)
  | .int a, .int b => a == b
  | .str a, .str b => a == b
  | _, _ => false
theorem eqAt_V {A : Around} {s : Shared} {y x : V} {u v : Value} (ry : RelV y u) (rx : RelV x v) (fy : flatV y = true) (fx : flatV x = true) : SeqAt.EqAt A s u v (eqV y x) := by
  cases y with
  | non =>
    cases ry
    cases x with
    | non => cases rx; exact SeqAt.EqAt.same _
    | bl b => cases rx; exact SeqAt.EqAt.none_bool b
    | int b => obtain ⟨t, rfl⟩ := rx; exact SeqAt.EqAt.none_int b t
    | str b => obtain ⟨t, rfl⟩ := rx; exact SeqAt.EqAt.none_str b t
    | _ => exact absurd (show false = true from fx) Bool.false_ne_true
  | bl a =>
    cases ry
    cases x with
    | non => cases rx; exact SeqAt.EqAt.bool_none a
    | bl b => cases rx; exact SeqAt.EqAt.bool_bool a b
    | int b => obtain ⟨t, rfl⟩ := rx; exact SeqAt.EqAt.bool_int a b t
    | str b => obtain ⟨t, rfl⟩ := rx; exact SeqAt.EqAt.bool_str a b t
    | _ => exact absurd (show false = true from fx) Bool.false_ne_true
  | int a =>
    obtain ⟨t', rfl⟩ := ry
    cases x with
    | non => cases rx; exact SeqAt.EqAt.int_none a t'
    | bl b => cases rx; exact SeqAt.EqAt.int_bool a t' b
    | int b => obtain ⟨t, rfl⟩ := rx; exact SeqAt.EqAt.int_int a t' b t
    | str b => obtain ⟨t, rfl⟩ := rx; exact SeqAt.EqAt.int_str a t' b t
    | _ => exact absurd (show false = true from fx) Bool.false_ne_true
  | str a =>
    obtain ⟨t', rfl⟩ := ry
    cases x with
    | non => cases rx; exact SeqAt.EqAt.str_none a t'
    | bl b => cases rx; exact SeqAt.EqAt.str_bool a t' b
    | int b => obtain ⟨t, rfl⟩ := rx; exact SeqAt.EqAt.str_int a t' b t
    | str b => obtain ⟨t, rfl⟩ := rx; exact SeqAt.EqAt.str_str a t' b t
    | _ => exact absurd (show false = true from fx) Bool.false_ne_true
  | _ => exact absurd (show false = true from fy) Bool.false_ne_true
def eqU (x : V) (u : Value) : Bool := match u with
  | .none => eqV .non x
  | .bool b => eqV (.bl b) x
  | .int i _ => eqV (.int i) x
  | .str z _ => eqV (.str z) x
  | _ => false
theorem eqU_of {x y : V} {u : Value} (r : RelV y u) (f : flatV y = true) : eqU x u = eqV y x := by
  cases y with
  | non => cases r; rfl
  | bl b => cases r; rfl
  | int i => obtain ⟨t, rfl⟩ := r; rfl
  | str z => obtain ⟨t, rfl⟩ := r; rfl
  | _ => exact absurd (show false = true from f) Bool.false_ne_true
theorem any_eqU {x : V} : ∀ {xs : List V} {us : List Value}, Vals xs us → xs.all flatV = true → us.any (eqU x) = xs.any fun y => eqV y x
  | _, _, .nil, _ => rfl
  | y :: xs, u :: us, .cons r t, f => by
    rw [List.all_cons, Bool.and_eq_true] at f
    rw [List.any_cons, List.any_cons, eqU_of r f.1, any_eqU t f.2]
theorem mem_eqAt {A : Around} {s : Shared} {x : V} {v : Value} (rx : RelV x v) (fx : flatV x = true) : ∀ {xs : List V} {us : List Value}, Vals xs us → xs.all flatV = true → ∀ u ∈ us, SeqAt.EqAt A s u v (eqU x u)
  | _, _, .nil, _ => fun u hu => by cases hu
  | y :: xs, u :: us, .cons r t, f => fun u' hu => by
    rw [List.all_cons, Bool.and_eq_true] at f
    rcases List.mem_cons.mp hu with rfl | hu
    · rw [eqU_of r f.1]; exact eqAt_V r rx f.1 fx
    · exact mem_eqAt rx fx t f.2 u' hu
def inV (x : V) (xs : List V) : Bool := xs.any fun y => eqV y x
def rIn (K : PySem.W.Frag) (neg : Bool) : R2 := fun x y H Q => ∃ p xs, y = .ref p ∧ (SqL K H p xs ∨ SqT K H p xs) ∧ flatV x = true ∧ xs.all flatV = true ∧ Q (.bl (if neg then !inV x xs else inV x xs)) H
theorem op_notIn_seq : OpR X (compareOp .NotIn) (rIn X.K true) := by
  intro pins s σ H x y v u Q I rx ry h
  obtain ⟨p, xs, rfl, hq, fx, fs, q⟩ := h
  cases ry
  rcases hq with hq | hq
  · obtain ⟨its, r, pl, hz⟩ := I.list hq
    refine SeqAt.notIn_listAt (eqU x) pl.isList (fun w hw => mem_eqAt rx fx r fs w (by simpa using hw)) ⟨.bl _, H, I, rfl, ?_⟩
    rw [show its.toArray.any (eqU x) = its.any (eqU x) by simp, any_eqU r fs]
    exact q
  · obtain ⟨its, r, pl, hz⟩ := I.tuple hq
    refine SeqAt.notIn_tupleAt (eqU x) pl (fun w hw => mem_eqAt rx fx r fs w (by simpa using hw)) ⟨.bl _, H, I, rfl, ?_⟩
    rw [show its.toArray.any (eqU x) = its.any (eqU x) by simp, any_eqU r fs]
    exact q
theorem call_len_seq : CallR X (.builtin "len") (fun xs H Q => ∃ p ys, xs = [.ref p] ∧ (SqL X.K H p ys ∨ SqT X.K H p ys) ∧ Q (.int ys.length) H) := by
  intro pins s σ H xs us Q I r h
  obtain ⟨p, ys, rfl, hq, q⟩ := h
  obtain ⟨u, rfl, rx⟩ := vals1 r
  cases rx
  have hn := line63
  rcases hq with hq | hq
  · obtain ⟨its, r', pl, hz⟩ := I.list hq
    have hlen := r'.length
    exact Calls.call_len_list pl.isList (by simp only [List.size_toArray] <;> omega) ⟨.int ys.length, H, I.tok _, ⟨s.toks + 1, by rw [List.size_toArray, hlen]⟩, q⟩
  · obtain ⟨its, r', pl, hz⟩ := I.tuple hq
    have hlen := r'.length
    exact len_tuple pl (by simp only [List.size_toArray] <;> omega) ⟨.int ys.length, H, I.tok _, ⟨s.toks + 1, by rw [List.size_toArray, hlen]⟩, q⟩
def tyV (K : PySem.W.Frag) (T : String) (x : V) (H : Hp) : Prop := match x with
  | .str _ => T = "str"
  | .int _ => T = "int"
  | .ref p => (T = "list" ∧ ∃ xs, SqL K H p xs) ∨ (T = "tuple" ∧ ∃ o, K.lookup p = some o ∧ o.cls = .type "tuple" ∧ o.dict = none) ∨
      (T = "dict" ∧ ((∃ kvs, H p = some (.dK kvs)) ∨ ∃ kvs, H p = some (.dT kvs))) ∨ (T = "set" ∧ ∃ S n, H p = some (.set S n))
  | _ => False
theorem tyV_is {pins : List (Addr × Obj)} {σ : St} {H : Hp} {s : Shared} {T : String} {x : V} {v : Value} (I : Inv X pins σ H s) (r : RelV x v) (ty : tyV X.K T x H) :
    s.TypeIs v T ∧ ∀ a, v = .ref a → ∃ ob, s.heap.get? a = some ob ∧ ob.dict = none := by
  cases x with
  | str z =>
    obtain ⟨t, rfl⟩ := r
    cases (show T = "str" from ty)
    exact ⟨typeIs_str s z t, fun _ e => nomatch e⟩
  | int i =>
    obtain ⟨t, rfl⟩ := r
    cases (show T = "int" from ty)
    exact ⟨typeIs_int s i t, fun _ e => nomatch e⟩
  | ref p =>
    cases r
    rcases ty with ⟨rfl, xs, hq⟩ | ⟨rfl, o, hk, hc, hd⟩ | ⟨rfl, hk⟩ | ⟨rfl, S, n, hk⟩
    · obtain ⟨its, _, pl, _⟩ := I.list hq
      refine ⟨pl.isList.typeIs, fun a e => ?_⟩
      cases e
      obtain ⟨o, n, e, c, hd, _⟩ := pl
      exact ⟨o, e, hd⟩
    · refine ⟨⟨o, I.kIn p o hk, hc⟩, fun a e => ?_⟩
      cases e
      exact ⟨o, I.kIn _ o hk, hd⟩
    · have z : ∃ o, s.heap.get? p = some o ∧ o.ExactDict := by
        rcases hk with ⟨kvs, hk⟩ | ⟨kvs, hk⟩
        · obtain ⟨_, _, _, _, o, _, _, e, ex, _⟩ := I.hok p _ hk
          exact ⟨o, e, ex⟩
        · obtain ⟨_, _, _, _, o, _, _, e, ex, _⟩ := I.hok p _ hk
          exact ⟨o, e, ex⟩
      obtain ⟨o, e, ex⟩ := z
      refine ⟨⟨o, e, ex.1⟩, fun a e2 => ?_⟩
      cases e2
      exact ⟨o, e, ex.2.1⟩
    · obtain ⟨o, _, _, _, e, ex, _⟩ := I.hok p _ hk
      refine ⟨⟨o, e, ex.1⟩, fun a e2 => ?_⟩
      cases e2
      exact ⟨o, e, ex.2.1⟩
  | _ => exact False.elim ty
def tBM (K : PySem.W.Frag) (T : String) (r : V → List V → Hp → VK → Prop) (to : TE) (t : TA) : TE := fun σ H Q => to σ H fun x H1 => tyV K T x H1 ∧ t σ H1 fun xs H2 => r x xs H2 Q
variable {o e : Expr} {es : List Expr} {to : TE} {t : TA} {name : Str} {apos cpos : Pos} {T id : String} {r : V → List V → Hp → VK → Prop}
theorem pe_bm (pa : PlainAttrs T) (slot : Slot T name id) (hty : typeOf (.builtin id) = pure (.type "method_descriptor")) (hm : MtR X id r) (ho : PE X o to) (ha : PA X (e :: es) t)
    (hbase : attributeBase o name X.env (eval o X.env) = eval o X.env := by rfl)
    (hfew : ((backTo cpos (starEach (e :: es) X.env)).all (fun x => !x.1) && (backToKw cpos (keywordEach [] X.env)).all (fun x => x.1.isSome)
      && decide ((e :: es).length + ([] : List Keyword).length + (if ([] : List Keyword).isEmpty then 0 else 1) < 30)) = true := by rfl)
    (hline : (apos.endLine == cpos.line) = true := by rfl) (hs : starEach (e :: es) X.env = (false, eval e X.env) :: starEach es X.env := by rfl) (hplain : (backTo cpos (starEach es X.env)).any (·.1) = false := by rfl) :
    PE X (.Call (.Attribute o name apos) (e :: es) [] cpos) (tBM X.K T r to t) := by
  intro pins s σ H Q I h
  refine wpAny_Call_method_late hbase hfew hline rfl (thn (ho pins s σ H _ I h) fun v s1 ⟨x, H1, I1, r1, ty, q1⟩ => ?_)
  obtain ⟨h1, h2⟩ := tyV_is I1 r1 ty
  refine ⟨T, id, pa, slot, hty, h1, h2, ?_⟩
  have hA := ha cpos pins s1 σ H1 _ I1 q1
  rw [hs] at hA ⊢
  refine Calls.callWith_builtin (by show (false || (backTo cpos (starEach es X.env)).any (·.1)) = false; rw [hplain] <;> rfl) (Calls.evalArgs_plain ?_)
  exact thn hA fun us s2 ⟨vs, H2, I2, r2, q2⟩ => hm pins s2 σ H2 x vs v us Q I2 r1 r2 q2
end
end L2
namespace L2
open PySem PySem.Spec PyProof.Rows
def MtM (X : Cx) (id : String) (r : V → List V → Hp → VK → Prop) : Prop :=
  ∀ (pins : List (Addr × Obj)) (s : Shared) (σ : St) (H : Hp) (x : V) (xs : List V) (v : Value) (us : List Value) (Q : VK), Inv X pins σ H s → RelV x v → Vals xs us → r x xs H Q →
    wpAny (model X.prog X.w) X.A (call (.builtin id) (v :: us)) (EP X pins σ Q) X.xe s
theorem Vals.one : ∀ {x : V} {us : List Value}, Vals [x] us → ∃ u, us = [u] ∧ RelV x u
  | _, _, .cons r .nil => ⟨_, rfl, r⟩
theorem Vals.rep {xs : List V} {us : List Value} (h : Vals xs us) : ∀ k : Nat, Vals (List.replicate k xs).flatten (List.replicate k us).flatten
  | 0 => .nil
  | k + 1 => by
    rw [List.replicate_succ, List.replicate_succ, List.flatten_cons, List.flatten_cons]
    exact Vals.append h (Vals.rep h k)
theorem foldl_rep (its : List Value) : ∀ (k : Nat) (acc : List Value),
    List.foldl (fun x1 x2 => x1 ++ x2) acc.toArray (List.replicate k its.toArray) = (acc ++ (List.replicate k its).flatten).toArray
  | 0, acc => by simp
  | k + 1, acc => by
    have e : acc.toArray ++ its.toArray = (acc ++ its).toArray := by simp
    have e2 : (acc ++ its) ++ (List.replicate k its).flatten = acc ++ (List.replicate (k + 1) its).flatten := by
      rw [List.replicate_succ, List.flatten_cons, List.append_assoc]
    rw [← e2, ← foldl_rep its k (acc ++ its), ← e, List.replicate_succ, List.foldl_cons]
section
variable {X : Cx} {pins : List (Addr × Obj)} {σ : St} {H : Hp} {s : Shared} {l b : Addr} {xs ys zs : List V}
theorem Inv.lset {its its' : List Value} {n : Nat} {f : Array Value → Array Value} {t' : Nat} (I : Inv X pins σ H s) (hH : H l = some (.lst xs))
    (e : s.heap.get? l = some { cls := .type "list", data := .seq its.toArray n }) (hf : f its.toArray = its'.toArray) (hv : Vals ys its') (hz : ys.length ≤ sizeLine) :
    Inv X pins σ (upd H l (.lst ys)) { s with heap := s.heap.update l (Obj.mapSeq f), toks := t' } := by
  have q := PySem.IsL.update e f
  rw [hf] at q
  refine I.write (x := l) (e := l) (by rw [hH]; exact trivial) (.inl rfl) (fun b' u hb hu => (Heap.get?_update_other s.heap (Obj.mapSeq f) (Ne.symm hb)).trans hu) ⟨_, q⟩ ?_
  exact ⟨hz, its', _, hv, q⟩
theorem Inv.lnew {its : List Value} {t' : Nat} (I : Inv X pins σ H s) (hv : Vals ys its) (hz : ys.length ≤ sizeLine) :
    Inv X pins σ (upd H s.heap.objs.size (.lst ys)) { s with heap := s.heap.push { cls := .type "list", data := .seq its.toArray }, toks := t' } :=
  I.laid (fun _ _ q => Heap.get?_push_of_some _ q) (Nat.le_refl _) ⟨hz, its, 0, hv, Heap.get?_push_size _ rfl⟩
theorem Inv.fresh (I : Inv X pins σ H s) : H s.heap.objs.size = none := I.hok.fresh (Nat.le_refl _)
theorem Inv.lstM (I : Inv X pins σ H s) (hH : H l = some (.lst xs)) : xs.length ≤ sizeLine ∧ ∃ (its : List Value) (n : Nat), Vals xs its ∧ xs.length = its.length ∧ s.heap.get? l = some { cls := .type "list", data := .seq its.toArray n } := by
  obtain ⟨z, its, n, r, e⟩ := I.hok l _ hH
  exact ⟨z, its, n, r, r.length, e⟩
theorem notLongL {n : Nat} (h : n ≤ sizeLine) : Builtin.List.listTooLong n = false := by
  unfold Builtin.List.listTooLong
  exact decide_eq_false (by omega)
end
section
variable {X : Cx}
def rAppend : V → List V → Hp → VK → Prop := fun x vs H Q => ∃ l xs y, x = .ref l ∧ vs = [y] ∧ H l = some (.lst xs) ∧ xs.length < sizeLine ∧ Q .non (upd H l (.lst (xs ++ [y])))
theorem mt_append : MtM X "list.append" rAppend := by
  intro pins s σ H x vs v us Q I rx rv h
  obtain ⟨l, xs, y, rfl, rfl, hH, hz, q⟩ := h
  cases rx
  obtain ⟨u, rfl, ru⟩ := rv.one
  obtain ⟨z, its, n, r, hl, e⟩ := I.lstM hH
  refine call_meets F.slot_list_append ⟨_, e, rfl⟩ F.entry_list_append (F.args_list_append_2 _ _) (PySem.list_append l its.toArray n u (by rw [List.size_toArray]; omega)) ⟨e, ?_⟩
  refine ⟨.non, _, I.lset (its' := its ++ [u]) hH e (by simp) (r.append (.cons ru .nil)) ?_, rfl, q⟩
  rw [List.length_append, List.length_singleton]
  omega
def rExtend : V → List V → Hp → VK → Prop := fun x vs H Q => ∃ l b xs zs, x = .ref l ∧ vs = [.ref b] ∧ H l = some (.lst xs) ∧ H b = some (.lst zs) ∧ xs.length + zs.length ≤ sizeLine ∧ Q .non (upd H l (.lst (xs ++ zs)))
theorem mt_extend : MtM X "list.extend" rExtend := by
  intro pins s σ H x vs v us Q I rx rv h
  obtain ⟨l, b, xs, zs, rfl, rfl, hH, hB, hz, q⟩ := h
  cases rx
  obtain ⟨u, rfl, ru⟩ := rv.one
  cases ru
  obtain ⟨z, its, n, r, hl, e⟩ := I.lstM hH
  obtain ⟨z2, its2, n2, r2, hl2, e2⟩ := I.lstM hB
  have hsz : its.toArray.size + its2.toArray.size ≤ sizeLine := by rw [List.size_toArray, List.size_toArray]; omega
  have hlong : ¬ (!its.toArray.isEmpty && Builtin.List.listTooLong (its.toArray.size + its2.toArray.size)) = true := by
    rw [notLongL hsz, Bool.and_false]
    exact Bool.false_ne_true
  refine call_meets F.slot_list_extend ⟨_, e, rfl⟩ F.entry_list_extend (F.args_list_extend_2 _ _)
    (AutoSeq1.list_extend_list_list_0 l its.toArray n b its2.toArray n2 hlong (by rw [List.size_toArray]; omega) (by omega)) ⟨e, e2, ?_⟩
  refine ⟨.non, _, I.lset (its' := its ++ its2) hH e (by simp) (r.append r2) ?_, rfl, q⟩
  rw [List.length_append]
  omega
def rCat : R2 := fun x y H Q => ∃ l b xs zs, x = .ref l ∧ y = .ref b ∧ H l = some (.lst xs) ∧ H b = some (.lst zs) ∧ xs.length + zs.length ≤ sizeLine ∧ ∀ p, H p = none → Q (.ref p) (upd H p (.lst (xs ++ zs)))
theorem op_cat : OpR X (binaryOp .Add) rCat := by
  intro pins s σ H x y v u Q I rx ry h
  obtain ⟨l, b, xs, zs, rfl, rfl, hH, hB, hz, q⟩ := h
  cases rx
  cases ry
  obtain ⟨z, its, n, r, hl, e⟩ := I.lstM hH
  obtain ⟨z2, its2, n2, r2, hl2, e2⟩ := I.lstM hB
  refine PySem.P.add_list e e2 ?_ (by rw [List.size_toArray, List.size_toArray]; omega)
  have ea : its.toArray ++ its2.toArray = (its ++ its2).toArray := by simp
  rw [ea]
  exact ⟨.ref _, _, I.lnew (t' := s.toks) (r.append r2) (by rw [List.length_append]; omega), rfl, q _ I.fresh⟩
def rRep : R2 := fun x y H Q => ∃ l k xs, x = .ref l ∧ y = .int k ∧ H l = some (.lst xs) ∧ -(2 ^ 63) ≤ k ∧ k < 2 ^ 63 ∧ xs.length * k.toNat ≤ sizeLine ∧
  ∀ p, H p = none → Q (.ref p) (upd H p (.lst (List.replicate k.toNat xs).flatten))
theorem len_rep {α : Type} (xs : List α) (k : Nat) : (List.replicate k xs).flatten.length = k * xs.length := by
  induction k with
  | zero => simp
  | succ k ih => rw [List.replicate_succ, List.flatten_cons, List.length_append, ih, Nat.succ_mul, Nat.add_comm]
theorem op_rep : OpR X (binaryOp .Mult) rRep := by
  intro pins s σ H x y v u Q I rx ry h
  obtain ⟨l, k, xs, rfl, rfl, hH, h1, h2, hz, q⟩ := h
  cases rx
  obtain ⟨t, rfl⟩ := ry
  obtain ⟨z, its, n, r, hl, e⟩ := I.lstM hH
  have hlen : its.toArray.size * k.toNat ≤ sizeLine := by rw [List.size_toArray, ← hl]; exact hz
  have hcap : ¬ its.toArray.size * k.toNat > (2 ^ 63 - 1) / 8 := by
    have : (sizeLine : Nat) ≤ (2 ^ 63 - 1) / 8 := by decide
    omega
  have hfit : ¬ (!Builtin.List.listFitsIndex k) = true := by
    rw [fitsIndex_both h1 h2]
    exact Bool.false_ne_true
  have hlong : ¬ Builtin.List.listTooLong (its.toArray.size * k.toNat) = true := by
    rw [notLongL hlen]
    exact Bool.false_ne_true
  have hnew : List.foldl (fun x1 x2 => x1 ++ x2) #[] (List.replicate (if its.toArray.isEmpty = true then 0 else k.toNat) its.toArray) = (List.replicate k.toNat its).flatten.toArray := by
    have f0 : ∀ m : Nat, List.foldl (fun x1 x2 => x1 ++ x2) #[] (List.replicate m its.toArray) = (List.replicate m its).flatten.toArray := fun m => by
      have := foldl_rep its m []
      rw [List.nil_append] at this
      exact this
    rw [f0]
    cases its with
    | nil => simp
    | cons a r' => rw [if_neg (by simp)]
  refine wpAny_binaryOp_repeat_ref (T := "list") (U := "int") (by decide) ⟨_, e, rfl⟩ (fun s' => typeIs_int s' k t) noFill_list_mul F.fills_int_mul F.slot_int_rmul repeat_list F.slot_int_index.lookup
    (call_meets F.slot_int_rmul (typeIs_int s k t) F.entry_int_rmul (F.args_int_rmul_2 _ _) (int___rmul___int_list k t l its.toArray n)
      ⟨e, rfl, ⟨_, e, rfl⟩, call_meets F.slot_list_mul ⟨_, e, rfl⟩ F.entry_list_mul (F.args_list_mul_2 _ _) (AutoListH.list___mul___list_int_3 l its.toArray n k t hfit hcap hlong) ⟨e, ?_⟩⟩)
  rw [hnew]
  exact ⟨.ref _, _, I.lnew (t' := s.toks) (r.rep k.toNat) (by rw [len_rep, Nat.mul_comm]; exact hz), rfl, q _ I.fresh⟩
end
section
variable {prog : Program} {w : World} {A : Around} {E : Value → Shared → Prop} {s : Shared}
end
section
variable {X : Cx}
end
end L2
namespace L2
open PySem PySem.Spec PyProof.Rows
theorem Vals.ints : ∀ {ns : List Int} {us : List Value}, Vals (ns.map V.int) us → IntsAre us ns
  | [], us, h => by
    rw [List.map_nil] at h
    cases h
    exact IntsAre.nil
  | n :: ns, us, h => by
    rw [List.map_cons] at h
    cases h with
    | cons r t =>
      obtain ⟨k, rfl⟩ := r
      exact IntsAre.cons n k (Vals.ints t)
theorem Vals.bls : ∀ {bs : List Bool} {us : List Value}, Vals (bs.map V.bl) us → us = bs.map Value.bool
  | [], us, h => by
    rw [List.map_nil] at h
    cases h
    rfl
  | b :: bs, us, h => by
    rw [List.map_cons] at h
    cases h with
    | cons r t =>
      cases r
      rw [Vals.bls t, List.map_cons]
theorem Vals.ref1 {a : Addr} {us : List Value} (r : Vals [V.ref a] us) : us = [Value.ref a] := by
  cases r with
  | cons r t =>
    cases t
    cases r
    rfl
section
variable {prog : Program} {w : World} {A : Around} {E : Value → Shared → Prop} {s : Shared} {l : Addr} {its : List Value} {ns : List Int} {Q : Value → Shared → Prop}
theorem min_raw (hh : A.handled = none) (hl : s.heap.IsList l its.toArray) (hi : IntsAre its ns) (hne : 0 < ns.length)
    (h : ∀ h' tk M t', (∀ b o, s.heap.get? b = some o → h'.get? b = some o) → M ∈ ns → (∀ a, a ∈ ns → M ≤ a) → Q (.int M t') { s with heap := h', toks := tk }) : wpAny (model prog w) A (call (.builtin "min") [.ref l]) Q E s := by
  obtain ⟨xs, e⟩ := hi.allInts.items
  have hn : numsOf (intItems xs).toList = ns := by rw [← e]; exact hi.numsOf
  rw [nums_intItems] at hn
  subst hn
  rw [e] at hl
  have hsz : 0 < xs.size := by simpa using hne
  refine PySem.min_intList hh hl hsz fun v h' tk hv hk => ?_
  obtain ⟨t, rfl⟩ := intItems_at hv
  obtain ⟨h1, h2⟩ := argBest_lt (numAt xs) (xs.size - 1)
  refine h h' tk _ t hk ?_ fun a ha => ?_
  · rw [numAt_eq]; exact PySem.getD_mem (by rw [List.length_map, Array.length_toList]; omega)
  · obtain ⟨j, hj, rfl⟩ := mem_getD ha
    rw [List.length_map, Array.length_toList] at hj
    rw [← numAt_eq]; exact h2 j (by omega)
end
section
variable {X : Cx}
def rMin (K : PySem.W.Frag) : List V → Hp → VK → Prop := fun vs H Q => ∃ (a : Addr) (ns : List Int), vs = [V.ref a] ∧ SqL K H a (ns.map V.int) ∧ 0 < ns.length ∧ ∀ m, m ∈ ns → (∀ y, y ∈ ns → m ≤ y) → Q (.int m) H
theorem cr_min (hc : X.calm = true) : CallR X (.builtin "min") (rMin X.K) := by
  intro pins s σ H vs us Q I r h
  obtain ⟨a, ns, rfl, hs, hne, q⟩ := h
  obtain ⟨its, rv, hl, _⟩ := I.list hs
  rw [Vals.ref1 r]
  exact min_raw (I.ok.hd hc) hl.isList rv.ints hne fun h' tk m t' hk h1 h2 => ⟨.int _, H, I.kept hk, ⟨_, rfl⟩, q m h1 h2⟩
end
section
variable {X : Cx}
def rIndex (K : PySem.W.Frag) : V → List V → Hp → VK → Prop := fun x xs H Q => ∃ (a : Addr) (ys : List V) (y : V) (j : Nat) (z : V), x = V.ref a ∧ xs = [y] ∧ SqL K H a ys ∧ flatV y = true ∧ ys.all flatV = true ∧ ys[j]? = some z ∧ eqV z y = true ∧
  (∀ (m : Nat) (z' : V), m < j → ys[m]? = some z' → eqV z' y = false) ∧ Q (.int (j : Nat)) H
theorem flat_at {ys : List V} (f : ys.all flatV = true) {j : Nat} {z : V} (h : ys[j]? = some z) : flatV z = true := List.all_eq_true.mp f z (List.mem_of_getElem? h)
theorem mt_index : MtR X "list.index" (rIndex X.K) := by
  intro pins s σ H x xs v us Q I rx rxs h
  obtain ⟨a, ys, y, j, z, rfl, rfl, hs, fy, fys, hz, hzj, hno, q⟩ := h
  cases rx
  cases rxs with
  | cons ry rt =>
    rename_i uy ut
    cases rt
    obtain ⟨its, rv, ⟨⟨cls, dd, data, sl⟩, n, ho, hc, hdn, hd⟩, hlen⟩ := I.list hs
    simp only at hc hd
    subst hc hd
    obtain ⟨u, hu, ru⟩ := rv.get hz
    obtain ⟨hjl, hje⟩ := List.getElem?_eq_some_iff.mp hu
    have hvl := rv.length
    have hj : j < its.toArray.size := by simpa using hjl
    have hsl := sizeLine_eq
    refine call_meets PySem.F.slot_list_index ⟨_, ho, rfl⟩ PySem.F.entry_list_index (PySem.F.args_list_index_2 _ _)
      (SeqAt.list_indexAt a its.toArray n dd sl uy (eqU y) j hj (by omega) ?_ ?_) ⟨ho, fun u' hu' => mem_eqAt ry fy rv fys u' (by simpa using hu'), ?_⟩
    · have e1 : its.toArray[j] = u := by simpa using hje
      rw [e1, eqU_of ru (flat_at fys hz)]
      exact hzj
    · intro m hm hmj
      have hml : m < its.length := by simpa using hm
      have hmy : m < ys.length := by omega
      have hy' : ys[m]? = some ys[m] := List.getElem?_eq_getElem hmy
      obtain ⟨u2, hu2, ru2⟩ := rv.get hy'
      obtain ⟨_, hme⟩ := List.getElem?_eq_some_iff.mp hu2
      have e1 : its.toArray[m] = u2 := by simpa using hme
      rw [e1, eqU_of ru2 (flat_at fys hy')]
      exact hno m _ hmj hy'
    · exact ⟨.int (j : Nat), H, I.tok _, ⟨_, rfl⟩, q⟩
end
section
variable {X : Cx}
end
theorem iter_any {prog : Program} {w : World} {A : Around} {E : Value → Shared → Prop} {s : Shared} {l : Addr} {items : Array Value} {Q : Value → Shared → Prop} (hl : s.heap.IsList l items)
    (h : ∀ s₂ : Shared, s₂ = { s with heap := s.heap.push { cls := .type "list_iterator", data := .fields #[.ref l, .int 0 0] } } →
      (s₂.heap.IsListIter s.heap.objs.size l 0 ∧ s₂.heap.IsList l items) → l ≠ s.heap.objs.size → Q (.ref s.heap.objs.size) s₂) : wpAny (model prog w) A (pyIter (.ref l)) Q E s := by
  have hlt : l < s.heap.objs.size := by obtain ⟨_, e, _⟩ := hl; exact Heap.lt_size e
  exact wpAny_pyIter_list hl (h _ rfl ⟨⟨_, Heap.get?_push_size _ rfl, rfl, rfl⟩, hl.push _⟩ (Nat.ne_of_lt hlt))
theorem truth_bools {prog : Program} {w : World} {A : Around} {bs : List Bool} {its : List Value} (e : its = bs.map Value.bool) :
    TruthOf prog w A (fun i v => its.toArray[i]? = some v) (fun i => bs.getD i false) := fun i v s Q E hv hq => by
  have hv' : its[i]? = some v := by simpa using hv
  rw [e, List.getElem?_map] at hv'
  obtain ⟨b, hb, rfl⟩ := Option.map_eq_some_iff.mp hv'
  have hg : bs.getD i false = b := by rw [List.getD_eq_getElem?_getD, hb] <;> rfl
  have hq' : Q (bs.getD i false) s := hq
  rw [hg] at hq'
  exact wpAny_truthy_bool hq'
theorem any_range : ∀ bs : List Bool, (List.range bs.length).any (fun i => bs.getD i false) = bs.any id
  | [] => rfl
  | b :: bs => by
    rw [List.length_cons, List.range_succ_eq_map, List.any_cons, List.any_map, List.any_cons, ← any_range bs]
    all_goals rfl
theorem all_range : ∀ bs : List Bool, (List.range bs.length).all (fun i => bs.getD i false) = bs.all id
  | [] => rfl
  | b :: bs => by
    rw [List.length_cons, List.range_succ_eq_map, List.all_cons, List.all_map, List.all_cons, ← all_range bs]
    all_goals rfl
section
variable {X : Cx}
def rAny (K : PySem.W.Frag) : List V → Hp → VK → Prop := fun vs H Q => ∃ (a : Addr) (bs : List Bool), vs = [V.ref a] ∧ SqL K H a (bs.map V.bl) ∧ Q (.bl (bs.any id)) H
def rAll (K : PySem.W.Frag) : List V → Hp → VK → Prop := fun vs H Q => ∃ (a : Addr) (bs : List Bool), vs = [V.ref a] ∧ SqL K H a (bs.map V.bl) ∧ Q (.bl (bs.all id)) H
theorem cr_any (hc : X.calm = true) : CallR X (.builtin "any") (rAny X.K) := by
  intro pins s σ H vs us Q I r h
  obtain ⟨a, bs, rfl, hs, q⟩ := h
  obtain ⟨its, rv, hl, _⟩ := I.list hs
  rw [Vals.ref1 r]
  have hb := rv.bls
  refine call_any_walk (iter_any hl.isList fun s₂ e2 st hne => ?_)
  subst e2
  refine ⟨_, _, _, _, _, _, _, rfl, Walks.list (A := X.A.in1) (I.ok.hd hc) _ a hne its.toArray, st, truth_bools hb, fun h' tk hk => ?_⟩
  refine ⟨.bl _, H, I.kept fun b o eo => hk b o (fun hmem => ?_) (Heap.get?_push_of_some _ eo), ?_, q⟩
  · rcases List.mem_cons.mp hmem with e1 | hmem
    · exact absurd (e1 ▸ Heap.lt_size eo) (Nat.lt_irrefl _)
    · cases hmem
  · show Value.bool _ = Value.bool _
    rw [← any_range, hb, List.size_toArray, List.length_map]
theorem cr_all (hc : X.calm = true) : CallR X (.builtin "all") (rAll X.K) := by
  intro pins s σ H vs us Q I r h
  obtain ⟨a, bs, rfl, hs, q⟩ := h
  obtain ⟨its, rv, hl, _⟩ := I.list hs
  rw [Vals.ref1 r]
  have hb := rv.bls
  refine call_all_walk (iter_any hl.isList fun s₂ e2 st hne => ?_)
  subst e2
  refine ⟨_, _, _, _, _, _, _, rfl, Walks.list (A := X.A.in1) (I.ok.hd hc) _ a hne its.toArray, st, truth_bools hb, fun h' tk hk => ?_⟩
  refine ⟨.bl _, H, I.kept fun b o eo => hk b o (fun hmem => ?_) (Heap.get?_push_of_some _ eo), ?_, q⟩
  · rcases List.mem_cons.mp hmem with e1 | hmem
    · exact absurd (e1 ▸ Heap.lt_size eo) (Nat.lt_irrefl _)
    · cases hmem
  · show Value.bool _ = Value.bool _
    rw [← all_range, hb, List.size_toArray, List.length_map]
end
section
variable {X : Cx} {pins : List (Addr × Obj)} {σ : St} {H : Hp} {s : Shared}
end
section
variable {X : Cx}
end
end L2
namespace L2
open PySem PySem.Spec PyProof.Rows
abbrev CellAt (h : Heap) (c : Addr) (v : Option Value) : Prop := h.IsCell c v
def relS (scope sc : Scope) : Scope :=
  { scope with names := scope.names.map fun (n, k) => if (k == .free && sc.kind == .function && sc.names.lookup n == some .cell) then (n, .cell) else (n, k) }
def cloFrom (cells : List (Str × Addr)) : List (Str × NameKind) → List (Str × Addr) → List (Str × Addr)
  | [], acc => acc
  | (n, k) :: r, acc => if k == .free then cloFrom cells r ((n, (cells.lookup n).getD 0) :: acc) else cloFrom cells r acc
theorem closure_loop (env : Env) (f : Str × NameKind → List (Str × Addr) → Sem (ForInStep (List (Str × Addr))))
    (hf : ∀ n k c, f (n, k) c = if k == .free then (do let a ← cellOf env n; pure (.yield ((n, a) :: c))) else pure (.yield c)) :
    ∀ (names : List (Str × NameKind)) (acc : List (Str × Addr)), (∀ y ∈ names, y.2 = .free → ∃ c, env.cells.lookup y.1 = some c) → forIn names acc f = pure (cloFrom env.cells names acc)
  | [], acc, _ => by rw [List.forIn_nil]; rfl
  | (n, k) :: r, acc, h => by
    rw [List.forIn_cons, hf]
    have ih := fun acc => closure_loop env f hf r acc fun y hy => h y (List.mem_cons_of_mem _ hy)
    unfold cloFrom
    by_cases hk : (k == NameKind.free) = true
    · rw [if_pos hk, if_pos hk]
      obtain ⟨c, hc⟩ := h (n, k) List.mem_cons_self (by simpa using hk)
      have e : cellOf env n = pure c := by unfold cellOf; rw [hc]
      rw [e]
      have e2 : (env.cells.lookup n).getD 0 = c := by rw [hc]; rfl
      rw [e2]
      exact ih _
    · rw [if_neg hk, if_neg hk]
      exact ih _
theorem closure_ok {scope : Scope} {env : Env} (h : ∀ y ∈ scope.names, y.2 = .free → ∃ c, env.cells.lookup y.1 = some c) : closureFor scope env = pure (cloFrom env.cells scope.names []) := by
  simp only [closureFor]
  rw [closure_loop env _ (fun n k c => rfl) scope.names [] h]
  rfl
theorem mem_lookup {α : Type} : ∀ {l : List (Str × α)} {n : Str} {c : α}, (n, c) ∈ l → ∃ c', l.lookup n = some c'
  | (k, v) :: r, n, c, h => by
    rw [List.lookup_cons]
    cases hb : n == k with
    | true => exact ⟨_, rfl⟩
    | false =>
      rcases List.mem_cons.mp h with e | h
      · cases e; simp at hb
      · exact mem_lookup h
theorem cloFrom_mem {cells : List (Str × Addr)} : ∀ {names : List (Str × NameKind)} {acc : List (Str × Addr)} {n : Str} {c : Addr}, (n, c) ∈ cloFrom cells names acc → (n, c) ∈ acc ∨ ((n, .free) ∈ names ∧ c = (cells.lookup n).getD 0)
  | [], _, _, _, h => .inl h
  | (m, k) :: r, acc, n, c, h => by
    unfold cloFrom at h
    split at h
    · rename_i hk
      have hk : k = .free := by simpa using hk
      rcases cloFrom_mem h with h | ⟨h1, h2⟩
      · rcases List.mem_cons.mp h with e | h
        · cases e; exact .inr ⟨hk ▸ List.mem_cons_self, rfl⟩
        · exact .inl h
      · exact .inr ⟨List.mem_cons_of_mem _ h1, h2⟩
    · rcases cloFrom_mem h with h | ⟨h1, h2⟩
      · exact .inl h
      · exact .inr ⟨List.mem_cons_of_mem _ h1, h2⟩
theorem cloFrom_acc {cells : List (Str × Addr)} : ∀ {names : List (Str × NameKind)} {acc : List (Str × Addr)} {p : Str × Addr}, p ∈ acc → p ∈ cloFrom cells names acc
  | [], _, _, h => h
  | (m, k) :: r, acc, p, h => by
    unfold cloFrom
    split
    · exact cloFrom_acc (List.mem_cons_of_mem _ h)
    · exact cloFrom_acc h
theorem cloFrom_has {cells : List (Str × Addr)} : ∀ {names : List (Str × NameKind)} {acc : List (Str × Addr)} {n : Str}, (n, .free) ∈ names → (n, (cells.lookup n).getD 0) ∈ cloFrom cells names acc
  | (m, k) :: r, acc, n, h => by
    unfold cloFrom
    rcases List.mem_cons.mp h with e | h
    · cases e
      exact cloFrom_acc List.mem_cons_self
    · split
      · exact cloFrom_has h
      · exact cloFrom_has h
theorem cells_mem : ∀ {names : List (Str × NameKind)} {h : Heap} {acc : List (Str × Addr)} {x : Str} {c : Addr}, (x, c) ∈ cellsFrom h.objs.size names acc →
    (x, c) ∈ acc ∨ ((x, .cell) ∈ names ∧ h.objs.size ≤ c ∧ CellAt (pushCells h names) c none)
  | [], _, _, _, _, h => .inl h
  | (n, k) :: r, h, acc, x, c, hm => by
    unfold cellsFrom at hm
    unfold pushCells
    split at hm
    · rename_i hk
      rw [if_pos hk]
      have hk : k = .cell := by simpa using hk
      rw [← Heap.size_push h { cls := .type "cell", data := .cell none }] at hm
      rcases cells_mem hm with hm | ⟨h1, h2, h3⟩
      · rcases List.mem_cons.mp hm with e | hm
        · cases e
          exact .inr ⟨hk ▸ List.mem_cons_self, Nat.le_refl _, _, pushCells_keeps r _ _ _ (Heap.get?_push_size _ rfl), rfl⟩
        · exact .inl hm
      · rw [Heap.size_push] at h2
        exact .inr ⟨List.mem_cons_of_mem _ h1, Nat.le_of_succ_le h2, h3⟩
    · rename_i hk
      rw [if_neg hk]
      rcases cells_mem hm with hm | ⟨h1, h2, h3⟩
      · exact .inl hm
      · exact .inr ⟨List.mem_cons_of_mem _ h1, h2, h3⟩
theorem cells_acc : ∀ {names : List (Str × NameKind)} {n : Nat} {acc : List (Str × Addr)} {p : Str × Addr}, p ∈ acc → p ∈ cellsFrom n names acc
  | [], _, _, _, h => h
  | (m, k) :: r, n, acc, p, h => by
    unfold cellsFrom
    split
    · exact cells_acc (List.mem_cons_of_mem _ h)
    · exact cells_acc h
theorem cells_has : ∀ {names : List (Str × NameKind)} {n : Nat} {acc : List (Str × Addr)} {x : Str}, (x, .cell) ∈ names → ∃ c, (x, c) ∈ cellsFrom n names acc
  | (m, k) :: r, n, acc, x, h => by
    unfold cellsFrom
    rcases List.mem_cons.mp h with e | h
    · cases e
      exact ⟨n, cells_acc List.mem_cons_self⟩
    · split
      · exact cells_has h
      · exact cells_has h
theorem cells_inj : ∀ {names : List (Str × NameKind)} {h : Heap} {acc : List (Str × Addr)} {x y : Str} {c : Addr}, (∀ p ∈ acc, p.2 < h.objs.size) → (∀ x y c, (x, c) ∈ acc → (y, c) ∈ acc → x = y) →
    (x, c) ∈ cellsFrom h.objs.size names acc → (y, c) ∈ cellsFrom h.objs.size names acc → x = y
  | [], _, _, _, _, _, _, hi, h1, h2 => hi _ _ _ h1 h2
  | (n, k) :: r, h, acc, x, y, c, hl, hi, h1, h2 => by
    unfold cellsFrom at h1 h2
    split at h1
    · rename_i hk
      rw [if_pos hk] at h2
      rw [← Heap.size_push h { cls := .type "cell", data := .cell none }] at h1 h2
      refine cells_inj (h := h.push _) (fun p hp => ?_) (fun x y c a b => ?_) h1 h2
      · rw [Heap.size_push]
        rcases List.mem_cons.mp hp with rfl | hp
        · exact Nat.lt_succ_self _
        · exact Nat.lt_succ_of_lt (hl p hp)
      · rcases List.mem_cons.mp a with e | a <;> rcases List.mem_cons.mp b with e' | b
        · cases e; cases e'; rfl
        · cases e; exact absurd (hl _ b) (Nat.lt_irrefl _)
        · cases e'; exact absurd (hl _ a) (Nat.lt_irrefl _)
        · exact hi _ _ _ a b
    · rename_i hk
      rw [if_neg hk] at h2
      exact cells_inj hl hi h1 h2
theorem newEnv_comp {M : Model} {A : Around} {E : Value → Shared → Prop} {s : Shared} {scope : Scope} {globals : Addr} {closure : List (Str × Addr)} {qual : Str} {func : Option Addr} {code : Value} {around : Env} {builtins : Addr} {Q : Env → Shared → Prop}
    (h : Q (newEnv scope s.heap.objs.size globals (cellsFrom (s.heap.objs.size + 1) scope.names closure) qual func code (some around) builtins)
      { s with heap := pushCells (s.heap.push { cls := .type "dict", data := .dict #[] }) scope.names }) :
    wpAny M A (newFunctionEnv scope globals closure [] qual func code (some around) builtins) Q E s := by
  simp only [newFunctionEnv, Option.isSome_some, if_true]
  refine wpAny_bind (wpAny_alloc ?_)
  refine wpAny_bind (wpAny_layCells _ (fun n k c => rfl) scope.names closure _ _ ?_)
  rw [show ({ s with heap := s.heap.push { cls := .type "dict", data := .dict #[] } } : Shared).heap.objs.size = s.heap.objs.size + 1 from Heap.size_push ..]
  rw [List.forIn_nil]
  exact wpAny_bind (wpAny_pure (wpAny_pure h))
theorem lookup_relS {sc : Scope} : ∀ {names : List (Str × NameKind)} {x : Str} {k : NameKind},
    (names.map fun (n, k) => if (k == NameKind.free && sc.kind == .function && sc.names.lookup n == some .cell) then (n, NameKind.cell) else (n, k)).lookup x = some k →
    ∃ k', names.lookup x = some k' ∧ (k = k' ∨ (k' = .free ∧ k = .cell))
  | [], _, _, h => by simp at h
  | (n, k₀) :: r, x, k, h => by
    have ih := @lookup_relS sc r x k
    have h' : List.lookup x ((if (k₀ == NameKind.free && sc.kind == .function && sc.names.lookup n == some .cell) = true then (n, NameKind.cell) else (n, k₀)) :: (r.map _)) = some k := h
    cases hx : x == n with
    | true =>
      simp only [List.lookup_cons, hx]
      by_cases hc : (k₀ == NameKind.free && sc.kind == .function && sc.names.lookup n == some .cell) = true
      · rw [if_pos hc] at h'
        simp only [List.lookup_cons, hx] at h'
        cases h'
        simp only [Bool.and_eq_true, beq_iff_eq] at hc
        exact ⟨k₀, rfl, .inr ⟨hc.1.1, rfl⟩⟩
      · rw [if_neg hc] at h'
        simp only [List.lookup_cons, hx] at h'
        cases h'
        exact ⟨_, rfl, .inl rfl⟩
    | false =>
      simp only [List.lookup_cons, hx]
      by_cases hc : (k₀ == NameKind.free && sc.kind == .function && sc.names.lookup n == some .cell) = true
      · rw [if_pos hc] at h'
        simp only [List.lookup_cons, hx] at h'
        exact ih h'
      · rw [if_neg hc] at h'
        simp only [List.lookup_cons, hx] at h'
        exact ih h'
structure BlkOk (N : List Str) (sc scope : Scope) (own : List (Str × Nat)) : Prop where
  kind : scope.kind = .function
  uniq : ∀ y ∈ scope.names, scope.names.lookup y.1 = some y.2
  ix : ∀ p ∈ own, N[p.2]? = some p.1
  free : ∀ y ∈ scope.names, y.2 = .free → sc.names.lookup y.1 = some .cell ∨ sc.names.lookup y.1 = some .free
  own : ∀ y ∈ scope.names, y.2 = .local ∨ y.2 = .cell → y.1 ∈ own.map (·.1) ∨ y.1 ∉ N
def wipe (σ : St) : List Nat → St
  | [] => σ
  | v :: vs => (wipe σ vs).set v none
theorem wipe_length (σ : St) : ∀ vs : List Nat, (wipe σ vs).length = σ.length
  | [] => rfl
  | v :: vs => by unfold wipe; rw [List.length_set, wipe_length σ vs]
theorem wipe_some {σ : St} {i : Nat} {x : V} : ∀ {vs : List Nat}, (wipe σ vs)[i]? = some (some x) → σ[i]? = some (some x) ∧ i ∉ vs
  | [], h => ⟨h, by simp⟩
  | v :: vs, h => by
    unfold wipe at h
    by_cases hi : v = i
    · subst hi
      by_cases hv : v < (wipe σ vs).length
      · rw [List.getElem?_set_self hv] at h; cases h
      · rw [List.getElem?_eq_none (by simpa using hv)] at h; cases h
    · rw [List.getElem?_set_ne hi] at h
      obtain ⟨h1, h2⟩ := wipe_some h
      exact ⟨h1, by simp only [List.mem_cons, not_or]; exact ⟨fun e => hi e.symm, h2⟩⟩
abbrev Cx.blk (X : Cx) (s : Shared) (H : Hp) (scope : Scope) (cenv : Env) (fp : List Addr) : Cx := { X with s_0 := s, H_0 := H, env := cenv, outer := X.stack, ex := fp, fn := fun x => scope.names.lookup x == some .cell, pn := [], xe := fun _ _ => False }
section
variable {X : Cx} {pins : List (Addr × Obj)} {σ : St} {H : Hp} {s : Shared}
theorem block_start {scope : Scope} {own : List (Str × Nat)} {fp : List Addr} (I : Inv X pins σ H s) (ok : BlkOk X.N X.env.scope scope own) (hN : X.N.Nodup) (hfp : ∀ b ∈ fp, FpOk X pins H b ∧ b < s.heap.objs.size) :
    Inv (X.blk s H scope (compEnvC scope (cellsFrom (s.heap.objs.size + 1) scope.names (cloFrom X.env.cells scope.names [])) s.heap.objs.size X.env) fp) [] (wipe σ (own.map (·.2))) H { s with heap := pushCells (s.heap.push { cls := .type "dict", data := .dict #[] }) scope.names } := by
  have hfree : ∀ y ∈ scope.names, y.2 = .free → ∃ c, X.env.cells.lookup y.1 = some c := fun y hy e => by
    rcases ok.free y hy e with k | k
    · exact I.ok.has _ (.inl k)
    · exact I.ok.has _ (.inr k)
  generalize hcenv : compEnvC scope (cellsFrom (s.heap.objs.size + 1) scope.names (cloFrom X.env.cells scope.names [])) s.heap.objs.size X.env = cenv
  have kp : ∀ b o, s.heap.get? b = some o → (pushCells (s.heap.push { cls := .type "dict", data := .dict #[] }) scope.names).get? b = some o := fun b o e => pushCells_keeps _ _ _ _ (Heap.get?_push_of_some _ e)
  have hL : cenv.locals = s.heap.objs.size := by rw [← hcenv]; rfl
  have hcl : cenv.cells = cellsFrom (s.heap.objs.size + 1) scope.names (cloFrom X.env.cells scope.names []) := by rw [← hcenv]; rfl
  have hsc : cenv.scope = relS scope X.env.scope := by rw [← hcenv]; rfl
  rw [← Heap.size_push s.heap { cls := .type "dict", data := .dict #[] }] at hcl
  have cm : ∀ {y c}, (y, c) ∈ cloFrom X.env.cells scope.names [] → X.env.cells.lookup y = some c ∧ c < s.heap.objs.size := fun {y c} hm => by
    rcases cloFrom_mem hm with hm | ⟨h1, rfl⟩
    · cases hm
    · obtain ⟨c, hc⟩ := hfree _ h1 rfl
      rw [hc]
      obtain ⟨w, z⟩ := I.cell _ _ hc
      exact ⟨rfl, z.lt⟩
  have mem : ∀ {y c}, cenv.cells.lookup y = some c → (X.env.cells.lookup y = some c ∧ c < s.heap.objs.size) ∨ (s.heap.objs.size + 1 ≤ c ∧ CellAt (pushCells (s.heap.push { cls := .type "dict", data := .dict #[] }) scope.names) c none) := fun {y c} e => by
    rw [hcl] at e
    rcases cells_mem (PySem.mem_of_lookup e) with hm | ⟨_, h2, h3⟩
    · exact .inl (cm hm)
    · rw [Heap.size_push] at h2; exact .inr ⟨h2, h3⟩
  have look : ∀ {y}, scope.names.lookup y = some .free → ∃ c, cenv.cells.lookup y = some c ∧ X.env.cells.lookup y = some c := fun {y} hl => by
    have hy : (y, NameKind.free) ∈ scope.names := PySem.mem_of_lookup hl
    obtain ⟨c', e'⟩ := mem_lookup (cells_acc (names := scope.names) (n := (s.heap.push { cls := .type "dict", data := .dict #[] }).objs.size) (cloFrom_has (cells := X.env.cells) (acc := []) hy))
    rw [← hcl] at e'
    refine ⟨c', e', ?_⟩
    rw [hcl] at e'
    rcases cells_mem (PySem.mem_of_lookup e') with hm | ⟨h1, _, _⟩
    · exact (cm hm).1
    · have := ok.uniq _ h1
      rw [hl] at this; cases this
  have okB : (X.blk s H scope cenv fp).Ok := by
    refine ⟨I.ok.mod, by show cenv.scope.kind = _; rw [hsc]; exact ok.kind, by show cenv.globals = _; rw [← hcenv]; exact I.ok.glob, by show cenv.builtins = _; rw [← hcenv]; exact I.ok.blt, by show s.heap.objs.size ≤ cenv.locals; rw [hL]; exact Nat.le_refl _,
      fun y z c e1 e2 => ?_, fun y hy => ?_, fun y c z e => ?_, I.ok.hd, I.ok.frames, .inl rfl, fun b hb => ⟨?_, fun y c e z => ?_⟩, I.bs, Nat.le_trans I.ok.bsz I.sz, fun b o e hb => ?_, fun b hb z => ?_, I.stack, I.stkFree⟩
    · have e1 : cenv.cells.lookup y = some c := e1
      have e2 : cenv.cells.lookup z = some c := e2
      rw [hcl] at e1 e2
      refine cells_inj (fun p hp => ?_) (fun y z c a b => I.ok.inj y z c (cm a).1 (cm b).1) (PySem.mem_of_lookup e1) (PySem.mem_of_lookup e2)
      rw [Heap.size_push]
      exact Nat.lt_succ_of_lt (cm (y := p.1) (c := p.2) hp).2
    · show ∃ c, cenv.cells.lookup y = some c
      have key : ∀ k, cenv.kindOf y = some k → (k = .cell ∨ k = .free) → ∃ c, cenv.cells.lookup y = some c := fun k hk hk' => by
        unfold Env.kindOf at hk
        rw [hsc] at hk
        obtain ⟨k', e, r⟩ := lookup_relS hk
        have : k' = .cell ∨ k' = .free := by
          rcases r with rfl | ⟨rfl, _⟩
          · exact hk'
          · exact .inr rfl
        rcases this with rfl | rfl
        · obtain ⟨c, hm⟩ := cells_has (n := (s.heap.push { cls := .type "dict", data := .dict #[] }).objs.size) (acc := cloFrom X.env.cells scope.names []) (PySem.mem_of_lookup e)
          obtain ⟨c', e'⟩ := mem_lookup hm
          exact ⟨c', by rw [hcl]; exact e'⟩
        · obtain ⟨c, h1, _⟩ := look e
          exact ⟨c, h1⟩
      rcases hy with hy | hy
      · exact key _ hy (.inl rfl)
      · exact key _ hy (.inr rfl)
    · have z : (scope.names.lookup y == some NameKind.cell) = true := z
      have z : scope.names.lookup y = some .cell := by simpa using z
      have e : cenv.cells.lookup y = some c := e
      rw [hcl] at e
      rcases cells_mem (PySem.mem_of_lookup e) with hm | ⟨_, h2, _⟩
      · rcases cloFrom_mem hm with hm | ⟨h1, _⟩
        · cases hm
        · have q := ok.uniq _ h1
          rw [z] at q; cases q
      · rw [Heap.size_push] at h2
        exact Nat.le_of_succ_le h2
    · show b ≠ cenv.locals
      rw [hL]; exact Nat.ne_of_lt (hfp b hb).2
    · have e : cenv.cells.lookup y = some c := e
      rcases mem e with ⟨h1, _⟩ | ⟨h1, _⟩
      · exact (hfp b hb).1.2.2.2.2.1 y c h1 z
      · have h2 : s.heap.objs.size + 1 ≤ b := by rw [← z]; exact h1
        exact absurd (Nat.lt_of_lt_of_le (hfp b hb).2 (Nat.le_of_succ_le h2)) (Nat.lt_irrefl _)
    · rcases (hfp b hb).1.2.2.2.1 with z | z
      · exact I.ok.noex b o e z
      · exact absurd (Nat.lt_of_lt_of_le (Heap.lt_size e) (Nat.le_trans I.ok.bsz z)) (Nat.lt_irrefl _)
    · rcases List.mem_cons.mp (I.stkSub b z) with z | z
      · exact (hfp b hb).1.2.1 z
      · exact (hfp b hb).1.2.2.1 z
  refine ⟨okB, rfl, I.bare, Un.kept kp, ⟨fun _ => none, ?_, fun i y av e1 e2 e3 => ?_⟩, fun y c e => ?_, ?_, fun y c e => ?_, fun p hp => ?_, I.hok.kept kp, by rw [wipe_length]; exact I.len⟩
  · show Heap.Ns _ cenv.locals _
    rw [hL]
    exact Heap.Ns.keeps (Heap.Ns.new ..) fun b o e => pushCells_keeps _ _ _ _ e
  · obtain ⟨e2, hne⟩ := wipe_some e2
    have hfr : scope.names.lookup y = some .free ∧ (cenv.kindOf y = some .cell ∨ cenv.kindOf y = some .free) := by
      have key : ∀ k, cenv.scope.names.lookup y = some k → k = .local ∨ k = .cell ∨ k = .free → scope.names.lookup y = some .free ∧ (cenv.kindOf y = some .cell ∨ cenv.kindOf y = some .free) := fun k hk hk' => by
        have hk0 := hk
        rw [hsc] at hk
        obtain ⟨k', e, r⟩ := lookup_relS hk
        have no : ¬ (k' = .local ∨ k' = .cell) := fun hh => by
          rcases ok.own _ (PySem.mem_of_lookup e) hh with e' | e'
          · obtain ⟨p, hp, hpy⟩ := List.mem_map.mp e'
            have e3 := ok.ix p hp
            have : p.1 = y := hpy
            rw [this] at e3
            exact hne (List.mem_map.mpr ⟨p, hp, nodup_ix hN e3 e1⟩)
          · exact e' (List.mem_of_getElem? e1)
        rcases r with rfl | ⟨rfl, rfl⟩
        · rcases hk' with rfl | rfl | rfl
          · exact absurd (.inl rfl) no
          · exact absurd (.inr rfl) no
          · exact ⟨e, .inr hk0⟩
        · exact ⟨e, .inl hk0⟩
      have e3 : Vis cenv.scope y := e3
      rcases e3 with e3 | e3 | e3
      · exact key _ e3 (.inl rfl)
      · exact key _ e3 (.inr (.inl rfl))
      · exact key _ e3 (.inr (.inr rfl))
    obtain ⟨m, hn, hl⟩ := I.loc
    have hvis : Vis X.env.scope y := (ok.free _ (PySem.mem_of_lookup hfr.1) rfl).elim (fun k => .inr (.inl k)) (fun k => .inr (.inr k))
    obtain ⟨w, r, q⟩ := hl i y av e1 e2 hvis
    refine ⟨w, r, .inr ⟨hfr.2, ?_⟩⟩
    obtain ⟨c, h1, h2⟩ := look hfr.1
    rcases q with ⟨k, _⟩ | ⟨_, c', e', z⟩
    · have k : X.env.scope.names.lookup y = some .local := k
      rcases ok.free _ (PySem.mem_of_lookup hfr.1) rfl with k' | k' <;> rw [show X.env.scope.names.lookup y = _ from k'] at k <;> cases k
    · rw [h2] at e'; cases e'
      exact ⟨c, h1, z.keeps kp⟩
  · have e : cenv.cells.lookup y = some c := e
    rcases mem e with ⟨h1, _⟩ | ⟨_, z⟩
    · obtain ⟨w, z⟩ := I.cell y c h1
      exact ⟨w, z.keeps kp⟩
    · exact ⟨_, z⟩
  · show H cenv.locals = none
    rw [hL]; exact I.hok.fresh (Nat.le_refl _)
  · have e : cenv.cells.lookup y = some c := e
    rcases mem e with ⟨h1, _⟩ | ⟨h1, _⟩
    · exact I.freeC y c h1
    · exact I.hok.fresh (Nat.le_of_succ_le h1)
  · exact absurd (show p ∈ ([] : List (Addr × Obj)) ++ [] from hp) (by simp)
theorem app_ok {E : Value → Shared → Prop} {D : Addr} {xs : List V} {y : V} {v : Value} {Q : Value → Shared → Prop} (I : Inv X pins σ H s) (hD : H D = some (.lst xs)) (hz : xs.length < sizeLine) (r : RelV y v)
    (h : ∀ s', Inv X pins σ (upd H D (.lst (xs ++ [y]))) s' → Q .none s') : wpAny (model X.prog X.w) X.A (call (.builtin "list.append") [.ref D, v]) Q E s := by
  obtain ⟨hz', its, n, ri, e⟩ := I.hok D _ hD
  have hl := ri.length
  refine append_at (hsz := by rw [List.size_toArray]; omega) e fun h' sb ho' => ?_
  refine h { s with heap := h' } (I.write (t' := s.toks) (by rw [hD]; trivial) (.inl rfl) (fun b u hb q => (sb.2 b hb).trans q) ⟨_, ho'⟩ ⟨by rw [List.length_append]; exact hz, its ++ [v], n + 1, ri.append (.cons r .nil), ?_⟩)
  rw [ho']
  simp
def PTs (X : Cx) (ifs : List Expr) (t : TT) : Prop :=
  ∀ (pins : List (Addr × Obj)) (s : Shared) (σ : St) (H : Hp) (Q : Bool → Hp → Prop), Inv X pins σ H s → t σ H Q →
    wpAny (model X.prog X.w) X.A (forIn ifs true fun c r => if r = true then do let ok ← isTrue c X.env (eval c X.env); pure (ForInStep.yield ok) else pure (ForInStep.yield r)) (TP X pins σ Q) X.xe s
def tYes : TT := fun _ H Q => Q true H
theorem pts_nil : PTs X [] tYes := fun _ _ _ H _ I h => wpAny_tests_nil ⟨H, I, h⟩
theorem pts_one {c : Expr} {t : TT} (h : PT X c t) : PTs X [c] t := fun pins s σ H Q I hw => wpAny_tests_one (h pins s σ H Q I hw)
end
theorem thnF {α : Type} {t : Sem α} {Q Q' : α → Shared → Prop} {M : Model} {A : Around} {E : Value → Shared → Prop} {s : Shared} (h : wpAny M A t Q (fun _ _ => False) s) (hQ : ∀ a s, Q a s → Q' a s) : wpAny M A t Q' E s := wpAny_mono h hQ fun _ _ z => False.elim z
theorem compLoop_any {prog : Program} {w : World} {A : Around} {R : Result → Shared → Prop} {s : Shared} {elt target iter : Expr} {ifs : List Expr} {scope : Scope} {pos : Pos} {it acc : Value} {env : Env} (I : Nat → Shared → Prop)
    (turn : ∀ n s, I n s → wpAny (model prog w) A (pyNext it) (fun r s₁ => match r with
      | none => R (.ok .next) s₁
      | some v => wpAny (model prog w) A (letOwnedTupleGo target it v) (fun _ s₁' => wpAny (model prog w) A (assign target env v) (fun _ s₂ =>
          wpAny (model prog w) A (forIn ifs true fun c r => if r = true then do let ok ← isTrue c env (eval c env); pure (ForInStep.yield ok) else pure (ForInStep.yield r)) (fun ok s₃ =>
            if ok = true then wpAny (model prog w) A (eval elt env) (fun x s₄ =>
              wpAny (model prog w) A (call (.builtin "list.append") [acc, x]) (fun _ s₅ => ∃ m, m < n ∧ I m s₅) (notedBy (model prog w) A env fun e s' => R (.error e) s') s₄) (notedBy (model prog w) A env fun e s' => R (.error e) s') s₃
            else ∃ m, m < n ∧ I m s₃) (notedBy (model prog w) A env fun e s' => R (.error e) s') s₂) (notedBy (model prog w) A env fun e s' => R (.error e) s') s₁') (notedBy (model prog w) A env fun e s' => R (.error e) s') s₁) (notedBy (model prog w) A env fun e s' => R (.error e) s') s)
    (n : Nat) (h : I n s) :
    codeAny (model prog w) A (.compLoop (.ListComp elt [⟨target, iter, ifs, 0⟩] scope pos) 0 it acc env) R s := by
  refine codeAny_loop rfl I (fun n s hI => ?_) n h
  show wpAny _ A ((compTurn (.ListComp elt [⟨target, iter, ifs, 0⟩] scope pos) 0 it acc env).onRaise (fun x => do noteFrame x env; theTreesLotGoes x)) _ _ s
  refine wpAny_noted ?_
  rw [compTurn_list]
  refine wpAny_bind (wpAny_standAt (wpAny_bind (wpAny_mono (turn n s hI) (fun r s₁ h₁ => ?_) fun _ _ h' => h')))
  cases r with
  | none => exact wpAny_pure h₁
  | some v =>
    refine wpAny_bind (wpAny_mono h₁ (fun _ s₁' h₁' => ?_) fun _ _ h' => h')
    refine wpAny_bind (wpAny_mono h₁' (fun _ s₂ h₂ => wpAny_bind (wpAny_mono h₂ (fun ok s₃ h₃ => ?_) fun _ _ h' => h')) fun _ _ h' => h')
    cases ok with
    | false => exact wpAny_pure ⟨rfl, h₃⟩
    | true =>
      exact wpAny_bind (wpAny_bind (wpAny_mono h₃ (fun x s₄ h₄ => wpAny_bind (wpAny_mono h₄ (fun _ s₅ h₅ => wpAny_pure (wpAny_pure ⟨rfl, h₅⟩)) fun _ _ h' => h')) fun _ _ h' => h'))
section
variable {X : Cx}
def tLc (wi : TI) (g : TG) (tt : TT) (te : TE) (vs : List Nat) : TE := fun σ H Q => wi σ H fun J H1 => ∀ D, H1 D = none → ∃ W : Nat → Nat → Hp → Prop, (∃ m, W 0 m (upd H1 D (.lst []))) ∧ ∀ i m H, W i m H →
  (J.stop i H ∧ Q (.ref D) H) ∨ (J.go i H ∧ ∃ Nx : Hp → Prop, (∀ H', Nx H' → ∃ m', m' < m ∧ W (i + 1) m' H') ∧ ∀ x H', J.yld i H x H' → g x (wipe σ vs) H' fun σ2 H2 => wipe σ2 vs = wipe σ vs ∧ tt σ2 H2 fun b H3 =>
    if b = true then te σ2 H3 fun y H4 => ∃ acc, H4 D = some (.lst acc) ∧ acc.length < sizeLine ∧ Nx (upd H4 D (.lst (acc ++ [y]))) else Nx H3)
theorem lc_core {pins : List (Addr × Obj)} {s : Shared} {σ : St} {H : Hp} {Q : VK} {elt tg iter : Expr} {ifs : List Expr} {scope : Scope} {own : List (Str × Nat)} {pos pos' : Pos} {wi : TI} {g : TG} {tt : TT} {te : TE} {use : Option (Value → Sem Unit)} {Qf : Value → Shared → Prop}
    (hc : X.calm = true) (hN : X.N.Nodup) (I : Inv X pins σ H s) (hi : PI X tg iter wi) (ok : BlkOk X.N X.env.scope scope own)
    (hg : ∀ (s : Shared) (H : Hp) (C : Addr) (cl : List (Str × Addr)) (fp : List Addr), PG (X.blk s H scope (compEnvC scope cl C X.env) fp) tg g) (ht : ∀ (s : Shared) (H : Hp) (C : Addr) (cl : List (Str × Addr)) (fp : List Addr), PTs (X.blk s H scope (compEnvC scope cl C X.env) fp) ifs tt)
    (he : ∀ (s : Shared) (H : Hp) (C : Addr) (cl : List (Str × Addr)) (fp : List Addr), PE (X.blk s H scope (compEnvC scope cl C X.env) fp) elt te) (hs : ∀ x, foldedSetIterable iter X.env x = pure x)
    (h : tLc wi g tt te (own.map (·.2)) σ H Q)
    (hRR : ∀ D C s' m H', Inv X pins σ H' s' → Q (.ref D) H' → s'.heap.Ns C m → FpOk X pins H' C → compPost (model X.prog X.w) X.A X.xe use Qf (.ref D) C (.ok .next) s') :
    wpAny (model X.prog X.w) X.A (comprehension (.ListComp elt [⟨tg, iter, ifs, 0⟩] scope pos) scope X.env pos' (newList []) false (eval iter X.env) use) Qf X.xe s := by
  have hfree : ∀ y ∈ scope.names, y.2 = .free → ∃ c, X.env.cells.lookup y.1 = some c := fun y hy e => by
    rcases ok.free y hy e with k | k
    · exact I.ok.has _ (.inl k)
    · exact I.ok.has _ (.inr k)
  refine wpAny_comprehension_free (use := use) rfl hs (closure_ok hfree) ok.kind (fun y hy e => by rw [ok.uniq y hy, e])
    (thn (hi pins s σ H _ I h) fun xv s1 hx => thn hx fun itv s2 h2 => ?_)
  obtain ⟨it, fp, tn, J, H2, e, I2, T, st2, f2, q⟩ := h2
  subst e
  refine wpAny_newObj_type (newEnv_comp ?_) (by show 0 ≤ sizeLine; decide)
  generalize hD : s2.heap.objs.size = D
  have hDn : H2 D = none := I2.hok.fresh (Nat.le_of_eq hD)
  obtain ⟨W, ⟨m0, w0⟩, turn⟩ := q D hDn
  -- the new list
  generalize hs3 : ({ s2 with heap := s2.heap.push { cls := .type "list", data := .seq ([] : List Value).toArray } } : Shared) = s3
  have I3 : Inv X pins σ (upd H2 D (.lst [])) s3 := by
    rw [← hs3]
    refine I2.laid (t' := s2.toks) (fun b o e => Heap.get?_push_of_some _ e) (Nat.le_of_eq hD) ⟨Nat.zero_le _, [], 0, .nil, ?_⟩
    rw [← hD]
    exact Heap.get?_push_size _ rfl
  have h3 : s3.heap = s2.heap.push { cls := .type "list", data := .seq ([] : List Value).toArray } := by rw [← hs3]
  have sz : ∀ b ∈ fp, b < s2.heap.objs.size := fun b hb => by
    obtain ⟨o, e, _⟩ := T.obj _ _ st2 b hb
    exact Heap.lt_size e
  have f3 : ∀ b ∈ fp, FpOk X pins (upd H2 D (.lst [])) b ∧ b < s3.heap.objs.size := fun b hb => by
    have hlt := sz b hb
    refine ⟨⟨?_, (f2 b hb).2⟩, by rw [h3, Heap.size_push]; exact Nat.lt_succ_of_lt hlt⟩
    rw [upd_ne (by rw [← hD]; exact Nat.ne_of_lt hlt)]
    exact (f2 b hb).1
  have st3 : tn 0 s3.heap := T.keep _ _ _ st2 fun b _ o e => by rw [h3]; exact Heap.get?_push_of_some _ e
  have I4 := block_start I3 ok hN f3
  have pg := hg s3 (upd H2 D (.lst [])) s3.heap.objs.size (cellsFrom (s3.heap.objs.size + 1) scope.names (cloFrom X.env.cells scope.names [])) fp
  have pt := ht s3 (upd H2 D (.lst [])) s3.heap.objs.size (cellsFrom (s3.heap.objs.size + 1) scope.names (cloFrom X.env.cells scope.names [])) fp
  have pe := he s3 (upd H2 D (.lst [])) s3.heap.objs.size (cellsFrom (s3.heap.objs.size + 1) scope.names (cloFrom X.env.cells scope.names [])) fp
  show codeAny _ _ (.compStart (.ListComp elt [⟨tg, iter, ifs, 0⟩] scope pos) 0 (.ref it) (.ref D) (compEnvC scope (cellsFrom (s3.heap.objs.size + 1) scope.names (cloFrom X.env.cells scope.names [])) s3.heap.objs.size X.env)) (compPost (model X.prog X.w) X.A X.xe use Qf (.ref D) s3.heap.objs.size) { s3 with heap := pushCells (s3.heap.push { cls := .type "dict", data := .dict #[] }) scope.names }
  have nfp : ∀ b ∈ fp, (upd H2 D (.lst [])) b = none := fun b hb => (f3 b hb).1.1
  generalize hce : compEnvC scope (cellsFrom (s3.heap.objs.size + 1) scope.names (cloFrom X.env.cells scope.names [])) s3.heap.objs.size X.env = ce at I4 pg pt pe ⊢
  have cL : ce.locals = s3.heap.objs.size := by subst hce; rfl
  generalize hH3 : upd H2 D (.lst []) = H3 at I3 I4 pg pt pe w0 nfp f3
  generalize hs4 : ({ s3 with heap := pushCells (s3.heap.push { cls := .type "dict", data := .dict #[] }) scope.names } : Shared) = s4 at I4 ⊢
  have st4 : tn 0 s4.heap := T.keep _ _ _ st3 fun b _ o e => by rw [← hs4]; exact pushCells_keeps _ _ _ _ (Heap.get?_push_of_some _ e)
  have stat : ∀ {σ' : St} {H' : Hp} {s' : Shared}, Inv (X.blk s3 H3 scope ce fp) [] σ' H' s' → (∀ b ∈ fp, H' b = none) → ∀ b ∈ fp, FpOk (X.blk s3 H3 scope ce fp) [] H' b := fun {σ' H' s'} I' hn b hb =>
    ⟨hn b hb, (I'.ok.exf b hb).1, I'.ok.exfs b hb, .inl hb, fun x c e => (I'.ok.exf b hb).2 x c e, fun p hp => absurd (show p ∈ ([] : List (Addr × Obj)) ++ [] from hp) (by simp)⟩
  have loop : codeAny (model X.prog X.w) X.A (.compLoop (.ListComp elt [⟨tg, iter, ifs, 0⟩] scope pos) 0 (.ref it) (.ref D) ce) (compPost (model X.prog X.w) X.A X.xe use Qf (.ref D) s3.heap.objs.size) s4 := by
    refine compLoop_any (fun n s' => ∃ i H', Inv (X.blk s3 H3 scope ce fp) [] (wipe σ (own.map (·.2))) H' s' ∧ tn i s'.heap ∧ (∀ b ∈ fp, H' b = none) ∧ W i n H') ?_ m0 ⟨0, H3, I4, st4, nfp, w0⟩
    rintro n s5 ⟨i, H5, I5, st5, n5, w5⟩
    rcases turn i n H5 w5 with ⟨stop, qq⟩ | ⟨go, Nx, hNx, step⟩
    · have td := T.done (X.blk s3 H3 scope ce fp) rfl rfl rfl hc i [] s5 _ H5 (fun _ _ => False) I5 (stat I5 n5) st5 stop
      refine thnF td fun r s6 ⟨hr, I6⟩ => ?_
      subst hr
      -- back in the def's context
      have I7 : Inv X pins σ H5 s6 := I3.call' (ch := fp) I6.os I6.base I6.hok I6.bare fun b hb => ⟨(f3 b hb).1.2.2.2.1, (f3 b hb).1.2.1, (f3 b hb).1.2.2.2.2.1, (f3 b hb).1.2.2.2.2.2⟩
      have nC : H5 s3.heap.objs.size = none := by
        have z : H5 ce.locals = none := I6.free
        rw [cL] at z
        exact z
      obtain ⟨m, hn, _⟩ := I6.loc
      have hn : s6.heap.Ns ce.locals m := hn
      rw [cL] at hn
      exact hRR D s3.heap.objs.size s6 m H5 I7 qq hn (I3.fpOk (Nat.le_refl _) nC)
    · have ti := T.item (X.blk s3 H3 scope ce fp) rfl rfl rfl hc i [] s5 _ H5 (fun _ _ => False) I5 (stat I5 n5) st5 go
      refine thnF ti fun r s6 ⟨u, hr, h6⟩ => ?_
      subst hr
      refine thnF h6 fun _ s7 ⟨x, H7, I7, r7, y7, st7, n7⟩ => ?_
      have I7' := I7.pinned (stat I7 n7) (T.obj _ _ st7)
      refine thnF (pg _ s7 _ H7 x u _ I7' r7 (step x H7 y7)) fun _ s8 ⟨σ8, H8, I8, hw8, q8⟩ => ?_
      refine thnF (pt _ s8 σ8 H8 _ I8 q8) fun b s9 ⟨H9, I9, q9⟩ => ?_
      -- the turn's end
      have fin : ∀ {s' : Shared} {H' : Hp}, Inv (X.blk s3 H3 scope ce fp) ([] ++ pinsAt fp s7.heap) σ8 H' s' → Nx H' → ∃ m, m < n ∧ ∃ i H', Inv (X.blk s3 H3 scope ce fp) [] (wipe σ (own.map (·.2))) H' s' ∧ tn i s'.heap ∧ (∀ b ∈ fp, H' b = none) ∧ W i m H' := fun {s' H'} I' nx => by
        obtain ⟨m', hm, w'⟩ := hNx H' nx
        have pin' : ∀ b ∈ fp, ∀ o, s7.heap.get? b = some o → s'.heap.get? b = some o ∧ H' b = none := fun b hb o e =>
          let z := I'.pin (b, o) (List.mem_append_right _ (List.mem_append_right _ (mem_pinsAt hb e)))
          ⟨z.1, z.2.1⟩
        have hl : (wipe σ (own.map (·.2))).length = σ8.length := by rw [← hw8, wipe_length]
        refine ⟨m', hm, i + 1, H', (I'.unpinned (pins := [])).weak hl (fun j v e => ?_), T.keep _ _ _ st7 fun b hb o e => (pin' b hb o e).1, fun b hb => ?_, w'⟩
        · rw [← hw8] at e
          exact (wipe_some e).1
        · obtain ⟨o, e, _⟩ := T.obj _ _ st7 b hb
          exact (pin' b hb o e).2
      cases b with
      | false =>
        simp only [Bool.false_eq_true, if_false] at q9 ⊢
        exact fin I9 q9
      | true =>
        simp only [if_true] at q9 ⊢
        refine thnF (pe _ s9 σ8 H9 _ I9 q9) fun z s10 ⟨yv, H10, I10, r10, acc, hD10, hz10, nx⟩ => ?_
        exact app_ok (X := X.blk s3 H3 scope ce fp) I10 hD10 hz10 r10 fun s11 I11 => fin I11 nx
  exact codeAny_compStart_list loop (T.self X.A 0 _ _ _ st4 loop)
theorem pe_lc {elt tg iter : Expr} {ifs : List Expr} {scope : Scope} {own : List (Str × Nat)} {pos : Pos} {wi : TI} {g : TG} {tt : TT} {te : TE} (hc : X.calm = true) (hN : X.N.Nodup) (hi : PI X tg iter wi) (ok : BlkOk X.N X.env.scope scope own)
    (hg : ∀ (s : Shared) (H : Hp) (C : Addr) (cl : List (Str × Addr)) (fp : List Addr), PG (X.blk s H scope (compEnvC scope cl C X.env) fp) tg g) (ht : ∀ (s : Shared) (H : Hp) (C : Addr) (cl : List (Str × Addr)) (fp : List Addr), PTs (X.blk s H scope (compEnvC scope cl C X.env) fp) ifs tt)
    (he : ∀ (s : Shared) (H : Hp) (C : Addr) (cl : List (Str × Addr)) (fp : List Addr), PE (X.blk s H scope (compEnvC scope cl C X.env) fp) elt te) (hs : ∀ x, foldedSetIterable iter X.env x = pure x := by intro _; rfl) :
    PE X (.ListComp elt [⟨tg, iter, ifs, 0⟩] scope pos) (tLc wi g tt te (own.map (·.2))) := by
  intro pins s σ H Q I h
  rw [eval_ListComp]
  refine lc_core hc hN I hi ok hg ht he hs h fun D C s' m H' I' q hn f => ⟨m, hn, fun h'' sb => ?_⟩
  obtain ⟨f0, f1, f2, f3, f4, f5⟩ := f
  exact ⟨.ref D, H', I'.turned (t' := s'.toks) (fun b o hb e => (sb.2 b hb).trans e) f0 f1 f3 f4 f5, rfl, q⟩
theorem ps_setLc {i : Nat} {y : Str} {py : Pos} {elt tg iter : Expr} {ifs : List Expr} {scope : Scope} {own : List (Str × Nat)} {pos spos : Pos} {wi : TI} {g : TG} {tt : TT} {te : TE} (hc : X.calm = true) (hN : X.N.Nodup) (hy : X.N[i]? = some y) (hyl : X.env.scope.names.lookup y = some .local)
    (hsw : swapsWith (.ListComp elt [⟨tg, iter, ifs, 0⟩] scope pos) (some (.Name y py)) spos.line X.env = pure true) (hi : PI X tg iter wi) (ok : BlkOk X.N X.env.scope scope own)
    (hg : ∀ (s : Shared) (H : Hp) (C : Addr) (cl : List (Str × Addr)) (fp : List Addr), PG (X.blk s H scope (compEnvC scope cl C X.env) fp) tg g) (ht : ∀ (s : Shared) (H : Hp) (C : Addr) (cl : List (Str × Addr)) (fp : List Addr), PTs (X.blk s H scope (compEnvC scope cl C X.env) fp) ifs tt)
    (he : ∀ (s : Shared) (H : Hp) (C : Addr) (cl : List (Str × Addr)) (fp : List Addr), PE (X.blk s H scope (compEnvC scope cl C X.env) fp) elt te) (hs : ∀ x, foldedSetIterable iter X.env x = pure x := by intro _; rfl) :
    PS X (.Assign [.Name y py] (.ListComp elt [⟨tg, iter, ifs, 0⟩] scope pos) spos) (tAsg (tLc wi g tt te (own.map (·.2))) (gName i)) := by
  intro pins s σ H D I h
  rw [exec_Assign_Name_used _ _ _ _ hsw]
  refine wpAny_bind (wpAny_standAt (wpAny_bind ?_))
  show wpAny _ X.A (do let _ ← comprehension (.ListComp elt [⟨tg, iter, ifs, 0⟩] scope pos) scope X.env (firstIterPos [⟨tg, iter, ifs, 0⟩] pos) (newList []) false (eval iter X.env) (some (assign (.Name y py) X.env))) _ _ s
  have h : tLc wi g tt te (own.map (·.2)) σ H (fun x H1 => gName i x σ H1 D.nx) := h
  refine wpAny_bind (thn (lc_core (Qf := fun _ s' => SP X pins D .next s') hc hN I hi ok hg ht he hs h fun L C s' m H' I' q hn f => ?_) fun _ s' hq => wpAny_pure (wpAny_pure hq))
  show wpAny _ _ (assign (.Name y py) X.env (.ref L)) _ _ _
  refine wpAny_assign_Name (store_ok2 (v := V.ref L) I' hN hy (.inl hyl) rfl (fun s2 I2 ⟨a, sb, ha⟩ => ?_) (.inr hyl))
  obtain ⟨f0, f1, f2, f3, f4, f5⟩ := f
  have haC : C ≠ a := by
    rcases ha with z | z
    · rw [z]; exact f1
    · exact fun e => f4 y a z e.symm
  refine ⟨m, hn.sameBut sb haC, fun h3 sb3 => ?_⟩
  exact ⟨_, H', I2.turned (t' := s2.toks) (fun b o hb e => (sb3.2 b hb).trans e) f0 f1 f3 f4 f5, q⟩
theorem sw_true {elt : Expr} {gs : List Comprehension} {scope : Scope} {pos py : Pos} {y : Str} {l : Nat} {env : Env} (hk : env.scope.kind = .function) (hy : env.scope.names.lookup y = some .local) (hl : (py.line == pos.line) = true)
    (ha : (scope.names.any fun (n, k) => n == y && (k == .local || k == .cell)) = false) : swapsWith (.ListComp elt gs scope pos) (some (.Name y py)) l env = pure true := by
  have ky : env.kindOf y = some .local := hy
  have hb : env.blockKind = .function := by unfold Env.blockKind; rw [hk]; rfl
  unfold swapsWith
  simp only [hb, ky, ha, Expr.pos, hl]
  rfl
end
theorem lc_list {K : PySem.W.Frag} {a : Addr} {xs : List V} {g : TG} {tt : TT} {te : TE} {vs : List Nat} {σ : St} {H1 : Hp} {D : Addr} {Qd : Hp → Prop} (Pv : Nat → Hp → Prop) (h0 : Pv 0 (upd H1 D (.lst []))) (hl : ∀ i H, i ≤ xs.length → Pv i H → SqL K H a xs)
    (hs : ∀ i x H, xs[i]? = some x → Pv i H → g x (wipe σ vs) H fun σ2 H2 => wipe σ2 vs = wipe σ vs ∧ tt σ2 H2 fun b H3 =>
      if b = true then te σ2 H3 fun y H4 => ∃ acc, H4 D = some (.lst acc) ∧ acc.length < sizeLine ∧ Pv (i + 1) (upd H4 D (.lst (acc ++ [y]))) else Pv (i + 1) H3) (hd : ∀ H, Pv xs.length H → Qd H) :
    ∃ W : Nat → Nat → Hp → Prop, (∃ m, W 0 m (upd H1 D (.lst []))) ∧ ∀ i m H, W i m H →
      ((Itl K a).stop i H ∧ Qd H) ∨ ((Itl K a).go i H ∧ ∃ Nx : Hp → Prop, (∀ H', Nx H' → ∃ m', m' < m ∧ W (i + 1) m' H') ∧ ∀ x H', (Itl K a).yld i H x H' → g x (wipe σ vs) H' fun σ2 H2 => wipe σ2 vs = wipe σ vs ∧ tt σ2 H2 fun b H3 =>
        if b = true then te σ2 H3 fun y H4 => ∃ acc, H4 D = some (.lst acc) ∧ acc.length < sizeLine ∧ Nx (upd H4 D (.lst (acc ++ [y]))) else Nx H3) := by
  refine ⟨fun i m H => m = xs.length - i ∧ i ≤ xs.length ∧ Pv i H, ⟨xs.length, by simp, Nat.zero_le _, h0⟩, ?_⟩
  rintro i m H ⟨rfl, hi, p⟩
  have q := hl i H hi p
  by_cases hlt : i < xs.length
  · refine .inr ⟨⟨xs, xs[i], q, by simp [hlt]⟩, Pv (i + 1), fun H' p' => ⟨xs.length - (i + 1), by omega, rfl, hlt, p'⟩, fun x H' y => ?_⟩
    obtain ⟨e, y⟩ := y
    subst e
    exact hs i x _ (y xs q) p
  · have e : i = xs.length := by omega
    subst e
    exact .inl ⟨⟨xs, q, Nat.le_refl _⟩, hd H p⟩
def blkC (N : List Str) (sc scope : Scope) (own : List (Str × Nat)) : Bool :=
  (match scope.kind with | .function => true | _ => false) && (scope.names.all fun y => decide (scope.names.lookup y.1 = some y.2)) && (own.all fun p => decide (N[p.2]? = some p.1)) &&
    (scope.names.all fun y => match y.2 with
      | .free => (match sc.names.lookup y.1 with | some .cell => true | some .free => true | _ => false)
      | .local => decide (y.1 ∈ own.map (·.1)) || decide (y.1 ∉ N)
      | .cell => decide (y.1 ∈ own.map (·.1)) || decide (y.1 ∉ N)
      | _ => true)
theorem blkOk_by {N : List Str} {sc scope : Scope} {own : List (Str × Nat)} (h : blkC N sc scope own = true) : BlkOk N sc scope own := by
  unfold blkC at h
  simp only [Bool.and_eq_true, List.all_eq_true, decide_eq_true_eq] at h
  obtain ⟨⟨⟨h1, h2⟩, h3⟩, h4⟩ := h
  refine ⟨?_, h2, h3, fun y hy e => ?_, fun y hy e => ?_⟩
  · split at h1
    · assumption
    · cases h1
  · have q := h4 y hy
    simp only [e] at q
    split at q <;> first | exact .inl (by assumption) | exact .inr (by assumption) | cases q
  · have q := h4 y hy
    rcases e with e | e <;> (simp only [e, Bool.or_eq_true, decide_eq_true_eq] at q; exact q)
end L2
namespace L2
open PySem PySem.Spec PyProof.Rows
section
variable {prog : Program} {w : World} {A : Around} {R : Result → Shared → Prop} {s : Shared} {elt t0 i0 t1 i1 : Expr} {ifs0 ifs1 : List Expr} {scope : Scope} {pos : Pos} {it acc : Value} {env : Env}
end
section
variable {X : Cx}
end
end L2
namespace L2
open PySem PySem.Spec PyProof.Rows
section
variable {κ : Type} [DecidableEq κ]
def valV (kvs : List (κ × V)) (k : κ) : Option V := (kvs.find? fun kv => decide (kv.1 = k)).map (·.2)
def putK (kvs : List (κ × V)) (k : κ) (v : V) : List (κ × V) :=
  if (kvs.any fun kv => decide (kv.1 = k)) = true then kvs.map (fun kv => if kv.1 = k then (kv.1, v) else kv) else kvs ++ [(k, v)]
def dropK (kvs : List (κ × V)) (k : κ) : List (κ × V) := kvs.filter fun kv => decide (kv.1 ≠ k)
theorem valV_pos {p : κ × V} {r : List (κ × V)} {k : κ} (e : p.1 = k) : valV (p :: r) k = some p.2 := by simp [valV, List.find?_cons, e]
theorem valV_neg {p : κ × V} {r : List (κ × V)} {k : κ} (e : ¬ p.1 = k) : valV (p :: r) k = valV r k := by simp [valV, List.find?_cons, e]
theorem valV_any (k : κ) : ∀ kvs : List (κ × V), (kvs.any fun kv => decide (kv.1 = k)) = (valV kvs k).isSome
  | [] => rfl
  | p :: r => by
    rw [List.any_cons]
    by_cases e : p.1 = k
    · simp only [valV_pos e, decide_eq_true e, Bool.true_or, Option.isSome_some]
    · rw [valV_neg e, decide_eq_false e, Bool.false_or]; exact valV_any k r
theorem length_putK (kvs : List (κ × V)) (k : κ) (v : V) : (putK kvs k v).length ≤ kvs.length + 1 := by
  unfold putK
  split
  · rw [List.length_map]; omega
  · rw [List.length_append, List.length_cons, List.length_nil]; omega
theorem putK_new {kvs : List (κ × V)} {k : κ} (v : V) (h : valV kvs k = none) : putK kvs k v = kvs ++ [(k, v)] := by
  unfold putK
  rw [valV_any, h]
  exact if_neg (by decide)
theorem RelO.isSome_eq {o : Option V} {u : Option Value} (r : RelO o u) : o.isSome = u.isSome := by
  cases o with
  | none => cases u with
    | none => rfl
    | some _ => exact (show False from r).elim
  | some _ => cases u with
    | none => exact (show False from r).elim
    | some _ => rfl
theorem KV.val {kvs : List (κ × V)} {vs : List (κ × Value)} (r : KV kvs vs) (k : κ) : RelO (valV kvs k) (valueAt vs k) := by
  unfold KV at r
  induction r with
  | nil => exact True.intro
  | @cons p q ps qs h t ih =>
    obtain ⟨h1, h2⟩ := h
    by_cases e : p.1 = k
    · have e' : q.1 = k := h1.symm.trans e
      have b : valueAt (q :: qs) k = some q.2 := by simp [valueAt, List.find?_cons, e']
      rw [valV_pos e, b]; exact h2
    · have e' : ¬ q.1 = k := fun z => e (h1.trans z)
      have b : valueAt (q :: qs) k = valueAt qs k := by simp [valueAt, List.find?_cons, e']
      rw [valV_neg e, b]; exact ih
theorem KV.any {kvs : List (κ × V)} {vs : List (κ × Value)} (r : KV kvs vs) (k : κ) : (kvs.any fun kv => decide (kv.1 = k)) = vs.any fun kv => decide (kv.1 = k) := by
  unfold KV at r
  induction r with
  | nil => rfl
  | cons h t ih => rw [List.any_cons, List.any_cons, ih, h.1]
theorem KV.repl {kvs : List (κ × V)} {vs : List (κ × Value)} (r : KV kvs vs) (k : κ) {y : V} {u : Value} (ry : RelV y u) :
    KV (kvs.map fun kv => if kv.1 = k then (kv.1, y) else kv) (vs.map fun kv => if kv.1 = k then (kv.1, u) else kv) := by
  unfold KV at r ⊢
  induction r with
  | nil => exact .nil
  | @cons p q ps qs h t ih =>
    rw [List.map_cons, List.map_cons]
    refine .cons ?_ ih
    obtain ⟨h1, h2⟩ := h
    by_cases e : p.1 = k
    · rw [if_pos e, if_pos (h1.symm.trans e)]; exact ⟨h1, ry⟩
    · rw [if_neg e, if_neg (fun z => e (h1.trans z))]; exact ⟨h1, h2⟩
theorem KV.put {kvs : List (κ × V)} {vs : List (κ × Value)} (r : KV kvs vs) (k : κ) {y : V} {u : Value} (ry : RelV y u) : KV (putK kvs k y) (stored vs k u) := by
  unfold putK stored
  rw [r.any k]
  by_cases e : (vs.any fun kv => decide (kv.1 = k)) = true
  · rw [if_pos e, if_pos e]; exact r.repl k ry
  · rw [if_neg e, if_neg e]; exact Paired.snoc r ⟨rfl, ry⟩
theorem KV.drop {kvs : List (κ × V)} {vs : List (κ × Value)} (r : KV kvs vs) (k : κ) : KV (dropK kvs k) (without vs k) := by
  unfold KV at r ⊢
  unfold dropK without
  induction r with
  | nil => exact .nil
  | @cons p q ps qs h t ih =>
    obtain ⟨h1, h2⟩ := h
    rw [List.filter_cons, List.filter_cons]
    by_cases e : p.1 = k
    · have a : ¬ decide (p.1 ≠ k) = true := by simp [e]
      have b : ¬ decide (q.1 ≠ k) = true := by simp [h1.symm.trans e]
      rw [if_neg a, if_neg b]; exact ih
    · have e' : ¬ q.1 = k := fun z => e (h1.trans z)
      have a : decide (p.1 ≠ k) = true := by simp [e]
      have b : decide (q.1 ≠ k) = true := by simp [e']
      rw [if_pos a, if_pos b]; exact .cons ⟨h1, h2⟩ ih
theorem KV.length {kvs : List (κ × V)} {vs : List (κ × Value)} (r : KV kvs vs) : kvs.length = vs.length := Paired.length r
theorem dropK_le (kvs : List (κ × V)) (k : κ) : (dropK kvs k).length ≤ kvs.length := List.length_filter_le _ _
end
theorem kV_is {P : Program} {w : World} {k : Key} {u : Value} (r : RelV (kV k) u) : (mixKind P w).is k u = true := by
  cases k with
  | inl i => obtain ⟨t, e⟩ := (show ∃ t, u = Value.int i t from r); subst e; exact mixKind_int P w i t
  | inr x => obtain ⟨t, e⟩ := (show ∃ t, u = Value.str x t from r); subst e; exact mixKind_str P w x t
theorem items_are {P : Program} {w : World} : ∀ {ks : List Key} {us : List Value}, Vals (ks.map kV) us → ItemsAre (mixKind P w) ks us
  | [], _, r => by rw [List.map_nil] at r; cases r; exact .nil
  | k :: ks, _, r => by
    rw [List.map_cons] at r
    cases r with
    | cons h t => exact .cons (kV_is h) (items_are t)
abbrev KT (H : Hp) : List (List Key × V) → List (List Key × Addr × Value) → Prop := Paired fun p q => p.1 = q.1 ∧ H q.2.1 = some (.tup (p.1.map kV)) ∧ RelV p.2 q.2.2
theorem KT.val {H : Hp} {kvs : List (List Key × V)} {xs : List (List Key × Addr × Value)} (r : KT H kvs xs) (k : List Key) : RelO (valV kvs k) ((atKey xs k).map (·.2)) := by
  induction r with
  | nil => exact True.intro
  | @cons p q ps qs h t ih =>
    obtain ⟨h1, _, h2⟩ := h
    by_cases e : p.1 = k
    · have e' : q.1 = k := h1.symm.trans e
      have b : atKey (q :: qs) k = some q.2 := by simp [atKey, List.find?_cons, e']
      rw [valV_pos e, b]; exact h2
    · have e' : ¬ q.1 = k := fun z => e (h1.trans z)
      have b : atKey (q :: qs) k = atKey qs k := by simp [atKey, List.find?_cons, e']
      rw [valV_neg e, b]; exact ih
theorem KT.repl {H : Hp} {kvs : List (List Key × V)} {xs : List (List Key × Addr × Value)} (r : KT H kvs xs) (k : List Key) {y : V} {u : Value} (ry : RelV y u) :
    KT H (kvs.map fun kv => if kv.1 = k then (kv.1, y) else kv) (xs.map (putAt k u)) := by
  induction r with
  | nil => exact .nil
  | @cons p q ps qs h t ih =>
    rw [List.map_cons, List.map_cons]
    refine .cons ?_ ih
    obtain ⟨h1, h2, h3⟩ := h
    unfold putAt
    by_cases e : p.1 = k
    · rw [if_pos e, if_pos (h1.symm.trans e)]; exact ⟨h1, h2, ry⟩
    · rw [if_neg e, if_neg (fun z => e (h1.trans z))]; exact ⟨h1, h2, h3⟩
theorem KT.put {H : Hp} {kvs : List (List Key × V)} {xs : List (List Key × Addr × Value)} (r : KT H kvs xs) (k : List Key) {b : Addr} {y : V} {u : Value} (hb : H b = some (.tup (k.map kV))) (ry : RelV y u) :
    KT H (putK kvs k y) (storedH xs k b u) := by
  have e : (kvs.any fun kv => decide (kv.1 = k)) = (atKey xs k).isSome := by
    rw [valV_any, (r.val k).isSome_eq, Option.isSome_map]
  unfold putK storedH
  rw [e]
  by_cases q : (atKey xs k).isSome = true
  · rw [if_pos q, if_pos q]; exact r.repl k ry
  · rw [if_neg q, if_neg q]; exact Paired.snoc r ⟨rfl, hb, ry⟩
theorem KT.keeps {H H' : Hp} {kvs : List (List Key × V)} {xs : List (List Key × Addr × Value)} (r : KT H kvs xs) (ht : ∀ b ys, H b = some (.tup ys) → H' b = some (.tup ys)) : KT H' kvs xs :=
  Paired.mapP r fun _ _ z => ⟨z.1, ht _ _ z.2.1, z.2.2⟩
section
variable {P : Program} {w : World} {H : Hp} {h : Heap} {a : Addr}
theorem rd_of {u : HO} (ok : HOk P w H h) (e : Rd H a u) : ObjOk P w H h a u := e.ok ok
theorem dk_rd {kvs : List (Key × V)} (ok : HOk P w H h) (e : Rd H a (.dK kvs)) : kvs.length ≤ sizeLine ∧ (a == sysModules) = false ∧ ∃ vs, KV kvs vs ∧ h.DictOf (mixKind P w) a vs :=
  show ObjOk P w H h a (.dK kvs) from rd_of ok e
theorem dk_of {kvs : List (Key × V)} (ok : HOk P w H h) (e : H a = some (.dK kvs)) : kvs.length ≤ sizeLine ∧ (a == sysModules) = false ∧ ∃ vs, KV kvs vs ∧ h.DictOf (mixKind P w) a vs := dk_rd ok (.inl e)
theorem key_of {ks : List Key} (ok : HOk P w H h) (e : H a = some (.tup (ks.map kV))) : (tupleKind (mixKind P w)).is h ks a := by
  obtain ⟨_, its, r, o, h1, h2, n, h3⟩ := (show ObjOk P w H h a (.tup (ks.map kV)) from ok a _ e)
  exact ⟨o, its.toArray, n, h1, h2, h3, by simpa using items_are r⟩
theorem dt_rd {kvs : List (List Key × V)} (ok : HOk P w H h) (e : Rd H a (.dT kvs)) : kvs.length ≤ sizeLine ∧ (a == sysModules) = false ∧
    ∃ xs, KT H kvs xs ∧ h.DictOfH (tupleKind (mixKind P w)) a xs := by
  obtain ⟨z, y, xs, r, o, es, ep, h1, h2, h3, h4, h5⟩ := (show ObjOk P w H h a (.dT kvs) from rd_of ok e)
  refine ⟨z, y, xs, r, o, es, ep, h1, h2, h3, h4, fun x hx => ?_, h5⟩
  have all : ∀ {l : List (List Key × V)} {m : List (List Key × Addr × Value)}, KT H l m → ∀ x ∈ m, (tupleKind (mixKind P w)).is h x.1 x.2.1 := by
    intro l m q
    induction q with
    | nil => intro x hx; exact nomatch hx
    | @cons p q ps qs hq t ih =>
      intro x hx
      rcases List.mem_cons.mp hx with e | hx
      · subst e
        exact key_of ok (by rw [← hq.1]; exact hq.2.1)
      · exact ih x hx
  exact all r x hx
theorem dt_of {kvs : List (List Key × V)} (ok : HOk P w H h) (e : H a = some (.dT kvs)) : kvs.length ≤ sizeLine ∧ (a == sysModules) = false ∧
    ∃ xs, KT H kvs xs ∧ h.DictOfH (tupleKind (mixKind P w)) a xs := dt_rd ok (.inl e)
end
def DGet (H : Hp) (a : Addr) (y : V) (r : Option V) : Prop :=
  (∃ kvs k, Rd H a (.dK kvs) ∧ y = kV k ∧ r = valV kvs k) ∨ ∃ kvs k b, Rd H a (.dT kvs) ∧ y = .ref b ∧ H b = some (.tup (k.map kV)) ∧ r = valV kvs k
def DPut (H : Hp) (a : Addr) (y v : V) (H' : Hp) : Prop :=
  (∃ kvs k, H a = some (.dK kvs) ∧ y = kV k ∧ kvs.length < sizeLine ∧ H' = upd H a (.dK (putK kvs k v))) ∨
  ∃ kvs k b, H a = some (.dT kvs) ∧ y = .ref b ∧ H b = some (.tup (k.map kV)) ∧ kvs.length < sizeLine ∧ H' = upd H a (.dT (putK kvs k v))
theorem DGet.k {H : Hp} {a : Addr} {kvs : List (Key × V)} {k : Key} (e : H a = some (.dK kvs)) : DGet H a (kV k) (valV kvs k) := .inl ⟨kvs, k, .inl e, rfl, rfl⟩
theorem DPut.k {H : Hp} {a : Addr} {kvs : List (Key × V)} {k : Key} {v : V} (e : H a = some (.dK kvs)) (hl : kvs.length < sizeLine) : DPut H a (kV k) v (upd H a (.dK (putK kvs k v))) := .inl ⟨kvs, k, e, rfl, hl, rfl⟩
section
variable {X : Cx} {pins : List (Addr × Obj)} {σ : St} {H : Hp} {s : Shared} {a : Addr} {y v : V} {u r : Value} {o : Option V} {A : Around} {E : Value → Shared → Prop}
theorem Inv.big (I : Inv X pins σ H s) : sysModules < s.heap.objs.size := by
  have h : mainGlobals < s.heap.objs.size := (I.mod.glob.keeps I.bk).lt
  exact Nat.lt_trans (by decide) h
theorem d_getItem {Q : Value → Shared → Prop} (hu : A.units + 1 < cLine) (I : Inv X pins σ H s) (g : DGet H a y (some v)) (ry : RelV y u) (h : ∀ w' s', Inv X pins σ H s' → RelV v w' → Q w' s') :
    wpAny (model X.prog X.w) A (getItem (.ref a) u) Q E s := by
  rcases g with ⟨kvs, k, e, ey, l⟩ | ⟨kvs, k, b, e, ey, eb, l⟩
  · subst ey
    obtain ⟨z, hd, vs, rel, dd⟩ := dk_rd I.hok e
    obtain ⟨w', hw, rw'⟩ := RelO.some_of (v := v) (o := valueAt vs k) (by rw [l]; exact rel.val k)
    exact wpAny_getItem_of (kV_is ry) dd.mapOf hw (h w' _ (I.tok _) rw')
  · subst ey
    cases (show u = Value.ref b from ry)
    obtain ⟨z, hd, xs, rel, dd⟩ := dt_rd I.hok e
    obtain ⟨w', hw, rw'⟩ := RelO.some_of (v := v) (o := (atKey xs k).map (·.2)) (by rw [l]; exact rel.val k)
    obtain ⟨p, hp, hp2⟩ := Option.map_eq_some_iff.mp hw
    refine wpAny_getItem_heap (tupleKind_room_in1 hu) (key_of I.hok eb) dd hp ?_
    rw [hp2]
    exact h w' _ (I.tok _) rw'
theorem d_write {h' : Heap} {t' : Nat} {ob : HO} (I : Inv X pins σ H s) (mu : Mut (H a)) (hs : Heap.SameBut a s.heap h') (he : ∃ q, h'.get? a = some q) (new : ObjOk X.prog X.w (upd H a ob) h' a ob) :
    Inv X pins σ (upd H a ob) { s with heap := h', toks := t' } :=
  I.write (x := a) (e := a) mu (.inl rfl) (fun b q hb z => (hs.2 b hb).trans z) he new
theorem dk_new {P : Program} {w : World} {H' : Hp} {h' : Heap} {kvs : List (Key × V)} {vs : List (Key × Value)} (z : kvs.length ≤ sizeLine) (hd : (a == sysModules) = false) (rel : KV kvs vs) (dd : h'.DictOf (mixKind P w) a vs) :
    ObjOk P w H' h' a (.dK kvs) := ⟨z, hd, vs, rel, dd⟩
theorem d_setItem {H' : Hp} {Q : Unit → Shared → Prop} (hu : A.units + 1 < cLine) (I : Inv X pins σ H s) (g : DPut H a y v H') (ry : RelV y u) (rv : RelV v r) (h : ∀ s', Inv X pins σ H' s' → Q () s') :
    wpAny (model X.prog X.w) A (setItem (.ref a) u r) Q E s := by
  rcases g with ⟨kvs, k, e, ey, l, eH⟩ | ⟨kvs, k, b, e, ey, eb, l, eH⟩
  · subst ey eH
    obtain ⟨z, hd, vs, rel, dd⟩ := dk_of I.hok e
    have hz : vs.length ≤ sizeLine := by rw [← rel.length]; exact z
    have hl : (putK kvs k v).length ≤ sizeLine := by have := length_putK kvs k v; omega
    refine wpAny_setItem_pairs (hsz := hz) (kV_is ry) dd fun h' dd' hs => h _ ?_
    have he : ∃ q, h'.get? a = some q := let ⟨q, _, _, hq, _⟩ := dd'; ⟨q, hq⟩
    exact d_write I (by rw [e]; exact True.intro) hs he (dk_new hl hd (rel.put k rv) dd')
  · subst ey eH
    cases (show u = Value.ref b from ry)
    obtain ⟨z, hd, xs, rel, dd⟩ := dt_of I.hok e
    have hz : xs.length ≤ sizeLine := by rw [← Paired.length rel]; exact z
    have hl : (putK kvs k v).length ≤ sizeLine := by have := length_putK kvs k v; omega
    refine wpAny_setItem_heap (hsz := hz) (tupleKind_room_in1 hu) (key_of I.hok eb) dd fun h' dd' hs => h _ ?_
    obtain ⟨q, es, ep, hq, h2, h3, h4, _, h5⟩ := dd'
    refine d_write I (by rw [e]; exact True.intro) hs ⟨q, hq⟩ ⟨hl, hd, _, (rel.put k eb rv).keeps fun c ys ec => ?_, q, es, ep, hq, h2, h3, h4, h5⟩
    rw [upd_ne (ne_of ec e (fun z => nomatch z))]
    exact ec
end
section
variable {X : Cx} {pins : List (Addr × Obj)} {σ : St} {H : Hp} {s : Shared} {a : Addr} {kvs : List (Key × V)} {k : Key} {u : Value} {A : Around} {E : Value → Shared → Prop}
theorem d_pop {v : V} {more : List Value} {Q : Value → Shared → Prop} (I : Inv X pins σ H s) (e : H a = some (.dK kvs)) (ry : RelV (kV k) u) (l : valV kvs k = some v) (hm : more = [] ∨ ∃ x, more = [x])
    (h : ∀ w' s', Inv X pins σ (upd H a (.dK (dropK kvs k))) s' → RelV v w' → Q w' s') : wpAny (model X.prog X.w) A (call (.builtin "dict.pop") (.ref a :: u :: more)) Q E s := by
  obtain ⟨z, hd, vs, rel, dd⟩ := dk_of I.hok e
  obtain ⟨w', hw, rw'⟩ := RelO.some_of (v := v) (o := valueAt vs k) (by rw [← l]; exact rel.val k)
  have hp : (keyPart u).isSome = true := by
    cases k with
    | inl i => obtain ⟨t, q⟩ := (show ∃ t, u = Value.int i t from ry); subst q; rfl
    | inr x => obtain ⟨t, q⟩ := (show ∃ t, u = Value.str x t from ry); subst q; rfl
  have ha : argsOk "dict.pop" ⟨.ref a :: u :: more, []⟩ := by
    rcases hm with q | ⟨x, q⟩
    · subst q; exact PySem.F.args_dict_pop_2 _ _
    · subst q; exact PySem.F.args_dict_pop_3 _ _ _
  refine call_meetsIn PySem.F.slot_dict_pop dd.typeIs PySem.F.entry_dict_pop ha (meets_dict_pop_there (mixKind X.prog X.w) a (kV_is ry) more hm hp)
    ⟨vs, w', dd, by rw [← rel.length]; exact z, hw, fun h' dd' hs => h w' _ ?_ rw'⟩
  have he : ∃ q, h'.get? a = some q := let ⟨q, _, _, hq, _⟩ := dd'; ⟨q, hq⟩
  exact d_write I (by rw [e]; exact True.intro) hs he (dk_new (Nat.le_trans (dropK_le kvs k) z) hd (rel.drop k) dd')
end
def NoSl (i : Expr) : Prop := ∀ ov iv, subscripted i false ov iv = operate [ov, iv] (getItem ov iv)
theorem subD_of {prog : Program} {w : World} {A : Around} {E : Value → Shared → Prop} {s : Shared} {env : Env} {value slice : Expr} {pos : Pos} {T id : String} {Q : Value → Shared → Prop}
    (hl : typeLookup (.type T) "__getitem__" = pure (some (.builtin id))) (hs : NoSl slice)
    (h : wpAny (model prog w) A (eval value env) (fun o s₁ => wpAny (model prog w) A (eval slice env) (fun i s₂ => s₂.TypeIs o T ∧ wpAny (model prog w) A (getItem o i) Q E s₂) E s₁) E s) :
    wpAny (model prog w) A (eval (.Subscript value slice pos) env) Q E s := by
  refine Subscript_ (wpAny_mono h (fun o s₁ h₁ => wpAny_mono h₁ (fun i s₂ h₂ => ?_) fun _ _ x => x) fun _ _ x => x)
  obtain ⟨hT, h₂⟩ := h₂
  unfold subscriptTail
  refine wpAny_bind ?_
  rw [getitemInPython_of_ne hT.not_modules]
  refine wpAny_bind (wpAny_specialOf hT hl ?_)
  have fin : wpAny (model prog w) A (subscripted slice false o i) (fun r s₃ => wpAny (model prog w) A (letTemporaryGo value o r >>= fun _ => pure r) Q E s₃) E s₂ := by
    rw [hs o i]
    exact wpAny_operating (wpAny_mono h₂ (fun r s₃ h₃ => wpAny_bind (wpAny_letTemporaryGo (wpAny_pure h₃))) fun _ _ x => x)
  first
    | exact wpAny_pure (wpAny_bind fin)
    | exact wpAny_bind (wpAny_pure (wpAny_bind fin))
    | exact wpAny_bind fin
theorem dict_typeIs {X : Cx} {pins : List (Addr × Obj)} {σ : St} {H : Hp} {s : Shared} {a : Addr} {y : V} {o : Option V} (I : Inv X pins σ H s) (g : DGet H a y o) : s.TypeIs (.ref a) "dict" := by
  rcases g with ⟨kvs, k, e, _, _⟩ | ⟨kvs, k, b, e, _, _, _⟩
  · obtain ⟨_, _, vs, _, dd⟩ := dk_rd I.hok e
    exact dd.typeIs
  · obtain ⟨_, _, xs, _, dd⟩ := dt_rd I.hok e
    exact dd.typeIs
def tDGet (td ty : TE) : TE := fun σ H Q => td σ H fun x H1 => ty σ H1 fun y H2 => ∃ a v, x = .ref a ∧ DGet H2 a y (some v) ∧ Q v H2
def sDPut (td ty tv : TE) : TS := fun D σ H => tv σ H fun v H1 => td σ H1 fun x H2 => ty σ H2 fun y H3 => ∃ a H4, x = .ref a ∧ DPut H3 a y v H4 ∧ D.nx σ H4
section
variable {X : Cx} {o i e value : Expr} {pos pos' tpos : Pos} {td ty tv : TE}
theorem pe_dget (hu : X.A.units + 1 < cLine) (ho : PE X o td) (hi : PE X i ty) (hs : NoSl i) : PE X (.Subscript o i pos) (tDGet td ty) := by
  intro pins s σ H Q I h
  refine subD_of PySem.F.slot_dict_getitem.lookup hs (thn (ho pins s σ H _ I h) fun u s1 ⟨x, H1, I1, rx, q1⟩ => thn (hi pins s1 σ H1 _ I1 q1) fun iv s2 ⟨y, H2, I2, ry, a, v, ex, g, q2⟩ => ?_)
  subst ex
  obtain rfl : u = Value.ref a := rx
  exact ⟨dict_typeIs I2 g, d_getItem hu I2 g ry fun w' s3 I3 rw' => ⟨v, H2, I3, rw', q2⟩⟩
theorem ps_dput (hu : X.A.units + 1 < cLine) (ho : PE X o td) (hi : PE X i ty) (hv : PE X value tv) (hs : swapsWith value (some (.Subscript o i pos')) pos.line X.env = pure false) :
    PS X (.Assign [.Subscript o i pos'] value pos) (sDPut td ty tv) := by
  intro pins s σ H D I h
  refine wpAny_Assign_Subscript (thn (hv pins s σ H _ I h) fun r s1 ⟨v, H1, I1, rv, q1⟩ => thn (ho pins s1 σ H1 _ I1 q1) fun u s2 ⟨x, H2, I2, rx, q2⟩ => thn (hi pins s2 σ H2 _ I2 q2) fun iv s3 ⟨y, H3, I3, ry, a, H4, ex, g, q3⟩ => ?_) hs
  subst ex
  obtain rfl : u = Value.ref a := rx
  exact d_setItem hu I3 g ry rv fun s4 I4 => ⟨σ, H4, I4, q3⟩
end
theorem dk_empty {P : Program} {w : World} {H : Hp} (h : Heap) (hb : sysModules < h.objs.size) : ObjOk P w H (h.push { cls := .type "dict", data := .dict #[] }) h.objs.size (.dK []) :=
  ⟨Nat.zero_le _, beq_eq_false_iff_ne.mpr (Ne.symm (Nat.ne_of_lt hb)), [], .nil, Heap.DictOf.new h⟩
def tDNewK : TE := fun _ H Q => ∀ p, H p = none → Q (.ref p) (upd H p (.dK []))
section
variable {X : Cx} {pos : Pos}
theorem pe_dnewK : PE X (.Dict [] [] pos) tDNewK := fun pins s σ H Q I h =>
  wpAny_Dict_empty ⟨.ref s.heap.objs.size, _, I.laid (a := s.heap.objs.size) (o := .dK []) (t' := s.toks) (fun _ _ q => Heap.get?_push_of_some _ q) (Nat.le_refl _) (dk_empty s.heap I.big), rfl, h _ (I.hok.fresh (Nat.le_refl _))⟩
end
structure M1 (X : Cx) (o : Expr) (m : Str) (apos : Pos) (e : Expr) (cpos : Pos) : Prop where
  base : attributeBase o m X.env (eval o X.env) = eval o X.env
  few : ((backTo cpos (starEach [e] X.env)).all (fun x => !x.1) && (backToKw cpos (keywordEach [] X.env)).all (fun x => x.1.isSome)
    && decide (([e] : List Expr).length + ([] : List Keyword).length + (if ([] : List Keyword).isEmpty then 0 else 1) < 30)) = true
  line : (apos.endLine == cpos.line) = true
  trees : backTo cpos (starEach [e] X.env) = [(false, eval e X.env)]
def IsD (H : Hp) (a : Addr) : Prop := (∃ kvs, Rd H a (.dK kvs)) ∨ ∃ kvs, Rd H a (.dT kvs)
theorem isD_at {X : Cx} {pins : List (Addr × Obj)} {σ : St} {H : Hp} {s : Shared} {a : Addr} (I : Inv X pins σ H s) (d : IsD H a) :
    s.TypeIs (.ref a) "dict" ∧ (∀ b, Value.ref a = .ref b → ∃ ob, s.heap.get? b = some ob ∧ ob.dict = none) ∧ (a == sysModules) = false := by
  rcases d with ⟨kvs, e⟩ | ⟨kvs, e⟩
  · obtain ⟨_, hd, vs, _, dd⟩ := dk_rd I.hok e
    refine ⟨dd.typeIs, fun b q => ?_, hd⟩
    cases q
    obtain ⟨ob, _, _, h1, h2, _⟩ := dd
    exact ⟨ob, h1, h2.2.1⟩
  · obtain ⟨_, hd, xs, _, dd⟩ := dt_rd I.hok e
    refine ⟨dd.typeIs, fun b q => ?_, hd⟩
    cases q
    obtain ⟨ob, _, _, h1, h2, _⟩ := dd
    exact ⟨ob, h1, h2.2.1⟩
section
variable {X : Cx} {pins : List (Addr × Obj)} {σ : St} {H : Hp} {s : Shared} {a : Addr} {y d : V} {u r : Value} {o : Option V} {A : Around} {E : Value → Shared → Prop}
end
def tDPop1 (td ty : TE) : TE := fun σ H Q => td σ H fun x H1 => ∃ a, x = .ref a ∧ IsD H1 a ∧ ty σ H1 fun y H2 => ∃ kvs k v, H2 a = some (.dK kvs) ∧ y = kV k ∧ valV kvs k = some v ∧ Q v (upd H2 a (.dK (dropK kvs k)))
section
variable {X : Cx} {o e f : Expr} {apos cpos : Pos} {td ty tx : TE}
theorem pe_dpop1 (ho : PE X o td) (he : PE X e ty) (m : M1 X o "pop" apos e cpos) : PE X (.Call (.Attribute o "pop" apos) [e] [] cpos) (tDPop1 td ty) := by
  intro pins s σ H Q I h
  refine wpAny_Call_method m.base m.few m.line PySem.F.plainAttrs_dict PySem.F.slot_dict_pop PySem.F.type_dict_pop (thn (ho pins s σ H _ I h) fun u s1 ⟨x, H1, I1, rx, a, ex, d, q1⟩ => ?_)
  subst ex
  obtain rfl : u = Value.ref a := rx
  obtain ⟨t1, t2, _⟩ := isD_at I1 d
  refine ⟨t1, t2, ?_⟩
  rw [m.trees]
  refine Calls.callWith_builtin rfl (Calls.evalArgs_plain (Calls.spliced_cons (thn (he pins s1 σ H1 _ I1 q1) fun iv s2 ⟨y, H2, I2, ry, kvs, k, v, ea, ey, l, q2⟩ => Calls.spliced_nil ?_)))
  subst ey
  exact d_pop I2 ea ry l (.inl rfl) fun w' s3 I3 rw' => ⟨v, _, I3, rw', q2⟩
end
section
variable {X : Cx} {pins : List (Addr × Obj)} {σ : St} {H : Hp} {s : Shared} {a : Addr} {kvs : List (Key × V)} {A : Around} {E : Value → Shared → Prop}
end
section
variable {X : Cx} {pins : List (Addr × Obj)} {σ : St} {H : Hp} {s : Shared} {a : Addr} {y : V} {u : Value} {A : Around} {E : Value → Shared → Prop}
end
end L2
namespace L2
open PySem PySem.Spec PyProof.Rows
section
variable {prog : Program} {w : World} {A : Around} {E : Value → Shared → Prop}
end
section
variable {X : Cx}
end
end L2
namespace L2
open PySem PySem.Spec PyProof.Rows
section
variable {X : Cx} {pins : List (Addr × Obj)} {σ : St} {H : Hp} {s : Shared} {h' : Heap}
theorem Inv.turnedL {t' : Nat} {ch : List Addr} (I : Inv X pins σ H s) (k : ∀ b o, b ∉ ch → s.heap.get? b = some o → h'.get? b = some o) (hf : ∀ b ∈ ch, FpOk X pins H b) : Inv X pins σ H { s with heap := h', toks := t' } := by
  have nit : ∀ b u, H b = some u → b ∉ ch := fun b u e z => by
    have q := (hf b z).1
    rw [q] at e; cases e
  refine I.step (g' := s.gens) (d' := s.drawn) (ch := ch) (fun b hb => ⟨(hf b hb).2.2.2.1, (hf b hb).2.1, (hf b hb).2.2.2.2.1, (hf b hb).2.2.2.2.2⟩) (fun b o _ _ hc e _ => k b o hc e) (fun b o _ _ hc e _ => ⟨o.slots, k b o hc e⟩)
    (fun _ _ _ _ n => n) (fun b o hc e => ⟨o, k b o hc e⟩) (fun _ _ e => e) (fun _ _ _ e => e) (fun b ps e => ⟨#[], by rw [e]; simp⟩) (fun m hm => ?_) (fun b u e => ?_) I.bare
  · obtain ⟨o, es, ep, ho, r⟩ := hm
    exact ⟨o, es, ep, k _ o (fun z => (hf _ z).2.1 rfl) ho, r⟩
  · refine (I.hok b u e).stay (fun c v hc q => k c v ?_ q) (fun _ q => q) fun _ _ q => q
    rcases hc with z | z
    · rw [z]; exact nit b u e
    · exact nit c _ z
theorem Inv.turnedNew {t' : Nat} {ch : List Addr} {T : Addr} {ob : HO} (I : Inv X pins σ H s) (k : ∀ b o, b ∉ ch → s.heap.get? b = some o → h'.get? b = some o) (hf : ∀ b ∈ ch, FpOk X pins H b) (hT : s.heap.objs.size ≤ T)
    (new : ObjOk X.prog X.w (upd H T ob) h' T ob) : Inv X pins σ (upd H T ob) { s with heap := h', toks := t' } := by
  have hn : H T = none := I.hok.fresh hT
  have nit : ∀ b u, H b = some u → b ∉ ch := fun b u e z => by
    have q := (hf b z).1
    rw [q] at e; cases e
  refine I.step (g' := s.gens) (d' := s.drawn) (ch := ch) (fun b hb => ⟨(hf b hb).2.2.2.1, (hf b hb).2.1, (hf b hb).2.2.2.2.1, (hf b hb).2.2.2.2.2⟩) (fun b o _ _ hc e _ => k b o hc e) (fun b o _ _ hc e _ => ⟨o.slots, k b o hc e⟩)
    (fun b o _ e n => ?_) (fun b o hc e => ⟨o, k b o hc e⟩) (fun b xs e => ?_) (fun b o u e => ?_) (fun b ps e => ⟨#[], ?_⟩) (fun m hm => ?_) (fun b u e => ?_) I.bare
  · rw [upd_ne (Nat.ne_of_lt (Nat.lt_of_lt_of_le (Heap.lt_size e) hT))]; exact n
  · rw [upd_ne (ne_of_none e hn)]; exact e
  · rw [upd_ne (ne_of_none e hn)]; exact e
  · rw [upd_ne (ne_of_none e hn), e]; simp
  · obtain ⟨o, es, ep, ho, r⟩ := hm
    exact ⟨o, es, ep, k _ o (fun z => (hf _ z).2.1 rfl) ho, r⟩
  · by_cases hb : b = T
    · subst hb
      rw [upd_same] at e
      cases e
      exact new
    · rw [upd_ne hb] at e
      refine (I.hok b u e).stay (fun c v hc q => k c v ?_ q) (fun c q => by rw [upd_ne (ne_of_none q hn)]; exact q) fun c xs q => by rw [upd_ne (ne_of_none q hn)]; exact q
      rcases hc with z | z
      · rw [z]; exact nit b u e
      · exact nit c _ z
end
section
variable {X : Cx}
theorem pi_one {tg : Expr} {pins : List (Addr × Obj)} {σ : St} {H : Hp} {s : Shared} {R : It → Hp → Prop} {J : It} {tn : Nat → Heap → Prop} {tk : Nat} (I : Inv X pins σ H s) (o : Obj)
    (T : Turn X.prog X.w X.K tg J [s.heap.objs.size] s.heap.objs.size tn) (st : tn 0 (s.heap.push o)) (q : R J H) : PIE X pins σ tg R (.ref s.heap.objs.size) { s with heap := s.heap.push o, toks := tk } := by
  refine ⟨s.heap.objs.size, [s.heap.objs.size], tn, J, H, rfl, I.kept fun b ob e => Heap.get?_push_of_some _ e, T, st, fun b hb => ?_, q⟩
  have e : b = s.heap.objs.size := by simpa using hb
  subst e
  exact I.fpOk (Nat.le_refl _) (I.hok.fresh (Nat.le_refl _))
end
def Itc (lo c : Int) (n : Nat) : It := ⟨fun i _ => i < n, fun i H x H' => H' = H ∧ x = .int (lo + (i : Nat) * c), fun i _ => n ≤ i⟩
theorem turn_rangeC {P : Program} {w : World} {K : PySem.W.Frag} {tg : Expr} (it : Addr) (lo c : Int) (n : Nat) : Turn P w K tg (Itc lo c n) [it] it (fun i h => IsRangeIter h it (lo + (i : Nat) * c) ((n : Int) - (i : Nat)) c) where
  mem := by simp
  obj := fun i h st b hb => by
    have e : b = it := by simpa using hb
    subst e
    exact ⟨_, st, fun v z => nomatch z⟩
  keep := fun i h h' st k => k it (by simp) _ st
  item := by
    intro X hP hw hK hc i pins s σ H E I hf st hg
    subst hP hw hK
    obtain ⟨f0, f1, f2, f3, f4, f5⟩ := hf it (by simp)
    have W := Walks.range (prog := X.prog) (w := X.w) (I.ok.hd hc) it lo c n
    refine W.item i s _ _ hg st fun v h' tk hv st' kk => ?_
    obtain ⟨t, rfl⟩ := hv
    have I1 : Inv X pins σ H { s with heap := h', toks := tk } := I.turned (fun b o hb e => kk b o (by simpa using hb) e) f0 f1 f3 f4 f5
    exact ⟨_, rfl, go_of (s := { s with heap := h', toks := tk }) (n := "range_iterator") st' rfl rfl (by decide) ⟨.int (lo + (i : Nat) * c), H, I1, ⟨t, rfl⟩, ⟨rfl, rfl⟩, st', fun b hb => (hf b hb).1⟩⟩
  done := by
    intro X hP hw hK hc i pins s σ H E I hf st hg
    subst hP hw hK
    obtain ⟨f0, f1, f2, f3, f4, f5⟩ := hf it (by simp)
    exact wpAny_pyNext_range_end (I.ok.hd hc) st (by have : n ≤ i := hg; omega) fun h' eb => ⟨rfl, I.turned (t' := s.toks) (fun b o hb e => eb b o hb e) f0 f1 f3 f4 f5⟩
  self := fun A i s Q E st h => wpAny_pyIter_rangeiter st h
def RgC (i j c : Int) (n : Nat) : Prop := c ≠ 0 ∧ c.natAbs < 1073741824 ∧ Builtin.Range.small i j c = true ∧ Builtin.Range.rangeSize i j c = n
def iRng3 (ta : TA) : TI := fun σ H R => ta σ H fun vs H1 => ∃ (i j c : Int) (n : Nat), vs = [.int i, .int j, .int c] ∧ RgC i j c n ∧ R (Itc i c n) H1
section
variable {X : Cx} {tg : Expr}
theorem pi_range3 {a b c : Expr} {ta : TA} {p pos : Pos} (hg : Gl X "range") (hm : X.mg "range" = none) (ha : PA X [a, b, c] ta)
    (hs : starEach [a, b, c] X.env = (false, eval a X.env) :: starEach [b, c] X.env := by rfl) (hpl : (backTo pos (starEach [b, c] X.env)).any (·.1) = false := by rfl) :
    PI X tg (.Call (.Name "range" p) [a, b, c] [] pos) (iRng3 ta) := by
  intro pins s σ H R I h
  refine Call_ (ld_blt I hg hm boot_range (PyProof.Rows.callWith_type1 (thn (ha pos pins s σ H _ I h) fun us s1 ⟨vs, H1, I1, r1, q1⟩ => ?_) hs hpl))
  obtain ⟨i, j, k, n, e, ⟨c0, c1, c2, c3⟩, q⟩ := q1
  subst e
  cases r1 with
  | cons r rr =>
    cases rr with
    | cons r' rr =>
      cases rr with
      | cons r'' rr =>
        cases rr
        obtain ⟨t, rfl⟩ := r
        obtain ⟨t', rfl⟩ := r'
        obtain ⟨t'', rfl⟩ := r''
        refine call_range_3 c0 ?_ (.inl (PyProof.noPylong_small c1))
        refine wpAny_pyIter_range (IsRange.new ..) c2 ?_
        have I2 : Inv X pins σ H1 { s1 with heap := s1.heap.push { cls := .type "range", data := .fields #[.int i t, .int j t', .int k t''] } } := I1.kept (t' := s1.toks) fun b o e => Heap.get?_push_of_some _ e
        refine pi_one (tk := s1.toks) I2 _ (turn_rangeC _ i k n) ?_ q
        have e1 : i + ((0 : Nat) : Int) * k = i := by simp
        have e2 : (n : Int) - ((0 : Nat) : Int) = Builtin.Range.rangeSize i j k := by rw [c3]; simp
        show IsRangeIter _ _ (i + ((0 : Nat) : Int) * k) ((n : Int) - ((0 : Nat) : Int)) k
        rw [e1, e2]
        exact Heap.get?_push_size _ rfl
end
section
variable {X : Cx} {tg : Expr}
end
section
variable {prog : Program} {w : World} {A : Around} {E : Value → Shared → Prop} {s : Shared}
end
section
variable {X : Cx} {pins : List (Addr × Obj)} {σ : St} {H : Hp} {s : Shared} {d : Addr} {o : Obj}
end
section
variable {P : Program} {w : World} {K : PySem.W.Frag} {tg : Expr} {d : Addr} {o : Obj} {es : Array DictEntry} {ep : Nat}
end
section
variable {X : Cx} {tg e : Expr} {td : TE} {apos cpos : Pos}
end
def Ite (K : PySem.W.Frag) (a : Addr) : It :=
  ⟨fun i H => ∃ (xs : List V) (x : V), SqL K H a xs ∧ xs[i]? = some x, fun i H v H' => ∃ T x, v = .ref T ∧ H T = none ∧ H' = upd H T (.tup [.int (i : Nat), x]) ∧ ∀ xs, SqL K H a xs → xs[i]? = some x, fun i H => ∃ xs : List V, SqL K H a xs ∧ xs.length ≤ i⟩
theorem turn_enum {P : Program} {w : World} {K : PySem.W.Frag} {elts : List Expr} {kk : Nat} {tpos : Pos} (a e it : Addr) :
    Turn P w K (.Tuple elts kk tpos) (Ite K a) [e, it] e (fun i h => (∃ old, IsEnum h e it ((i : Nat) : Int) old) ∧ h.IsListIter it a i ∧ e ≠ it) where
  mem := by simp
  obj := fun i h st b hb => by
    obtain ⟨⟨old, he⟩, ⟨o, ho, hc, hd⟩, _⟩ := st
    have e' : b = e ∨ b = it := by simpa using hb
    rcases e' with z | z
    · rw [z]; exact ⟨_, he, fun v q => nomatch q⟩
    · rw [z]; exact ⟨o, ho, fun v q => by rw [hd] at q; cases q⟩
  keep := fun i h h' st k => let ⟨⟨old, he⟩, hi, hne⟩ := st; ⟨⟨old, k e (by simp) _ he⟩, hi.at fun o q => k it (by simp) o q, hne⟩
  item := by
    intro X hP hw hK hc i pins s σ H E I hf st hg
    subst hP hw hK
    obtain ⟨⟨old, he⟩, hit, hne⟩ := st
    obtain ⟨xs, x, hq, hx⟩ := hg
    obtain ⟨its, rv, p, hz⟩ := I.list hq
    obtain ⟨u, hu, ru⟩ := rv.get hx
    have hel : e < s.heap.objs.size := Heap.lt_size he
    have hil : it < s.heap.objs.size := by obtain ⟨_, q, _⟩ := hit; exact Heap.lt_size q
    refine wpAny_pyNext_enum_item he hit p.isList (x := u) (by simpa using hu) hne fun h' ho hit' hT hsz hk => ?_
    refine ⟨_, rfl, wpAny_letOwnedTupleGo_enum (s := { s with heap := h', toks := s.toks + 1 }) ho fun h'' he' sb => ?_⟩
    have hT2 : h''.get? s.heap.objs.size = some { cls := .type "tuple", data := .seq #[.int i s.toks, u] } := (sb.2 _ (Nat.ne_of_gt hel)).trans hT
    have new : ObjOk X.prog X.w (upd H s.heap.objs.size (.tup [.int (i : Nat), x])) h'' s.heap.objs.size (.tup [.int (i : Nat), x]) :=
      ⟨by show 2 ≤ sizeLine; decide, [.int i s.toks, u], .cons ⟨_, rfl⟩ (.cons ru .nil), ⟨_, hT2, rfl, _, rfl⟩⟩
    have I1 : Inv X pins σ (upd H s.heap.objs.size (.tup [.int (i : Nat), x])) { s with heap := h'', toks := s.toks + 1 } :=
      I.turnedNew (ch := [e, it]) (fun b ob hb q => (sb.2 b (fun z => hb (by simp [z]))).trans (hk b ob (fun z => hb (by simp [z])) (fun z => hb (by simp [z])) q)) hf (Nat.le_refl _) new
    refine ⟨.ref s.heap.objs.size, _, I1, rfl, ⟨_, x, rfl, I.hok.fresh (Nat.le_refl _), rfl, fun ys hy => by rw [I.list_inj hy hq]; exact hx⟩, ⟨⟨u, ?_⟩, hit'.at fun o q => (sb.2 it (Ne.symm hne)).trans q, hne⟩, fun b hb => ?_⟩
    · have e1 : ((i + 1 : Nat) : Int) = (i : Int) + 1 := by omega
      rw [e1]; exact he'
    · have hb' : b < s.heap.objs.size := by
        have e' : b = e ∨ b = it := by simpa using hb
        rcases e' with z | z
        · rw [z]; exact hel
        · rw [z]; exact hil
      rw [upd_ne (Nat.ne_of_lt hb')]
      exact (hf b hb).1
  done := by
    intro X hP hw hK hc i pins s σ H E I hf st hg
    subst hP hw hK
    obtain ⟨⟨old, he⟩, hit, hne⟩ := st
    obtain ⟨xs, hq, hx⟩ := hg
    obtain ⟨its, rv, p, hz⟩ := I.list hq
    obtain ⟨f0, f1, f2, f3, f4, f5⟩ := hf it (by simp)
    have hl := rv.length
    exact wpAny_pyNext_enum_end (I.ok.hd hc) he hit p.isList (by simp; omega) fun h' eb => ⟨rfl, I.turned (t' := s.toks) (fun b o hb q => eb b o hb q) f0 f1 f3 f4 f5⟩
  self := fun A i s Q E st h => let ⟨⟨_, he⟩, _⟩ := st; wpAny_pyIter_enum he h
def iEnum (K : PySem.W.Frag) (ta : TA) : TI := fun σ H R => ta σ H fun vs H1 => ∃ a xs, vs = [.ref a] ∧ SqL K H1 a xs ∧ R (Ite K a) H1
theorem pi_enum {X : Cx} {e : Expr} {ta : TA} {p pos tpos : Pos} {elts : List Expr} {kk : Nat} (hg : Gl X "enumerate") (hm : X.mg "enumerate" = none) (ha : PA X [e] ta) (hs : starEach [e] X.env = [(false, eval e X.env)] := by rfl) :
    PI X (.Tuple elts kk tpos) (.Call (.Name "enumerate" p) [e] [] pos) (iEnum X.K ta) := by
  intro pins s σ H R I h
  refine Call_ (ld_blt I hg hm boot_enumerate (PyProof.Rows.callWith_type1 (thn (ha pos pins s σ H _ I h) fun us s1 ⟨vs, H1, I1, r1, q1⟩ => ?_) hs rfl))
  obtain ⟨a, xs, ex, hq, q⟩ := q1
  subst ex
  cases r1 with
  | cons r rr =>
    cases rr
    cases r
    obtain ⟨its, rv, p', hz⟩ := I1.list hq
    refine call_enumerate_list p'.isList fun h' he hit hsz hk => wpAny_pyIter_enum he ?_
    have I2 : Inv X pins σ H1 { s1 with heap := h' } := I1.kept (t' := s1.toks) hk
    refine ⟨s1.heap.objs.size + 1, [s1.heap.objs.size + 1, s1.heap.objs.size], _, _, H1, rfl, I2, turn_enum a (s1.heap.objs.size + 1) s1.heap.objs.size, ⟨⟨.none, he⟩, hit, Nat.succ_ne_self _⟩, fun b hb => ?_, q⟩
    have e' : b = s1.heap.objs.size + 1 ∨ b = s1.heap.objs.size := by simpa using hb
    have hle : s1.heap.objs.size ≤ b := by
      rcases e' with z | z
      · rw [z]; exact Nat.le_add_right _ _
      · rw [z]; exact Nat.le_refl _
    exact I1.fpOk hle (I1.hok.fresh hle)
theorem boot_zip5 : bootBuiltins "zip" = some (.type "zip") := by decide +kernel
def Itz (K : PySem.W.Frag) (a b : Addr) : It :=
  ⟨fun i H => ∃ (xs ys : List V) (x y : V), SqL K H a xs ∧ SqL K H b ys ∧ xs[i]? = some x ∧ ys[i]? = some y,
    fun i H v H' => ∃ T x y, v = .ref T ∧ H T = none ∧ H' = upd H T (.tup [x, y]) ∧ (∀ xs, SqL K H a xs → xs[i]? = some x) ∧ ∀ ys, SqL K H b ys → ys[i]? = some y,
    fun i H => ∃ xs ys : List V, SqL K H a xs ∧ SqL K H b ys ∧ (xs.length ≤ i ∨ ys.length ≤ i)⟩
theorem turn_zip {P : Program} {w : World} {K : PySem.W.Frag} {elts : List Expr} {kk : Nat} {tpos : Pos} {a b z TI TO i1 i2 : Addr} (D : ZipApart z TI TO i1 i2 a b) :
    Turn P w K (.Tuple elts kk tpos) (Itz K a b) [z, TI, TO, i1, i2] z (fun i h => IsZip h z TI TO .none ∧ IsPair h TI (.ref i1) (.ref i2) ∧ (∃ x y, IsPair h TO x y) ∧ h.IsListIter i1 a i ∧ h.IsListIter i2 b i) where
  mem := by simp
  obj := fun i h st c hc => by
    obtain ⟨hz, hTI, ⟨x, y, hTO⟩, ⟨o1, e1, _, d1⟩, ⟨o2, e2, _, d2⟩⟩ := st
    have e' : c = z ∨ c = TI ∨ c = TO ∨ c = i1 ∨ c = i2 := by simpa using hc
    rcases e' with q | q | q | q | q
    · rw [q]; exact ⟨_, hz, fun v q => nomatch q⟩
    · rw [q]; exact ⟨_, hTI, fun v q => nomatch q⟩
    · rw [q]; exact ⟨_, hTO, fun v q => nomatch q⟩
    · rw [q]; exact ⟨o1, e1, fun v q => by rw [d1] at q; cases q⟩
    · rw [q]; exact ⟨o2, e2, fun v q => by rw [d2] at q; cases q⟩
  keep := fun i h h' st k => by
    obtain ⟨hz, hTI, ⟨x, y, hTO⟩, h1, h2⟩ := st
    exact ⟨k z (by simp) _ hz, k TI (by simp) _ hTI, ⟨x, y, k TO (by simp) _ hTO⟩, h1.at fun o q => k i1 (by simp) o q, h2.at fun o q => k i2 (by simp) o q⟩
  item := by
    intro X hP hw hK hc i pins s σ H E I hf st hg
    subst hP hw hK
    obtain ⟨hz, hTI, ⟨x0, y0, hTO⟩, h1, h2⟩ := st
    obtain ⟨xs, ys, x, y, hqx, hqy, hx, hy⟩ := hg
    obtain ⟨its, rv, p, _⟩ := I.list hqx
    obtain ⟨its2, rv2, p2, _⟩ := I.list hqy
    obtain ⟨u, hu, ru⟩ := rv.get hx
    obtain ⟨u2, hu2, ru2⟩ := rv2.get hy
    have hzl : z < s.heap.objs.size := Heap.lt_size hz
    refine wpAny_pyNext_zip_item D hz hTI hTO h1 h2 p.isList p2.isList (x := u) (y := u2) (by simpa using hu) (by simpa using hu2) fun h' z' TO' h1' h2' hT hsz hk => ?_
    refine ⟨_, rfl, wpAny_letOwnedTupleGo_zip (s := { s with heap := h' }) z' fun h'' z'' sb => ?_⟩
    have hT2 : h''.get? s.heap.objs.size = some { cls := .type "tuple", data := .seq #[u, u2] } := (sb.2 _ (Nat.ne_of_gt hzl)).trans hT
    have new : ObjOk X.prog X.w (upd H s.heap.objs.size (.tup [x, y])) h'' s.heap.objs.size (.tup [x, y]) :=
      ⟨by show 2 ≤ sizeLine; decide, [u, u2], .cons ru (.cons ru2 .nil), ⟨_, hT2, rfl, _, rfl⟩⟩
    have I1 : Inv X pins σ (upd H s.heap.objs.size (.tup [x, y])) { s with heap := h'' } :=
      I.turnedNew (t' := s.toks) (ch := [z, TI, TO, i1, i2]) (fun c o hb q => (sb.2 c (fun q' => hb (by simp [q']))).trans (hk c o (fun q' => hb (by simp [q'])) (fun q' => hb (by simp [q'])) (fun q' => hb (by simp [q'])) (fun q' => hb (by simp [q'])) q)) hf (Nat.le_refl _) new
    refine ⟨.ref s.heap.objs.size, _, I1, rfl, ⟨_, x, y, rfl, I.hok.fresh (Nat.le_refl _), rfl, fun l hl => by rw [I.list_inj hl hqx]; exact hx, fun l hl => by rw [I.list_inj hl hqy]; exact hy⟩, ⟨z'', ?_, ⟨u, u2, ?_⟩, ?_, ?_⟩, fun c hcm => ?_⟩
    · exact (sb.2 _ D.TIz).trans (hk _ _ D.TIz D.TITO D.TIi1 D.TIi2 hTI)
    · exact (sb.2 _ D.TOz).trans TO'
    · exact h1'.at fun o q => (sb.2 _ D.i1z).trans q
    · exact h2'.at fun o q => (sb.2 _ D.i2z).trans q
    · have hlt : c < s.heap.objs.size := by
        have e' : c = z ∨ c = TI ∨ c = TO ∨ c = i1 ∨ c = i2 := by simpa using hcm
        rcases e' with q | q | q | q | q
        · rw [q]; exact hzl
        · rw [q]; exact Heap.lt_size hTI
        · rw [q]; exact Heap.lt_size hTO
        · rw [q]; obtain ⟨_, e1, _⟩ := h1; exact Heap.lt_size e1
        · rw [q]; obtain ⟨_, e2, _⟩ := h2; exact Heap.lt_size e2
      rw [upd_ne (Nat.ne_of_lt hlt)]
      exact (hf c hcm).1
  done := by
    intro X hP hw hK hc i pins s σ H E I hf st hg
    subst hP hw hK
    obtain ⟨hz, hTI, ⟨x0, y0, hTO⟩, h1, h2⟩ := st
    obtain ⟨xs, ys, hqx, hqy, hend⟩ := hg
    obtain ⟨its, rv, p, _⟩ := I.list hqx
    obtain ⟨its2, rv2, p2, _⟩ := I.list hqy
    have l1 := rv.length
    have l2 := rv2.length
    have he : its.toArray[i]? = none ∨ its2.toArray[i]? = none := by
      rcases hend with q | q
      · exact .inl (by simp; omega)
      · exact .inr (by simp; omega)
    exact wpAny_pyNext_zip_end (I.ok.hd hc) D hz hTI hTO h1 h2 p.isList p2.isList he fun h' hk => ⟨rfl, I.turnedL (t' := s.toks) (ch := [z, TI, TO, i1, i2]) (fun c o hb q =>
      hk c o (fun q' => hb (by simp [q'])) (fun q' => hb (by simp [q'])) (fun q' => hb (by simp [q'])) (fun q' => hb (by simp [q'])) q) hf⟩
  self := fun A i s Q E st h => wpAny_pyIter_zip st.1 h
def iZip (K : PySem.W.Frag) (ta : TA) : TI := fun σ H R => ta σ H fun vs H1 => ∃ a b xs ys, vs = [.ref a, .ref b] ∧ SqL K H1 a xs ∧ SqL K H1 b ys ∧ R (Itz K a b) H1
theorem pi_zip {X : Cx} {e e2 : Expr} {ta : TA} {p pos tpos : Pos} {elts : List Expr} {kk : Nat} (hg : Gl X "zip") (hm : X.mg "zip" = none) (ha : PA X [e, e2] ta)
    (hs : starEach [e, e2] X.env = (false, eval e X.env) :: starEach [e2] X.env := by rfl) (hpl : (backTo pos (starEach [e2] X.env)).any (·.1) = false := by rfl) :
    PI X (.Tuple elts kk tpos) (.Call (.Name "zip" p) [e, e2] [] pos) (iZip X.K ta) := by
  intro pins s σ H R I h
  refine Call_ (ld_blt I hg hm boot_zip5 (PyProof.Rows.callWith_type1 (thn (ha pos pins s σ H _ I h) fun us s1 ⟨vs, H1, I1, r1, q1⟩ => ?_) hs hpl))
  obtain ⟨a, b, xs, ys, ex, hqx, hqy, q⟩ := q1
  subst ex
  cases r1 with
  | cons r rr =>
    cases rr with
    | cons r' rr =>
      cases rr
      cases r
      cases r'
      obtain ⟨its, rv, p1, _⟩ := I1.list hqx
      obtain ⟨its2, rv2, p2, _⟩ := I1.list hqy
      have la : a < s1.heap.objs.size := p1.lt
      have lb : b < s1.heap.objs.size := p2.lt
      refine call_zip_2 p1.isList p2.isList fun h' hz hTI hTO h1 h2 hsz hk => wpAny_pyIter_zip hz ?_
      have I2 : Inv X pins σ H1 { s1 with heap := h' } := I1.kept (t' := s1.toks) hk
      refine ⟨s1.heap.objs.size + 4, [s1.heap.objs.size + 4, s1.heap.objs.size + 2, s1.heap.objs.size + 3, s1.heap.objs.size, s1.heap.objs.size + 1], _, _, H1, rfl, I2, turn_zip (PySem.W.ktu_apart s1.heap.objs.size a b la lb), ⟨hz, hTI, ⟨_, _, hTO⟩, h1, h2⟩, fun c hcm => ?_, q⟩
      have e' : c = s1.heap.objs.size + 4 ∨ c = s1.heap.objs.size + 2 ∨ c = s1.heap.objs.size + 3 ∨ c = s1.heap.objs.size ∨ c = s1.heap.objs.size + 1 := by simpa using hcm
      have hle : s1.heap.objs.size ≤ c := by
        rcases e' with z | z | z | z | z
        · rw [z]; exact Nat.le_add_right _ _
        · rw [z]; exact Nat.le_add_right _ _
        · rw [z]; exact Nat.le_add_right _ _
        · rw [z]; exact Nat.le_refl _
        · rw [z]; exact Nat.le_add_right _ _
      exact I1.fpOk hle (I1.hok.fresh hle)
end L2
section 
namespace Bits
open PySem PyProof.Rows
end Bits
end 
section 
namespace TL
open PySem PySem.Builtin PySem.Builtin.Str PySem.StrLaws
end TL
end 
namespace L2
open PySem PySem.Spec PyProof.Rows
section
variable {X : Cx} {pins : List (Addr × Obj)} {σ : St} {H : Hp} {s : Shared} {Q : VK}
end
section
variable {X : Cx}
end
section
variable {X : Cx} {o e : Expr} {to te : TE}
end
end L2
namespace L2
open PySem PySem.Spec PyProof.Rows
section
variable {X : Cx}
end
end L2
namespace Att
open PySem PySem.W PySem.Calls PyProof.Rows
section
variable {prog : Program} {w : World} {A : Around} {E : Value → Shared → Prop} {s : Shared} {K : Frag}
end
end Att
namespace L2
open PySem PySem.Spec PyProof.Rows
end L2
namespace L2
open PySem PySem.Spec PyProof.Rows
end L2
section
set_option Elab.async false
set_option linter.all false
set_option maxRecDepth 100000
set_option maxHeartbeats 2000000
namespace L2
open PySem PySem.Spec PyProof.Rows
open PySem.W (WData Codec OpenSpec Well WellAll ReadsW ReadsAllW)
mutual
/-- x stands for the datum d, lists and tuples all the way -/
inductive Dw (K : PySem.W.Frag) (H : Hp) : V → WData → Prop
  | non : Dw K H .non .none
  | bl (b : Bool) : Dw K H (.bl b) (.bool b)
  | int (i : Int) : Dw K H (.int i) (.int i)
  | str (x : Str) : Dw K H (.str x) (.str x)
  | byt (b : Array UInt8) : Dw K H (.byt b) (.bytes b.toList)
  | lst {a : Addr} {xs : List V} {ds : List WData} : SqL K H a xs → DwAll K H xs ds → Dw K H (.ref a) (.list ds)
  | tup {a : Addr} {xs : List V} {ds : List WData} : SqT K H a xs → DwAll K H xs ds → Dw K H (.ref a) (.tuple ds)
inductive DwAll (K : PySem.W.Frag) (H : Hp) : List V → List WData → Prop
  | nil : DwAll K H [] []
  | cons {v : V} {vs : List V} {d : WData} {ds : List WData} : Dw K H v d → DwAll K H vs ds → DwAll K H (v :: vs) (d :: ds)
end
theorem dw_ints {K : PySem.W.Frag} {H : Hp} : ∀ ns : List Int, DwAll K H (ns.map V.int) (ns.map WData.int)
  | [] => .nil
  | n :: r => .cons (.int n) (dw_ints r)
theorem ints_dw {K : PySem.W.Frag} {H : Hp} : ∀ (ns : List Int) (xs : List V), DwAll K H xs (ns.map WData.int) → xs = ns.map V.int
  | [], xs, h => by
    cases h
    rfl
  | n :: r, xs, h => by
    cases h with
    | cons h1 h2 =>
      cases h1
      rw [ints_dw r _ h2] <;> rfl
section
variable {P : Program} {w : World} {K : PySem.W.Frag} {H : Hp} {h : Heap} {R : PySem.W.WRecords} {cl : Str → Option Addr}
theorem sqL_at {a : Addr} {xs : List V} (hok : HOk P w H h) (KX : K.In h) (q : SqL K H a xs) : ∃ (its : List Value) (o : Obj) (n : Nat), Vals xs its ∧ h.get? a = some o ∧ o.cls = .type "list" ∧ o.data = .seq its.toArray n := by
  rcases q with q | ⟨o, its, n, e, hc, _, hd, _, hv⟩
  · obtain ⟨_, its, n, hv, e⟩ := (show ObjOk P w H h a (.lst xs) from q.ok hok)
    exact ⟨its, _, n, hv, e, rfl, rfl⟩
  · exact ⟨its.toList, o, n, hv, KX _ _ e, hc, by simp [hd]⟩
theorem sqT_at {a : Addr} {xs : List V} (hok : HOk P w H h) (KX : K.In h) (q : SqT K H a xs) : ∃ (its : List Value) (o : Obj) (n : Nat), Vals xs its ∧ h.get? a = some o ∧ o.cls = .type "tuple" ∧ o.data = .seq its.toArray n := by
  rcases q with q | ⟨o, its, n, e, hc, hd, _, hv⟩
  · obtain ⟨_, its, hv, o, e, hc, n, hd⟩ := (show ObjOk P w H h a (.tup xs) from q.ok hok)
    exact ⟨its, o, n, hv, e, hc, hd⟩
  · exact ⟨its.toList, o, n, hv, KX _ _ e, hc, by simp [hd]⟩
mutual
theorem Dw.reads (hok : HOk P w H h) (KX : K.In h) : ∀ (d : WData) (v : V) (u : Value), Dw K H v d → RelV v u → ∃ as, ReadsW R cl h u d as
  | .none, _, _, x, r => by
    cases x
    cases r
    exact ⟨_, ReadsW.none⟩
  | .bool b, _, _, x, r => by
    cases x
    cases r
    exact ⟨_, ReadsW.bool b⟩
  | .int i, _, _, x, r => by
    cases x
    obtain ⟨t, rfl⟩ := r
    exact ⟨_, ReadsW.int i t⟩
  | .str s, _, _, x, r => by
    cases x
    obtain ⟨t, rfl⟩ := r
    exact ⟨_, ReadsW.str s t⟩
  | .bytes b, _, _, x, r => by
    cases x
    obtain ⟨t, rfl⟩ := r
    exact ⟨_, ReadsW.bytes _ t⟩
  | .list ds, _, _, x, r => by
    cases x with
    | lst hs ha =>
      cases r
      obtain ⟨its, o, n, rv, ho, hc, hd⟩ := sqL_at hok KX hs
      obtain ⟨as, hr⟩ := Dw.readsAll hok KX ds _ its ha rv
      exact ⟨_, ReadsW.list ho hc hd hr⟩
  | .tuple ds, _, _, x, r => by
    cases x with
    | tup hs ha =>
      cases r
      obtain ⟨its, o, n, rv, ho, hc, hd⟩ := sqT_at hok KX hs
      obtain ⟨as, hr⟩ := Dw.readsAll hok KX ds _ its ha rv
      exact ⟨_, ReadsW.tuple ho hc hd hr⟩
  | .float _, _, _, x, _ => by cases x
  | .dict _, _, _, x, _ => by cases x
  | .bytearray _, _, _, x, _ => by cases x
  | .set _, _, _, x, _ => by cases x
  | .frozenset _, _, _, x, _ => by cases x
  | .obj _ _, _, _, x, _ => by cases x
theorem Dw.readsAll (hok : HOk P w H h) (KX : K.In h) : ∀ (ds : List WData) (vs : List V) (us : List Value), DwAll K H vs ds → Vals vs us → ∃ as, ReadsAllW R cl h us ds as
  | [], _, _, x, r => by
    cases x
    cases r
    exact ⟨_, ReadsAllW.nil⟩
  | d :: ds, _, _, x, r => by
    cases x with
    | cons h1 h2 =>
      cases r with
      | cons r1 r2 =>
        obtain ⟨as, q1⟩ := Dw.reads hok KX d _ _ h1 r1
        obtain ⟨bs, q2⟩ := Dw.readsAll hok KX ds _ _ h2 r2
        exact ⟨_, ReadsAllW.cons q1 q2⟩
end
end
mutual
/-- data that a codec tells -/
def plW : WData → Bool
  | .none => true
  | .bool _ => true
  | .int _ => true
  | .str _ => true
  | .bytes _ => true
  | .list xs => plWs xs
  | .tuple xs => plWs xs
  | _ => false
def plWs : List WData → Bool
  | [] => true
  | x :: r => plW x && plWs r
end
theorem plWs_map {α : Type} {f : α → WData} (h : ∀ a, plW (f a) = true) : ∀ l : List α, plWs (l.map f) = true
  | [] => rfl
  | x :: r => by
    show (plW (f x) && plWs (r.map f)) = true
    rw [h x, plWs_map h r] <;> rfl
theorem pl_enc : ∀ (c : Codec) (a : c.denote), plW (c.enc a) = true
  | .unit, _ => rfl
  | .bool, _ => rfl
  | .int _ _, _ => rfl
  | .nat _ _, _ => rfl
  | .u8, _ => rfl
  | .bytes _ _, _ => rfl
  | .text _ _ _ _, _ => rfl
  | .list _ _ c, a => plWs_map (fun x => pl_enc c x) a
  | .pair c d, a => by
    show (plW (c.enc a.1) && (plW (d.enc a.2) && true)) = true
    rw [pl_enc c a.1, pl_enc d a.2] <;> rfl
  | .triple c d e, a => by
    show (plW (c.enc a.1) && (plW (d.enc a.2.1) && (plW (e.enc a.2.2) && true))) = true
    rw [pl_enc c a.1, pl_enc d a.2.1, pl_enc e a.2.2] <;> rfl
  | .option c, none => rfl
  | .option c, some x => pl_enc c x
theorem pl_encAll : ∀ (cs : List Codec) (a : Codec.denoteAll cs), plWs (Codec.encAll cs a) = true
  | [], _ => rfl
  | c :: cs, a => by
    show (plW (c.enc a.1) && plWs (Codec.encAll cs a.2)) = true
    rw [pl_enc c a.1, pl_encAll cs a.2] <;> rfl
theorem weight_mem : ∀ {xs : List WData} {d : WData}, d ∈ xs → d.weight ≤ WData.weightAll xs
  | [], d, h => absurd h (by simp)
  | x :: r, d, h => by
    show d.weight ≤ x.weight + 1 + WData.weightAll r
    rcases List.mem_cons.mp h with e | m
    · rw [e]
      omega
    · have z := weight_mem m
      omega
def toV : Value → V
  | .none => .non
  | .bool b => .bl b
  | .int i _ => .int i
  | .str x _ => .str x
  | .bytes b _ => .byt b
  | .ref a => .ref a
  | _ => .non
def OkU (A : List Addr) : Value → Prop
  | .none => True
  | .bool _ => True
  | .int _ _ => True
  | .str _ _ => True
  | .bytes _ _ => True
  | .ref a => a ∈ A
  | _ => False
theorem OkU.mono {A B : List Addr} (h : ∀ a ∈ A, a ∈ B) : ∀ {u : Value}, OkU A u → OkU B u := fun {u} x => by
  cases u with
  | ref a => exact h a x
  | none => trivial
  | bool b => trivial
  | int i t => trivial
  | str s t => trivial
  | bytes b t => trivial
  | _ => exact False.elim x
theorem relV_toV {A : List Addr} {u : Value} (x : OkU A u) : RelV (toV u) u := by
  cases u with
  | ref a => rfl
  | none => rfl
  | bool b => rfl
  | int i t => exact ⟨t, rfl⟩
  | str s t => exact ⟨t, rfl⟩
  | bytes b t => exact ⟨t, rfl⟩
  | _ => exact False.elim x
theorem vals_toV {A : List Addr} : ∀ {vs : List Value}, (∀ u ∈ vs, OkU A u) → Vals (vs.map toV) vs
  | [], _ => .nil
  | u :: r, h => .cons (relV_toV (h u (List.mem_cons_self ..))) (vals_toV fun x hx => h x (List.mem_cons_of_mem _ hx))
def ArgOb (h : Heap) (A : List Addr) (a : Addr) : Prop := ∃ vs : List Value, vs.length ≤ sizeLine ∧ (∀ u ∈ vs, OkU A u) ∧
  (h.get? a = some { cls := .type "list", data := .seq vs.toArray } ∨ h.get? a = some { cls := .type "tuple", data := .seq vs.toArray })
theorem ArgOb.mono {h : Heap} {A B : List Addr} {a : Addr} (k : ∀ a ∈ A, a ∈ B) (x : ArgOb h A a) : ArgOb h B a := by
  obtain ⟨vs, h1, h2, h3⟩ := x
  exact ⟨vs, h1, fun u hu => (h2 u hu).mono k, h3⟩
theorem wellAll_len {P : Params} {h : Heap} : ∀ {vs : List Value} {ds : List WData}, WellAll P h vs ds → vs.length = ds.length
  | _, _, .nil => rfl
  | _, _, .cons _ b => by
    show _ + 1 = _ + 1
    rw [wellAll_len b]
theorem well_list {P : Params} {h : Heap} {v : Value} {ds : List WData} (x : Well P h v (.list ds)) : ∃ (a : Addr) (vs : List Value), v = .ref a ∧ h.get? a = some { cls := .type "list", data := .seq vs.toArray } ∧ WellAll P h vs ds := by
  cases x with
  | list ho hall => exact ⟨_, _, rfl, ho, hall⟩
theorem well_tuple {P : Params} {h : Heap} {v : Value} {ds : List WData} (x : Well P h v (.tuple ds)) : ∃ (a : Addr) (vs : List Value), v = .ref a ∧ h.get? a = some { cls := .type "tuple", data := .seq vs.toArray } ∧ WellAll P h vs ds := by
  cases x with
  | tuple ho hall => exact ⟨_, _, rfl, ho, hall⟩
theorem well_cons {P : Params} {h : Heap} {us : List Value} {d : WData} {ds : List WData} (x : WellAll P h us (d :: ds)) : ∃ (v : Value) (vs : List Value), us = v :: vs ∧ Well P h v d ∧ WellAll P h vs ds := by
  cases x with
  | cons a b => exact ⟨_, _, rfl, a, b⟩
theorem line_of {n : Nat} (h : n ≤ 1048576) : n ≤ sizeLine := Nat.le_trans h (by decide)
section
variable {P : Params} {h : Heap}
mutual
theorem area_one : ∀ (d : WData) (v : Value), Well P h v d → plW d = true → d.weight ≤ 1048576 → ∃ A : List Addr, OkU A v ∧ ∀ a ∈ A, ArgOb h A a
  | .none, _, x, _, _ => by
    cases x
    exact ⟨[], trivial, fun a m => absurd m (by simp)⟩
  | .bool b, _, x, _, _ => by
    cases x
    exact ⟨[], trivial, fun a m => absurd m (by simp)⟩
  | .int i, _, x, _, _ => by
    cases x
    exact ⟨[], trivial, fun a m => absurd m (by simp)⟩
  | .str s, _, x, _, _ => by
    cases x
    exact ⟨[], trivial, fun a m => absurd m (by simp)⟩
  | .bytes b, _, x, _, _ => by
    cases x
    exact ⟨[], trivial, fun a m => absurd m (by simp)⟩
  | .list ds, _, x, p, z => by
    obtain ⟨a, vs, rfl, ho, hall⟩ := well_list x
    have z2 : WData.weightAll ds ≤ 1048576 := z
    obtain ⟨A, h1, h2⟩ := area_all ds _ hall p fun d hd => Nat.le_trans (weight_mem hd) z2
    have k : ∀ b ∈ A, b ∈ a :: A := fun b hb => List.mem_cons_of_mem _ hb
    refine ⟨a :: A, List.mem_cons_self .., fun b hb => ?_⟩
    rcases List.mem_cons.mp hb with e | m
    · rw [e]
      exact ⟨vs, line_of (by rw [wellAll_len hall]; exact Nat.le_trans (PySem.W.length_le_weightAllW ds) z2), fun u hu => (h1 u hu).mono k, .inl ho⟩
    · exact (h2 b m).mono k
  | .tuple ds, _, x, p, z => by
    obtain ⟨a, vs, rfl, ho, hall⟩ := well_tuple x
    have z2 : WData.weightAll ds ≤ 1048576 := z
    obtain ⟨A, h1, h2⟩ := area_all ds _ hall p fun d hd => Nat.le_trans (weight_mem hd) z2
    have k : ∀ b ∈ A, b ∈ a :: A := fun b hb => List.mem_cons_of_mem _ hb
    refine ⟨a :: A, List.mem_cons_self .., fun b hb => ?_⟩
    rcases List.mem_cons.mp hb with e | m
    · rw [e]
      exact ⟨vs, line_of (by rw [wellAll_len hall]; exact Nat.le_trans (PySem.W.length_le_weightAllW ds) z2), fun u hu => (h1 u hu).mono k, .inr ho⟩
    · exact (h2 b m).mono k
  | .float _, _, _, p, _ => Bool.noConfusion (show false = true from p)
  | .dict _, _, _, p, _ => Bool.noConfusion (show false = true from p)
  | .bytearray _, _, _, p, _ => Bool.noConfusion (show false = true from p)
  | .set _, _, _, p, _ => Bool.noConfusion (show false = true from p)
  | .frozenset _, _, _, p, _ => Bool.noConfusion (show false = true from p)
  | .obj _ _, _, _, p, _ => Bool.noConfusion (show false = true from p)
theorem area_all : ∀ (ds : List WData) (vs : List Value), WellAll P h vs ds → plWs ds = true → (∀ d ∈ ds, d.weight ≤ 1048576) → ∃ A : List Addr, (∀ u ∈ vs, OkU A u) ∧ ∀ a ∈ A, ArgOb h A a
  | [], _, x, _, _ => by
    cases x
    exact ⟨[], fun u m => absurd m (by simp), fun a m => absurd m (by simp)⟩
  | d :: ds, _, x, p, z => by
    obtain ⟨v, vs, rfl, x1, x2⟩ := well_cons x
    have q : plW d = true ∧ plWs ds = true := Bool.and_eq_true_iff.mp p
    obtain ⟨A, a1, a2⟩ := area_one d v x1 q.1 (z d (List.mem_cons_self ..))
    obtain ⟨B, b1, b2⟩ := area_all ds vs x2 q.2 fun e he => z e (List.mem_cons_of_mem _ he)
    have kA : ∀ b ∈ A, b ∈ A ++ B := fun b hb => List.mem_append.mpr (.inl hb)
    have kB : ∀ b ∈ B, b ∈ A ++ B := fun b hb => List.mem_append.mpr (.inr hb)
    refine ⟨A ++ B, fun u hu => ?_, fun b hb => ?_⟩
    · rcases List.mem_cons.mp hu with e | m
      · rw [e]
        exact a1.mono kA
      · exact (b1 u m).mono kB
    · rcases List.mem_append.mp hb with m | m
      · exact (a2 b m).mono kA
      · exact (b2 b m).mono kB
end
end
def hoOf (o : Obj) : Option HO := match o.data with
  | .seq vs _ => if (o.cls == Value.type "list") = true then some (.frz o (.lst (vs.toList.map toV))) else some (.frz o (.tup (vs.toList.map toV)))
  | _ => none
def argH (K : PySem.W.Frag) (h : Heap) (A : List Addr) : Hp := fun b => if b ∈ A then (if (K.lookup b).isNone = true then (h.get? b).bind hoOf else none) else none
def OnlyF (H : Hp) : Prop := ∀ b, H b = none ∨ ∃ o u, H b = some (.frz o u)
theorem hoOf_lst (vs : List Value) : hoOf { cls := .type "list", data := .seq vs.toArray } = some (.frz { cls := .type "list", data := .seq vs.toArray } (.lst (vs.map toV))) := by
  show (if (Value.type "list" == Value.type "list") = true then some (HO.frz { cls := .type "list", data := .seq vs.toArray } (.lst (vs.toArray.toList.map toV))) else some (HO.frz { cls := .type "list", data := .seq vs.toArray } (.tup (vs.toArray.toList.map toV)))) = _
  rw [if_pos (beq_self_eq_true _)]
theorem hoOf_tup (vs : List Value) : hoOf { cls := .type "tuple", data := .seq vs.toArray } = some (.frz { cls := .type "tuple", data := .seq vs.toArray } (.tup (vs.map toV))) := by
  show (if (Value.type "tuple" == Value.type "list") = true then some (HO.frz { cls := .type "tuple", data := .seq vs.toArray } (.lst (vs.toArray.toList.map toV))) else some (HO.frz { cls := .type "tuple", data := .seq vs.toArray } (.tup (vs.toArray.toList.map toV)))) = _
  rw [if_neg (by decide)]
section
variable {P : Program} {w : World} {K : PySem.W.Frag} {h : Heap} {A : List Addr}
theorem argH_at {b : Addr} {o : Obj} (hb : b ∈ A) (hk : K.lookup b = none) (e : h.get? b = some o) : argH K h A b = hoOf o := by
  unfold argH
  rw [if_pos hb, hk, if_pos (show (none : Option Obj).isNone = true from rfl), e] <;> rfl
theorem of_argH {b : Addr} {u : HO} (q : argH K h A b = some u) : b ∈ A ∧ K.lookup b = none := by
  unfold argH at q
  by_cases hb : b ∈ A
  · rw [if_pos hb] at q
    cases hk : K.lookup b with
    | none => exact ⟨hb, rfl⟩
    | some o =>
      rw [hk, if_neg (by simp)] at q
      cases q
  · rw [if_neg hb] at q
    cases q
theorem argH_is (ar : ∀ a ∈ A, ArgOb h A a) {b : Addr} {u : HO} (q : argH K h A b = some u) : K.lookup b = none ∧ ∃ vs : List Value, vs.length ≤ sizeLine ∧ (∀ u ∈ vs, OkU A u) ∧
    ((h.get? b = some { cls := .type "list", data := .seq vs.toArray } ∧ u = .frz { cls := .type "list", data := .seq vs.toArray } (.lst (vs.map toV))) ∨
     (h.get? b = some { cls := .type "tuple", data := .seq vs.toArray } ∧ u = .frz { cls := .type "tuple", data := .seq vs.toArray } (.tup (vs.map toV)))) := by
  obtain ⟨hb, hk⟩ := of_argH q
  obtain ⟨vs, h1, h2, h3⟩ := ar b hb
  refine ⟨hk, vs, h1, h2, ?_⟩
  rcases h3 with e | e
  · rw [argH_at hb hk e, hoOf_lst] at q
    exact .inl ⟨e, (Option.some.inj q).symm⟩
  · rw [argH_at hb hk e, hoOf_tup] at q
    exact .inr ⟨e, (Option.some.inj q).symm⟩
theorem argH_only (ar : ∀ a ∈ A, ArgOb h A a) : OnlyF (argH K h A) := fun b => by
  cases q : argH K h A b with
  | none => exact .inl rfl
  | some u =>
    obtain ⟨_, vs, _, _, ⟨_, e⟩ | ⟨_, e⟩⟩ := argH_is ar q
    · exact .inr ⟨_, _, by rw [e]⟩
    · exact .inr ⟨_, _, by rw [e]⟩
theorem argH_ok (ar : ∀ a ∈ A, ArgOb h A a) : HOk P w (argH K h A) h := fun b u q => by
  obtain ⟨_, vs, h1, h2, ⟨e, rfl⟩ | ⟨e, rfl⟩⟩ := argH_is ar q
  · exact ⟨e, by rw [List.length_map]; exact h1, vs, _, vals_toV h2, e⟩
  · exact ⟨e, by rw [List.length_map]; exact h1, vs, vals_toV h2, _, e, rfl, _, rfl⟩
theorem seq_inj {c c' : Value} {vs us : List Value} (e : (some { cls := c, data := .seq vs.toArray } : Option Obj) = some { cls := c', data := .seq us.toArray }) : c = c' ∧ vs = us := by
  have e1 := Option.some.inj e
  have e2 : c = c' := congrArg Obj.cls e1
  have e3 : Data.seq vs.toArray = Data.seq us.toArray := congrArg Obj.data e1
  injection e3 with e4
  refine ⟨e2, ?_⟩
  have e5 := congrArg Array.toList e4
  simpa using e5
theorem argL (KX : K.In h) (ar : ∀ a ∈ A, ArgOb h A a) {a : Addr} {vs : List Value} (ha : a ∈ A) (e : h.get? a = some { cls := .type "list", data := .seq vs.toArray }) : (∀ u ∈ vs, OkU A u) ∧ SqL K (argH K h A) a (vs.map toV) := by
  obtain ⟨us, h1, h2, h3⟩ := ar a ha
  have hu : us = vs := by
    rcases h3 with q | q
    · rw [e] at q
      exact (seq_inj q).2.symm
    · rw [e] at q
      exact absurd (Value.type.inj (seq_inj q).1) (by decide)
  subst hu
  refine ⟨h2, ?_⟩
  cases hk : K.lookup a with
  | none => exact .inl (.inr ⟨_, by rw [argH_at ha hk e, hoOf_lst]⟩)
  | some o =>
    have e2 := KX a o hk
    rw [e] at e2
    obtain rfl := Option.some.inj e2
    exact .inr ⟨_, us.toArray, _, hk, rfl, rfl, rfl, by rw [List.size_toArray]; exact h1, by simpa using vals_toV h2⟩
theorem argT (KX : K.In h) (ar : ∀ a ∈ A, ArgOb h A a) {a : Addr} {vs : List Value} (ha : a ∈ A) (e : h.get? a = some { cls := .type "tuple", data := .seq vs.toArray }) : (∀ u ∈ vs, OkU A u) ∧ SqT K (argH K h A) a (vs.map toV) := by
  obtain ⟨us, h1, h2, h3⟩ := ar a ha
  have hu : us = vs := by
    rcases h3 with q | q
    · rw [e] at q
      exact absurd (Value.type.inj (seq_inj q).1) (by decide)
    · rw [e] at q
      exact (seq_inj q).2.symm
  subst hu
  refine ⟨h2, ?_⟩
  cases hk : K.lookup a with
  | none => exact .inl (.inr ⟨_, by rw [argH_at ha hk e, hoOf_tup]⟩)
  | some o =>
    have e2 := KX a o hk
    rw [e] at e2
    obtain rfl := Option.some.inj e2
    exact .inr ⟨_, us.toArray, _, hk, rfl, rfl, by rw [List.size_toArray]; exact h1, by simpa using vals_toV h2⟩
mutual
theorem dw_one {Pm : Params} (KX : K.In h) (ar : ∀ a ∈ A, ArgOb h A a) : ∀ (d : WData) (v : Value), Well Pm h v d → plW d = true → OkU A v → Dw K (argH K h A) (toV v) d
  | .none, _, x, _, _ => by
    cases x
    exact .non
  | .bool b, _, x, _, _ => by
    cases x
    exact .bl b
  | .int i, _, x, _, _ => by
    cases x
    exact .int i
  | .str s, _, x, _, _ => by
    cases x
    exact .str s
  | .bytes b, _, x, _, _ => by
    cases x
    have z := Dw.byt (K := K) (H := argH K h A) b.toArray
    exact z
  | .list ds, _, x, p, hu => by
    obtain ⟨a, vs, rfl, ho, hall⟩ := well_list x
    obtain ⟨h2, hs⟩ := argL KX ar hu ho
    exact .lst hs (dw_all KX ar ds _ hall p h2)
  | .tuple ds, _, x, p, hu => by
    obtain ⟨a, vs, rfl, ho, hall⟩ := well_tuple x
    obtain ⟨h2, hs⟩ := argT KX ar hu ho
    exact .tup hs (dw_all KX ar ds _ hall p h2)
  | .float _, _, _, p, _ => Bool.noConfusion (show false = true from p)
  | .dict _, _, _, p, _ => Bool.noConfusion (show false = true from p)
  | .bytearray _, _, _, p, _ => Bool.noConfusion (show false = true from p)
  | .set _, _, _, p, _ => Bool.noConfusion (show false = true from p)
  | .frozenset _, _, _, p, _ => Bool.noConfusion (show false = true from p)
  | .obj _ _, _, _, p, _ => Bool.noConfusion (show false = true from p)
theorem dw_all {Pm : Params} (KX : K.In h) (ar : ∀ a ∈ A, ArgOb h A a) : ∀ (ds : List WData) (vs : List Value), WellAll Pm h vs ds → plWs ds = true → (∀ u ∈ vs, OkU A u) → DwAll K (argH K h A) (vs.map toV) ds
  | [], _, x, _, _ => by
    cases x
    exact .nil
  | d :: ds, _, x, p, hu => by
    obtain ⟨v, vs, rfl, x1, x2⟩ := well_cons x
    have q : plW d = true ∧ plWs ds = true := Bool.and_eq_true_iff.mp p
    exact .cons (dw_one KX ar d v x1 q.1 (hu _ (List.mem_cons_self ..))) (dw_all KX ar ds vs x2 q.2 fun u m => hu u (List.mem_cons_of_mem _ m))
end
end
theorem spec_call {P : Program} {w : World} {K : PySem.W.Frag} {mg mb : Str → Option Value} {CX : CXT} {k : Nat} {fa : Addr} {fd : FuncData} {ps : List Str} {sp : Sp} {s₁ : Shared} {vals : List Value} {ds : List WData} {R : PySem.W.WRecords} {cl : Str → Option Addr} {d0 : WData}
    (KX : K.In s₁.heap) (hns : s₁.heap.Ns mainGlobals mg) (hb : s₁.heap.Ns builtinsNs mb) (hbb : ∀ x : Str, x ≠ "__name__" → mb x = bootBuiltins x) (hlim : s₁.heap.NoLimit) (hg : s₁.gens = #[])
    (hwl : WellAll w.params s₁.heap vals ds) (hpl : plWs ds = true) (hwt : ∀ d ∈ ds, d.weight ≤ 1048576) (hr : Room k callerA)
    (F : ∀ base : Heap, K.In base → base.Ns mainGlobals mg → FnOk P w K mg base CX k fa fd ps sp) (hbind : ∀ (s : Shared) (us : List Value), us.length = ps.length → BindsTo s fd ⟨us, []⟩ (ps.zip us)) (hlen : ds.length = ps.length)
    (hsp : ∀ (H : Hp) (xs : List V), OnlyF H → DwAll K H xs ds → sp xs H (fun v H' => Dw K H' v d0) fun _ _ _ => False)
    (hCX : ∀ H e s', CX [] H s₁ (fun _ _ _ => False) e s' → False) :
    codeAny (model P w) callerA (.call (.ref fa) ⟨vals, []⟩) (fun r s' => ∃ u as, r = .ok (.ret u) ∧ ReadsW R cl s'.heap u d0 as ∧ OldK s₁.heap s'.heap ∧ s'.os = s₁.os ∧ AllBare s'.gens) s₁ := by
  obtain ⟨A, ho, ar⟩ := area_all ds vals hwl hpl hwt
  have hO : OnlyF (argH K s₁.heap A) := argH_only ar
  have hok : HOk P w (argH K s₁.heap A) s₁.heap := argH_ok ar
  have hS := dw_all KX ar ds vals hwl hpl ho
  have hV := vals_toV ho
  have hK : ∀ b u, argH K s₁.heap A b = some u → K.lookup b = none := fun b u q => (argH_is ar q).1
  have noA : ∀ {b : Addr} {o : Obj} {es : Array DictEntry} {ep : Nat}, s₁.heap.get? b = some o → o.data = .dict es ep → argH K s₁.heap A b = none := fun {b o es ep} e d => by
    cases q : argH K s₁.heap A b with
    | none => rfl
    | some u =>
      obtain ⟨_, vs, _, _, ⟨e2, _⟩ | ⟨e2, _⟩⟩ := argH_is ar q
      · rw [e2] at e
        cases e
        have d' : Data.seq vs.toArray _ = Data.dict es ep := d
        cases d'
      · rw [e2] at e
        cases e
        have d' : Data.seq vs.toArray _ = Data.dict es ep := d
        cases d'
  generalize argH K s₁.heap A = H at hO hok hS hK noA
  have base_of : ∀ {b : Addr} {o : Obj}, s₁.heap.get? b = some o → H b = none → (hidT s₁.heap H).get? b = some o := fun e n => hidT_get e n
  have nsK : ∀ {b : Addr} {m : Str → Option Value}, s₁.heap.Ns b m → (hidT s₁.heap H).Ns b m := fun {b m} ⟨o, es, ep, e, d, r⟩ => ⟨o, es, ep, base_of e (noA e d), d, r⟩
  have nK : ∀ b o, K.lookup b = some o → H b = none := fun b o e => by
    cases q : H b with
    | none => rfl
    | some u =>
      rw [hK b u q] at e
      cases e
  have hKb : K.In (hidT s₁.heap H) := fun b o e => base_of (KX b o e) (nK b o e)
  have hM : Mod K mg (hidT s₁.heap H) := ⟨hKb, nsK hns, ⟨mb, nsK hb, hbb⟩, let ⟨mc, h1, h2⟩ := hlim; ⟨mc, nsK h1, h2⟩⟩
  have e0 : Env0 P w K mg (hidT s₁.heap H) callerA [] s₁ H := ⟨rfl, hM, fun b o e => of_hidT e, Nat.le_of_eq (hidT_size _ _), trivial, fun b hb => absurd (show b ∈ ([] : List Addr) from hb) (by simp), hok, .of_eq hg⟩
  have hl : vals.length = ps.length := by rw [wellAll_len hwl]; exact hlen
  refine codeAny_mono ((F _ hKb (nsK hns)).run callerA [] s₁ H ⟨vals, []⟩ vals (vals.map toV) _ _ hr e0 (hbind s₁ vals hl) hV (hsp H _ hO hS)) fun r s' x => ?_
  cases r with
  | error e => exact (hCX H e s' x).elim
  | ok fl =>
    cases fl with
    | next => exact False.elim x
    | brk => exact False.elim x
    | cont => exact False.elim x
    | ret u =>
      obtain ⟨v, H', os, bare, un, hok', r', q⟩ := x
      have kept : ∀ b o, s₁.heap.get? b = some o → s'.heap.get? b = some o := fun b o e => by
        cases q2 : H b with
        | none => exact un.keep b o e q2 (by intro z; exact absurd (show b ∈ ([] : List Addr) from z) (by simp)) (by simp)
        | some u2 =>
          rcases hO b with z | ⟨ob, u3, z⟩
          · rw [q2] at z
            cases z
          · have z2 := un.frzs b ob _ z
            obtain ⟨e1, _⟩ := hok b _ z
            obtain ⟨e2, _⟩ := hok' b _ z2
            rw [e] at e1
            cases e1
            exact e2
      have KX' : K.In s'.heap := fun b o e => kept b o (KX b o e)
      obtain ⟨as, hrd⟩ := Dw.reads (R := R) (cl := cl) hok' KX' d0 v u q r'
      exact ⟨u, as, rfl, hrd, OldK.of_keep kept, os, bare⟩
theorem layable_weight {ds : List WData} (h : WData.layableAll ds = true) : ∀ d ∈ ds, d.weight ≤ 1048576 := fun d hd =>
  (PySem.W.layableW_iff.mp (List.all_eq_true.mp h d hd)).2.2
theorem encAll_len : ∀ (cs : List Codec) (a : Codec.denoteAll cs), (Codec.encAll cs a).length = cs.length
  | [], _ => rfl
  | c :: cs, a => by
    show (Codec.encAll cs a.2).length + 1 = cs.length + 1
    rw [encAll_len cs a.2]
theorem walk_spec {r : OpenSpec} {k : Nat} {q : Program} {loose : List Str} {XP : (Str → Option Value) → Heap → Prop} {YP : World → Heap → Prop} {d : DefRec} {K : Params → PySem.W.Frag} {CX : World → CXT} {ps : List Str} {sp : World → Sp}
    (hwell : r.wellSaid = true) (hdf : d.params.defaults = []) (hlen : r.args.length = ps.length) (hr : Room k callerA)
    (hY : ∀ (w : World) (h : Heap), YP w h → (K w.params).In h)
    (F : ∀ (w : World) (mg : Str → Option Value) (fa : Addr) (h : Heap), YP w h → (K w.params).In h → h.Ns mainGlobals mg → mg d.name = some (.ref fa) →
      ∃ fd : FuncData, (∀ (s : Shared) (us : List Value), us.length = ps.length → BindsTo s fd ⟨us, []⟩ (ps.zip us)) ∧
        ∀ base : Heap, (K w.params).In base → base.Ns mainGlobals mg → FnOk r.prog w (K w.params) mg base (CX w) k fa fd ps (sp w))
    (hsp : ∀ (w : World) (H : Hp) (xs : List V) (a : Codec.denoteAll r.args), OnlyF H → Codec.withinAll r.args a = true → Codec.app r.args r.asked a = true → DwAll (K w.params) H xs (Codec.encAll r.args a) →
      sp w xs H (fun v H' => Dw (K w.params) H' v (r.ret.enc (Codec.app r.args r.f a))) fun _ _ _ => False)
    (hCX : ∀ (w : World) (H : Hp) (s : Shared) (e : Value) (s' : Shared), CX w [] H s (fun _ _ _ => False) e s' → False) :
    PySem.W.WalkOS q loose XP YP r d [] (fun f vs => PySem.call f vs) := by
  intro w s_0 s₁ mg mb G Y fa o pm cd doc dV kV ho hd hcd hD hmg hg args vals as hpre hlay hrd hwl hlo
  obtain ⟨a, e1, e2⟩ := PySem.W.os_pre_some hpre
  obtain ⟨e3, hwi⟩ := Codec.encAll_of_decAll r.args args a e1
  subst e3
  have KX := hY w _ Y
  obtain ⟨fd, hb, hF⟩ := F w mg fa _ Y KX G.T.g hmg
  refine PySem.W.enter_call (codeAny_mono (spec_call (R := []) (cl := classAt s_0.heap) (d0 := r.ret.enc (Codec.app r.args r.f a)) KX G.T.g G.T.b G.T.builtins G.T.nolimit hg hwl (pl_encAll _ _) (layable_weight hlay) hr hF hb (by rw [encAll_len]; exact hlen)
    (fun H xs hO hS => hsp w H xs a hO hwi e2 hS) fun H e s' => hCX w H s₁ e s') fun r' s' hq => ?_)
  obtain ⟨u, as', rfl, h1, h2, h3, h4⟩ := hq
  exact ⟨.inl ⟨u, _, as', rfl, fun _ => rfl, h1, (OpenSpec.post_iff hwell hwi _ _).mpr rfl, fun z => Bool.noConfusion (show false = true from z)⟩, h2, h3, h4⟩
theorem walk_specK {r : OpenSpec} {k : Nat} {q : Program} {loose : List Str} {XP : (Str → Option Value) → Heap → Prop} {YP : World → Heap → Prop} {d : DefRec} {K : Params → PySem.W.Frag} {CX : CXT} {ps : List Str} {sp : PySem.W.Frag → Sp}
    (hwell : r.wellSaid = true) (hdf : d.params.defaults = []) (hlen : r.args.length = ps.length) (hr : Room k callerA)
    (hY : ∀ (w : World) (h : Heap), YP w h → (K w.params).In h)
    (F : ∀ (w : World) (mg : Str → Option Value) (fa : Addr) (h : Heap), YP w h → (K w.params).In h → h.Ns mainGlobals mg → mg d.name = some (.ref fa) →
      ∃ fd : FuncData, (∀ (s : Shared) (us : List Value), us.length = ps.length → BindsTo s fd ⟨us, []⟩ (ps.zip us)) ∧
        ∀ base : Heap, (K w.params).In base → base.Ns mainGlobals mg → FnOk r.prog w (K w.params) mg base CX k fa fd ps (sp (K w.params)))
    (hsp : ∀ (K : PySem.W.Frag) (H : Hp) (xs : List V) (a : Codec.denoteAll r.args), OnlyF H → Codec.withinAll r.args a = true → Codec.app r.args r.asked a = true → DwAll K H xs (Codec.encAll r.args a) →
      sp K xs H (fun v H' => Dw K H' v (r.ret.enc (Codec.app r.args r.f a))) fun _ _ _ => False)
    (hCX : ∀ (H : Hp) (s : Shared) (e : Value) (s' : Shared), CX [] H s (fun _ _ _ => False) e s' → False) :
    PySem.W.WalkOS q loose XP YP r d [] (fun f vs => PySem.call f vs) :=
  walk_spec (K := K) (CX := fun _ => CX) (sp := fun w => sp (K w.params)) hwell hdf hlen hr hY F (fun w H xs a h1 h2 h3 h4 => hsp (K w.params) H xs a h1 h2 h3 h4) fun _ H s e s' => hCX H s e s'
end L2
-- rests on (row put in by the clerk, for the bench that shows a file only what it spells): KE.SpHead KE.OsShapes
end
namespace L2
open PySem PySem.Spec PyProof.Rows
def inClass (s : Stmt) (j : Nat) : Stmt := match s with
  | .ClassDef _ _ _ body _ _ _ _ _ _ _ => body.getD j (.Pass ⟨0, 0, 0, 0⟩)
  | _ => .Pass ⟨0, 0, 0, 0⟩
def defArgs (s : Stmt) : Arguments := match s with
  | .FunctionDef _ a _ _ _ _ _ _ _ _ => a
  | _ => { posonlyargs := [], args := [], vararg := none, kwonlyargs := [], kw_defaults := [], kwarg := none, defaults := [] }
def defBody (s : Stmt) : List Stmt := match s with
  | .FunctionDef _ _ b _ _ _ _ _ _ _ => b
  | _ => []
def defScope (s : Stmt) : Scope := match s with
  | .FunctionDef _ _ _ _ _ _ sc _ _ _ => sc
  | _ => { kind := .function, names := [], isGenerator := false, isCoroutine := false }
abbrev CX0 : CXT := fun _ _ _ _ _ _ => False
abbrev E0 : XK := fun _ _ _ => False
theorem pass0 {X : Cx} : Passes CX0 X E0 := fun _ _ _ _ _ _ _ h => h.elim
structure Fun (K : PySem.W.Frag) (x qual : Str) (st : Stmt) (f : Addr) (fd : FuncData) : Prop where
  ex : ∃ (oc : Value) (od : Option Addr) (kV doc pm : Value) (an : Option Addr) (cdv ct : Value) (osl : Array (Option Value)),
    fd = PySem.W.fnOf x qual (defArgs st) (defBody st) (defScope st) .none kV doc pm an cdv ct ∧ K.lookup f = some ⟨oc, od, .func fd, osl⟩ ∧ PySem.W.codeIn K cdv qual = true
  kp : PySem.W.keepIn K (.ref f) = true
section
variable {P : Program} {w : World} {K : PySem.W.Frag} {mg : Str → Option Value} {base : Heap}
theorem Fun.ok {x qual : Str} {st : Stmt} {f : Addr} {fd : FuncData} {N ps : List Str} {k : Nat} {sp : Sp} (F : Fun K x qual st f fd) (S : FnScope N ps (defScope st)) (len : ∀ vs H Q E, sp vs H Q E → vs.length = ps.length)
    (hbody : ∀ (cdv : Value) (A : Around) (outer : List Env) (s : Shared) (H : Hp) (vs : List V) (Q : VK) (E : XK), Room k (A.deeper (envOfC qual (defScope st) s.heap.objs.size f cdv)) → sp vs H Q E →
      ∃ t, PSs (cxOf CX0 P w K mg base N qual (defScope st) f cdv A outer s H E).nox (defBody st) t ∧ t { nx := fun _ H' => Q .non H', rt := Q } (start N vs) H) : FnOk P w K mg base CX0 (k + 1) f fd ps sp := by
  obtain ⟨oc, od, kV, doc, pm, an, cdv, ct, osl, rfl, lk, hcd⟩ := F.ex
  refine fn_of lk hcd S len fun A outer s H vs Q E hr hsp => ?_
  obtain ⟨t, h, q⟩ := hbody cdv A outer s H vs Q E hr hsp
  exact ⟨t, h.nox, q⟩
theorem Fun.binds {x qual : Str} {st : Stmt} {f : Addr} {fd : FuncData} {ps : List Str} (F : Fun K x qual st f fd)
    (h : ∀ (kV doc pm : Value) (an : Option Addr) (cdv ct : Value) (us : List Value), us.length = ps.length → bindArgs (PySem.W.fnOf x qual (defArgs st) (defBody st) (defScope st) .none kV doc pm an cdv ct) ⟨us, []⟩ = pure (ps.zip us)) : Binds K fd ps [] := by
  obtain ⟨oc, od, kV, doc, pm, an, cdv, ct, osl, rfl, lk, hcd⟩ := F.ex
  exact .all (h kV doc pm an cdv ct)
theorem fun_mk {x qual : Str} {st : Stmt} {f : Addr} {oc : Value} {od an : Option Addr} {osl : Array (Option Value)} {kV doc pm cdv ct : Value} (l : K.lookup f = some ⟨oc, od, .func (PySem.W.fnOf x qual (defArgs st) (defBody st) (defScope st) .none kV doc pm an cdv ct), osl⟩)
    (c : PySem.W.codeIn K cdv qual = true) (k : PySem.W.keepIn K (.ref f) = true) : Fun K x qual st f (PySem.W.fnOf x qual (defArgs st) (defBody st) (defScope st) .none kV doc pm an cdv ct) := ⟨⟨oc, od, kV, doc, pm, an, cdv, ct, osl, rfl, l, c⟩, k⟩
end
theorem hu_of {A : Around} {k : Nat} (hr : Room k A) : A.units + 1 < cLine := Nat.lt_of_le_of_lt (Nat.add_le_add_left (by decide : 1 ≤ 64) _) hr.units
theorem small1000 {n : Nat} (h : n ≤ 1000) : n < sizeLine := Nat.lt_of_le_of_lt h (by decide)
section
variable {X : Cx}
theorem pv (i : Nat) {x : Str} {pos : Pos} (hN : X.N[i]? = some x := by rfl) (hv : Vis X.env.scope x := by first | exact Or.inl rfl | exact Or.inr (Or.inl rfl) | exact Or.inr (Or.inr rfl)) (hd : (x == ("__debug__" : Str)) = false := by decide)
    (hcd : (x == ("__classdict__" : Str)) = false := by decide) : PE X (.Name x pos) (tVar i) := pe_var hN hv hd hcd
end
theorem iteF {A B : Prop} (h : B) : if false = true then A else B := by
  rw [if_neg Bool.false_ne_true]
  exact h
theorem iteT {A B : Prop} (h : A) : if true = true then A else B := by
  rw [if_pos rfl]
  exact h
def Same (H H' : Hp) : Prop := ∀ b o, H b = some o → H' b = some o
theorem Same.refl (H : Hp) : Same H H := fun _ _ h => h
theorem Same.trans {H H1 H2 : Hp} (a : Same H H1) (b : Same H1 H2) : Same H H2 := fun c o h => b c o (a c o h)
theorem Same.free {H H' : Hp} (e : Same H H') {l : Addr} (h : H' l = Option.none) : H l = Option.none := by
  cases q : H l with
  | none => rfl
  | some o =>
    rw [e l o q] at h
    cases h
theorem Same.seq {K : PySem.W.Frag} {H H' : Hp} {a : Addr} {xs : List V} (e : Same H H') (h : SqL K H a xs) : SqL K H' a xs := by
  rcases h with (h | ⟨o, h⟩) | h
  · exact .inl (.inl (e _ _ h))
  · exact .inl (.inr ⟨o, e _ _ h⟩)
  · exact .inr h
section
variable {κ : Type} [DecidableEq κ]
theorem dropK_pos {p : κ × V} {r : List (κ × V)} {k : κ} (e : p.1 = k) : dropK (p :: r) k = dropK r k := by
  unfold dropK
  rw [List.filter_cons, if_neg (by simp [e])]
theorem dropK_neg {p : κ × V} {r : List (κ × V)} {k : κ} (e : ¬ p.1 = k) : dropK (p :: r) k = p :: dropK r k := by
  unfold dropK
  rw [List.filter_cons, if_pos (by simp [e])]
end
theorem at_of {xs : List V} {z : Int} {j : Nat} {v : V} (e : z = (j : Int)) (h : xs[j]? = some v) : atI xs z = some v := by
  rw [e]
  exact atI_nat h
theorem Same.made {H H1 : Hp} {x dx C : Addr} (nx : H x = Option.none) (nd : H dx = Option.none) (k : ∀ b o, (upd (upd H dx (.own x)) x (.ins C dx [])) b = some o → b ≠ x → H1 b = some o) : Same H H1 := fun b o e =>
  k b o (by rw [upd_ne (ne_of_none e nx), upd_ne (ne_of_none e nd)]; exact e) (ne_of_none e nx)
end L2

end
section
set_option Elab.async false
set_option linter.all false
/-! What the entries say: the mirror of the program's statements, and that it is the specification's. -/
namespace Br
open Sy50

structure Stm where
  num : Nat
  part : Nat
  day : Nat
  crack : Nat

def stmOf (l : List Entry) (x : Entry × Nat) : Option Stm := if isStruck l x.2 = true then none else match x.1 with
  | .found p d c => some ⟨x.2, p, d, told l x.2 c⟩
  | .mended p d => some ⟨x.2, p, d, 0⟩
  | _ => none
def sayAll (l : List Entry) : List Stm := l.zipIdx.filterMap (stmOf l)

def Refs (l : List Entry) : Entry → Prop
  | .struck e => ((∃ p d c, l[e]? = some (.found p d c)) ∨ (∃ p d, l[e]? = some (.mended p d))) ∧ isStruck l e = false
  | .right_ e _ => (∃ p d c, l[e]? = some (.found p d c)) ∧ isStruck l e = false
  | _ => True
def Vd (l : List Entry) : Prop := ∀ i x, l[i]? = some x → Refs (l.take i) x

theorem struck_iff {l : List Entry} {e : Nat} : isStruck l e = true ↔ Entry.struck e ∈ l := by
  unfold isStruck
  exact List.contains_iff_mem
theorem struck_snoc (l : List Entry) (x : Entry) (e : Nat) : isStruck (l ++ [x]) e = (isStruck l e || decide (x = .struck e)) := by
  cases h : isStruck l e with
  | true =>
    have := struck_iff.mp h
    rw [Bool.true_or]
    exact struck_iff.mpr (List.mem_append_left _ this)
  | false =>
    have h0 : ¬ Entry.struck e ∈ l := fun m => by rw [struck_iff.mpr m] at h; cases h
    by_cases hx : x = .struck e
    · subst hx
      simp only [decide_true, Bool.or_true]
      exact struck_iff.mpr (List.mem_append_right _ (List.mem_singleton.mpr rfl))
    · rw [decide_eq_false hx]
      cases h1 : isStruck (l ++ [x]) e with
      | false => rfl
      | true =>
        have := struck_iff.mp h1
        rcases List.mem_append.mp this with m | m
        · exact absurd m h0
        · exact absurd (List.mem_singleton.mp m).symm hx
theorem told_snoc (l : List Entry) (x : Entry) (e c : Nat) : told (l ++ [x]) e c = match x with
    | .right_ i d => if i = e then d else told l e c
    | _ => told l e c := by
  unfold told
  rw [List.foldl_append]
  cases x <;> rfl
theorem told_no : ∀ (l : List Entry) (e c : Nat), (∀ d, Entry.right_ e d ∉ l) → told l e c = c
  | [], e, c, _ => rfl
  | x :: l, e, c, h => by
    have ih := told_no l e c (fun d m => h d (List.mem_cons_of_mem _ m))
    unfold told at ih ⊢
    rw [List.foldl_cons]
    cases x with
    | right_ i d =>
      have hi : ¬ i = e := fun q => by subst q; exact h d List.mem_cons_self
      simp only [if_neg hi]
      exact ih
    | found p d c => exact ih
    | mended p d => exact ih
    | struck i => exact ih

theorem Vd.take {l : List Entry} (h : Vd l) (n : Nat) : Vd (l.take n) := by
  intro i x hi
  rw [List.getElem?_take] at hi
  by_cases hn : i < n
  · rw [if_pos hn] at hi
    have := h i x hi
    rw [List.take_take, Nat.min_eq_left (Nat.le_of_lt hn)]
    exact this
  · rw [if_neg hn] at hi; cases hi
theorem Vd.nil : Vd [] := fun i x h => by simp at h
theorem Vd.snoc {l : List Entry} {x : Entry} (h : Vd l) (r : Refs l x) : Vd (l ++ [x]) := by
  intro i y hi
  by_cases hl : i < l.length
  · rw [List.getElem?_append_left hl] at hi
    rw [List.take_append_of_le_length (Nat.le_of_lt hl)]
    exact h i y hi
  · have e : i = l.length := by
      have := (List.getElem?_eq_some_iff.mp hi).1
      rw [List.length_append, List.length_singleton] at this
      omega
    subst e
    rw [List.getElem?_append_right (Nat.le_refl _), Nat.sub_self] at hi
    have : x = y := Option.some.inj hi
    subst this
    rw [List.take_append_of_le_length (Nat.le_refl _), List.take_length]
    exact r
theorem Vd.far {l : List Entry} (h : Vd l) {e : Nat} (he : l.length ≤ e) : isStruck l e = false ∧ ∀ d, Entry.right_ e d ∉ l := by
  constructor
  · cases hs : isStruck l e with
    | false => rfl
    | true =>
      obtain ⟨i, hi⟩ := List.mem_iff_getElem?.mp (struck_iff.mp hs)
      have r := h i _ hi
      have hlt := (List.getElem?_eq_some_iff.mp hi).1
      rcases r.1 with ⟨p, d, c, q⟩ | ⟨p, d, q⟩ <;>
      · have := (List.getElem?_eq_some_iff.mp q).1
        rw [List.length_take] at this
        omega
  · intro d m
    obtain ⟨i, hi⟩ := List.mem_iff_getElem?.mp m
    have r := h i _ hi
    have hlt := (List.getElem?_eq_some_iff.mp hi).1
    obtain ⟨p, d, c, q⟩ := r.1
    have := (List.getElem?_eq_some_iff.mp q).1
    rw [List.length_take] at this
    omega

theorem fm_congr {α β : Type} {f g : α → Option β} : ∀ {L : List α}, (∀ y ∈ L, f y = g y) → L.filterMap f = L.filterMap g
  | [], _ => rfl
  | a :: L, h => by
    rw [List.filterMap_cons, List.filterMap_cons, h a List.mem_cons_self, fm_congr (L := L) fun y m => h y (List.mem_cons_of_mem _ m)]
theorem fm_filter {α β : Type} {f g : α → Option β} {p : β → Bool} : ∀ {L : List α}, (∀ y ∈ L, g y = (f y).filter p) → L.filterMap g = (L.filterMap f).filter p
  | [], _ => rfl
  | a :: L, h => by
    rw [List.filterMap_cons, List.filterMap_cons, h a List.mem_cons_self, fm_filter (L := L) (f := f) (p := p) fun y m => h y (List.mem_cons_of_mem _ m)]
    cases f a with
    | none => rfl
    | some b =>
      cases hp : p b with
      | true => simp [Option.filter, hp]
      | false => simp [Option.filter, hp]
theorem fm_map {α β : Type} {f g : α → Option β} {k : β → β} : ∀ {L : List α}, (∀ y ∈ L, g y = (f y).map k) → L.filterMap g = (L.filterMap f).map k
  | [], _ => rfl
  | a :: L, h => by
    rw [List.filterMap_cons, List.filterMap_cons, h a List.mem_cons_self, fm_map (L := L) (f := f) (k := k) fun y m => h y (List.mem_cons_of_mem _ m)]
    cases f a <;> rfl

theorem zip_at {l : List Entry} {y : Entry × Nat} (h : y ∈ l.zipIdx) : l[y.2]? = some y.1 := by
  have := List.mem_zipIdx_iff_getElem?.mp h
  exact this
theorem stmOf_num {l : List Entry} {y : Entry × Nat} {st : Stm} (h : stmOf l y = some st) : st.num = y.2 := by
  unfold stmOf at h
  split at h
  · cases h
  · split at h
    · cases h; rfl
    · cases h; rfl
    · cases h
theorem mem_say {l : List Entry} {st : Stm} (h : st ∈ sayAll l) : ∃ x, l[st.num]? = some x ∧ stmOf l (x, st.num) = some st := by
  obtain ⟨y, hy, e⟩ := List.mem_filterMap.mp h
  have en := stmOf_num e
  refine ⟨y.1, ?_, ?_⟩
  · rw [en]; exact zip_at hy
  · rw [en]; exact e
theorem of_say {l : List Entry} {i : Nat} {x : Entry} {st : Stm} (h : l[i]? = some x) (e : stmOf l (x, i) = some st) : st ∈ sayAll l :=
  List.mem_filterMap.mpr ⟨(x, i), List.mem_zipIdx_iff_getElem?.mpr h, e⟩
theorem say_inj {l : List Entry} {a b : Stm} (ha : a ∈ sayAll l) (hb : b ∈ sayAll l) (e : a.num = b.num) : a = b := by
  obtain ⟨x, hx, ex⟩ := mem_say ha
  obtain ⟨y, hy, ey⟩ := mem_say hb
  rw [e] at hx ex
  rw [hx] at hy
  cases hy
  rw [ex] at ey
  exact Option.some.inj ey
theorem say_lt {l : List Entry} {st : Stm} (h : st ∈ sayAll l) : st.num < l.length := by
  obtain ⟨x, hx, _⟩ := mem_say h
  exact (List.getElem?_eq_some_iff.mp hx).1

theorem zip_snoc (l : List Entry) (x : Entry) : (l ++ [x]).zipIdx = l.zipIdx ++ [(x, l.length)] := by
  rw [List.zipIdx_append]
  simp

theorem say_found {l : List Entry} (v : Vd l) (p d c : Nat) : sayAll (l ++ [.found p d c]) = sayAll l ++ [⟨l.length, p, d, c⟩] := by
  unfold sayAll
  rw [zip_snoc, List.filterMap_append]
  have e1 : l.zipIdx.filterMap (stmOf (l ++ [.found p d c])) = l.zipIdx.filterMap (stmOf l) := by
    refine fm_congr fun y hy => ?_
    unfold stmOf
    rw [struck_snoc]
    simp only [reduceCtorEq, decide_false, Bool.or_false]
    split
    · rfl
    · cases y.1 with
      | found p d c => simp only [told_snoc]
      | mended p d => rfl
      | struck e => rfl
      | right_ e c => rfl
  have f := v.far (Nat.le_refl l.length)
  have e2 : stmOf (l ++ [.found p d c]) (.found p d c, l.length) = some ⟨l.length, p, d, c⟩ := by
    unfold stmOf
    rw [struck_snoc]
    simp only [reduceCtorEq, decide_false, Bool.or_false, f.1, Bool.false_eq_true, if_false, told_snoc]
    rw [told_no _ _ _ f.2]
  rw [e1, List.filterMap_cons, e2, List.filterMap_nil]
theorem say_mended {l : List Entry} (v : Vd l) (p d : Nat) : sayAll (l ++ [.mended p d]) = sayAll l ++ [⟨l.length, p, d, 0⟩] := by
  unfold sayAll
  rw [zip_snoc, List.filterMap_append]
  have e1 : l.zipIdx.filterMap (stmOf (l ++ [.mended p d])) = l.zipIdx.filterMap (stmOf l) := by
    refine fm_congr fun y hy => ?_
    unfold stmOf
    rw [struck_snoc]
    simp only [reduceCtorEq, decide_false, Bool.or_false]
    split
    · rfl
    · cases y.1 with
      | found p d c => simp only [told_snoc]
      | mended p d => rfl
      | struck e => rfl
      | right_ e c => rfl
  have f := v.far (Nat.le_refl l.length)
  have e2 : stmOf (l ++ [.mended p d]) (.mended p d, l.length) = some ⟨l.length, p, d, 0⟩ := by
    unfold stmOf
    rw [struck_snoc]
    simp only [reduceCtorEq, decide_false, Bool.or_false, f.1, Bool.false_eq_true, if_false]
  rw [e1, List.filterMap_cons, e2, List.filterMap_nil]
theorem say_struck (l : List Entry) (e : Nat) : sayAll (l ++ [.struck e]) = (sayAll l).filter (fun st => decide (st.num ≠ e)) := by
  unfold sayAll
  rw [zip_snoc, List.filterMap_append]
  have e2 : stmOf (l ++ [.struck e]) (.struck e, l.length) = none := by
    unfold stmOf
    split <;> rfl
  rw [List.filterMap_cons, e2, List.filterMap_nil, List.append_nil]
  refine fm_filter fun y hy => ?_
  unfold stmOf
  rw [struck_snoc]
  by_cases hs : isStruck l y.2 = true
  · rw [hs]; rfl
  · rw [if_neg hs]
    have hs' : isStruck l y.2 = false := by simpa using hs
    rw [hs', Bool.false_or]
    by_cases hy2 : y.2 = e
    · subst hy2
      simp only [decide_true, if_true]
      cases y.1 <;> simp [Option.filter]
    · have hne : ¬ (Entry.struck e = Entry.struck y.2) := fun q => hy2 (Entry.struck.inj q).symm
      rw [decide_eq_false hne]
      simp only [Bool.false_eq_true, if_false]
      cases y.1 with
      | found p d c => simp [told_snoc, Option.filter, hy2]
      | mended p d => simp [Option.filter, hy2]
      | struck e => simp [Option.filter]
      | right_ e c => simp [Option.filter]
theorem say_right {l : List Entry} {e c : Nat} (r : Refs l (.right_ e c)) : sayAll (l ++ [.right_ e c]) = (sayAll l).map (fun st => if st.num = e then ⟨st.num, st.part, st.day, c⟩ else st) := by
  unfold sayAll
  rw [zip_snoc, List.filterMap_append]
  have e2 : stmOf (l ++ [.right_ e c]) (.right_ e c, l.length) = none := by
    unfold stmOf
    split <;> rfl
  rw [List.filterMap_cons, e2, List.filterMap_nil, List.append_nil]
  refine fm_map fun y hy => ?_
  have ya := zip_at hy
  unfold stmOf
  rw [struck_snoc]
  simp only [reduceCtorEq, decide_false, Bool.or_false]
  split
  · rfl
  · cases hy1 : y.1 with
    | found p d c =>
      simp only [told_snoc, Option.map_some]
      by_cases h : e = y.2
      · subst h; simp
      · have h' : ¬ y.2 = e := fun q => h q.symm
        simp only [if_neg h, if_neg h']
    | mended p d =>
      obtain ⟨⟨p', d', c', q⟩, _⟩ := r
      have h' : ¬ y.2 = e := fun z => by rw [← z, ya, hy1] at q; cases q
      simp only [Option.map_some, if_neg h']
    | struck e => rfl
    | right_ e c => rfl
theorem say_has {l : List Entry} {e : Nat} (h : (∃ p d c, l[e]? = some (.found p d c)) ∨ (∃ p d, l[e]? = some (.mended p d))) (hs : isStruck l e = false) : ∃ st, st ∈ sayAll l ∧ st.num = e := by
  rcases h with ⟨p, d, c, h⟩ | ⟨p, d, h⟩
  · refine ⟨_, of_say h (st := ⟨e, p, d, told l e c⟩) ?_, rfl⟩
    unfold stmOf; simp [hs]
  · refine ⟨_, of_say h (st := ⟨e, p, d, 0⟩) ?_, rfl⟩
    unfold stmOf; simp [hs]

/-! ### the source -/
def srcStep (k day : Nat) (m : Option Stm) (st : Stm) : Option Stm :=
  if st.part = k ∧ st.day ≤ day then (match m with | none => some st | some z => if z.day ≤ st.day then some st else m) else m
def srcOf (sts : List Stm) (k day : Nat) : Option Stm := sts.foldl (srcStep k day) none
def trip (st : Stm) : Nat × Nat × Nat := (st.num, st.day, st.crack)
theorem src_snoc (sts : List Stm) (st : Stm) (k day : Nat) : srcOf (sts ++ [st]) k day = srcStep k day (srcOf sts k day) st := by
  unfold srcOf
  rw [List.foldl_append]
  rfl
theorem fold_src (l : List Entry) (k day : Nat) : ∀ (L : List (Entry × Nat)) (m : Option Stm),
    L.foldl (fun (m : Option (Nat × Nat × Nat)) (x : Entry × Nat) => match says l k x with
      | none => m
      | some y => if day < y.1 then m else match m with
        | none => some (x.2, y.1, y.2)
        | some z => if z.2.1 ≤ y.1 then some (x.2, y.1, y.2) else m) (m.map trip) = ((L.filterMap (stmOf l)).foldl (srcStep k day) m).map trip
  | [], m => rfl
  | x :: L, m => by
    rw [List.foldl_cons, List.filterMap_cons]
    have key : ∀ (st : Option Stm), stmOf l x = st → (match says l k x with
      | none => m.map trip
      | some y => if day < y.1 then m.map trip else match m.map trip with
        | none => some (x.2, y.1, y.2)
        | some z => if z.2.1 ≤ y.1 then some (x.2, y.1, y.2) else m.map trip) = (match st with | none => m | some st => srcStep k day m st).map trip := by
      intro st hst
      unfold stmOf at hst
      unfold says
      by_cases hs : isStruck l x.2 = true
      · rw [if_pos hs] at hst
        subst hst
        rw [if_pos hs]
      · rw [if_neg hs] at hst
        rw [if_neg hs]
        cases hx : x.1 with
        | struck e => rw [hx] at hst; subst hst; rfl
        | right_ e c => rw [hx] at hst; subst hst; rfl
        | found p d c =>
          rw [hx] at hst
          subst hst
          unfold srcStep
          by_cases hp : p = k
          · by_cases hd : day < d
            · simp [hp, hd, Nat.not_le.mpr hd]
            · have hd' : d ≤ day := Nat.le_of_not_lt hd
              cases m with
              | none => simp [hp, hd, hd', trip]
              | some z =>
                by_cases hz : z.day ≤ d
                · simp [hp, hd, hd', trip, hz]
                · simp [hp, hd, hd', trip, hz]
          · simp [hp]
        | mended p d =>
          rw [hx] at hst
          subst hst
          unfold srcStep
          by_cases hp : p = k
          · by_cases hd : day < d
            · simp [hp, hd, Nat.not_le.mpr hd]
            · have hd' : d ≤ day := Nat.le_of_not_lt hd
              cases m with
              | none => simp [hp, hd, hd', trip]
              | some z =>
                by_cases hz : z.day ≤ d
                · simp [hp, hd, hd', trip, hz]
                · simp [hp, hd, hd', trip, hz]
          · simp [hp]
    have k1 := key (stmOf l x) rfl
    cases hst : stmOf l x with
    | none =>
      rw [hst] at k1
      have ih := fold_src l k day L m
      rw [← ih]
      exact congrArg (fun q => List.foldl _ q L) k1
    | some st =>
      rw [hst] at k1
      have ih := fold_src l k day L (srcStep k day m st)
      show _ = Option.map trip (List.foldl (srcStep k day) m (st :: L.filterMap (stmOf l)))
      rw [List.foldl_cons, ← ih]
      exact congrArg (fun q => List.foldl _ q L) k1
theorem counts_eq (l : List Entry) (k day : Nat) : counts l k day = (srcOf (sayAll l) k day).map trip := by
  have := fold_src l k day l.zipIdx none
  exact this
theorem src_day : ∀ (sts : List Stm) (k day : Nat) (m : Option Stm), (∀ z, m = some z → z.day ≤ day ∧ z.part = k) → ∀ z, sts.foldl (srcStep k day) m = some z → z.day ≤ day ∧ z.part = k
  | [], _, _, m, h, z, e => h z e
  | st :: sts, k, day, m, h, z, e => by
    refine src_day sts k day (srcStep k day m st) (fun z hz => ?_) z e
    unfold srcStep at hz
    split at hz
    · rename_i hc
      split at hz
      · cases hz; exact ⟨hc.2, hc.1⟩
      · split at hz
        · cases hz; exact ⟨hc.2, hc.1⟩
        · exact h z hz
    · exact h z hz
theorem src_le {sts : List Stm} {k day : Nat} {z : Stm} (h : srcOf sts k day = some z) : z.day ≤ day := (src_day sts k day none (fun _ q => by cases q) z h).1
end Br

end
section
set_option Elab.async false
set_option linter.all false
/-! Cracks, limits and the readings, in the mirror's words. -/
namespace Br
open Sy50

def crackN (p : Part) (src : Option Stm) (day : Nat) : Nat := match src with
  | none => (p.grows * day + 99) / 100
  | some z => z.crack + (p.grows * (day - z.day) + 99) / 100
def bearsN (p : Part) (c : Nat) : Nat := p.bears - p.costs * c
theorem crack_eq (s : St) (k day n : Nat) : crack s k day n = crackN (partOf s k) (srcOf (sayAll (s.entries.take n)) k day) day := by
  unfold crack
  rw [counts_eq]
  cases srcOf (sayAll (s.entries.take n)) k day <;> rfl
theorem source_eq (s : St) (k day n : Nat) : source s k day n = match srcOf (sayAll (s.entries.take n)) k day with | none => 0 | some z => z.num + 1 := by
  unfold source
  rw [counts_eq]
  cases srcOf (sayAll (s.entries.take n)) k day <;> rfl
theorem bears_eq (s : St) (k day n : Nat) : bears s k day n = bearsN (partOf s k) (crackN (partOf s k) (srcOf (sayAll (s.entries.take n)) k day) day) := by
  unfold bears
  rw [crack_eq]
  rfl
theorem part_at {s : St} {k : Nat} {p : Part} (h : s.parts[k]? = some p) : partOf s k = p := by
  unfold partOf
  rw [List.getD_eq_getElem?_getD, h]
  rfl

/-! ### the weakest -/
def wk (f : Nat → Nat) (n : Nat) : Nat := (List.range n).foldl (fun (m k : Nat) => if f k < f m then k else m) 0
theorem wk_succ (f : Nat → Nat) (n : Nat) : wk f (n + 1) = if f n < f (wk f n) then n else wk f n := by
  unfold wk
  rw [List.range_succ, List.foldl_append]
  rfl
theorem wk_spec (f : Nat → Nat) : ∀ n, (0 < n → wk f n < n) ∧ (∀ k, k < n → f (wk f n) ≤ f k) ∧ (∀ k, k < wk f n → f (wk f n) < f k)
  | 0 => ⟨fun h => absurd h (Nat.lt_irrefl _), fun k h => absurd h (Nat.not_lt_zero _), fun k h => absurd h (Nat.not_lt_zero _)⟩
  | n + 1 => by
    obtain ⟨a, b, c⟩ := wk_spec f n
    rw [wk_succ]
    by_cases h : f n < f (wk f n)
    · rw [if_pos h]
      refine ⟨fun _ => Nat.lt_succ_self _, fun k hk => ?_, fun k hk => ?_⟩
      · rcases Nat.lt_succ_iff_lt_or_eq.mp hk with q | q
        · exact Nat.le_of_lt (Nat.lt_of_lt_of_le h (b k q))
        · rw [q]; exact Nat.le_refl _
      · exact Nat.lt_of_lt_of_le h (b k hk)
    · rw [if_neg h]
      refine ⟨fun _ => ?_, fun k hk => ?_, c⟩
      · by_cases hn : 0 < n
        · exact Nat.lt_succ_of_lt (a hn)
        · have : n = 0 := by omega
          subst this
          exact Nat.zero_lt_one
      · rcases Nat.lt_succ_iff_lt_or_eq.mp hk with q | q
        · exact b k q
        · rw [q]; exact Nat.le_of_not_lt h
theorem weakest_wk (s : St) (day n : Nat) : weakest s day n = wk (fun k => bears s k day n) s.parts.length := rfl
theorem limit_of {s : St} {day n m : Nat} (h1 : ∃ k, k < s.parts.length ∧ m = bears s k day n) (h2 : ∀ k, k < s.parts.length → m ≤ bears s k day n) : m = Sy50.limit s day n := by
  obtain ⟨k, hk, rfl⟩ := h1
  have w := wk_spec (fun k => bears s k day n) s.parts.length
  unfold Sy50.limit
  rw [weakest_wk]
  exact Nat.le_antisymm (h2 _ (w.1 (by omega))) (w.2.1 k hk)
theorem limit_le {s : St} {day n k : Nat} (hk : k < s.parts.length) : Sy50.limit s day n ≤ bears s k day n := by
  unfold Sy50.limit
  rw [weakest_wk]
  exact (wk_spec (fun k => bears s k day n) s.parts.length).2.1 k hk
theorem weakest_lt {s : St} (day n : Nat) (h : 0 < s.parts.length) : weakest s day n < s.parts.length := by
  rw [weakest_wk]
  exact (wk_spec _ _).1 h
theorem weakest_first {s : St} {day n k : Nat} (hk : k < weakest s day n) : Sy50.limit s day n < bears s k day n := by
  unfold Sy50.limit
  rw [weakest_wk] at *
  exact (wk_spec (fun k => bears s k day n) s.parts.length).2.2 k hk

/-! ### what holds of a file -/
def EOk (n today : Nat) : Entry → Prop
  | .found p d c => p < n ∧ d ≤ today ∧ c ≤ 1000
  | .mended p d => p < n ∧ d ≤ today
  | .struck _ => True
  | .right_ _ c => c ≤ 1000
structure Good (s : St) : Prop where
  p0 : 0 < s.parts.length
  p12 : s.parts.length ≤ 12
  pb : ∀ p ∈ s.parts, p.bears ≤ 1000 ∧ p.costs ≤ 100 ∧ p.grows ≤ 100
  td : s.today ≤ 100000
  e60 : s.entries.length ≤ 60
  vd : Vd s.entries
  eo : ∀ x ∈ s.entries, EOk s.parts.length s.today x
  q60 : s.posts.length ≤ 60
theorem say_ok {l : List Entry} {n t : Nat} (h : ∀ x ∈ l, EOk n t x) {st : Stm} (m : st ∈ sayAll l) : st.part < n ∧ st.day ≤ t := by
  obtain ⟨x, hx, e⟩ := mem_say m
  have ho := h x (List.mem_of_getElem? hx)
  unfold stmOf at e
  split at e
  · cases e
  · cases x with
    | found p d c => have e := Option.some.inj e; rw [← e]; exact ⟨ho.1, ho.2.1⟩
    | mended p d => have e := Option.some.inj e; rw [← e]; exact ⟨ho.1, ho.2⟩
    | struck e' => cases e
    | right_ e' c => cases e
theorem Good.say {s : St} (g : Good s) (n : Nat) {st : Stm} (m : st ∈ sayAll (s.entries.take n)) : st.part < s.parts.length ∧ st.day ≤ s.today :=
  say_ok (fun x hx => g.eo x (List.mem_of_mem_take hx)) m

/-! ### falls -/
theorem src_far {sts : List Stm} {t k a b : Nat} (h : ∀ st ∈ sts, st.day ≤ t) (ha : t ≤ a) (hb : t ≤ b) : ∀ m, sts.foldl (srcStep k a) m = sts.foldl (srcStep k b) m := by
  induction sts with
  | nil => intro m; rfl
  | cons st sts ih =>
    intro m
    rw [List.foldl_cons, List.foldl_cons]
    have h0 := h st List.mem_cons_self
    have e : srcStep k a m st = srcStep k b m st := by
      unfold srcStep
      have h1 : st.day ≤ a := by omega
      have h2 : st.day ≤ b := by omega
      simp only [h1, h2]
    rw [e]
    exact ih (fun st m => h st (List.mem_cons_of_mem _ m)) _
theorem bears_mono {s : St} (g : Good s) {k a b : Nat} (ha : s.today ≤ a) (hab : a ≤ b) : bears s k b s.entries.length ≤ bears s k a s.entries.length := by
  rw [bears_eq, bears_eq]
  have hs : ∀ st ∈ sayAll (s.entries.take s.entries.length), st.day ≤ s.today := fun st m => (g.say _ m).2
  have e : srcOf (sayAll (s.entries.take s.entries.length)) k b = srcOf (sayAll (s.entries.take s.entries.length)) k a := src_far hs (by omega) ha none
  rw [e]
  unfold bearsN
  refine Nat.sub_le_sub_left (Nat.mul_le_mul_left _ ?_) _
  cases srcOf (sayAll (s.entries.take s.entries.length)) k a with
  | none => exact Nat.div_le_div_right (Nat.add_le_add_right (Nat.mul_le_mul_left _ hab) _)
  | some z => exact Nat.add_le_add_left (Nat.div_le_div_right (Nat.add_le_add_right (Nat.mul_le_mul_left _ (Nat.sub_le_sub_right hab _)) _)) _
theorem limit_mono {s : St} (g : Good s) {a b : Nat} (ha : s.today ≤ a) (hab : a ≤ b) : Sy50.limit s b s.entries.length ≤ Sy50.limit s a s.entries.length := by
  have w := weakest_lt (s := s) a s.entries.length g.p0
  exact Nat.le_trans (limit_le w) (bears_mono g ha hab)
abbrev Bel (s : St) (w d : Nat) : Prop := Sy50.limit s d s.entries.length < w
theorem bel_mono {s : St} (g : Good s) {w a b : Nat} (ha : s.today ≤ a) (hab : a ≤ b) (h : Bel s w a) : Bel s w b := Nat.lt_of_le_of_lt (limit_mono g ha hab) h
theorem halved_spec {s : St} (g : Good s) (w : Nat) : ∀ (f d : Nat), s.today ≤ d → d ≤ halved s w f d ∧ halved s w f d + 1 ≤ d + 2 ^ f ∧ (∀ e, d ≤ e → e < halved s w f d → ¬ Bel s w e) ∧ (Bel s w (halved s w f d) ∨ halved s w f d + 1 = d + 2 ^ f)
  | 0, d, h => ⟨Nat.le_refl _, Nat.le_refl _, fun e h1 h2 => absurd h2 (by show ¬ e < d; omega), .inr rfl⟩
  | f + 1, d, h => by
    have hp : 2 ^ (f + 1) = 2 ^ f + 2 ^ f := by rw [Nat.pow_succ]; omega
    have h0 : 0 < 2 ^ f := Nat.two_pow_pos f
    unfold halved
    by_cases hc : Sy50.limit s (d + 2 ^ f - 1) s.entries.length < w
    · rw [if_pos hc]
      obtain ⟨a, b, c, e⟩ := halved_spec g w f d h
      refine ⟨a, by omega, c, .inl ?_⟩
      rcases e with e | e
      · exact e
      · have q : halved s w f d = d + 2 ^ f - 1 := by omega
        rw [q]; exact hc
    · rw [if_neg hc]
      obtain ⟨a, b, c, e⟩ := halved_spec g w f (d + 2 ^ f) (by omega)
      refine ⟨by omega, by omega, fun e' h1 h2 => ?_, ?_⟩
      · by_cases hq : d + 2 ^ f ≤ e'
        · exact c e' hq h2
        · exact fun hb => hc (bel_mono g (a := e') (by omega) (by omega) hb)
      · rcases e with e | e
        · exact .inl e
        · exact .inr (by omega)
theorem falls_none {s : St} (g : Good s) {w : Nat} (h : ∀ e, e < 131072 → ¬ Bel s w (s.today + e)) : Sy50.falls s w = none := by
  obtain ⟨a, b, c, d⟩ := halved_spec g w 17 s.today (Nat.le_refl _)
  unfold Sy50.falls
  have e : halved s w 17 s.today = s.today + (halved s w 17 s.today - s.today) := by omega
  have hn := h (halved s w 17 s.today - s.today) (by have : 2 ^ 17 = 131072 := by decide
                                                     omega)
  rw [← e] at hn
  exact if_neg hn
theorem falls_some {s : St} (g : Good s) {w x : Nat} (hx : x < 131072) (hB : Bel s w (s.today + x)) (hn : ∀ e, e < x → ¬ Bel s w (s.today + e)) : Sy50.falls s w = some x := by
  obtain ⟨a, b, c, d⟩ := halved_spec g w 17 s.today (Nat.le_refl _)
  have h17 : 2 ^ 17 = 131072 := by decide
  have h1 : halved s w 17 s.today ≤ s.today + x := by
    by_cases q : halved s w 17 s.today ≤ s.today + x
    · exact q
    · exact absurd hB (c _ (by omega) (by omega))
  have h2 : Bel s w (halved s w 17 s.today) := by
    rcases d with d | d
    · exact d
    · exact bel_mono g (a := s.today + x) (by omega) (by omega) hB
  have h3 : ¬ halved s w 17 s.today < s.today + x := fun q => by
    have := hn (halved s w 17 s.today - s.today) (by omega)
    rw [show s.today + (halved s w 17 s.today - s.today) = halved s w 17 s.today by omega] at this
    exact this h2
  have e : halved s w 17 s.today = s.today + x := by omega
  unfold Sy50.falls
  show (if Sy50.limit s (halved s w 17 s.today) s.entries.length < w then some (halved s w 17 s.today - s.today) else none) = some x
  rw [if_pos h2, e]
  congr 1
  omega

/-! ### posted, wrong -/
def lastBy (ps : List Post) (day : Nat) : Option Post := (ps.filter fun (p : Post) => decide (p.day ≤ day)).getLast?
theorem lastBy_snoc (ps : List Post) (p : Post) (day : Nat) : lastBy (ps ++ [p]) day = if p.day ≤ day then some p else lastBy ps day := by
  unfold lastBy
  rw [List.filter_append]
  by_cases h : p.day ≤ day
  · rw [if_pos h]
    have : ([p].filter fun (p : Post) => decide (p.day ≤ day)) = [p] := by simp [h]
    rw [this]
    simp
  · rw [if_neg h]
    have : ([p].filter fun (p : Post) => decide (p.day ≤ day)) = [] := by simp [h]
    rw [this, List.append_nil]
def wrongs (s : St) (a i : Nat) : List (Nat × Nat) := ((List.range i).map fun (i : Nat) => (a + i, tooMuch s (a + i))).filter fun (x : Nat × Nat) => decide (0 < x.2)
theorem wrongs_succ (s : St) (a i : Nat) : wrongs s a (i + 1) = if 0 < tooMuch s (a + i) then wrongs s a i ++ [(a + i, tooMuch s (a + i))] else wrongs s a i := by
  unfold wrongs
  rw [List.range_succ, List.map_append, List.filter_append]
  by_cases h : 0 < tooMuch s (a + i)
  · rw [if_pos h]
    have : List.filter (fun (x : Nat × Nat) => decide (0 < x.2)) (List.map (fun i => (a + i, tooMuch s (a + i))) [i]) = [(a + i, tooMuch s (a + i))] := by simp [h]
    rw [this]
  · rw [if_neg h]
    have : List.filter (fun (x : Nat × Nat) => decide (0 < x.2)) (List.map (fun i => (a + i, tooMuch s (a + i))) [i]) = [] := by simp [h]
    rw [this, List.append_nil]
def most (l : List (Nat × Nat)) : Nat := l.foldl (fun (m : Nat) (x : Nat × Nat) => max m x.2) 0
theorem most_snoc (l : List (Nat × Nat)) (x : Nat × Nat) : most (l ++ [x]) = max (most l) x.2 := by
  unfold most
  rw [List.foldl_append]
  rfl
theorem wrongs_len (s : St) (a i : Nat) : (wrongs s a i).length ≤ i := by
  unfold wrongs
  refine Nat.le_trans (List.length_filter_le _ _) ?_
  rw [List.length_map, List.length_range]
  exact Nat.le_refl _

/-! ### due -/
def isF (l : List Entry) (i : Nat) : Bool := match l[i]? with
  | some (.found _ _ _) => true
  | _ => false
def inspStep (l : List Entry) (k m : Nat) (st : Stm) : Nat := if st.part = k ∧ isF l st.num = true then max m st.day else m
def insp (l : List Entry) (sts : List Stm) (k : Nat) : Nat := sts.foldl (inspStep l k) 0
theorem insp_snoc (l : List Entry) (sts : List Stm) (st : Stm) (k : Nat) : insp l (sts ++ [st]) k = inspStep l k (insp l sts k) st := by
  unfold insp
  rw [List.foldl_append]
  rfl
theorem fold_insp (l : List Entry) (k : Nat) : ∀ (L : List (Entry × Nat)) (m : Nat), (∀ y ∈ L, l[y.2]? = some y.1) →
    L.foldl (fun (m : Nat) (x : Entry × Nat) => match x.1 with
      | .found p d _ => if p = k ∧ isStruck l x.2 = false then max m d else m
      | _ => m) m = (L.filterMap (stmOf l)).foldl (inspStep l k) m
  | [], m, _ => rfl
  | x :: L, m, h => by
    have ih := fun m => fold_insp l k L m (fun y hy => h y (List.mem_cons_of_mem _ hy))
    have hx := h x List.mem_cons_self
    rw [List.foldl_cons, List.filterMap_cons]
    by_cases hs : isStruck l x.2 = true
    · have e1 : stmOf l x = none := by unfold stmOf; rw [if_pos hs]
      rw [e1]
      cases hx1 : x.1 with
      | found p d c => simp only [hs, Bool.true_eq_false, and_false, if_false]; exact ih m
      | mended p d => exact ih m
      | struck e => exact ih m
      | right_ e c => exact ih m
    · have hs' : isStruck l x.2 = false := by simpa using hs
      cases hx1 : x.1 with
      | found p d c =>
        rw [hx1] at hx
        have e1 : stmOf l x = some ⟨x.2, p, d, told l x.2 c⟩ := by unfold stmOf; rw [if_neg hs, hx1]
        rw [e1]
        have e2 : isF l x.2 = true := by unfold isF; rw [hx]
        show _ = List.foldl (inspStep l k) m (_ :: _)
        rw [List.foldl_cons]
        have e3 : inspStep l k m ⟨x.2, p, d, told l x.2 c⟩ = if p = k then max m d else m := by
          unfold inspStep
          simp only [e2, and_true]
        rw [e3, ← ih]
        simp only [hs', and_true]
      | mended p d =>
        rw [hx1] at hx
        have e1 : stmOf l x = some ⟨x.2, p, d, 0⟩ := by unfold stmOf; rw [if_neg hs, hx1]
        rw [e1]
        have e2 : isF l x.2 = false := by unfold isF; rw [hx]
        show _ = List.foldl (inspStep l k) m (_ :: _)
        rw [List.foldl_cons]
        have e3 : inspStep l k m ⟨x.2, p, d, 0⟩ = m := by
          unfold inspStep
          simp only [e2, Bool.false_eq_true, and_false, if_false]
        rw [e3, ← ih]
      | struck e =>
        have e1 : stmOf l x = none := by unfold stmOf; rw [if_neg hs, hx1]
        rw [e1]
        exact ih m
      | right_ e c =>
        have e1 : stmOf l x = none := by unfold stmOf; rw [if_neg hs, hx1]
        rw [e1]
        exact ih m
theorem inspected_eq (s : St) (k : Nat) : inspected s k = insp s.entries (sayAll s.entries) k :=
  fold_insp s.entries k s.entries.zipIdx 0 (fun y hy => zip_at hy)

/-! ### changes -/
def chg (s : St) (k day : Nat) (n : Nat) : Option (Nat × Nat) := if n = 0 then some (0, crack s k day 0) else if crack s k day n = crack s k day (n - 1) then none else some (n, crack s k day n)
def chgs (s : St) (k day i : Nat) : List (Nat × Nat) := (List.range i).filterMap (chg s k day)
theorem changes_eq (s : St) (k day : Nat) : Sy50.changes s k day = chgs s k day (s.entries.length + 1) := rfl
theorem chgs_succ (s : St) (k day i : Nat) : chgs s k day (i + 1) = match chg s k day i with | none => chgs s k day i | some x => chgs s k day i ++ [x] := by
  unfold chgs
  rw [List.range_succ, List.filterMap_append, List.filterMap_cons, List.filterMap_nil]
  cases chg s k day i with
  | none => simp
  | some x => rfl
theorem chgs_len (s : St) (k day i : Nat) : (chgs s k day i).length ≤ i := by
  unfold chgs
  refine Nat.le_trans (List.length_filterMap_le _ _) ?_
  rw [List.length_range]
  exact Nat.le_refl _
def fl2 (l : List (Nat × Nat)) : List Nat := l.flatMap fun (x : Nat × Nat) => [x.1, x.2]
theorem fl2_snoc (l : List (Nat × Nat)) (x : Nat × Nat) : fl2 (l ++ [x]) = fl2 l ++ [x.1, x.2] := by
  unfold fl2
  rw [List.flatMap_append]
  simp
theorem fl2_len : ∀ l : List (Nat × Nat), (fl2 l).length = 2 * l.length
  | [] => rfl
  | x :: l => by
    have := fl2_len l
    unfold fl2 at *
    rw [List.flatMap_cons, List.length_append, this]
    show 2 + 2 * l.length = 2 * (l.length + 1)
    omega

/-! ### begins -/
theorem triples_len : ∀ l : List Nat, (triples l).length = l.length / 3
  | [] => rfl
  | [_] => by simp [triples]
  | [_, _] => by simp [triples]
  | a :: b :: c :: l => by
    show (triples l).length + 1 = (l.length + 1 + 1 + 1) / 3
    rw [triples_len l]
    omega
theorem triples_at : ∀ (l : List Nat) (j a b c : Nat), l[3 * j]? = some a → l[3 * j + 1]? = some b → l[3 * j + 2]? = some c → (triples l)[j]? = some ⟨a, b, c⟩
  | x :: y :: z :: l, 0, a, b, c, ha, hb, hc => by
    have e1 : x = a := Option.some.inj ha
    have e2 : y = b := Option.some.inj hb
    have e3 : z = c := Option.some.inj hc
    subst e1 e2 e3
    rfl
  | x :: y :: z :: l, j + 1, a, b, c, ha, hb, hc => by
    show (triples l)[j]? = _
    refine triples_at l j a b c ?_ ?_ ?_
    · rw [show 3 * (j + 1) = 3 * j + 1 + 1 + 1 by omega] at ha; exact ha
    · rw [show 3 * (j + 1) + 1 = 3 * j + 1 + 1 + 1 + 1 by omega] at hb; exact hb
    · rw [show 3 * (j + 1) + 2 = 3 * j + 2 + 1 + 1 + 1 by omega] at hc; exact hc
  | [], j, a, b, c, ha, hb, hc => by simp at hc
  | [x], j, a, b, c, ha, hb, hc => by
    rw [List.getElem?_eq_none (by show 1 ≤ 3 * j + 2; omega)] at hc
    cases hc
  | [x, y], j, a, b, c, ha, hb, hc => by
    rw [List.getElem?_eq_none (by show 2 ≤ 3 * j + 2; omega)] at hc
    cases hc
def letP (p : Part) : Bool := decide (1 ≤ p.bears) && decide (p.bears ≤ 1000) && (decide (p.costs ≤ 100) && decide (p.grows ≤ 100))
theorem letP_any (l : List Part) : l.any (fun (p : Part) => decide (p.bears < 1) || (decide (1000 < p.bears) || (decide (100 < p.costs) || decide (100 < p.grows)))) = !(l.map letP).all id := by
  induction l with
  | nil => rfl
  | cons p l ih =>
    rw [List.any_cons, List.map_cons, List.all_cons, ih]
    unfold letP
    simp only [id, Bool.not_and]
    congr 1
    rw [Bool.eq_iff_iff]
    simp only [Bool.or_eq_true, decide_eq_true_eq, Bool.not_eq_true', decide_eq_false_iff_not]
    omega

/-! ### a step keeps what holds -/
theorem EOk.mono {n t t' : Nat} {x : Entry} (h : EOk n t x) (ht : t ≤ t') : EOk n t' x := by
  cases x with
  | found p d c => exact ⟨h.1, Nat.le_trans h.2.1 ht, h.2.2⟩
  | mended p d => exact ⟨h.1, Nat.le_trans h.2 ht⟩
  | struck e => trivial
  | right_ e c => exact h
theorem Good.init : Good Sy50.init := by
  refine ⟨by decide, by decide, ?_, by decide, by decide, Vd.nil, ?_, by decide⟩
  · intro p hp
    have : p = ⟨1, 0, 0⟩ := List.mem_singleton.mp hp
    subst this
    decide
  · intro x hx; cases hx
theorem Good.enter {s : St} (g : Good s) {x : Entry} (r : Refs s.entries x) (o : EOk s.parts.length s.today x) : Good (Sy50.enter s x).1 := by
  unfold Sy50.enter
  split
  · exact g
  · rename_i h
    have h' : s.entries.length < 60 := Nat.lt_of_not_le h
    refine ⟨g.p0, g.p12, g.pb, g.td, ?_, g.vd.snoc r, fun y hy => ?_, g.q60⟩
    · show (s.entries ++ [x]).length ≤ 60
      rw [List.length_append, List.length_singleton]
      omega
    · rcases List.mem_append.mp hy with m | m
      · exact g.eo y m
      · rw [List.mem_singleton.mp m]; exact o
theorem mem_any {l : List Part} (h : ¬ l.any (fun (p : Part) => decide (p.bears < 1) || (decide (1000 < p.bears) || (decide (100 < p.costs) || decide (100 < p.grows)))) = true) : ∀ p ∈ l, p.bears ≤ 1000 ∧ p.costs ≤ 100 ∧ p.grows ≤ 100 := by
  intro p hp
  have h0 : ¬ (decide (p.bears < 1) || (decide (1000 < p.bears) || (decide (100 < p.costs) || decide (100 < p.grows)))) = true := fun q => h (List.any_eq_true.mpr ⟨p, hp, q⟩)
  simp only [Bool.or_eq_true, decide_eq_true_eq] at h0
  omega
theorem Good.step {s : St} (g : Good s) (c : Call) : Good (Sy50.step s c).1 := by
  cases c with
  | begins l =>
    unfold Sy50.step
    dsimp only
    split
    · exact g
    · rename_i h
      have h1 : 3 ≤ l.length := by omega
      have h2 : l.length ≤ 36 := by omega
      have h3 := triples_len l
      refine ⟨?_, ?_, mem_any (fun q => h (.inr (.inr (.inr q)))), Nat.zero_le _, Nat.zero_le _, Vd.nil, fun x hx => (by cases hx), Nat.zero_le _⟩
      · show 0 < (triples l).length; omega
      · show (triples l).length ≤ 12; omega
  | day n =>
    unfold Sy50.step
    dsimp only
    split
    · exact g
    · split
      · exact g
      · rename_i h
        have h' : s.today + n ≤ 100000 := Nat.le_of_not_lt h
        exact ⟨g.p0, g.p12, g.pb, h', g.e60, g.vd, fun x hx => (g.eo x hx).mono (Nat.le_add_right _ _), g.q60⟩
  | found k d c =>
    unfold Sy50.step
    dsimp only
    split
    · exact g
    · split
      · exact g
      · rename_i h1 h2
        exact g.enter trivial ⟨Nat.lt_of_not_le h1, by omega, by omega⟩
  | mended k d =>
    unfold Sy50.step
    dsimp only
    split
    · exact g
    · split
      · exact g
      · rename_i h1 h2
        exact g.enter trivial ⟨Nat.lt_of_not_le h1, by omega⟩
  | strike e =>
    unfold Sy50.step
    dsimp only
    cases h : s.entries[e]? with
    | none => exact g
    | some x =>
      cases x with
      | struck _ => exact g
      | right_ _ _ => exact g
      | found p d c =>
        dsimp only
        split
        · exact g
        · rename_i hs
          exact g.enter ⟨.inl ⟨p, d, c, h⟩, by simpa using hs⟩ trivial
      | mended p d =>
        dsimp only
        split
        · exact g
        · rename_i hs
          exact g.enter ⟨.inr ⟨p, d, h⟩, by simpa using hs⟩ trivial
  | right_ e c =>
    unfold Sy50.step
    dsimp only
    cases h : s.entries[e]? with
    | none => exact g
    | some x =>
      cases x with
      | struck _ => exact g
      | right_ _ _ => exact g
      | mended _ _ => exact g
      | found p d c' =>
        dsimp only
        split
        · exact g
        · split
          · exact g
          · rename_i hs hc
            exact g.enter ⟨⟨p, d, c', h⟩, by simpa using hs⟩ (Nat.le_of_not_lt hc)
  | post =>
    unfold Sy50.step
    dsimp only
    split
    · exact g
    · rename_i h
      have h' : s.posts.length < 60 := Nat.lt_of_not_le h
      refine ⟨g.p0, g.p12, g.pb, g.td, g.e60, g.vd, g.eo, ?_⟩
      show (s.posts ++ [_]).length ≤ 60
      rw [List.length_append, List.length_singleton]
      omega
  | known k d n => exact g
  | limit d n => exact g
  | posted d => exact g
  | wrong a b => exact g
  | falls w => exact g
  | due n => exact g
  | changes k d => exact g
  | state => exact g
end Br

end
section
set_option Elab.async false
set_option linter.all false
/-! What each call answers, as one list. -/
namespace Br
open Sy50
def outOf (s : St) (c : Call) : List Int := Sy50Neutral.out (Sy50.step s c).2
theorem out_ok (v : Int) : Sy50Neutral.out (ok v) = [v] := rfl
theorem out_one (v : Int) (l : List Int) : Sy50Neutral.out ⟨v, [l]⟩ = v :: (l.length : Int) :: l := by
  show v :: (((l.length : Int) :: l) ++ []) = _
  rw [List.append_nil]
theorem ints_len (l : List Nat) : (Sy50.ints l).length = l.length := by unfold Sy50.ints; rw [List.length_map]

theorem out_known1 {s : St} {k d n : Nat} (h : s.parts.length ≤ k) : outOf s (.known k d n) = [-2] := by
  unfold outOf Sy50.step; dsimp only; rw [if_pos h]; rfl
theorem out_known2 {s : St} {k d n : Nat} (h : ¬ s.parts.length ≤ k) (h2 : LAST < d ∨ s.entries.length < n) : outOf s (.known k d n) = [-1] := by
  unfold outOf Sy50.step; dsimp only; rw [if_neg h, if_pos h2]; rfl
theorem out_known3 {s : St} {k d n : Nat} (h : ¬ s.parts.length ≤ k) (h2 : ¬ (LAST < d ∨ s.entries.length < n)) : outOf s (.known k d n) = [(crack s k d n : Int), 2, (source s k d n : Int), (bears s k d n : Int)] := by
  unfold outOf Sy50.step; dsimp only; rw [if_neg h, if_neg h2]; rfl
theorem out_limit1 {s : St} {d n : Nat} (h2 : LAST < d ∨ s.entries.length < n) : outOf s (.limit d n) = [-1] := by
  unfold outOf Sy50.step; dsimp only; rw [if_pos h2]; rfl
theorem out_limit2 {s : St} {d n : Nat} (h2 : ¬ (LAST < d ∨ s.entries.length < n)) : outOf s (.limit d n) = [(Sy50.limit s d n : Int), 3, (weakest s d n : Int), (source s (weakest s d n) d n : Int), (crack s (weakest s d n) d n : Int)] := by
  unfold outOf Sy50.step; dsimp only; rw [if_neg h2]; rfl
theorem out_posted1 {s : St} {d : Nat} (h : s.today < d) : outOf s (.posted d) = [-1] := by
  unfold outOf Sy50.step; dsimp only; rw [if_pos h]; rfl
theorem out_posted2 {s : St} {d : Nat} (h : ¬ s.today < d) (h2 : Sy50.posted s d = none) : outOf s (.posted d) = [-6] := by
  unfold outOf Sy50.step; dsimp only; rw [if_neg h, h2]; rfl
theorem out_posted3 {s : St} {d : Nat} {p : Post} (h : ¬ s.today < d) (h2 : Sy50.posted s d = some p) : outOf s (.posted d) = [(p.limit : Int), 2, (p.day : Int), (p.behind : Int)] := by
  unfold outOf Sy50.step; dsimp only; rw [if_neg h, h2]; rfl
theorem out_wrong1 {s : St} {a b : Nat} (h : b < a ∨ s.today < b ∨ 500 < b - a) : outOf s (.wrong a b) = [-1] := by
  unfold outOf Sy50.step; dsimp only; rw [if_pos h]; rfl
theorem step_wrong {s : St} {a b : Nat} (h : ¬ (b < a ∨ s.today < b ∨ 500 < b - a)) : (Sy50.step s (.wrong a b)).2 = match wrongs s a (b + 1 - a) with
    | [] => ok 0
    | x :: _ => ⟨((wrongs s a (b + 1 - a)).length : Nat), [Sy50.ints [x.1, most (wrongs s a (b + 1 - a))]]⟩ := by
  unfold Sy50.step
  dsimp only
  rw [if_neg h]
  unfold most wrongs
  split <;> (rename_i q; rw [q])
theorem out_wrong2 {s : St} {a b : Nat} (h : ¬ (b < a ∨ s.today < b ∨ 500 < b - a)) (h2 : wrongs s a (b + 1 - a) = []) : outOf s (.wrong a b) = [0] := by
  unfold outOf
  rw [step_wrong h, h2]
  rfl
theorem out_wrong3 {s : St} {a b : Nat} {x : Nat × Nat} {l : List (Nat × Nat)} (h : ¬ (b < a ∨ s.today < b ∨ 500 < b - a)) (h2 : wrongs s a (b + 1 - a) = x :: l) : outOf s (.wrong a b) = [((x :: l).length : Int), 2, (x.1 : Int), (most (x :: l) : Int)] := by
  unfold outOf
  rw [step_wrong h, h2]
  rfl
theorem out_falls1 {s : St} {w : Nat} (h : w < 1 ∨ 1000 < w) : outOf s (.falls w) = [-1] := by
  unfold outOf Sy50.step; dsimp only; rw [if_pos h]; rfl
theorem out_falls2 {s : St} {w : Nat} (h : ¬ (w < 1 ∨ 1000 < w)) (h2 : Sy50.falls s w = none) : outOf s (.falls w) = [-6] := by
  unfold outOf Sy50.step; dsimp only; rw [if_neg h, h2]; rfl
theorem out_falls3 {s : St} {w n : Nat} (h : ¬ (w < 1 ∨ 1000 < w)) (h2 : Sy50.falls s w = some n) : outOf s (.falls w) = [(n : Int)] := by
  unfold outOf Sy50.step; dsimp only; rw [if_neg h, h2]; rfl
def dueL (s : St) (n : Nat) : List Nat := (List.range s.parts.length).filter fun (k : Nat) => decide (inspected s k + n < s.today)
theorem out_due (s : St) (n : Nat) : outOf s (.due n) = ((dueL s n).length : Int) :: ((dueL s n).length : Int) :: Sy50.ints (dueL s n) := by
  unfold outOf
  show Sy50Neutral.out ⟨_, [Sy50.ints (dueL s n)]⟩ = _
  rw [out_one, ints_len]
  rfl
theorem out_changes1 {s : St} {k d : Nat} (h : s.parts.length ≤ k) : outOf s (.changes k d) = [-2] := by
  unfold outOf Sy50.step; dsimp only; rw [if_pos h]; rfl
theorem out_changes2 {s : St} {k d : Nat} (h : ¬ s.parts.length ≤ k) (h2 : LAST < d) : outOf s (.changes k d) = [-1] := by
  unfold outOf Sy50.step; dsimp only; rw [if_neg h, if_pos h2]; rfl
theorem out_changes3 {s : St} {k d : Nat} (h : ¬ s.parts.length ≤ k) (h2 : ¬ LAST < d) : outOf s (.changes k d) = ((chgs s k d (s.entries.length + 1)).length : Int) :: ((fl2 (chgs s k d (s.entries.length + 1))).length : Int) :: Sy50.ints (fl2 (chgs s k d (s.entries.length + 1))) := by
  unfold outOf Sy50.step
  dsimp only
  rw [if_neg h, if_neg h2, changes_eq, out_one, ints_len]
  rfl
def pRows (l : List Part) : List Nat := l.flatMap fun (p : Part) => [p.bears, p.costs, p.grows]
def eRows (l : List Entry) : List Nat := l.flatMap entryRow
def qRows (l : List Post) : List Nat := l.flatMap fun (p : Post) => [p.day, p.behind, p.limit]
theorem out_state (s : St) : outOf s .state = (s.today : Int) :: (((pRows s.parts).length : Int) :: Sy50.ints (pRows s.parts)) ++ (((eRows s.entries).length : Int) :: Sy50.ints (eRows s.entries)) ++ (((qRows s.posts).length : Int) :: Sy50.ints (qRows s.posts)) := by
  unfold outOf
  show (s.today : Int) :: ((((Sy50.ints (pRows s.parts)).length : Int) :: Sy50.ints (pRows s.parts)) ++ ((((Sy50.ints (eRows s.entries)).length : Int) :: Sy50.ints (eRows s.entries)) ++ ((((Sy50.ints (qRows s.posts)).length : Int) :: Sy50.ints (qRows s.posts)) ++ []))) = _
  rw [ints_len, ints_len, ints_len, List.append_nil]
  simp only [List.cons_append, List.append_assoc]
theorem pRows_snoc (l : List Part) (p : Part) : pRows (l ++ [p]) = pRows l ++ [p.bears, p.costs, p.grows] := by unfold pRows; rw [List.flatMap_append]; simp
theorem eRows_snoc (l : List Entry) (p : Entry) : eRows (l ++ [p]) = eRows l ++ entryRow p := by unfold eRows; rw [List.flatMap_append]; simp
theorem qRows_snoc (l : List Post) (p : Post) : qRows (l ++ [p]) = qRows l ++ [p.day, p.behind, p.limit] := by unfold qRows; rw [List.flatMap_append]; simp
theorem pRows_len : ∀ l : List Part, (pRows l).length = 3 * l.length
  | [] => rfl
  | x :: l => by
    have := pRows_len l
    unfold pRows at *
    rw [List.flatMap_cons, List.length_append, this]
    show 3 + 3 * l.length = 3 * (l.length + 1)
    omega
theorem eRows_len : ∀ l : List Entry, (eRows l).length = 4 * l.length
  | [] => rfl
  | x :: l => by
    have := eRows_len l
    unfold eRows at *
    rw [List.flatMap_cons, List.length_append, this]
    cases x <;> (show 4 + 4 * l.length = 4 * (l.length + 1); omega)
theorem qRows_len : ∀ l : List Post, (qRows l).length = 3 * l.length
  | [] => rfl
  | x :: l => by
    have := qRows_len l
    unfold qRows at *
    rw [List.flatMap_cons, List.length_append, this]
    show 3 + 3 * l.length = 3 * (l.length + 1)
    omega
theorem ints_append (a b : List Nat) : Sy50.ints (a ++ b) = Sy50.ints a ++ Sy50.ints b := by unfold Sy50.ints; rw [List.map_append]

/-! ### those that write -/
theorem out_begins1 {s : St} {l : List Nat} (h : l.length % 3 ≠ 0 ∨ l.length < 3 ∨ 36 < l.length ∨ ((triples l).map letP).all id = false) : outOf s (.begins l) = [-1] ∧ (Sy50.step s (.begins l)).1 = s := by
  have h' : l.length % 3 ≠ 0 ∨ l.length < 3 ∨ 36 < l.length ∨ (triples l).any (fun (p : Part) => decide (p.bears < 1) || (decide (1000 < p.bears) || (decide (100 < p.costs) || decide (100 < p.grows)))) = true := by
    rw [letP_any]
    rcases h with h | h | h | h
    · exact .inl h
    · exact .inr (.inl h)
    · exact .inr (.inr (.inl h))
    · exact .inr (.inr (.inr (by rw [h]; rfl)))
  unfold outOf Sy50.step
  dsimp only
  rw [if_pos h']
  exact ⟨rfl, rfl⟩
theorem out_begins2 {s : St} {l : List Nat} (h : ¬ (l.length % 3 ≠ 0 ∨ l.length < 3 ∨ 36 < l.length)) (h2 : ((triples l).map letP).all id = true) : outOf s (.begins l) = [((triples l).length : Int)] ∧ (Sy50.step s (.begins l)).1 = ⟨triples l, 0, [], []⟩ := by
  have h' : ¬ (l.length % 3 ≠ 0 ∨ l.length < 3 ∨ 36 < l.length ∨ (triples l).any (fun (p : Part) => decide (p.bears < 1) || (decide (1000 < p.bears) || (decide (100 < p.costs) || decide (100 < p.grows)))) = true) := by
    rw [letP_any, h2]
    intro q
    rcases q with q | q | q | q
    · exact h (.inl q)
    · exact h (.inr (.inl q))
    · exact h (.inr (.inr q))
    · cases q
  unfold outOf Sy50.step
  dsimp only
  rw [if_neg h']
  exact ⟨rfl, rfl⟩
theorem out_day1 {s : St} {n : Nat} (h : n < 1 ∨ 10000 < n) : outOf s (.day n) = [-1] ∧ (Sy50.step s (.day n)).1 = s := by
  unfold outOf Sy50.step; dsimp only; rw [if_pos h]; exact ⟨rfl, rfl⟩
theorem out_day2 {s : St} {n : Nat} (h : ¬ (n < 1 ∨ 10000 < n)) (h2 : LAST < s.today + n) : outOf s (.day n) = [-5] ∧ (Sy50.step s (.day n)).1 = s := by
  unfold outOf Sy50.step; dsimp only; rw [if_neg h, if_pos h2]; exact ⟨rfl, rfl⟩
theorem out_day3 {s : St} {n : Nat} (h : ¬ (n < 1 ∨ 10000 < n)) (h2 : ¬ LAST < s.today + n) : outOf s (.day n) = [((s.today + n : Nat) : Int)] ∧ (Sy50.step s (.day n)).1 = { s with today := s.today + n } := by
  unfold outOf Sy50.step; dsimp only; rw [if_neg h, if_neg h2]; exact ⟨rfl, rfl⟩
/-- a call that ends in the entry x -/
def Ent (s : St) (c : Call) (x : Entry) : Prop := Sy50.step s c = Sy50.enter s x
theorem enter1 {s : St} {x : Entry} (h : 60 ≤ s.entries.length) : Sy50Neutral.out (Sy50.enter s x).2 = [-5] ∧ (Sy50.enter s x).1 = s := by
  unfold Sy50.enter; rw [if_pos (show ENTRIES ≤ s.entries.length from h)]; exact ⟨rfl, rfl⟩
theorem enter2 {s : St} {x : Entry} (h : ¬ 60 ≤ s.entries.length) : Sy50Neutral.out (Sy50.enter s x).2 = [(s.entries.length : Int)] ∧ (Sy50.enter s x).1 = { s with entries := s.entries ++ [x] } := by
  unfold Sy50.enter; rw [if_neg (show ¬ ENTRIES ≤ s.entries.length from h)]; exact ⟨rfl, rfl⟩
theorem out_found1 {s : St} {k d c : Nat} (h : s.parts.length ≤ k) : outOf s (.found k d c) = [-2] ∧ (Sy50.step s (.found k d c)).1 = s := by
  unfold outOf Sy50.step; dsimp only; rw [if_pos h]; exact ⟨rfl, rfl⟩
theorem out_found2 {s : St} {k d c : Nat} (h : ¬ s.parts.length ≤ k) (h2 : s.today < d ∨ 1000 < c) : outOf s (.found k d c) = [-1] ∧ (Sy50.step s (.found k d c)).1 = s := by
  unfold outOf Sy50.step; dsimp only; rw [if_neg h, if_pos h2]; exact ⟨rfl, rfl⟩
theorem out_found3 {s : St} {k d c : Nat} (h : ¬ s.parts.length ≤ k) (h2 : ¬ (s.today < d ∨ 1000 < c)) : Ent s (.found k d c) (.found k d c) := by
  unfold Ent Sy50.step; dsimp only; rw [if_neg h, if_neg h2]
theorem out_mended1 {s : St} {k d : Nat} (h : s.parts.length ≤ k) : outOf s (.mended k d) = [-2] ∧ (Sy50.step s (.mended k d)).1 = s := by
  unfold outOf Sy50.step; dsimp only; rw [if_pos h]; exact ⟨rfl, rfl⟩
theorem out_mended2 {s : St} {k d : Nat} (h : ¬ s.parts.length ≤ k) (h2 : s.today < d) : outOf s (.mended k d) = [-1] ∧ (Sy50.step s (.mended k d)).1 = s := by
  unfold outOf Sy50.step; dsimp only; rw [if_neg h, if_pos h2]; exact ⟨rfl, rfl⟩
theorem out_mended3 {s : St} {k d : Nat} (h : ¬ s.parts.length ≤ k) (h2 : ¬ s.today < d) : Ent s (.mended k d) (.mended k d) := by
  unfold Ent Sy50.step; dsimp only; rw [if_neg h, if_neg h2]
def kindOf : Entry → Nat
  | .found _ _ _ => 0
  | .mended _ _ => 1
  | .struck _ => 2
  | .right_ _ _ => 3
theorem out_strike1 {s : St} {e : Nat} (h : s.entries.length ≤ e) : outOf s (.strike e) = [-2] ∧ (Sy50.step s (.strike e)).1 = s := by
  unfold outOf Sy50.step; dsimp only; rw [List.getElem?_eq_none h]; exact ⟨rfl, rfl⟩
theorem out_strike2 {s : St} {e : Nat} {x : Entry} (h : s.entries[e]? = some x) (h2 : isStruck s.entries e = true ∨ 2 ≤ kindOf x) : outOf s (.strike e) = [-4] ∧ (Sy50.step s (.strike e)).1 = s := by
  unfold outOf Sy50.step
  dsimp only
  rw [h]
  cases x with
  | struck _ => exact ⟨rfl, rfl⟩
  | right_ _ _ => exact ⟨rfl, rfl⟩
  | found p d c =>
    have h3 : isStruck s.entries e = true := by
      rcases h2 with h2 | h2
      · exact h2
      · exact absurd h2 (by show ¬ 2 ≤ 0; omega)
    dsimp only
    rw [if_pos h3]; exact ⟨rfl, rfl⟩
  | mended p d =>
    have h3 : isStruck s.entries e = true := by
      rcases h2 with h2 | h2
      · exact h2
      · exact absurd h2 (by show ¬ 2 ≤ 1; omega)
    dsimp only
    rw [if_pos h3]; exact ⟨rfl, rfl⟩
theorem out_strike3 {s : St} {e : Nat} {x : Entry} (h : s.entries[e]? = some x) (h2 : isStruck s.entries e = false) (h3 : ¬ 2 ≤ kindOf x) : Ent s (.strike e) (.struck e) := by
  unfold Ent Sy50.step
  dsimp only
  rw [h]
  cases x with
  | struck _ => exact absurd (by show 2 ≤ 2; omega) h3
  | right_ _ _ => exact absurd (by show 2 ≤ 3; omega) h3
  | found p d c => dsimp only; rw [if_neg (by rw [h2]; decide)]
  | mended p d => dsimp only; rw [if_neg (by rw [h2]; decide)]
theorem out_right1 {s : St} {e c : Nat} (h : s.entries.length ≤ e) : outOf s (.right_ e c) = [-2] ∧ (Sy50.step s (.right_ e c)).1 = s := by
  unfold outOf Sy50.step; dsimp only; rw [List.getElem?_eq_none h]; exact ⟨rfl, rfl⟩
theorem out_right2 {s : St} {e c : Nat} {x : Entry} (h : s.entries[e]? = some x) (h2 : isStruck s.entries e = true ∨ kindOf x ≠ 0) : outOf s (.right_ e c) = [-4] ∧ (Sy50.step s (.right_ e c)).1 = s := by
  unfold outOf Sy50.step
  dsimp only
  rw [h]
  cases x with
  | struck _ => exact ⟨rfl, rfl⟩
  | right_ _ _ => exact ⟨rfl, rfl⟩
  | mended _ _ => exact ⟨rfl, rfl⟩
  | found p d c =>
    have h3 : isStruck s.entries e = true := by
      rcases h2 with h2 | h2
      · exact h2
      · exact absurd rfl h2
    dsimp only
    rw [if_pos h3]; exact ⟨rfl, rfl⟩
theorem out_right3 {s : St} {e c : Nat} {x : Entry} (h : s.entries[e]? = some x) (h2 : isStruck s.entries e = false) (h3 : kindOf x = 0) (h4 : 1000 < c) : outOf s (.right_ e c) = [-1] ∧ (Sy50.step s (.right_ e c)).1 = s := by
  unfold outOf Sy50.step
  dsimp only
  rw [h]
  cases x with
  | struck _ => exact absurd h3 (by show ¬ 2 = 0; omega)
  | right_ _ _ => exact absurd h3 (by show ¬ 3 = 0; omega)
  | mended _ _ => exact absurd h3 (by show ¬ 1 = 0; omega)
  | found p d c' => dsimp only; rw [if_neg (by rw [h2]; decide), if_pos h4]; exact ⟨rfl, rfl⟩
theorem out_right4 {s : St} {e c : Nat} {x : Entry} (h : s.entries[e]? = some x) (h2 : isStruck s.entries e = false) (h3 : kindOf x = 0) (h4 : ¬ 1000 < c) : Ent s (.right_ e c) (.right_ e c) := by
  unfold Ent Sy50.step
  dsimp only
  rw [h]
  cases x with
  | struck _ => exact absurd h3 (by show ¬ 2 = 0; omega)
  | right_ _ _ => exact absurd h3 (by show ¬ 3 = 0; omega)
  | mended _ _ => exact absurd h3 (by show ¬ 1 = 0; omega)
  | found p d c' => dsimp only; rw [if_neg (by rw [h2]; decide), if_neg h4]
theorem out_post1 {s : St} (h : 60 ≤ s.posts.length) : outOf s .post = [-5] ∧ (Sy50.step s .post).1 = s := by
  unfold outOf Sy50.step; dsimp only; rw [if_pos (show ENTRIES ≤ s.posts.length from h)]; exact ⟨rfl, rfl⟩
theorem out_post2 {s : St} (h : ¬ 60 ≤ s.posts.length) : outOf s .post = [(Sy50.limit s s.today s.entries.length : Int)] ∧ (Sy50.step s .post).1 = { s with posts := s.posts ++ [⟨s.today, s.entries.length, Sy50.limit s s.today s.entries.length⟩] } := by
  unfold outOf Sy50.step; dsimp only; rw [if_neg (show ¬ ENTRIES ≤ s.posts.length from h)]; exact ⟨rfl, rfl⟩
end Br

end
section
set_option Elab.async false
set_option linter.all false
set_option maxRecDepth 100000
/-! The calls, one by one: what is handed in, told by the specification's own reading. -/
namespace Br
open Sy50
inductive Dec : Int → List Int → Call → Prop
  | begins (l : List Nat) : Dec 0 (Sy50.ints l) (.begins l)
  | day (a : Nat) : Dec 1 [(a : Int)] (.day a)
  | found (a b c : Nat) : Dec 2 [(a : Int), (b : Int), (c : Int)] (.found a b c)
  | mended (a b : Nat) : Dec 3 [(a : Int), (b : Int)] (.mended a b)
  | strike (a : Nat) : Dec 4 [(a : Int)] (.strike a)
  | right_ (a b : Nat) : Dec 5 [(a : Int), (b : Int)] (.right_ a b)
  | post : Dec 6 [] .post
  | known (a b c : Nat) : Dec 7 [(a : Int), (b : Int), (c : Int)] (.known a b c)
  | limit (a b : Nat) : Dec 8 [(a : Int), (b : Int)] (.limit a b)
  | posted (a : Nat) : Dec 9 [(a : Int)] (.posted a)
  | wrong (a b : Nat) : Dec 10 [(a : Int), (b : Int)] (.wrong a b)
  | falls (a : Nat) : Dec 11 [(a : Int)] (.falls a)
  | due (a : Nat) : Dec 12 [(a : Int)] (.due a)
  | changes (a b : Nat) : Dec 13 [(a : Int), (b : Int)] (.changes a b)
  | state : Dec 14 [] .state
def flat (c : List (List Int)) : Int × List Int := match c with
  | [[_], r] => (0, r)
  | [p :: xs] => (p, xs)
  | _ => (0, [])
theorem natIn_ok {x : Int} {l : List Int} (h0 : 0 ≤ x) (h1 : x ≤ 4294967295) : Sy50Neutral.natIn (x :: l) = some (x.toNat, l) := by
  show (if 0 ≤ x ∧ x < 2 ^ 32 then some (x.toNat, l) else none) = _
  rw [if_pos ⟨h0, by omega⟩]
theorem many_ok : ∀ (r : List Int), (∀ x ∈ r, 0 ≤ x ∧ x ≤ 4294967295) → Sy50Neutral.many_ Sy50Neutral.natIn r.length r = some (r.map Int.toNat, [])
  | [], _ => rfl
  | x :: r, h => by
    have h0 := h x List.mem_cons_self
    show ((Sy50Neutral.natIn (x :: r)).bind fun (y : Nat × List Int) => (Sy50Neutral.many_ Sy50Neutral.natIn r.length y.2).map fun (z : List Nat × List Int) => (y.1 :: z.1, z.2)) = _
    rw [natIn_ok h0.1 h0.2]
    show (Sy50Neutral.many_ Sy50Neutral.natIn r.length r).map _ = _
    rw [many_ok r fun y m => h y (List.mem_cons_of_mem _ m)]
    rfl
theorem all_ok (r : List Int) (h : ∀ x ∈ r, 0 ≤ x ∧ x ≤ 4294967295) : Sy50Neutral.all_ (Sy50Neutral.some_ r.length r) = some (r.map Int.toNat) := by
  unfold Sy50Neutral.some_ Sy50Neutral.all_
  rw [many_ok r h]
  rfl
theorem ints_toNat : ∀ (r : List Int), (∀ x ∈ r, 0 ≤ x ∧ x ≤ 4294967295) → Sy50.ints (r.map Int.toNat) = r
  | [], _ => rfl
  | x :: r, h => by
    have h0 := (h x List.mem_cons_self).1
    have ih := ints_toNat r fun y m => h y (List.mem_cons_of_mem _ m)
    unfold Sy50.ints at *
    rw [List.map_cons, List.map_cons, ih]
    congr 1
    omega
theorem within_iff {z : Int} (h : PyInside.within 0 4294967295 z = true) : 0 ≤ z ∧ z ≤ 4294967295 := by
  unfold PyInside.within at h
  rw [Bool.and_eq_true] at h
  exact ⟨of_decide_eq_true h.1, of_decide_eq_true h.2⟩
theorem dec_begins {r : List Int} (h : PyInside.call PySy50.bound [[0], r] = true) : Dec 0 r (.begins (r.map Int.toNat)) ∧ Sy50Neutral.callOf ((PySy50.whole [[0], r]).headD []) = some (.begins (r.map Int.toNat)) := by
  have h' : (true && (((decide (0 ≤ r.length) && decide (r.length ≤ 60)) && r.all (PyInside.within 0 4294967295)) && true)) = true := h
  simp only [Bool.true_and, Bool.and_true, Bool.and_eq_true] at h'
  have hx : ∀ x ∈ r, 0 ≤ x ∧ x ≤ 4294967295 := fun x m => within_iff (List.all_eq_true.mp h'.2 x m)
  have hl : r.length ≤ 60 := of_decide_eq_true h'.1.2
  constructor
  · have e := ints_toNat r hx
    have d := Dec.begins (r.map Int.toNat)
    rw [e] at d
    exact d
  · show Sy50Neutral.callOf (0 :: (r.length : Int) :: r) = _
    have e : Sy50Neutral.rowIn ((r.length : Int) :: r) = some (r.map Int.toNat, []) := by
      show (if 0 ≤ (r.length : Int) ∧ (r.length : Int) ≤ 60 then Sy50Neutral.many_ Sy50Neutral.natIn (r.length : Int).toNat r else none) = _
      rw [if_pos (by omega), Int.toNat_natCast, many_ok r hx]
    show (Sy50Neutral.all_ (Sy50Neutral.rowIn ((r.length : Int) :: r))).map _ = _
    rw [e]
    rfl
theorem dec_1 {x0 : Int} (h : PyInside.call PySy50.bound [[1, x0]] = true) : Dec 1 [x0] (.day x0.toNat) ∧ Sy50Neutral.callOf ((PySy50.whole [[1, x0]]).headD []) = some (.day x0.toNat) := by
  have h1 : ((PyInside.within 0 4294967295 x0 && true) && true) = true := h
  simp only [Bool.and_true, Bool.and_eq_true] at h1
  have b0 := within_iff h1
  have e0 : ((x0.toNat : Nat) : Int) = x0 := by omega
  constructor
  · have d := Dec.day x0.toNat
    rw [e0] at d
    exact d
  · show (Sy50Neutral.all_ (Sy50Neutral.some_ 1 [x0])).map _ = _
    have q := all_ok [x0] (by intro y m; simp only [List.mem_cons, List.not_mem_nil, or_false] at m; rcases m with rfl <;> assumption)
    have q2 : Sy50Neutral.all_ (Sy50Neutral.some_ 1 [x0]) = some [x0.toNat] := q
    rw [q2]
    rfl
theorem dec_2 {x0 x1 x2 : Int} (h : PyInside.call PySy50.bound [[2, x0, x1, x2]] = true) : Dec 2 [x0, x1, x2] (.found x0.toNat x1.toNat x2.toNat) ∧ Sy50Neutral.callOf ((PySy50.whole [[2, x0, x1, x2]]).headD []) = some (.found x0.toNat x1.toNat x2.toNat) := by
  have h1 : ((PyInside.within 0 4294967295 x0 && (PyInside.within 0 4294967295 x1 && (PyInside.within 0 4294967295 x2 && true))) && true) = true := h
  simp only [Bool.and_true, Bool.and_eq_true] at h1
  have b0 := within_iff h1.1
  have b1 := within_iff h1.2.1
  have b2 := within_iff h1.2.2
  have e0 : ((x0.toNat : Nat) : Int) = x0 := by omega
  have e1 : ((x1.toNat : Nat) : Int) = x1 := by omega
  have e2 : ((x2.toNat : Nat) : Int) = x2 := by omega
  constructor
  · have d := Dec.found x0.toNat x1.toNat x2.toNat
    rw [e0, e1, e2] at d
    exact d
  · show (Sy50Neutral.all_ (Sy50Neutral.some_ 3 [x0, x1, x2])).map _ = _
    have q := all_ok [x0, x1, x2] (by intro y m; simp only [List.mem_cons, List.not_mem_nil, or_false] at m; rcases m with rfl | rfl | rfl <;> assumption)
    have q2 : Sy50Neutral.all_ (Sy50Neutral.some_ 3 [x0, x1, x2]) = some [x0.toNat, x1.toNat, x2.toNat] := q
    rw [q2]
    rfl
theorem dec_3 {x0 x1 : Int} (h : PyInside.call PySy50.bound [[3, x0, x1]] = true) : Dec 3 [x0, x1] (.mended x0.toNat x1.toNat) ∧ Sy50Neutral.callOf ((PySy50.whole [[3, x0, x1]]).headD []) = some (.mended x0.toNat x1.toNat) := by
  have h1 : ((PyInside.within 0 4294967295 x0 && (PyInside.within 0 4294967295 x1 && true)) && true) = true := h
  simp only [Bool.and_true, Bool.and_eq_true] at h1
  have b0 := within_iff h1.1
  have b1 := within_iff h1.2
  have e0 : ((x0.toNat : Nat) : Int) = x0 := by omega
  have e1 : ((x1.toNat : Nat) : Int) = x1 := by omega
  constructor
  · have d := Dec.mended x0.toNat x1.toNat
    rw [e0, e1] at d
    exact d
  · show (Sy50Neutral.all_ (Sy50Neutral.some_ 2 [x0, x1])).map _ = _
    have q := all_ok [x0, x1] (by intro y m; simp only [List.mem_cons, List.not_mem_nil, or_false] at m; rcases m with rfl | rfl <;> assumption)
    have q2 : Sy50Neutral.all_ (Sy50Neutral.some_ 2 [x0, x1]) = some [x0.toNat, x1.toNat] := q
    rw [q2]
    rfl
theorem dec_4 {x0 : Int} (h : PyInside.call PySy50.bound [[4, x0]] = true) : Dec 4 [x0] (.strike x0.toNat) ∧ Sy50Neutral.callOf ((PySy50.whole [[4, x0]]).headD []) = some (.strike x0.toNat) := by
  have h1 : ((PyInside.within 0 4294967295 x0 && true) && true) = true := h
  simp only [Bool.and_true, Bool.and_eq_true] at h1
  have b0 := within_iff h1
  have e0 : ((x0.toNat : Nat) : Int) = x0 := by omega
  constructor
  · have d := Dec.strike x0.toNat
    rw [e0] at d
    exact d
  · show (Sy50Neutral.all_ (Sy50Neutral.some_ 1 [x0])).map _ = _
    have q := all_ok [x0] (by intro y m; simp only [List.mem_cons, List.not_mem_nil, or_false] at m; rcases m with rfl <;> assumption)
    have q2 : Sy50Neutral.all_ (Sy50Neutral.some_ 1 [x0]) = some [x0.toNat] := q
    rw [q2]
    rfl
theorem dec_5 {x0 x1 : Int} (h : PyInside.call PySy50.bound [[5, x0, x1]] = true) : Dec 5 [x0, x1] (.right_ x0.toNat x1.toNat) ∧ Sy50Neutral.callOf ((PySy50.whole [[5, x0, x1]]).headD []) = some (.right_ x0.toNat x1.toNat) := by
  have h1 : ((PyInside.within 0 4294967295 x0 && (PyInside.within 0 4294967295 x1 && true)) && true) = true := h
  simp only [Bool.and_true, Bool.and_eq_true] at h1
  have b0 := within_iff h1.1
  have b1 := within_iff h1.2
  have e0 : ((x0.toNat : Nat) : Int) = x0 := by omega
  have e1 : ((x1.toNat : Nat) : Int) = x1 := by omega
  constructor
  · have d := Dec.right_ x0.toNat x1.toNat
    rw [e0, e1] at d
    exact d
  · show (Sy50Neutral.all_ (Sy50Neutral.some_ 2 [x0, x1])).map _ = _
    have q := all_ok [x0, x1] (by intro y m; simp only [List.mem_cons, List.not_mem_nil, or_false] at m; rcases m with rfl | rfl <;> assumption)
    have q2 : Sy50Neutral.all_ (Sy50Neutral.some_ 2 [x0, x1]) = some [x0.toNat, x1.toNat] := q
    rw [q2]
    rfl
theorem dec_6 (h : PyInside.call PySy50.bound [[6]] = true) : Dec 6 [] .post ∧ Sy50Neutral.callOf ((PySy50.whole [[6]]).headD []) = some .post := by
  exact ⟨.post, rfl⟩
theorem dec_7 {x0 x1 x2 : Int} (h : PyInside.call PySy50.bound [[7, x0, x1, x2]] = true) : Dec 7 [x0, x1, x2] (.known x0.toNat x1.toNat x2.toNat) ∧ Sy50Neutral.callOf ((PySy50.whole [[7, x0, x1, x2]]).headD []) = some (.known x0.toNat x1.toNat x2.toNat) := by
  have h1 : ((PyInside.within 0 4294967295 x0 && (PyInside.within 0 4294967295 x1 && (PyInside.within 0 4294967295 x2 && true))) && true) = true := h
  simp only [Bool.and_true, Bool.and_eq_true] at h1
  have b0 := within_iff h1.1
  have b1 := within_iff h1.2.1
  have b2 := within_iff h1.2.2
  have e0 : ((x0.toNat : Nat) : Int) = x0 := by omega
  have e1 : ((x1.toNat : Nat) : Int) = x1 := by omega
  have e2 : ((x2.toNat : Nat) : Int) = x2 := by omega
  constructor
  · have d := Dec.known x0.toNat x1.toNat x2.toNat
    rw [e0, e1, e2] at d
    exact d
  · show (Sy50Neutral.all_ (Sy50Neutral.some_ 3 [x0, x1, x2])).map _ = _
    have q := all_ok [x0, x1, x2] (by intro y m; simp only [List.mem_cons, List.not_mem_nil, or_false] at m; rcases m with rfl | rfl | rfl <;> assumption)
    have q2 : Sy50Neutral.all_ (Sy50Neutral.some_ 3 [x0, x1, x2]) = some [x0.toNat, x1.toNat, x2.toNat] := q
    rw [q2]
    rfl
theorem dec_8 {x0 x1 : Int} (h : PyInside.call PySy50.bound [[8, x0, x1]] = true) : Dec 8 [x0, x1] (.limit x0.toNat x1.toNat) ∧ Sy50Neutral.callOf ((PySy50.whole [[8, x0, x1]]).headD []) = some (.limit x0.toNat x1.toNat) := by
  have h1 : ((PyInside.within 0 4294967295 x0 && (PyInside.within 0 4294967295 x1 && true)) && true) = true := h
  simp only [Bool.and_true, Bool.and_eq_true] at h1
  have b0 := within_iff h1.1
  have b1 := within_iff h1.2
  have e0 : ((x0.toNat : Nat) : Int) = x0 := by omega
  have e1 : ((x1.toNat : Nat) : Int) = x1 := by omega
  constructor
  · have d := Dec.limit x0.toNat x1.toNat
    rw [e0, e1] at d
    exact d
  · show (Sy50Neutral.all_ (Sy50Neutral.some_ 2 [x0, x1])).map _ = _
    have q := all_ok [x0, x1] (by intro y m; simp only [List.mem_cons, List.not_mem_nil, or_false] at m; rcases m with rfl | rfl <;> assumption)
    have q2 : Sy50Neutral.all_ (Sy50Neutral.some_ 2 [x0, x1]) = some [x0.toNat, x1.toNat] := q
    rw [q2]
    rfl
theorem dec_9 {x0 : Int} (h : PyInside.call PySy50.bound [[9, x0]] = true) : Dec 9 [x0] (.posted x0.toNat) ∧ Sy50Neutral.callOf ((PySy50.whole [[9, x0]]).headD []) = some (.posted x0.toNat) := by
  have h1 : ((PyInside.within 0 4294967295 x0 && true) && true) = true := h
  simp only [Bool.and_true, Bool.and_eq_true] at h1
  have b0 := within_iff h1
  have e0 : ((x0.toNat : Nat) : Int) = x0 := by omega
  constructor
  · have d := Dec.posted x0.toNat
    rw [e0] at d
    exact d
  · show (Sy50Neutral.all_ (Sy50Neutral.some_ 1 [x0])).map _ = _
    have q := all_ok [x0] (by intro y m; simp only [List.mem_cons, List.not_mem_nil, or_false] at m; rcases m with rfl <;> assumption)
    have q2 : Sy50Neutral.all_ (Sy50Neutral.some_ 1 [x0]) = some [x0.toNat] := q
    rw [q2]
    rfl
theorem dec_10 {x0 x1 : Int} (h : PyInside.call PySy50.bound [[10, x0, x1]] = true) : Dec 10 [x0, x1] (.wrong x0.toNat x1.toNat) ∧ Sy50Neutral.callOf ((PySy50.whole [[10, x0, x1]]).headD []) = some (.wrong x0.toNat x1.toNat) := by
  have h1 : ((PyInside.within 0 4294967295 x0 && (PyInside.within 0 4294967295 x1 && true)) && true) = true := h
  simp only [Bool.and_true, Bool.and_eq_true] at h1
  have b0 := within_iff h1.1
  have b1 := within_iff h1.2
  have e0 : ((x0.toNat : Nat) : Int) = x0 := by omega
  have e1 : ((x1.toNat : Nat) : Int) = x1 := by omega
  constructor
  · have d := Dec.wrong x0.toNat x1.toNat
    rw [e0, e1] at d
    exact d
  · show (Sy50Neutral.all_ (Sy50Neutral.some_ 2 [x0, x1])).map _ = _
    have q := all_ok [x0, x1] (by intro y m; simp only [List.mem_cons, List.not_mem_nil, or_false] at m; rcases m with rfl | rfl <;> assumption)
    have q2 : Sy50Neutral.all_ (Sy50Neutral.some_ 2 [x0, x1]) = some [x0.toNat, x1.toNat] := q
    rw [q2]
    rfl
theorem dec_11 {x0 : Int} (h : PyInside.call PySy50.bound [[11, x0]] = true) : Dec 11 [x0] (.falls x0.toNat) ∧ Sy50Neutral.callOf ((PySy50.whole [[11, x0]]).headD []) = some (.falls x0.toNat) := by
  have h1 : ((PyInside.within 0 4294967295 x0 && true) && true) = true := h
  simp only [Bool.and_true, Bool.and_eq_true] at h1
  have b0 := within_iff h1
  have e0 : ((x0.toNat : Nat) : Int) = x0 := by omega
  constructor
  · have d := Dec.falls x0.toNat
    rw [e0] at d
    exact d
  · show (Sy50Neutral.all_ (Sy50Neutral.some_ 1 [x0])).map _ = _
    have q := all_ok [x0] (by intro y m; simp only [List.mem_cons, List.not_mem_nil, or_false] at m; rcases m with rfl <;> assumption)
    have q2 : Sy50Neutral.all_ (Sy50Neutral.some_ 1 [x0]) = some [x0.toNat] := q
    rw [q2]
    rfl
theorem dec_12 {x0 : Int} (h : PyInside.call PySy50.bound [[12, x0]] = true) : Dec 12 [x0] (.due x0.toNat) ∧ Sy50Neutral.callOf ((PySy50.whole [[12, x0]]).headD []) = some (.due x0.toNat) := by
  have h1 : ((PyInside.within 0 4294967295 x0 && true) && true) = true := h
  simp only [Bool.and_true, Bool.and_eq_true] at h1
  have b0 := within_iff h1
  have e0 : ((x0.toNat : Nat) : Int) = x0 := by omega
  constructor
  · have d := Dec.due x0.toNat
    rw [e0] at d
    exact d
  · show (Sy50Neutral.all_ (Sy50Neutral.some_ 1 [x0])).map _ = _
    have q := all_ok [x0] (by intro y m; simp only [List.mem_cons, List.not_mem_nil, or_false] at m; rcases m with rfl <;> assumption)
    have q2 : Sy50Neutral.all_ (Sy50Neutral.some_ 1 [x0]) = some [x0.toNat] := q
    rw [q2]
    rfl
theorem dec_13 {x0 x1 : Int} (h : PyInside.call PySy50.bound [[13, x0, x1]] = true) : Dec 13 [x0, x1] (.changes x0.toNat x1.toNat) ∧ Sy50Neutral.callOf ((PySy50.whole [[13, x0, x1]]).headD []) = some (.changes x0.toNat x1.toNat) := by
  have h1 : ((PyInside.within 0 4294967295 x0 && (PyInside.within 0 4294967295 x1 && true)) && true) = true := h
  simp only [Bool.and_true, Bool.and_eq_true] at h1
  have b0 := within_iff h1.1
  have b1 := within_iff h1.2
  have e0 : ((x0.toNat : Nat) : Int) = x0 := by omega
  have e1 : ((x1.toNat : Nat) : Int) = x1 := by omega
  constructor
  · have d := Dec.changes x0.toNat x1.toNat
    rw [e0, e1] at d
    exact d
  · show (Sy50Neutral.all_ (Sy50Neutral.some_ 2 [x0, x1])).map _ = _
    have q := all_ok [x0, x1] (by intro y m; simp only [List.mem_cons, List.not_mem_nil, or_false] at m; rcases m with rfl | rfl <;> assumption)
    have q2 : Sy50Neutral.all_ (Sy50Neutral.some_ 2 [x0, x1]) = some [x0.toNat, x1.toNat] := q
    rw [q2]
    rfl
theorem dec_14 (h : PyInside.call PySy50.bound [[14]] = true) : Dec 14 [] .state ∧ Sy50Neutral.callOf ((PySy50.whole [[14]]).headD []) = some .state := by
  exact ⟨.state, rfl⟩
/-- how many numbers stand behind a call's own -/
def hn (p : Nat) : Nat := [0, 1, 3, 2, 1, 2, 0, 3, 2, 1, 2, 1, 1, 2, 0].getD p 0
theorem shape_at {p : Int} {n k : Nat} (h : PySy50.shape p = some (n, k)) : ∃ j : Nat, p = (j : Int) ∧ j < 15 ∧ n = hn j ∧ k = if j = 0 then 1 else 0 := by
  unfold PySy50.shape at h
  by_cases h0 : p = 0
  · rw [if_pos h0] at h; cases h; exact ⟨0, h0, by decide, rfl, rfl⟩
  rw [if_neg h0] at h
  by_cases h1 : p = 1
  · rw [if_pos h1] at h; cases h; exact ⟨1, h1, by decide, rfl, rfl⟩
  rw [if_neg h1] at h
  by_cases h2 : p = 2
  · rw [if_pos h2] at h; cases h; exact ⟨2, h2, by decide, rfl, rfl⟩
  rw [if_neg h2] at h
  by_cases h3 : p = 3
  · rw [if_pos h3] at h; cases h; exact ⟨3, h3, by decide, rfl, rfl⟩
  rw [if_neg h3] at h
  by_cases h4 : p = 4
  · rw [if_pos h4] at h; cases h; exact ⟨4, h4, by decide, rfl, rfl⟩
  rw [if_neg h4] at h
  by_cases h5 : p = 5
  · rw [if_pos h5] at h; cases h; exact ⟨5, h5, by decide, rfl, rfl⟩
  rw [if_neg h5] at h
  by_cases h6 : p = 6
  · rw [if_pos h6] at h; cases h; exact ⟨6, h6, by decide, rfl, rfl⟩
  rw [if_neg h6] at h
  by_cases h7 : p = 7
  · rw [if_pos h7] at h; cases h; exact ⟨7, h7, by decide, rfl, rfl⟩
  rw [if_neg h7] at h
  by_cases h8 : p = 8
  · rw [if_pos h8] at h; cases h; exact ⟨8, h8, by decide, rfl, rfl⟩
  rw [if_neg h8] at h
  by_cases h9 : p = 9
  · rw [if_pos h9] at h; cases h; exact ⟨9, h9, by decide, rfl, rfl⟩
  rw [if_neg h9] at h
  by_cases h10 : p = 10
  · rw [if_pos h10] at h; cases h; exact ⟨10, h10, by decide, rfl, rfl⟩
  rw [if_neg h10] at h
  by_cases h11 : p = 11
  · rw [if_pos h11] at h; cases h; exact ⟨11, h11, by decide, rfl, rfl⟩
  rw [if_neg h11] at h
  by_cases h12 : p = 12
  · rw [if_pos h12] at h; cases h; exact ⟨12, h12, by decide, rfl, rfl⟩
  rw [if_neg h12] at h
  by_cases h13 : p = 13
  · rw [if_pos h13] at h; cases h; exact ⟨13, h13, by decide, rfl, rfl⟩
  rw [if_neg h13] at h
  by_cases h14 : p = 14
  · rw [if_pos h14] at h; cases h; exact ⟨14, h14, by decide, rfl, rfl⟩
  rw [if_neg h14] at h
  cases h
/-- one call of the list: its number, what is handed to it, the rest -/
theorem call_at {p : Int} {r : List Int} {c : List (List Int)} {t : List Int} (h : PyFlat.call PySy50.shape (p :: r) = some (c, t)) :
    (p = 0 ∧ ∃ (m : Nat) (r' : List Int), r = (m : Int) :: r' ∧ m ≤ r'.length ∧ c = [[0], r'.take m] ∧ t = r'.drop m) ∨
    (∃ j : Nat, p = (j : Int) ∧ 0 < j ∧ j < 15 ∧ hn j ≤ r.length ∧ c = [p :: r.take (hn j)] ∧ t = r.drop (hn j)) := by
  unfold PyFlat.call at h
  dsimp only at h
  cases hs : PySy50.shape p with
  | none => rw [hs] at h; cases h
  | some nk =>
    obtain ⟨n, k⟩ := nk
    rw [hs] at h
    obtain ⟨j, rfl, hj, rfl, rfl⟩ := shape_at hs
    dsimp only at h
    by_cases hl : r.length < hn j
    · rw [if_pos hl] at h; cases h
    rw [if_neg hl] at h
    by_cases j0 : j = 0
    · subst j0
      left
      refine ⟨rfl, ?_⟩
      rw [if_pos rfl] at h
      have e0 : hn 0 = 0 := rfl
      rw [e0, List.drop_zero, List.take_zero] at h
      cases r with
      | nil => cases h
      | cons m r' =>
        by_cases hm : 0 ≤ m ∧ m.toNat ≤ r'.length
        · have e1 : PyFlat.rows 1 (m :: r') = some ([r'.take m.toNat], r'.drop m.toNat) := by
            unfold PyFlat.rows PyFlat.row
            dsimp only
            rw [if_pos hm]
            rfl
          rw [e1] at h
          cases h
          refine ⟨m.toNat, r', ?_, hm.2, rfl, rfl⟩
          congr 1
          omega
        · have e1 : PyFlat.rows 1 (m :: r') = none := by
            unfold PyFlat.rows PyFlat.row
            dsimp only
            rw [if_neg hm]
          rw [e1] at h
          cases h
    · right
      rw [if_neg j0] at h
      have e1 : PyFlat.rows 0 (r.drop (hn j)) = some ([], r.drop (hn j)) := rfl
      rw [e1] at h
      cases h
      exact ⟨j, rfl, by omega, hj, by omega, rfl, rfl⟩
theorem dec_at {p : Int} {r : List Int} {c : List (List Int)} {t : List Int} (h : PyFlat.call PySy50.shape (p :: r) = some (c, t)) (hb : PyInside.call PySy50.bound c = true) :
    ∃ x, Dec (flat c).1 (flat c).2 x ∧ Sy50Neutral.callOf ((PySy50.whole c).headD []) = some x := by
  rcases call_at h with ⟨rfl, m, r', rfl, hm, rfl, rfl⟩ | ⟨j, rfl, j0, j15, hl, rfl, rfl⟩
  · exact ⟨_, dec_begins hb⟩
  · match j, j0, j15, hl, hb with
    | 1, _, _, hl, hb =>
      match r, hl, hb with
      | x0 :: _, _, hb => exact ⟨_, dec_1 hb⟩
      | [], hl, _ => exact absurd hl (by show ¬ 1 ≤ 0; omega)
    | 2, _, _, hl, hb =>
      match r, hl, hb with
      | x0 :: x1 :: x2 :: _, _, hb => exact ⟨_, dec_2 hb⟩
      | [], hl, _ => exact absurd hl (by show ¬ 3 ≤ 0; omega)
      | [_], hl, _ => exact absurd hl (by show ¬ 3 ≤ 1; omega)
      | [_, _], hl, _ => exact absurd hl (by show ¬ 3 ≤ 2; omega)
    | 3, _, _, hl, hb =>
      match r, hl, hb with
      | x0 :: x1 :: _, _, hb => exact ⟨_, dec_3 hb⟩
      | [], hl, _ => exact absurd hl (by show ¬ 2 ≤ 0; omega)
      | [_], hl, _ => exact absurd hl (by show ¬ 2 ≤ 1; omega)
    | 4, _, _, hl, hb =>
      match r, hl, hb with
      | x0 :: _, _, hb => exact ⟨_, dec_4 hb⟩
      | [], hl, _ => exact absurd hl (by show ¬ 1 ≤ 0; omega)
    | 5, _, _, hl, hb =>
      match r, hl, hb with
      | x0 :: x1 :: _, _, hb => exact ⟨_, dec_5 hb⟩
      | [], hl, _ => exact absurd hl (by show ¬ 2 ≤ 0; omega)
      | [_], hl, _ => exact absurd hl (by show ¬ 2 ≤ 1; omega)
    | 6, _, _, hl, hb =>
      exact ⟨_, dec_6 hb⟩
    | 7, _, _, hl, hb =>
      match r, hl, hb with
      | x0 :: x1 :: x2 :: _, _, hb => exact ⟨_, dec_7 hb⟩
      | [], hl, _ => exact absurd hl (by show ¬ 3 ≤ 0; omega)
      | [_], hl, _ => exact absurd hl (by show ¬ 3 ≤ 1; omega)
      | [_, _], hl, _ => exact absurd hl (by show ¬ 3 ≤ 2; omega)
    | 8, _, _, hl, hb =>
      match r, hl, hb with
      | x0 :: x1 :: _, _, hb => exact ⟨_, dec_8 hb⟩
      | [], hl, _ => exact absurd hl (by show ¬ 2 ≤ 0; omega)
      | [_], hl, _ => exact absurd hl (by show ¬ 2 ≤ 1; omega)
    | 9, _, _, hl, hb =>
      match r, hl, hb with
      | x0 :: _, _, hb => exact ⟨_, dec_9 hb⟩
      | [], hl, _ => exact absurd hl (by show ¬ 1 ≤ 0; omega)
    | 10, _, _, hl, hb =>
      match r, hl, hb with
      | x0 :: x1 :: _, _, hb => exact ⟨_, dec_10 hb⟩
      | [], hl, _ => exact absurd hl (by show ¬ 2 ≤ 0; omega)
      | [_], hl, _ => exact absurd hl (by show ¬ 2 ≤ 1; omega)
    | 11, _, _, hl, hb =>
      match r, hl, hb with
      | x0 :: _, _, hb => exact ⟨_, dec_11 hb⟩
      | [], hl, _ => exact absurd hl (by show ¬ 1 ≤ 0; omega)
    | 12, _, _, hl, hb =>
      match r, hl, hb with
      | x0 :: _, _, hb => exact ⟨_, dec_12 hb⟩
      | [], hl, _ => exact absurd hl (by show ¬ 1 ≤ 0; omega)
    | 13, _, _, hl, hb =>
      match r, hl, hb with
      | x0 :: x1 :: _, _, hb => exact ⟨_, dec_13 hb⟩
      | [], hl, _ => exact absurd hl (by show ¬ 2 ≤ 0; omega)
      | [_], hl, _ => exact absurd hl (by show ¬ 2 ≤ 1; omega)
    | 14, _, _, hl, hb =>
      exact ⟨_, dec_14 hb⟩
end Br

end
section
set_option Elab.async false
set_option linter.all false
namespace Br
open Sy50
theorem calls_nil {f : Nat} {raw : List (List (List Int))} (h : PyFlat.calls PySy50.shape f [] = some raw) : raw = [] := by
  cases f <;> (cases h; rfl)
theorem calls_cons {f : Nat} {p : Int} {r : List Int} {raw : List (List (List Int))} (h : PyFlat.calls PySy50.shape f (p :: r) = some raw) :
    ∃ (f' : Nat) (c : List (List Int)) (t : List Int) (cs : List (List (List Int))), PyFlat.call PySy50.shape (p :: r) = some (c, t) ∧ PyFlat.calls PySy50.shape f' t = some cs ∧ raw = c :: cs := by
  cases f with
  | zero => cases h
  | succ f =>
    unfold PyFlat.calls at h
    cases hc : PyFlat.call PySy50.shape (p :: r) with
    | none => rw [hc] at h; cases h
    | some ct =>
      obtain ⟨c, t⟩ := ct
      rw [hc] at h
      dsimp only at h
      cases hs : PyFlat.calls PySy50.shape f t with
      | none => rw [hs] at h; cases h
      | some cs =>
        rw [hs] at h
        cases h
        exact ⟨f, c, t, cs, rfl, hs, rfl⟩
def xOf (c : List (List Int)) : Call := (Sy50Neutral.callOf ((PySy50.whole c).headD [])).getD .state
def COk (c : List (List Int)) : Prop := Dec (flat c).1 (flat c).2 (xOf c) ∧ Sy50Neutral.callOf ((PySy50.whole c).headD []) = some (xOf c)
theorem raw_ok : ∀ (f : Nat) (l : List Int) (raw : List (List (List Int))), PyFlat.calls PySy50.shape f l = some raw → PyInside.calls PySy50.bound raw = true → ∀ c ∈ raw, COk c := by
  intro f
  induction f with
  | zero =>
    intro l raw h _ c m
    cases l with
    | nil => cases h; cases m
    | cons p r => cases h
  | succ f ih =>
    intro l raw h hb c m
    cases l with
    | nil => cases h; cases m
    | cons p r =>
      unfold PyFlat.calls at h
      cases hc : PyFlat.call PySy50.shape (p :: r) with
      | none => rw [hc] at h; cases h
      | some ct =>
        obtain ⟨c0, t⟩ := ct
        rw [hc] at h
        dsimp only at h
        cases hs : PyFlat.calls PySy50.shape f t with
        | none => rw [hs] at h; cases h
        | some cs =>
          rw [hs] at h
          cases h
          unfold PyInside.calls at hb
          rw [List.all_cons, Bool.and_eq_true] at hb
          rcases List.mem_cons.mp m with rfl | m
          · obtain ⟨x, d, e⟩ := dec_at hc hb.1
            have ex : xOf c = x := by unfold xOf; rw [e]; rfl
            exact ⟨by rw [ex]; exact d, by rw [ex]; exact e⟩
          · exact ih t cs hs hb.2 c m

def runS : St → List Call → St
  | s, [] => s
  | s, x :: r => runS (Sy50.step s x).1 r
def runA : St → List Call → List Int
  | _, [] => []
  | s, x :: r => (((outOf s x).length : Int) :: outOf s x) ++ runA (Sy50.step s x).1 r
theorem runS_snoc : ∀ (l : List Call) (s : St) (x : Call), runS s (l ++ [x]) = (Sy50.step (runS s l) x).1
  | [], s, x => rfl
  | y :: l, s, x => runS_snoc l _ x
theorem runA_append : ∀ (l m : List Call) (s : St), runA s (l ++ m) = runA s l ++ runA (runS s l) m
  | [], m, s => rfl
  | y :: l, m, s => by
    show (((outOf s y).length : Int) :: outOf s y) ++ runA (Sy50.step s y).1 (l ++ m) = (((outOf s y).length : Int) :: outOf s y) ++ runA (Sy50.step s y).1 l ++ _
    rw [runA_append l m, List.append_assoc]
    rfl
theorem runA_snoc (l : List Call) (s : St) (x : Call) : runA s (l ++ [x]) = runA s l ++ (((outOf (runS s l) x).length : Int) :: outOf (runS s l) x) := by
  rw [runA_append]
  show runA s l ++ ((((outOf (runS s l) x).length : Int) :: outOf (runS s l) x) ++ []) = _
  rw [List.append_nil]
theorem runA_le (l : List Call) (s : St) (i : Nat) : (runA s (l.take i)).length ≤ (runA s l).length := by
  have e := runA_append (l.take i) (l.drop i) s
  rw [List.take_append_drop] at e
  rw [e, List.length_append]
  exact Nat.le_add_right _ _
theorem Good.run : ∀ (l : List Call) {s : St}, Good s → Good (runS s l)
  | [], s, g => g
  | x :: l, s, g => Good.run l (g.step x)
theorem told_run : ∀ (raw : List (List (List Int))) (s : St), (∀ c ∈ raw, COk c) → PyFlat.told (PyFlat.played (fun s c => Sy50Neutral.step s (c.headD [])) s (raw.map PySy50.whole)) = runA s (raw.map xOf)
  | [], s, _ => rfl
  | c :: raw, s, h => by
    have hc := (h c List.mem_cons_self).2
    have e : Sy50Neutral.step s ((PySy50.whole c).headD []) = ((Sy50.step s (xOf c)).1, outOf s (xOf c)) := by
      unfold Sy50Neutral.step
      rw [hc]
      rfl
    rw [List.map_cons, List.map_cons]
    show PyFlat.told ((Sy50Neutral.step s ((PySy50.whole c).headD [])).2 :: PyFlat.played _ (Sy50Neutral.step s ((PySy50.whole c).headD [])).1 (raw.map PySy50.whole)) = _
    rw [e]
    have ih := told_run raw (Sy50.step s (xOf c)).1 fun c m => h c (List.mem_cons_of_mem _ m)
    unfold PyFlat.told at ih ⊢
    rw [List.flatMap_cons, ih]
    rfl
theorem asked_ok {l : List Int} (h : PySy50.answers_asked l = true) : ∃ raw, PyFlat.calls PySy50.shape l.length l = some raw ∧ (∀ c ∈ raw, COk c) ∧ PySy50.answers l = runA Sy50.init (raw.map xOf) ∧ (runA Sy50.init (raw.map xOf)).length ≤ 10000000 := by
  unfold PySy50.answers_asked at h
  cases hr : PyFlat.calls PySy50.shape l.length l with
  | none => rw [hr] at h; cases h
  | some raw =>
    rw [hr] at h
    dsimp only at h
    rw [Bool.and_eq_true, Bool.and_eq_true, Bool.and_eq_true] at h
    have ok := raw_ok _ _ _ hr h.1.1.2
    have e : PySy50.answers l = runA Sy50.init (raw.map xOf) := by
      unfold PySy50.answers PySy50.calls
      rw [hr]
      exact told_run raw Sy50.init ok
    have hs : (PySy50.answers l).length ≤ 10000000 := by
      have := h.2
      unfold PyFlat.short at this
      exact of_decide_eq_true this
    rw [e] at hs
    exact ⟨raw, rfl, ok, e, hs⟩
end Br

end
section
set_option Elab.async false
set_option linter.all false
set_option maxRecDepth 100000
set_option maxHeartbeats 2000000
/-! ### list(d.values()) -/
namespace L2
open PySem PySem.Spec PyProof.Rows
section
variable {X : Cx}
/-- a view of a dict's values, as a thing of its own -/
def ViewO (v d : Addr) : HO := .ext fun h => h.IsValuesView v d
theorem pe_values {e : Expr} {td : TE} {apos cpos : Pos} (he : PE X e td) (hbase : attributeBase e "values" X.env (eval e X.env) = eval e X.env := by rfl) (hline : (apos.endLine == cpos.line) = true := by rfl) :
    PE X (.Call (.Attribute e "values" apos) [] [] cpos) (fun σ H Q => td σ H fun x H1 => ∃ d kvs, x = .ref d ∧ H1 d = some (.dK kvs) ∧ ∀ p, H1 p = none → Q (.ref p) (upd H1 p (ViewO p d))) := by
  intro pins s σ H Q I h
  refine wpAny_Call_method (T := "dict") (id := "dict.values") hbase rfl hline F.plainAttrs_dict F.slot_dict_values F.type_dict_values (thn (he pins s σ H _ I h) fun u s1 ⟨x, H1, I1, rx, d, kvs, ex, hd, q⟩ => ?_)
  subst ex
  obtain rfl : u = Value.ref d := rx
  obtain ⟨hz, hs, vs, kv, hm⟩ := dk_of I1.hok hd
  refine ⟨hm.typeIs, hm.mapOf.noDict, ?_⟩
  have new : ObjOk X.prog X.w (upd H1 s1.heap.objs.size (ViewO s1.heap.objs.size d)) (s1.heap.push { cls := .type "dict_values", data := .fields #[.ref d] }) s1.heap.objs.size (ViewO s1.heap.objs.size d) :=
    ⟨⟨_, Heap.get?_push_size _ rfl, rfl, rfl⟩, ⟨_, Heap.get?_push_size _ rfl⟩, fun h1 h2 ⟨o, e, c⟩ k => ⟨o, k o e, c⟩⟩
  have I2 := I1.laid (t' := s1.toks) (fun b ob q => Heap.get?_push_of_some _ q) (Nat.le_refl _) new
  show wpAny _ _ (callWith cpos (.builtin "dict.values") [.ref d] [] []) _ X.xe s1
  exact method_meetsIn F.slot_dict_values F.entry_dict_values rfl (PySem.evalArgs_none ⟨rfl, hm.typeIs, F.args_dict_values_1 _, _, meets_dict_values (mixKind X.prog X.w) d hs, ⟨vs, hm⟩, ⟨.ref s1.heap.objs.size, _, I2, rfl, q _ (I1.hok.fresh (Nat.le_refl _))⟩⟩)
theorem vals_of {kvs : List (Key × V)} {vs : List (Key × Value)} (r : KV kvs vs) : Vals (kvs.map (·.2)) (vs.map (·.2)) := by
  induction r with
  | nil => exact .nil
  | cons a _ ih => exact .cons a.2 ih
theorem cr_listvals (hc : X.calm = true) : CallR X (.type "list") (fun xs H Q => ∃ p d kvs, xs = [.ref p] ∧ H p = some (ViewO p d) ∧ H d = some (.dK kvs) ∧ ∀ l, H l = none → Q (.ref l) (upd H l (.lst (kvs.map (·.2))))) := by
  intro pins s σ H xs us Q I r h
  obtain ⟨p, d, kvs, rfl, hp, hd, q⟩ := h
  obtain ⟨u, rfl, rx⟩ := vals1 r
  cases rx
  obtain ⟨hz, hs, vs, kv, o, es, ep, ho, hx, hdt, rr⟩ := dk_of I.hok hd
  obtain ⟨hv, _, _⟩ := I.hok p _ hp
  have hl : kvs.length = vs.length := Paired.length kv
  refine PySem.W.kdl_call (PySem.W.kdl_values (knd := mixKind X.prog X.w) (r := p) (d := d) (kvs := vs) (ep := ep)) (I.ok.hd hc) ⟨hv, o, es, ho, hx, hdt, rr⟩ (by omega) fun h' tk acc c k e it => ?_
  have ea : acc.toList = vs.map (·.2) := by
    refine List.ext_getElem? fun i => ?_
    rw [Array.getElem?_toList]
    cases hi : acc[i]? with
    | none =>
      have := Array.getElem?_eq_none_iff.mp hi
      rw [it.1] at this
      rw [List.getElem?_eq_none (by rw [List.length_map]; exact this)]
    | some v =>
      obtain ⟨k', hk⟩ := it.2 i v hi
      rw [List.getElem?_map, hk]
      rfl
  refine ⟨.ref s.heap.objs.size, _, I.laid (t' := tk) k (Nat.le_refl _) (show ObjOk X.prog X.w _ h' _ (.lst (kvs.map (·.2))) from ⟨by rw [List.length_map]; exact hz, acc.toList, c, by rw [ea]; exact vals_of kv, by rw [Array.toArray_toList]; exact e⟩), rfl, q _ (I.hok.fresh (Nat.le_refl _))⟩
end
end L2
namespace L2
open PySem PySem.Spec PyProof.Rows
/-- a for over any iterator of n items -/
theorem for_it {J : It} {n : Nat} {g : TG} {tb : TS} {D : Ends} {σ : St} {H : Hp} (Pv : Nat → St → Hp → Prop) (h0 : Pv 0 σ H) (hgo : ∀ i σ H, i < n → Pv i σ H → J.go i H) (hst : ∀ σ H, Pv n σ H → J.stop n H)
    (hs : ∀ i x σ H H', i < n → Pv i σ H → J.yld i H x H' → g x σ H' fun σ2 H2 => tb { D with nx := Pv (i + 1), ct := Pv (i + 1), bk := D.nx } σ2 H2) (hd : ∀ σ H, Pv n σ H → D.nx σ H) :
    ∃ W : Nat → Nat → St → Hp → Prop, (∃ m, W 0 m σ H) ∧ ∀ i m σ H, W i m σ H →
      (J.stop i H ∧ D.nx σ H) ∨ (J.go i H ∧ ∃ N : St → Hp → Prop, (∀ σ' H', N σ' H' → ∃ m', m' < m ∧ W (i + 1) m' σ' H') ∧ ∀ x H', J.yld i H x H' → g x σ H' fun σ2 H2 => tb { D with nx := N, ct := N, bk := D.nx } σ2 H2) := by
  refine ⟨fun i m σ H => m = n - i ∧ i ≤ n ∧ Pv i σ H, ⟨n, by simp, Nat.zero_le _, h0⟩, ?_⟩
  rintro i m σ H ⟨rfl, hi, p⟩
  by_cases hlt : i < n
  · exact .inr ⟨hgo i σ H hlt p, Pv (i + 1), fun σ' H' p' => ⟨n - (i + 1), by omega, rfl, hlt, p'⟩, fun x H' y => hs i x σ H H' hlt p y⟩
  · have e : i = n := by omega
    subst e
    exact .inl ⟨hst σ H p, hd σ H p⟩
theorem lc_it {J : It} {n : Nat} {g : TG} {tt : TT} {te : TE} {vs : List Nat} {σ : St} {H1 : Hp} {D : Addr} {Qd : Hp → Prop} (Pv : Nat → Hp → Prop) (h0 : Pv 0 (upd H1 D (.lst []))) (hgo : ∀ i H, i < n → Pv i H → J.go i H) (hst : ∀ H, Pv n H → J.stop n H)
    (hs : ∀ i x H H', i < n → Pv i H → J.yld i H x H' → g x (wipe σ vs) H' fun σ2 H2 => wipe σ2 vs = wipe σ vs ∧ tt σ2 H2 fun b H3 =>
      if b = true then te σ2 H3 fun y H4 => ∃ acc, H4 D = some (.lst acc) ∧ acc.length < sizeLine ∧ Pv (i + 1) (upd H4 D (.lst (acc ++ [y]))) else Pv (i + 1) H3) (hd : ∀ H, Pv n H → Qd H) :
    ∃ W : Nat → Nat → Hp → Prop, (∃ m, W 0 m (upd H1 D (.lst []))) ∧ ∀ i m H, W i m H →
      (J.stop i H ∧ Qd H) ∨ (J.go i H ∧ ∃ Nx : Hp → Prop, (∀ H', Nx H' → ∃ m', m' < m ∧ W (i + 1) m' H') ∧ ∀ x H', J.yld i H x H' → g x (wipe σ vs) H' fun σ2 H2 => wipe σ2 vs = wipe σ vs ∧ tt σ2 H2 fun b H3 =>
        if b = true then te σ2 H3 fun y H4 => ∃ acc, H4 D = some (.lst acc) ∧ acc.length < sizeLine ∧ Nx (upd H4 D (.lst (acc ++ [y]))) else Nx H3) := by
  refine ⟨fun i m H => m = n - i ∧ i ≤ n ∧ Pv i H, ⟨n, by simp, Nat.zero_le _, h0⟩, ?_⟩
  rintro i m H ⟨rfl, hi, p⟩
  by_cases hlt : i < n
  · exact .inr ⟨hgo i H hlt p, Pv (i + 1), fun H' p' => ⟨n - (i + 1), by omega, rfl, hlt, p'⟩, fun x H' y => hs i x H H' hlt p y⟩
  · have e : i = n := by omega
    subst e
    exact .inl ⟨hst H p, hd H p⟩
end L2
namespace Br
open PySem PySem.Spec PyProof.Rows L2
open PySem.W (Codec)
/-! ### the text by places -/
def top (i : Nat) : Stmt := PySem.Challenge.pw_bridgefile_s01_answers.main.body.getD i (.Pass ⟨0, 0, 0, 0⟩)
/-- the addresses that the text names -/
structure Ad where
  cPart : Addr
  cEntry : Addr
  cPosting : Addr
  cBridge : Addr
  cStatement : Addr
  cStanding : Addr
  tHanded : Addr
def handedT : List Int := [0, 1, 3, 2, 1, 2, 0, 3, 2, 1, 2, 1, 1, 2, 0]
structure Txt (K : PySem.W.Frag) (mg : Str → Option Value) (A : Ad) : Prop where
  clPart : Cls K A.cPart
  clEntry : Cls K A.cEntry
  clPosting : Cls K A.cPosting
  clBridge : Cls K A.cBridge
  clStatement : Cls K A.cStatement
  clStanding : Cls K A.cStanding
  nPart : ∀ f, f ∈ (["sound", "cost", "growth"] : List Str) → NoAttr K A.cPart f
  nEntry : ∀ f, f ∈ (["kind", "about", "day", "crack"] : List Str) → NoAttr K A.cEntry f
  nPosting : ∀ f, f ∈ (["day", "made", "much"] : List Str) → NoAttr K A.cPosting f
  nBridge : ∀ f, f ∈ (["parts", "today", "entries", "postings"] : List Str) → NoAttr K A.cBridge f
  nStatement : ∀ f, f ∈ (["number", "part", "day", "crack"] : List Str) → NoAttr K A.cStatement f
  nStanding : ∀ f, f ∈ (["source", "crack", "bears"] : List Str) → NoAttr K A.cStanding f
  cPart : mg "Part" = some (.ref A.cPart)
  cEntry : mg "Entry" = some (.ref A.cEntry)
  cPosting : mg "Posting" = some (.ref A.cPosting)
  cBridge : mg "Bridge" = some (.ref A.cBridge)
  cStatement : mg "Statement" = some (.ref A.cStatement)
  cStanding : mg "Standing" = some (.ref A.cStanding)
  gFOUND : ∃ t, mg "FOUND" = some (.int 0 t)
  gMENDED : ∃ t, mg "MENDED" = some (.int 1 t)
  gSTRUCK : ∃ t, mg "STRUCK" = some (.int 2 t)
  gRIGHTED : ∃ t, mg "RIGHTED" = some (.int 3 t)
  gLAST_DAY : ∃ t, mg "LAST_DAY" = some (.int 100000 t)
  gNOT_LET : ∃ t, mg "NOT_LET" = some (.int (-1) t)
  gNOT_THERE : ∃ t, mg "NOT_THERE" = some (.int (-2) t)
  gCANT_BE : ∃ t, mg "CANT_BE" = some (.int (-4) t)
  gTOO_MANY : ∃ t, mg "TOO_MANY" = some (.int (-5) t)
  gNOTHING : ∃ t, mg "NOTHING" = some (.int (-6) t)
  gMOST_DAYS_BEHIND : ∃ t, mg "MOST_DAYS_BEHIND" = some (.int 500 t)
  gMOST_MUCH : ∃ t, mg "MOST_MUCH" = some (.int 1000 t)
  gDAYS_LOOKED_AHEAD : ∃ t, mg "DAYS_LOOKED_AHEAD" = some (.int 131072 t)
  gMOST_PARTS : ∃ t, mg "MOST_PARTS" = some (.int 12 t)
  gMOST_SOUND : ∃ t, mg "MOST_SOUND" = some (.int 1000 t)
  gMOST_COST : ∃ t, mg "MOST_COST" = some (.int 100 t)
  gMOST_GROWTH : ∃ t, mg "MOST_GROWTH" = some (.int 100 t)
  gMOST_DAYS : ∃ t, mg "MOST_DAYS" = some (.int 10000 t)
  gMOST_CRACK : ∃ t, mg "MOST_CRACK" = some (.int 1000 t)
  gMOST_ENTRIES : ∃ t, mg "MOST_ENTRIES" = some (.int 60 t)
  gMOST_POSTINGS : ∃ t, mg "MOST_POSTINGS" = some (.int 60 t)
  gBEGINS : ∃ t, mg "BEGINS" = some (.int 0 t)
  gPOST : ∃ t, mg "POST" = some (.int 6 t)
  gHANDED : mg "HANDED" = some (.ref A.tHanded)
  hanT : ∀ H : Hp, SqT K H A.tHanded (handedT.map V.int)
  blen : mg "len" = none
  bmax : mg "max" = none
  bmin : mg "min" = none
  bany : mg "any" = none
  ball : mg "all" = none
  blist : mg "list" = none
  benumerate : mg "enumerate" = none
  bzip : mg "zip" = none
  brange : mg "range" = none
/-- a def of the text, as its callers see it -/
structure Cal (P : Program) (w : World) (K : PySem.W.Frag) (mg : Str → Option Value) (base : Heap) (k : Nat) (x : Str) (ps : List Str) (sp : Sp) : Prop where
  ex : ∃ f fd, FnOk P w K mg base CX0 k f fd ps sp ∧ mg x = some (.ref f) ∧ PySem.W.keepIn K (.ref f) = true ∧ Binds K fd ps []
/-- a class of the text, as those see it that make its instances -/
structure CalC (P : Program) (w : World) (K : PySem.W.Frag) (mg : Str → Option Value) (base : Heap) (k : Nat) (C : Addr) (ps : List Str) (sp : Sp) : Prop where
  ex : ∃ f fd, FnOk P w K mg base CX0 k f fd ps sp ∧ Mk K C f ∧ Binds K fd ps []

/-! ### readings -/
theorem iteD {p A B : Prop} [Decidable p] (h1 : p → A) (h2 : ¬ p → B) : if decide p = true then A else B := by
  by_cases h : p
  · rw [if_pos (decide_eq_true h)]; exact h1 h
  · rw [if_neg (by rw [decide_eq_false h]; decide)]; exact h2 h
theorem iteN {p A B : Prop} [Decidable p] (h1 : ¬ p → A) (h2 : p → B) : if (!decide p) = true then A else B := by
  by_cases h : p
  · rw [if_neg (by rw [decide_eq_true h]; decide)]; exact h2 h
  · rw [if_pos (by rw [decide_eq_false h]; rfl)]; exact h1 h
theorem iteDp {p A B : Prop} [Decidable p] (hp : p) (h1 : A) : if decide p = true then A else B := by
  rw [if_pos (decide_eq_true hp)]; exact h1
theorem iteDn {p A B : Prop} [Decidable p] (hp : ¬ p) (h2 : B) : if decide p = true then A else B := by
  rw [if_neg (by rw [decide_eq_false hp]; decide)]; exact h2
theorem iteB {c : Bool} {A B : Prop} (h1 : c = true → A) (h2 : c = false → B) : if c = true then A else B := by
  cases c with
  | true => exact h1 rfl
  | false => rw [if_neg (by decide)]; exact h2 rfl
/-- a comprehension without a test -/
theorem tyes {A B : Hp → Prop} {σ : L2.St} {H : Hp} (h : A H) : tYes σ H fun b H3 => if b = true then A H3 else B H3 := by
  show if true = true then A H else B H
  rw [if_pos rfl]; exact h
theorem dvi {i j : Int} : decide (V.int i = V.int j) = decide (i = j) := by
  by_cases h : i = j
  · subst h; simp
  · rw [decide_eq_false h, decide_eq_false (fun q => h (V.int.inj q))]
/-- a == b, a != b of ints, as a test -/
theorem iteE {i j : Int} {A B : Prop} (h1 : i = j → A) (h2 : ¬ i = j → B) : if decide (V.int i = V.int j) = true then A else B := by
  rw [dvi]; exact iteD h1 h2
theorem iteEN {i j : Int} {A B : Prop} (h1 : ¬ i = j → A) (h2 : i = j → B) : if (!decide (V.int i = V.int j)) = true then A else B := by
  rw [dvi]; exact iteN h1 h2

/-- an attribute of the instance at a -/
def AttrIs (K : PySem.W.Frag) (H : Hp) (a : Addr) (f : Str) (v : V) : Prop := ∃ C dx fs, H a = some (.ins C dx fs) ∧ Cls K C ∧ NoAttr K C f ∧ fs.lookup f = some v
theorem AttrIs.loc {K : PySem.W.Frag} {H H' : Hp} {a : Addr} {f : Str} {v : V} (h : AttrIs K H a f v) (s : ∀ o, H a = some o → H' a = some o) : AttrIs K H' a f v := by
  obtain ⟨C, dx, fs, h0, r⟩ := h
  exact ⟨C, dx, fs, s _ h0, r⟩
theorem AttrIs.same {K : PySem.W.Frag} {H H' : Hp} {a : Addr} {f : Str} {v : V} (h : AttrIs K H a f v) (s : Same H H') : AttrIs K H' a f v := h.loc (s a)
theorem AttrIs.ins {K : PySem.W.Frag} {H : Hp} {a : Addr} {f : Str} {v : V} (h : AttrIs K H a f v) : ∃ C dx fs, H a = some (.ins C dx fs) := by
  obtain ⟨C, dx, fs, h0, r⟩ := h
  exact ⟨C, dx, fs, h0⟩
/-- two instances, one with the attribute, one without -/
theorem AttrIs.ne {K : PySem.W.Frag} {H : Hp} {a b C dx : Addr} {f : Str} {v : V} {fs : List (Str × V)} (h : AttrIs K H a f v) (hb : H b = some (.ins C dx fs)) (hn : fs.lookup f = none) : a ≠ b := by
  intro e
  subst e
  obtain ⟨C', dx', fs', h0, _, _, h3⟩ := h
  rw [hb] at h0
  cases h0
  rw [hn] at h3
  cases h3
theorem rd_attr {K : PySem.W.Frag} {H : Hp} {a : Addr} {f : Str} {v : V} {Q : V → Prop} (h : AttrIs K H a f v) (q : Q v) :
    ∃ a' C dx fs v', V.ref a = .ref a' ∧ H a' = some (.ins C dx fs) ∧ Cls K C ∧ NoAttr K C f ∧ fs.lookup f = some v' ∧ Q v' := by
  obtain ⟨C, dx, fs, h0, h1, h2, h3⟩ := h
  exact ⟨a, C, dx, fs, v, rfl, h0, h1, h2, h3, q⟩
/-- two ints, under an operation of ints -/
theorem rd_i {x y : Int} {Q : VK} {H : Hp} {g : Int → Int → V} (q : Q (g x y) H) : rI0 g (.int x) (.int y) H Q := ⟨x, y, rfl, rfl, q⟩

/-! ### data -/
/-- a list of instances at l, each as R says -/
def Objs {α : Type} (R : Hp → Addr → α → Prop) (H : Hp) (l : Addr) (xs : List α) : Prop := ∃ as : List Addr, H l = some (.lst (as.map V.ref)) ∧ Paired (R H) as xs
def Mono {α : Type} (R : Hp → Addr → α → Prop) : Prop := ∀ H H' a x, R H a x → Same H H' → R H' a x
/-- what is said hangs on the instance alone -/
structure Loc1 {α : Type} (R : Hp → Addr → α → Prop) : Prop where
  loc : ∀ H H' a x, R H a x → (∀ o, H a = some o → H' a = some o) → R H' a x
  ins : ∀ H a x, R H a x → ∃ C dx fs, H a = some (.ins C dx fs)
theorem Loc1.mono {α : Type} {R : Hp → Addr → α → Prop} (h : Loc1 R) : Mono R := fun H H' a x r s => h.loc H H' a x r (s a)
def isIns : HO → Bool
  | .ins _ _ _ => true
  | _ => false
theorem ne_ins {H : Hp} {a d C dx : Addr} {fs : List (Str × V)} {o : HO} (h : H a = some (.ins C dx fs)) (hd : H d = some o) (no : isIns o = false) : a ≠ d := by
  intro e
  subst e
  rw [h] at hd
  cases hd
  cases no
theorem paired_mono {α β : Type} {F G : α → β → Prop} (f : ∀ a b, F a b → G a b) : ∀ {l : List α} {m : List β}, Paired F l m → Paired G l m
  | _, _, .nil => .nil
  | _, _, .cons r t => .cons (f _ _ r) (paired_mono f t)
theorem paired_len {α β : Type} {F : α → β → Prop} : ∀ {l : List α} {m : List β}, Paired F l m → l.length = m.length
  | _, _, .nil => rfl
  | _, _, .cons _ t => congrArg (· + 1) (paired_len t)
theorem paired_at {α β : Type} {F : α → β → Prop} : ∀ {l : List α} {m : List β} {i : Nat} {a : α}, Paired F l m → l[i]? = some a → ∃ b, m[i]? = some b ∧ F a b
  | _, _, i, a, .nil, h => by simp at h
  | _, _, 0, a, .cons r _, h => ⟨_, rfl, by have e := Option.some.inj h; rw [← e]; exact r⟩
  | _, _, i + 1, a, .cons _ t, h => paired_at (i := i) t h
theorem paired_at' {α β : Type} {F : α → β → Prop} : ∀ {l : List α} {m : List β} {i : Nat} {b : β}, Paired F l m → m[i]? = some b → ∃ a, l[i]? = some a ∧ F a b
  | _, _, i, a, .nil, h => by simp at h
  | _, _, 0, a, .cons r _, h => ⟨_, rfl, by have e := Option.some.inj h; rw [← e]; exact r⟩
  | _, _, i + 1, a, .cons _ t, h => paired_at' (i := i) t h
theorem paired_snoc {α β : Type} {F : α → β → Prop} {a : α} {b : β} : ∀ {l : List α} {m : List β}, Paired F l m → F a b → Paired F (l ++ [a]) (m ++ [b])
  | _, _, .nil, h => .cons h .nil
  | _, _, .cons r t, h => .cons r (paired_snoc t h)
theorem Objs.same {α : Type} {R : Hp → Addr → α → Prop} {H H' : Hp} {l : Addr} {xs : List α} (m : Mono R) (h : Objs R H l xs) (s : Same H H') : Objs R H' l xs := by
  obtain ⟨as, h0, p⟩ := h
  exact ⟨as, s _ _ h0, paired_mono (fun a x r => m _ _ a x r s) p⟩
theorem Objs.keep {α : Type} {R : Hp → Addr → α → Prop} {H : Hp} {l d : Addr} {xs : List α} {o o' : HO} (L : Loc1 R) (h : Objs R H l xs) (hd : H d = some o') (no : isIns o' = false) (ne : l ≠ d) : Objs R (upd H d o) l xs := by
  obtain ⟨as, h0, p⟩ := h
  refine ⟨as, by rw [upd_ne ne]; exact h0, paired_mono (fun a x r => L.loc _ _ a x r fun u e => ?_) p⟩
  obtain ⟨C, dx, fs, hi⟩ := L.ins _ _ _ r
  rw [upd_ne (ne_ins hi hd no)]
  exact e
theorem Objs.len {α : Type} {R : Hp → Addr → α → Prop} {H : Hp} {l : Addr} {xs : List α} (h : Objs R H l xs) : ∃ as : List Addr, H l = some (.lst (as.map V.ref)) ∧ Paired (R H) as xs ∧ (as.map V.ref).length = xs.length := by
  obtain ⟨as, h0, p⟩ := h
  exact ⟨as, h0, p, by rw [List.length_map]; exact paired_len p⟩
theorem ref_at {as : List Addr} {i : Nat} {y : V} (h : (as.map V.ref)[i]? = some y) : ∃ a, as[i]? = some a ∧ y = V.ref a := by
  rw [List.getElem?_map] at h
  cases e : as[i]? with
  | none => rw [e] at h; cases h
  | some a => rw [e] at h; exact ⟨a, rfl, (Option.some.inj h).symm⟩
theorem at_ref {as : List Addr} {i : Nat} {a : Addr} (h : as[i]? = some a) : (as.map V.ref)[i]? = some (V.ref a) := by
  rw [List.getElem?_map, h]; rfl
theorem at_int {ns : List Int} {i : Nat} {z : Int} (h : ns[i]? = some z) : (ns.map V.int)[i]? = some (V.int z) := by
  rw [List.getElem?_map, h]; rfl
theorem take_snoc {α : Type} : ∀ {l : List α} {i : Nat} {x : α}, l[i]? = some x → l.take (i + 1) = l.take i ++ [x]
  | [], i, x, h => by simp at h
  | a :: l, 0, x, h => by
    have e : a = x := Option.some.inj h
    subst e
    rfl
  | a :: l, i + 1, x, h => by
    have ih := take_snoc (l := l) (i := i) (x := x) h
    show a :: l.take (i + 1) = a :: l.take i ++ [x]
    rw [ih]
    rfl
theorem _root_.L2.Same.upd_new {H : Hp} {p : Addr} {o : HO} (h : H p = none) : Same H (upd H p o) := fun b u e => by
  rw [upd_ne (ne_of_none e h)]; exact e
theorem _root_.L2.Same.to_upd {H H' : Hp} {p : Addr} {o : HO} (s : Same H H') (h : H' p = none) : Same H (upd H' p o) := s.trans (Same.upd_new h)

def PartAt (K : PySem.W.Frag) (H : Hp) (a : Addr) (p : Sy50.Part) : Prop := AttrIs K H a "sound" (.int p.bears) ∧ AttrIs K H a "cost" (.int p.costs) ∧ AttrIs K H a "growth" (.int p.grows)
def StmAt (K : PySem.W.Frag) (H : Hp) (a : Addr) (p : Stm) : Prop := AttrIs K H a "number" (.int p.num) ∧ AttrIs K H a "part" (.int p.part) ∧ AttrIs K H a "day" (.int p.day) ∧ AttrIs K H a "crack" (.int p.crack)
def PostAt (K : PySem.W.Frag) (H : Hp) (a : Addr) (p : Sy50.Post) : Prop := AttrIs K H a "day" (.int p.day) ∧ AttrIs K H a "made" (.int p.behind) ∧ AttrIs K H a "much" (.int p.limit)
/-- an entry's four numbers -/
def eKind : Sy50.Entry → Nat
  | .found _ _ _ => 0
  | .mended _ _ => 1
  | .struck _ => 2
  | .right_ _ _ => 3
def eAbout : Sy50.Entry → Nat
  | .found p _ _ => p
  | .mended p _ => p
  | .struck e => e
  | .right_ e _ => e
def eDay : Sy50.Entry → Nat
  | .found _ d _ => d
  | .mended _ d => d
  | .struck _ => 0
  | .right_ _ _ => 0
def eCrack : Sy50.Entry → Nat
  | .found _ _ c => c
  | .mended _ _ => 0
  | .struck _ => 0
  | .right_ _ c => c
theorem row_eq (x : Sy50.Entry) : Sy50.entryRow x = [eKind x, eAbout x, eDay x, eCrack x] := by cases x <;> rfl
def EntAt (K : PySem.W.Frag) (H : Hp) (a : Addr) (x : Sy50.Entry) : Prop := AttrIs K H a "kind" (.int (eKind x)) ∧ AttrIs K H a "about" (.int (eAbout x)) ∧ AttrIs K H a "day" (.int (eDay x)) ∧ AttrIs K H a "crack" (.int (eCrack x))
/-- a source: none, or a statement -/
def SrcV (K : PySem.W.Frag) (H : Hp) (v : V) : Option Stm → Prop
  | none => v = .non
  | some st => ∃ a, v = .ref a ∧ StmAt K H a st
/-- a standing: its source, crack, what it bears -/
def StdAt (K : PySem.W.Frag) (H : Hp) (a : Addr) (x : Option Stm × Nat × Nat) : Prop := ∃ v, SrcV K H v x.1 ∧ AttrIs K H a "source" v ∧ AttrIs K H a "crack" (.int x.2.1) ∧ AttrIs K H a "bears" (.int x.2.2)
theorem lPart {K : PySem.W.Frag} : Loc1 (PartAt K) := ⟨fun _ _ _ _ ⟨a, b, c⟩ s => ⟨a.loc s, b.loc s, c.loc s⟩, fun _ _ _ h => h.1.ins⟩
theorem lStm {K : PySem.W.Frag} : Loc1 (StmAt K) := ⟨fun _ _ _ _ ⟨a, b, c, d⟩ s => ⟨a.loc s, b.loc s, c.loc s, d.loc s⟩, fun _ _ _ h => h.1.ins⟩
theorem lPost {K : PySem.W.Frag} : Loc1 (PostAt K) := ⟨fun _ _ _ _ ⟨a, b, c⟩ s => ⟨a.loc s, b.loc s, c.loc s⟩, fun _ _ _ h => h.1.ins⟩
theorem lEnt {K : PySem.W.Frag} : Loc1 (EntAt K) := ⟨fun _ _ _ _ ⟨a, b, c, d⟩ s => ⟨a.loc s, b.loc s, c.loc s, d.loc s⟩, fun _ _ _ h => h.1.ins⟩
theorem mPart {K : PySem.W.Frag} : Mono (PartAt K) := lPart.mono
theorem mStm {K : PySem.W.Frag} : Mono (StmAt K) := lStm.mono
theorem mPost {K : PySem.W.Frag} : Mono (PostAt K) := lPost.mono
theorem mEnt {K : PySem.W.Frag} : Mono (EntAt K) := lEnt.mono
theorem SrcV.same {K : PySem.W.Frag} {H H' : Hp} {v : V} {o : Option Stm} (h : SrcV K H v o) (s : Same H H') : SrcV K H' v o := by
  cases o with
  | none => exact h
  | some st => obtain ⟨a, e, x⟩ := h; exact ⟨a, e, mStm _ _ _ _ x s⟩
theorem mStd {K : PySem.W.Frag} : Mono (StdAt K) := fun _ _ _ _ ⟨v, a, b, c, d⟩ s => ⟨v, a.same s, b.same s, c.same s, d.same s⟩
/-- the bridge: its own attributes -/
def brF (lp le lq : Addr) (t : Nat) : List (Str × V) := [("parts", .ref lp), ("today", .int t), ("entries", .ref le), ("postings", .ref lq)]
structure BrAt (A : Ad) (K : PySem.W.Frag) (H : Hp) (b le lq : Addr) (s : Sy50.St) : Prop where
  ex : ∃ dx lp, H b = some (.ins A.cBridge dx (brF lp le lq s.today)) ∧ Objs (PartAt K) H lp s.parts ∧ lp ≠ le ∧ lp ≠ lq
  ent : Objs (EntAt K) H le s.entries
  pos : Objs (PostAt K) H lq s.posts
  ne : le ≠ lq
theorem BrAt.same {A : Ad} {K : PySem.W.Frag} {H H' : Hp} {b le lq : Addr} {s : Sy50.St} (h : BrAt A K H b le lq s) (e : Same H H') : BrAt A K H' b le lq s := by
  obtain ⟨⟨dx, lp, h1, h2, h3, h4⟩, h5, h6, h7⟩ := h
  exact ⟨⟨dx, lp, e _ _ h1, h2.same mPart e, h3, h4⟩, h5.same mEnt e, h6.same mPost e, h7⟩
section
variable {A : Ad} {K : PySem.W.Frag} {mg : Str → Option Value} {H : Hp} {b le lq : Addr} {s : Sy50.St}
theorem BrAt.parts (T : Txt K mg A) (h : BrAt A K H b le lq s) : ∃ lp, AttrIs K H b "parts" (.ref lp) ∧ Objs (PartAt K) H lp s.parts := by
  obtain ⟨⟨dx, lp, h1, h2, h3, h4⟩, h5, h6, h7⟩ := h
  exact ⟨lp, ⟨_, dx, _, h1, T.clBridge, T.nBridge _ (by decide), rfl⟩, h2⟩
theorem BrAt.today (T : Txt K mg A) (h : BrAt A K H b le lq s) : AttrIs K H b "today" (.int s.today) := by
  obtain ⟨⟨dx, lp, h1, h2, h3, h4⟩, h5, h6, h7⟩ := h
  exact ⟨_, dx, _, h1, T.clBridge, T.nBridge _ (by decide), rfl⟩
theorem BrAt.entries (T : Txt K mg A) (h : BrAt A K H b le lq s) : AttrIs K H b "entries" (.ref le) := by
  obtain ⟨⟨dx, lp, h1, h2, h3, h4⟩, h5, h6, h7⟩ := h
  exact ⟨_, dx, _, h1, T.clBridge, T.nBridge _ (by decide), rfl⟩
theorem BrAt.postings (T : Txt K mg A) (h : BrAt A K H b le lq s) : AttrIs K H b "postings" (.ref lq) := by
  obtain ⟨⟨dx, lp, h1, h2, h3, h4⟩, h5, h6, h7⟩ := h
  exact ⟨_, dx, _, h1, T.clBridge, T.nBridge _ (by decide), rfl⟩
end
end Br

end
section
set_option Elab.async false
set_option linter.all false
set_option maxRecDepth 100000
set_option maxHeartbeats 2000000
namespace Br
open PySem PySem.Spec PyProof.Rows L2
/-! ### making an instance -/
def spIni (C : Addr) (fs : List Str) : Sp := fun vs H Q _ => ∃ (p dx : Addr) (args : List V), vs = .ref p :: args ∧ args.length = fs.length ∧ H p = some (.ins C dx []) ∧ ∀ H' : Hp, H' = upd H p (.ins C dx (fs.zip args)) → Q .non H'
theorem made_after {H1 H2 : Hp} {x dx C : Addr} {fs : List (Str × V)} (nx : H1 x = none) (nd : H1 dx = none) (e : H2 = upd (upd (upd H1 dx (.own x)) x (.ins C dx [])) x (.ins C dx fs)) : Same H1 H2 ∧ H2 x = some (.ins C dx fs) := by
  subst e
  refine ⟨fun b o h => ?_, upd_same⟩
  rw [upd_ne (ne_of_none h nx), upd_ne (ne_of_none h nx), upd_ne (ne_of_none h nd)]
  exact h
section
variable {P : Program} {w : World} {K : PySem.W.Frag} {mg : Str → Option Value} {base : Heap} {A : Ad}
theorem mkStm {H1 H2 : Hp} {x dx : Addr} {n p d c : V} (T : Txt K mg A) (nx : H1 x = none) (nd : H1 dx = none) (e : H2 = upd (upd (upd H1 dx (.own x)) x (.ins A.cStatement dx [])) x (.ins A.cStatement dx ((["number", "part", "day", "crack"] : List Str).zip ([n, p, d, c] : List V)))) :
    Same H1 H2 ∧ AttrIs K H2 x "number" n ∧ AttrIs K H2 x "part" p ∧ AttrIs K H2 x "day" d ∧ AttrIs K H2 x "crack" c := by
  obtain ⟨s, h⟩ := made_after nx nd e
  exact ⟨s, ⟨_, dx, _, h, T.clStatement, T.nStatement _ (by decide), rfl⟩, ⟨_, dx, _, h, T.clStatement, T.nStatement _ (by decide), rfl⟩, ⟨_, dx, _, h, T.clStatement, T.nStatement _ (by decide), rfl⟩, ⟨_, dx, _, h, T.clStatement, T.nStatement _ (by decide), rfl⟩⟩
theorem mkEnt {H1 H2 : Hp} {x dx : Addr} {n p d c : V} (T : Txt K mg A) (nx : H1 x = none) (nd : H1 dx = none) (e : H2 = upd (upd (upd H1 dx (.own x)) x (.ins A.cEntry dx [])) x (.ins A.cEntry dx ((["kind", "about", "day", "crack"] : List Str).zip ([n, p, d, c] : List V)))) :
    Same H1 H2 ∧ AttrIs K H2 x "kind" n ∧ AttrIs K H2 x "about" p ∧ AttrIs K H2 x "day" d ∧ AttrIs K H2 x "crack" c := by
  obtain ⟨s, h⟩ := made_after nx nd e
  exact ⟨s, ⟨_, dx, _, h, T.clEntry, T.nEntry _ (by decide), rfl⟩, ⟨_, dx, _, h, T.clEntry, T.nEntry _ (by decide), rfl⟩, ⟨_, dx, _, h, T.clEntry, T.nEntry _ (by decide), rfl⟩, ⟨_, dx, _, h, T.clEntry, T.nEntry _ (by decide), rfl⟩⟩
theorem mkPart {H1 H2 : Hp} {x dx : Addr} {n p d : V} (T : Txt K mg A) (nx : H1 x = none) (nd : H1 dx = none) (e : H2 = upd (upd (upd H1 dx (.own x)) x (.ins A.cPart dx [])) x (.ins A.cPart dx ((["sound", "cost", "growth"] : List Str).zip ([n, p, d] : List V)))) :
    Same H1 H2 ∧ AttrIs K H2 x "sound" n ∧ AttrIs K H2 x "cost" p ∧ AttrIs K H2 x "growth" d := by
  obtain ⟨s, h⟩ := made_after nx nd e
  exact ⟨s, ⟨_, dx, _, h, T.clPart, T.nPart _ (by decide), rfl⟩, ⟨_, dx, _, h, T.clPart, T.nPart _ (by decide), rfl⟩, ⟨_, dx, _, h, T.clPart, T.nPart _ (by decide), rfl⟩⟩
theorem mkPosting {H1 H2 : Hp} {x dx : Addr} {n p d : V} (T : Txt K mg A) (nx : H1 x = none) (nd : H1 dx = none) (e : H2 = upd (upd (upd H1 dx (.own x)) x (.ins A.cPosting dx [])) x (.ins A.cPosting dx ((["day", "made", "much"] : List Str).zip ([n, p, d] : List V)))) :
    Same H1 H2 ∧ AttrIs K H2 x "day" n ∧ AttrIs K H2 x "made" p ∧ AttrIs K H2 x "much" d := by
  obtain ⟨s, h⟩ := made_after nx nd e
  exact ⟨s, ⟨_, dx, _, h, T.clPosting, T.nPosting _ (by decide), rfl⟩, ⟨_, dx, _, h, T.clPosting, T.nPosting _ (by decide), rfl⟩, ⟨_, dx, _, h, T.clPosting, T.nPosting _ (by decide), rfl⟩⟩
theorem mkStanding {H1 H2 : Hp} {x dx : Addr} {n p d : V} (T : Txt K mg A) (nx : H1 x = none) (nd : H1 dx = none) (e : H2 = upd (upd (upd H1 dx (.own x)) x (.ins A.cStanding dx [])) x (.ins A.cStanding dx ((["source", "crack", "bears"] : List Str).zip ([n, p, d] : List V)))) :
    Same H1 H2 ∧ AttrIs K H2 x "source" n ∧ AttrIs K H2 x "crack" p ∧ AttrIs K H2 x "bears" d := by
  obtain ⟨s, h⟩ := made_after nx nd e
  exact ⟨s, ⟨_, dx, _, h, T.clStanding, T.nStanding _ (by decide), rfl⟩, ⟨_, dx, _, h, T.clStanding, T.nStanding _ (by decide), rfl⟩, ⟨_, dx, _, h, T.clStanding, T.nStanding _ (by decide), rfl⟩⟩

abbrev s_Part_init : Stmt := inClass (top 6) 0
theorem sc_Part_init : FnScope ["self", "sound", "cost", "growth"] ["self", "sound", "cost", "growth"] (defScope s_Part_init) := ⟨rfl, rfl, rfl, by decide +kernel, rfl, by decide +kernel, by decide +kernel⟩
theorem ok_Part_init {f : Addr} {fd : FuncData} (F : Fun K "__init__" "Part.__init__" s_Part_init f fd) (T : Txt K mg A) : FnOk P w K mg base CX0 1 f fd ["self", "sound", "cost", "growth"] (spIni A.cPart ["sound", "cost", "growth"]) := by
  refine F.ok sc_Part_init (fun vs H Q E h => ?_) (fun cdv A' outer s H vs Q E hr h => ?_)
  · obtain ⟨p, dx, args, rfl, hl, _⟩ := h
    exact congrArg (· + 1) hl
  · obtain ⟨p, dx, args, rfl, hl, hp, k⟩ := h
    match args, hl, k with
    | [a, b, c], _, k =>
      refine ⟨_, (pss_cons (ps_fld (pv 0) (pv 1) rfl) (pss_cons (ps_fld (pv 0) (pv 2) rfl) (pss_one (ps_fld (pv 0) (pv 3) rfl)))), ?_⟩
      refine ⟨_, rfl, _, rfl, p, _, dx, [], rfl, hp, T.clPart, T.nPart _ (by decide), (by show 0 < 1000; decide), ?_⟩
      refine ⟨_, rfl, _, rfl, p, _, dx, _, rfl, upd_same, T.clPart, T.nPart _ (by decide), (by show 1 < 1000; decide), ?_⟩
      refine ⟨_, rfl, _, rfl, p, _, dx, _, rfl, upd_same, T.clPart, T.nPart _ (by decide), (by show 2 < 1000; decide), ?_⟩
      refine k _ ?_
      rw [upd_upd, upd_upd]
      rfl
abbrev s_Posting_init : Stmt := inClass (top 8) 0
theorem sc_Posting_init : FnScope ["self", "day", "made", "much"] ["self", "day", "made", "much"] (defScope s_Posting_init) := ⟨rfl, rfl, rfl, by decide +kernel, rfl, by decide +kernel, by decide +kernel⟩
theorem ok_Posting_init {f : Addr} {fd : FuncData} (F : Fun K "__init__" "Posting.__init__" s_Posting_init f fd) (T : Txt K mg A) : FnOk P w K mg base CX0 1 f fd ["self", "day", "made", "much"] (spIni A.cPosting ["day", "made", "much"]) := by
  refine F.ok sc_Posting_init (fun vs H Q E h => ?_) (fun cdv A' outer s H vs Q E hr h => ?_)
  · obtain ⟨p, dx, args, rfl, hl, _⟩ := h
    exact congrArg (· + 1) hl
  · obtain ⟨p, dx, args, rfl, hl, hp, k⟩ := h
    match args, hl, k with
    | [a, b, c], _, k =>
      refine ⟨_, (pss_cons (ps_fld (pv 0) (pv 1) rfl) (pss_cons (ps_fld (pv 0) (pv 2) rfl) (pss_one (ps_fld (pv 0) (pv 3) rfl)))), ?_⟩
      refine ⟨_, rfl, _, rfl, p, _, dx, [], rfl, hp, T.clPosting, T.nPosting _ (by decide), (by show 0 < 1000; decide), ?_⟩
      refine ⟨_, rfl, _, rfl, p, _, dx, _, rfl, upd_same, T.clPosting, T.nPosting _ (by decide), (by show 1 < 1000; decide), ?_⟩
      refine ⟨_, rfl, _, rfl, p, _, dx, _, rfl, upd_same, T.clPosting, T.nPosting _ (by decide), (by show 2 < 1000; decide), ?_⟩
      refine k _ ?_
      rw [upd_upd, upd_upd]
      rfl
abbrev s_Standing_init : Stmt := inClass (top 12) 0
theorem sc_Standing_init : FnScope ["self", "source", "crack", "bears"] ["self", "source", "crack", "bears"] (defScope s_Standing_init) := ⟨rfl, rfl, rfl, by decide +kernel, rfl, by decide +kernel, by decide +kernel⟩
theorem ok_Standing_init {f : Addr} {fd : FuncData} (F : Fun K "__init__" "Standing.__init__" s_Standing_init f fd) (T : Txt K mg A) : FnOk P w K mg base CX0 1 f fd ["self", "source", "crack", "bears"] (spIni A.cStanding ["source", "crack", "bears"]) := by
  refine F.ok sc_Standing_init (fun vs H Q E h => ?_) (fun cdv A' outer s H vs Q E hr h => ?_)
  · obtain ⟨p, dx, args, rfl, hl, _⟩ := h
    exact congrArg (· + 1) hl
  · obtain ⟨p, dx, args, rfl, hl, hp, k⟩ := h
    match args, hl, k with
    | [a, b, c], _, k =>
      refine ⟨_, (pss_cons (ps_fld (pv 0) (pv 1) rfl) (pss_cons (ps_fld (pv 0) (pv 2) rfl) (pss_one (ps_fld (pv 0) (pv 3) rfl)))), ?_⟩
      refine ⟨_, rfl, _, rfl, p, _, dx, [], rfl, hp, T.clStanding, T.nStanding _ (by decide), (by show 0 < 1000; decide), ?_⟩
      refine ⟨_, rfl, _, rfl, p, _, dx, _, rfl, upd_same, T.clStanding, T.nStanding _ (by decide), (by show 1 < 1000; decide), ?_⟩
      refine ⟨_, rfl, _, rfl, p, _, dx, _, rfl, upd_same, T.clStanding, T.nStanding _ (by decide), (by show 2 < 1000; decide), ?_⟩
      refine k _ ?_
      rw [upd_upd, upd_upd]
      rfl
abbrev s_Entry_init : Stmt := inClass (top 7) 0
theorem sc_Entry_init : FnScope ["self", "kind", "about", "day", "crack"] ["self", "kind", "about", "day", "crack"] (defScope s_Entry_init) := ⟨rfl, rfl, rfl, by decide +kernel, rfl, by decide +kernel, by decide +kernel⟩
theorem ok_Entry_init {f : Addr} {fd : FuncData} (F : Fun K "__init__" "Entry.__init__" s_Entry_init f fd) (T : Txt K mg A) : FnOk P w K mg base CX0 1 f fd ["self", "kind", "about", "day", "crack"] (spIni A.cEntry ["kind", "about", "day", "crack"]) := by
  refine F.ok sc_Entry_init (fun vs H Q E h => ?_) (fun cdv A' outer s H vs Q E hr h => ?_)
  · obtain ⟨p, dx, args, rfl, hl, _⟩ := h
    exact congrArg (· + 1) hl
  · obtain ⟨p, dx, args, rfl, hl, hp, k⟩ := h
    match args, hl, k with
    | [a, b, c, d], _, k =>
      refine ⟨_, (pss_cons (ps_fld (pv 0) (pv 1) rfl) (pss_cons (ps_fld (pv 0) (pv 2) rfl) (pss_cons (ps_fld (pv 0) (pv 3) rfl) (pss_one (ps_fld (pv 0) (pv 4) rfl))))), ?_⟩
      refine ⟨_, rfl, _, rfl, p, _, dx, [], rfl, hp, T.clEntry, T.nEntry _ (by decide), (by show 0 < 1000; decide), ?_⟩
      refine ⟨_, rfl, _, rfl, p, _, dx, _, rfl, upd_same, T.clEntry, T.nEntry _ (by decide), (by show 1 < 1000; decide), ?_⟩
      refine ⟨_, rfl, _, rfl, p, _, dx, _, rfl, upd_same, T.clEntry, T.nEntry _ (by decide), (by show 2 < 1000; decide), ?_⟩
      refine ⟨_, rfl, _, rfl, p, _, dx, _, rfl, upd_same, T.clEntry, T.nEntry _ (by decide), (by show 3 < 1000; decide), ?_⟩
      refine k _ ?_
      rw [upd_upd, upd_upd, upd_upd]
      rfl
abbrev s_Statement_init : Stmt := inClass (top 11) 0
theorem sc_Statement_init : FnScope ["self", "number", "part", "day", "crack"] ["self", "number", "part", "day", "crack"] (defScope s_Statement_init) := ⟨rfl, rfl, rfl, by decide +kernel, rfl, by decide +kernel, by decide +kernel⟩
theorem ok_Statement_init {f : Addr} {fd : FuncData} (F : Fun K "__init__" "Statement.__init__" s_Statement_init f fd) (T : Txt K mg A) : FnOk P w K mg base CX0 1 f fd ["self", "number", "part", "day", "crack"] (spIni A.cStatement ["number", "part", "day", "crack"]) := by
  refine F.ok sc_Statement_init (fun vs H Q E h => ?_) (fun cdv A' outer s H vs Q E hr h => ?_)
  · obtain ⟨p, dx, args, rfl, hl, _⟩ := h
    exact congrArg (· + 1) hl
  · obtain ⟨p, dx, args, rfl, hl, hp, k⟩ := h
    match args, hl, k with
    | [a, b, c, d], _, k =>
      refine ⟨_, (pss_cons (ps_fld (pv 0) (pv 1) rfl) (pss_cons (ps_fld (pv 0) (pv 2) rfl) (pss_cons (ps_fld (pv 0) (pv 3) rfl) (pss_one (ps_fld (pv 0) (pv 4) rfl))))), ?_⟩
      refine ⟨_, rfl, _, rfl, p, _, dx, [], rfl, hp, T.clStatement, T.nStatement _ (by decide), (by show 0 < 1000; decide), ?_⟩
      refine ⟨_, rfl, _, rfl, p, _, dx, _, rfl, upd_same, T.clStatement, T.nStatement _ (by decide), (by show 1 < 1000; decide), ?_⟩
      refine ⟨_, rfl, _, rfl, p, _, dx, _, rfl, upd_same, T.clStatement, T.nStatement _ (by decide), (by show 2 < 1000; decide), ?_⟩
      refine ⟨_, rfl, _, rfl, p, _, dx, _, rfl, upd_same, T.clStatement, T.nStatement _ (by decide), (by show 3 < 1000; decide), ?_⟩
      refine k _ ?_
      rw [upd_upd, upd_upd, upd_upd]
      rfl

/-! ### figures -/
def POk (p : Sy50.Part) : Prop := p.bears ≤ 1000 ∧ p.costs ≤ 100 ∧ p.grows ≤ 100
def spGrown (K : PySem.W.Frag) : Sp := fun vs H Q _ => ∃ (a : Addr) (d : Nat) (p : Sy50.Part), vs = [.ref a, .int d] ∧ PartAt K H a p ∧ POk p ∧ Q (.int (((p.grows * d + 99) / 100 : Nat) : Int)) H
abbrev s_grown : Stmt := top 19
theorem sc_grown : FnScope ["part", "days"] ["part", "days"] (defScope s_grown) := ⟨rfl, rfl, rfl, by decide +kernel, rfl, by decide +kernel, by decide +kernel⟩
theorem ok_grown {f : Addr} {fd : FuncData} (F : Fun K "grown" "grown" s_grown f fd) (T : Txt K mg A) : FnOk P w K mg base CX0 1 f fd ["part", "days"] (spGrown K) := by
  refine F.ok sc_grown (fun vs H Q E h => ?_) (fun cdv A' outer s H vs Q E hr h => ?_)
  · obtain ⟨a, d, p, rfl, _⟩ := h
    rfl
  · obtain ⟨a, d, p, rfl, ⟨h1, h2, h3⟩, po, k⟩ := h
    refine ⟨_, (pss_one (ps_ret (pe_op op_fdiv (pe_op op_add (pe_op op_mul (pe_fld (pv 0) rfl) (pv 1)) pe_int) pe_int))), ?_⟩
    refine ⟨_, rfl, rd_attr h3 ⟨_, rfl, _, _, rfl, rfl, .inl ⟨by have := po.2.2; omega, by have := po.2.2; omega⟩, _, _, rfl, rfl, _, _, rfl, rfl, ⟨by decide, by decide⟩, ?_⟩⟩
    have e : ((p.grows : Int) * (d : Int) + 99) / 100 = (((p.grows * d + 99) / 100 : Nat) : Int) := by
      rw [← Int.natCast_mul]; omega
    show Q (.int (((p.grows : Int) * (d : Int) + 99) / 100)) H
    rw [e]
    exact k
def spBorne (K : PySem.W.Frag) : Sp := fun vs H Q _ => ∃ (a : Addr) (c : Nat) (p : Sy50.Part), vs = [.ref a, .int c] ∧ PartAt K H a p ∧ POk p ∧ Q (.int ((bearsN p c : Nat) : Int)) H
abbrev s_borne : Stmt := top 20
theorem sc_borne : FnScope ["part", "crack"] ["part", "crack"] (defScope s_borne) := ⟨rfl, rfl, rfl, by decide +kernel, rfl, by decide +kernel, by decide +kernel⟩
theorem ok_borne {f : Addr} {fd : FuncData} (F : Fun K "borne" "borne" s_borne f fd) (T : Txt K mg A) : FnOk P w K mg base CX0 1 f fd ["part", "crack"] (spBorne K) := by
  refine F.ok sc_borne (fun vs H Q E h => ?_) (fun cdv A' outer s H vs Q E hr h => ?_)
  · obtain ⟨a, d, p, rfl, _⟩ := h
    rfl
  · obtain ⟨a, d, p, rfl, ⟨h1, h2, h3⟩, po, k⟩ := h
    refine ⟨_, (pss_one (ps_ret (pe_callB (call_max2 rfl) (by rfl) T.bmax (by decide +kernel) (pa_cons pe_int (pa_cons (pe_op op_sub (pe_fld (pv 0) rfl) (pe_op op_mul (pe_fld (pv 0) rfl) (pv 1))) pa_nil))))), ?_⟩
    refine ⟨_, rfl, rd_attr h1 ⟨_, rfl, rd_attr h2 ⟨_, rfl, _, _, rfl, rfl, .inl ⟨by have := po.2.1; omega, by have := po.2.1; omega⟩, _, _, rfl, rfl, _, _, rfl, ?_⟩⟩⟩
    have e : (if (p.bears : Int) - (p.costs : Int) * (d : Int) > 0 then (p.bears : Int) - (p.costs : Int) * (d : Int) else 0) = ((bearsN p d : Nat) : Int) := by
      unfold bearsN
      rw [← Int.natCast_mul]
      split <;> omega
    show Q (.int (if (p.bears : Int) - (p.costs : Int) * (d : Int) > 0 then (p.bears : Int) - (p.costs : Int) * (d : Int) else 0)) H
    rw [e]
    exact k
def spCrackOn (K : PySem.W.Frag) : Sp := fun vs H Q _ => ∃ (a : Addr) (v : V) (d : Nat) (p : Sy50.Part) (o : Option Stm), vs = [.ref a, v, .int d] ∧ PartAt K H a p ∧ POk p ∧ SrcV K H v o ∧ (∀ z, o = some z → z.day ≤ d) ∧ Q (.int ((crackN p o d : Nat) : Int)) H
abbrev s_crack_on : Stmt := top 18
theorem sc_crack_on : FnScope ["part", "source", "day"] ["part", "source", "day"] (defScope s_crack_on) := ⟨rfl, rfl, rfl, by decide +kernel, rfl, by decide +kernel, by decide +kernel⟩
theorem ok_crack_on {f : Addr} {fd : FuncData} (F : Fun K "crack_on" "crack_on" s_crack_on f fd) (T : Txt K mg A) (cg : Cal P w K mg base 1 "grown" ["part", "days"] (spGrown K)) : FnOk P w K mg base CX0 2 f fd ["part", "source", "day"] (spCrackOn K) := by
  obtain ⟨fgrown, fdgrown, Ggrown, mgrown, kgrown, bgrown⟩ := cg.ex
  refine F.ok sc_crack_on (fun vs H Q E h => ?_) (fun cdv A' outer s H vs Q E hr h => ?_)
  · obtain ⟨a, v, d, p, o, rfl, _⟩ := h
    rfl
  · obtain ⟨a, v, d, p, o, rfl, hp, po, hs, hd, k⟩ := h
    refine ⟨_, (pss_cons (ps_if (pt_cmp (pc_isN (pv 1))) (pss_one (ps_ret (pe_call Ggrown (hr.mono (by decide)) rfl mgrown kgrown bgrown .nil pass0 (pa_cons (pv 0) (pa_cons (pv 2) pa_nil))))) pss_nil) (pss_one (ps_ret (pe_op op_add (pe_fld (pv 1) rfl) (pe_call Ggrown (hr.mono (by decide)) rfl mgrown kgrown bgrown .nil pass0 (pa_cons (pv 0) (pa_cons (pe_op op_sub (pv 2) (pe_fld (pv 1) rfl)) pa_nil))))))), ?_⟩
    cases o with
    | none =>
      cases hs
      refine ⟨_, rfl, _, rfl, iteDp rfl ?_⟩
      exact ⟨_, rfl, _, rfl, a, d, p, rfl, hp, po, k⟩
    | some z =>
      obtain ⟨c, rfl, h1, h2, h3, h4⟩ := hs
      refine ⟨_, rfl, _, rfl, iteDn (by intro q; cases q) ?_⟩
      have hz := hd z rfl
      refine ⟨_, rfl, rd_attr h4 ⟨_, rfl, _, rfl, _, rfl, rd_attr h3 ⟨_, _, rfl, rfl, ?_⟩⟩⟩
      refine ⟨a, d - z.day, p, ?_, hp, po, ?_⟩
      · show [V.ref a, V.int ((d : Int) - (z.day : Int))] = _
        rw [Int.ofNat_sub hz]
      · refine ⟨_, _, rfl, rfl, ?_⟩
        show Q (.int ((z.crack : Int) + (((p.grows * (d - z.day) + 99) / 100 : Nat) : Int))) H
        rw [← Int.natCast_add]
        exact k
def spStanding (K : PySem.W.Frag) : Sp := fun vs H Q _ => ∃ (a : Addr) (v : V) (d : Nat) (p : Sy50.Part) (o : Option Stm), vs = [.ref a, v, .int d] ∧ PartAt K H a p ∧ POk p ∧ SrcV K H v o ∧ (∀ z, o = some z → z.day ≤ d) ∧
  ∀ (H' : Hp) (x : Addr), Same H H' → StdAt K H' x (o, crackN p o d, bearsN p (crackN p o d)) → Q (.ref x) H'
abbrev s_standing : Stmt := top 17
theorem sc_standing : FnScope ["part", "source", "day", "crack"] ["part", "source", "day"] (defScope s_standing) := ⟨rfl, rfl, rfl, by decide +kernel, rfl, by decide +kernel, by decide +kernel⟩
theorem ok_standing {f : Addr} {fd : FuncData} (F : Fun K "standing" "standing" s_standing f fd) (T : Txt K mg A) (c1 : Cal P w K mg base 2 "crack_on" ["part", "source", "day"] (spCrackOn K)) (c2 : Cal P w K mg base 1 "borne" ["part", "crack"] (spBorne K))
    (c3 : CalC P w K mg base 1 A.cStanding ["self", "source", "crack", "bears"] (spIni A.cStanding ["source", "crack", "bears"])) : FnOk P w K mg base CX0 3 f fd ["part", "source", "day"] (spStanding K) := by
  obtain ⟨fcrack_on, fdcrack_on, Gcrack_on, mcrack_on, kcrack_on, bcrack_on⟩ := c1.ex
  obtain ⟨fborne, fdborne, Gborne, mborne, kborne, bborne⟩ := c2.ex
  obtain ⟨fI, fdI, GStanding, MStanding, bStanding⟩ := c3.ex
  refine F.ok sc_standing (fun vs H Q E h => ?_) (fun cdv A' outer s H vs Q E hr h => ?_)
  · obtain ⟨a, v, d, p, o, rfl, _⟩ := h
    rfl
  · obtain ⟨a, v, d, p, o, rfl, hp, po, hs, hd, k⟩ := h
    refine ⟨_, (pss_cons (ps_set (i := 3) sc_standing.nd rfl (Or.inl rfl) (pe_call Gcrack_on (hr.mono (by decide)) rfl mcrack_on kcrack_on bcrack_on .nil pass0 (pa_cons (pv 0) (pa_cons (pv 1) (pa_cons (pv 2) pa_nil))))) (pss_one (ps_ret (pe_make MStanding GStanding (hr.mono (by decide)) rfl T.cStanding bStanding .nil pass0 (pa_cons (pv 1) (pa_cons (pv 3) (pa_cons (pe_call Gborne (hr.mono (by decide)) rfl mborne kborne bborne .nil pass0 (pa_cons (pv 0) (pa_cons (pv 3) pa_nil))) pa_nil))))))), ?_⟩
    refine ⟨_, rfl, _, rfl, _, rfl, a, v, d, p, o, rfl, hp, po, hs, hd, ?_⟩
    refine ⟨_, rfl, _, rfl, _, rfl, _, rfl, a, _, p, rfl, hp, po, ?_⟩
    intro x dx nx nd ne
    refine ⟨x, dx, _, rfl, rfl, upd_same, fun H2 e => ⟨rfl, ?_⟩⟩
    obtain ⟨s1, a1, a2, a3⟩ := mkStanding T nx nd e
    exact k H2 x s1 ⟨v, hs.same s1, a1, a2, a3⟩
def spPutRight (K : PySem.W.Frag) : Sp := fun vs H Q _ => ∃ (a : Addr) (c : Nat) (z : Stm), vs = [.ref a, .int c] ∧ StmAt K H a z ∧ ∀ (H' : Hp) (x : Addr), Same H H' → StmAt K H' x ⟨z.num, z.part, z.day, c⟩ → Q (.ref x) H'
abbrev s_put_right : Stmt := top 14
theorem sc_put_right : FnScope ["statement", "crack"] ["statement", "crack"] (defScope s_put_right) := ⟨rfl, rfl, rfl, by decide +kernel, rfl, by decide +kernel, by decide +kernel⟩
theorem ok_put_right {f : Addr} {fd : FuncData} (F : Fun K "put_right" "put_right" s_put_right f fd) (T : Txt K mg A)
    (c3 : CalC P w K mg base 1 A.cStatement ["self", "number", "part", "day", "crack"] (spIni A.cStatement ["number", "part", "day", "crack"])) : FnOk P w K mg base CX0 3 f fd ["statement", "crack"] (spPutRight K) := by
  obtain ⟨fI, fdI, GStatement, MStatement, bStatement⟩ := c3.ex
  refine F.ok sc_put_right (fun vs H Q E h => ?_) (fun cdv A' outer s H vs Q E hr h => ?_)
  · obtain ⟨a, c, z, rfl, _⟩ := h
    rfl
  · obtain ⟨a, c, z, rfl, ⟨h1, h2, h3, h4⟩, k⟩ := h
    refine ⟨_, (pss_one (ps_ret (pe_make MStatement GStatement (hr.mono (by decide)) rfl T.cStatement bStatement .nil pass0 (pa_cons (pe_fld (pv 0) rfl) (pa_cons (pe_fld (pv 0) rfl) (pa_cons (pe_fld (pv 0) rfl) (pa_cons (pv 1) pa_nil))))))), ?_⟩
    refine ⟨_, rfl, rd_attr h1 ⟨_, rfl, rd_attr h2 ⟨_, rfl, rd_attr h3 ⟨_, rfl, ?_⟩⟩⟩⟩
    intro x dx nx nd ne
    refine ⟨x, dx, _, rfl, rfl, upd_same, fun H2 e => ⟨rfl, ?_⟩⟩
    obtain ⟨s1, a1, a2, a3, a4⟩ := mkStm T nx nd e
    exact k H2 x s1 ⟨a1, a2, a3, a4⟩
end
end Br

end
section
set_option Elab.async false
set_option linter.all false
set_option maxRecDepth 100000
set_option maxHeartbeats 2000000
namespace Br
open PySem PySem.Spec PyProof.Rows L2
/-! ### the dict of statements -/
def DP (K : PySem.W.Frag) (H : Hp) (kvs : List (Key × V)) (sts : List Stm) : Prop := Paired (fun (kv : Key × V) (st : Stm) => kv.1 = Sum.inl (st.num : Int) ∧ ∃ a, kv.2 = .ref a ∧ StmAt K H a st) kvs sts
theorem DP.loc {K : PySem.W.Frag} {H H' : Hp} {kvs : List (Key × V)} {sts : List Stm} (h : DP K H kvs sts) (s : ∀ a C dx fs, H a = some (.ins C dx fs) → H' a = some (.ins C dx fs)) : DP K H' kvs sts :=
  paired_mono (fun kv st ⟨e, a, ea, r⟩ => ⟨e, a, ea, lStm.loc _ _ a st r fun o ho => by
    obtain ⟨C, dx, fs, hi⟩ := lStm.ins _ _ _ r
    rw [hi] at ho
    cases ho
    exact s a _ _ _ hi⟩) h
theorem DP.none {K : PySem.W.Frag} {H : Hp} {n : Nat} : ∀ {kvs : List (Key × V)} {sts : List Stm}, DP K H kvs sts → (∀ st ∈ sts, st.num ≠ n) → valV kvs (Sum.inl (n : Int)) = Option.none
  | _, _, .nil, _ => rfl
  | _, _, .cons (a := kv) (b := st) ⟨e, _⟩ t, h => by
    have hne : ¬ kv.1 = Sum.inl (n : Int) := fun q => h st List.mem_cons_self (by rw [e] at q; have := Sum.inl.inj q; omega)
    rw [valV_neg hne]
    exact DP.none t fun st m => h st (List.mem_cons_of_mem _ m)
theorem DP.some {K : PySem.W.Frag} {H : Hp} {n : Nat} : ∀ {kvs : List (Key × V)} {sts : List Stm}, DP K H kvs sts → (∃ st ∈ sts, st.num = n) → ∃ a z, valV kvs (Sum.inl (n : Int)) = Option.some (V.ref a) ∧ z ∈ sts ∧ z.num = n ∧ StmAt K H a z
  | _, _, .nil, ⟨_, m, _⟩ => by cases m
  | _, _, .cons (a := kv) (b := st) (l₂ := sts') ⟨e, a, ea, r⟩ t, ⟨st', m, hn⟩ => by
    by_cases hq : st.num = n
    · refine ⟨a, st, ?_, List.mem_cons_self, hq, r⟩
      rw [valV_pos (by rw [e, hq]), ea]
    · have hne : ¬ kv.1 = Sum.inl (n : Int) := fun q => hq (by rw [e] at q; have := Sum.inl.inj q; omega)
      have m' : ∃ st : Stm, st ∈ sts' ∧ st.num = n := by
        rcases List.mem_cons.mp m with q | q
        · exact absurd hn (by rw [q]; exact hq)
        · exact ⟨st', q, hn⟩
      obtain ⟨a, z, h1, h2, h3⟩ := DP.some t m'
      exact ⟨a, z, by rw [valV_neg hne]; exact h1, List.mem_cons_of_mem _ h2, h3⟩
theorem DP.drop {K : PySem.W.Frag} {H : Hp} {n : Nat} : ∀ {kvs : List (Key × V)} {sts : List Stm}, DP K H kvs sts → DP K H (dropK kvs (Sum.inl (n : Int))) (sts.filter (fun st => decide (st.num ≠ n)))
  | _, _, .nil => .nil
  | _, _, .cons (a := kv) (b := st) ⟨e, r⟩ t => by
    by_cases hq : st.num = n
    · rw [dropK_pos (by rw [e, hq]), List.filter_cons, if_neg (by simp [hq])]
      exact DP.drop t
    · have hne : ¬ kv.1 = Sum.inl (n : Int) := fun q => hq (by rw [e] at q; have := Sum.inl.inj q; omega)
      rw [dropK_neg hne, List.filter_cons, if_pos (by simp [hq])]
      exact .cons ⟨e, r⟩ (DP.drop t)
theorem DP.rep {K : PySem.W.Frag} {H : Hp} {n c : Nat} {x : Addr} : ∀ {kvs : List (Key × V)} {sts : List Stm}, DP K H kvs sts → (∀ st ∈ sts, st.num = n → StmAt K H x ⟨st.num, st.part, st.day, c⟩) →
    DP K H (kvs.map fun kv => if kv.1 = Sum.inl (n : Int) then (kv.1, V.ref x) else kv) (sts.map fun st => if st.num = n then ⟨st.num, st.part, st.day, c⟩ else st)
  | _, _, .nil, _ => .nil
  | _, _, .cons (a := kv) (b := st) ⟨e, r⟩ t, h => by
    have ih := DP.rep (n := n) (c := c) (x := x) t fun st m => h st (List.mem_cons_of_mem _ m)
    refine .cons ?_ ih
    dsimp only
    by_cases hq : st.num = n
    · rw [if_pos hq, if_pos (by rw [e, hq])]
      exact ⟨e, x, rfl, h st List.mem_cons_self hq⟩
    · have hne : ¬ kv.1 = Sum.inl (n : Int) := fun q => hq (by rw [e] at q; have := Sum.inl.inj q; omega)
      rw [if_neg hq, if_neg hne]
      exact ⟨e, r⟩
theorem DP.refs {K : PySem.W.Frag} {H : Hp} : ∀ {kvs : List (Key × V)} {sts : List Stm}, DP K H kvs sts → ∃ as : List Addr, kvs.map (·.2) = as.map V.ref ∧ Paired (StmAt K H) as sts
  | _, _, .nil => ⟨[], rfl, .nil⟩
  | _, _, .cons (a := kv) (b := st) ⟨e, a, ea, r⟩ t => by
    obtain ⟨as, h1, h2⟩ := DP.refs t
    exact ⟨a :: as, by rw [List.map_cons, h1, ea]; rfl, .cons r h2⟩
theorem say_len (l : List Sy50.Entry) : (sayAll l).length ≤ l.length := by
  unfold sayAll
  refine Nat.le_trans (List.length_filterMap_le _ _) ?_
  rw [List.length_zipIdx]
  exact Nat.le_refl _
theorem cut_take {as : List Addr} {n : Nat} (h : n ≤ as.length) : cutV (as.map V.ref) none (some (n : Int)) = (as.take n).map V.ref := by
  unfold cutV
  rw [HT.sIx_none, HT.sIx_nat, List.drop_zero, Nat.sub_zero, List.length_map, Nat.min_eq_left h, List.map_take]
section
variable {P : Program} {w : World} {K : PySem.W.Frag} {mg : Str → Option Value} {base : Heap} {A : Ad}
def spStatements (K : PySem.W.Frag) : Sp := fun vs H Q _ => ∃ (le : Addr) (n : Nat) (l : List Sy50.Entry), vs = [.ref le, .int n] ∧ Objs (EntAt K) H le l ∧ n ≤ l.length ∧ Vd l ∧ l.length ≤ 60 ∧
  ∀ (H' : Hp) (p : Addr), Same H H' → Objs (StmAt K) H' p (sayAll (l.take n)) → Q (.ref p) H'
abbrev s_statements : Stmt := top 13
theorem sc_statements : FnScope ["entries", "n", "said", "number", "entry"] ["entries", "n"] (defScope s_statements) := ⟨rfl, rfl, rfl, by decide +kernel, rfl, by decide +kernel, by decide +kernel⟩
theorem ok_statements {f : Addr} {fd : FuncData} (F : Fun K "statements" "statements" s_statements f fd) (T : Txt K mg A) (c1 : Cal P w K mg base 3 "put_right" ["statement", "crack"] (spPutRight K))
    (c3 : CalC P w K mg base 1 A.cStatement ["self", "number", "part", "day", "crack"] (spIni A.cStatement ["number", "part", "day", "crack"])) : FnOk P w K mg base CX0 4 f fd ["entries", "n"] (spStatements K) := by
  obtain ⟨fput_right, fdput_right, Gput_right, mput_right, kput_right, bput_right⟩ := c1.ex
  obtain ⟨fI, fdI, GStatement, MStatement, bStatement⟩ := c3.ex
  refine F.ok sc_statements (fun vs H Q E h => ?_) (fun cdv A' outer s H vs Q E hr h => ?_)
  · obtain ⟨le, n, l, rfl, _⟩ := h
    rfl
  · obtain ⟨le, n, l, rfl, ⟨as, hle, hp⟩, hn, hv, h60, k⟩ := h
    have hu := hu_of hr
    refine ⟨_, (pss_cons (ps_set (i := 2) sc_statements.nd rfl (Or.inl rfl) pe_dnewK) (pss_cons (ps_for PassesOwn.never rfl (pi_enum rfl T.benumerate (pa_cons (pe_slice sl_list (pv 0) po_none (po_some (pv 1))) pa_nil)) (pg_tup rfl (pgs_cons (pg_name (i := 3) sc_statements.nd rfl (Or.inl rfl)) (pgs_cons (pg_name (i := 4) sc_statements.nd rfl (Or.inl rfl)) pgs_nil))) (pss_one (ps_if (pt_cmpR op_eq (pe_fld (pv 4) rfl) (pe_glob (v := V.int (2)) rfl T.gSTRUCK.choose_spec ⟨_, rfl⟩) (nomark _)) (pss_one (ps_expr (pe_dpop1 (pv 2) (pe_fld (pv 4) rfl) ⟨rfl, rfl, rfl, rfl⟩))) (pss_one (ps_if (pt_cmpR op_eq (pe_fld (pv 4) rfl) (pe_glob (v := V.int (3)) rfl T.gRIGHTED.choose_spec ⟨_, rfl⟩) (nomark _)) (pss_one (ps_dput hu (pv 2) (pe_fld (pv 4) rfl) (pe_call Gput_right (hr.mono (by decide)) rfl mput_right kput_right bput_right .nil pass0 (pa_cons (pe_dget hu (pv 2) (pe_fld (pv 4) rfl) (fun _ _ => rfl)) (pa_cons (pe_fld (pv 4) rfl) pa_nil))) rfl)) (pss_one (ps_dput hu (pv 2) (pv 3) (pe_make MStatement GStatement (hr.mono (by decide)) rfl T.cStatement bStatement .nil pass0 (pa_cons (pv 3) (pa_cons (pe_fld (pv 4) rfl) (pa_cons (pe_fld (pv 4) rfl) (pa_cons (pe_fld (pv 4) rfl) pa_nil))))) rfl))))))) (pss_one (ps_ret (pe_callTy (cr_listvals rfl) rfl T.blist (by decide +kernel) (pa_cons (pe_values (pv 2)) pa_nil)))))), ?_⟩
    have hal := paired_len hp
    intro d hd
    refine ⟨_, rfl, _, rfl, _, rfl, le, _, rfl, SqL.of ((Same.upd_new hd) _ _ hle), fun ls hls => ?_⟩
    have e0 := cut_take (as := as) (n := n) (by omega)
    have hdl : d ≠ ls := fun q => by rw [← q, upd_same] at hls; cases hls
    have s1 : Same H (upd (upd H d (.dK [])) ls (.lst (cutV (as.map V.ref) none (some (n : Int))))) := (Same.upd_new hd).to_upd hls
    refine ⟨ls, _, rfl, SqL.of upd_same, for_it (n := n) (fun i σ H' => ∃ (v3 v4 : Option V) (kvs : List (Key × V)), σ = [some (.ref le), some (.int n), some (.ref d), v3, v4] ∧ Same H H' ∧ H' ls = some (.lst ((as.take n).map V.ref)) ∧ H' d = some (.dK kvs) ∧ DP K H' kvs (sayAll (l.take i)))
      ⟨none, none, [], rfl, s1, by rw [upd_same, e0], by rw [upd_ne hdl]; exact upd_same, .nil⟩ ?_ ?_ ?_ ?_⟩
    · rintro i σ H' hi ⟨v3, v4, kvs, rfl, sa, h1, h2, h3⟩
      exact ⟨_, V.ref (as[i]'(by omega)), SqL.of h1, by rw [List.getElem?_map, List.getElem?_take, if_pos hi, List.getElem?_eq_getElem (by omega)]; rfl⟩
    · rintro σ H' ⟨v3, v4, kvs, rfl, sa, h1, h2, h3⟩
      exact ⟨_, SqL.of h1, by rw [List.length_map, List.length_take]; omega⟩
    · rintro i y σ H1 H2 hi ⟨v3, v4, kvs, rfl, sa, h1, h2, h3⟩ ⟨t, x, rfl, ht, rfl, hx⟩
      have hxi := hx _ (SqL.of h1)
      obtain ⟨a, ha, rfl⟩ := ref_at hxi
      have ha' : as[i]? = some a := by rw [List.getElem?_take, if_pos hi] at ha; exact ha
      obtain ⟨en, hen, he⟩ := paired_at hp ha'
      have tk := take_snoc hen
      have vi := hv.take i
      have ri : Refs (l.take i) en := hv i en hen
      have li : (l.take i).length = i := by rw [List.length_take]; omega
      have s2 : Same H (upd H1 t (.tup [.int (i : Nat), .ref a])) := sa.to_upd ht
      have he2 := mEnt _ _ _ _ he s2
      obtain ⟨k1, k2, k3, k4⟩ := he2
      have hd2 : (upd H1 t (.tup [.int (i : Nat), .ref a])) d = some (.dK kvs) := Same.upd_new ht _ _ h2
      have hl2 : (upd H1 t (.tup [.int (i : Nat), .ref a])) ls = some (.lst ((as.take n).map V.ref)) := Same.upd_new ht _ _ h1
      have dp2 : DP K (upd H1 t (.tup [.int (i : Nat), .ref a])) kvs (sayAll (l.take i)) := h3.loc fun a C dx fs e => Same.upd_new ht _ _ e
      have hlen : kvs.length < sizeLine := by
        have e1 := paired_len h3
        have e2 := say_len (l.take i)
        have : kvs.length ≤ 60 := by omega
        exact small1000 (by omega)
      generalize hH2 : upd H1 t (.tup [.int (i : Nat), .ref a]) = H2 at *
      refine ⟨t, _, rfl, SqT.of (by rw [← hH2]; exact upd_same), rfl, _, _, rfl, _, _, rfl, rfl, ?_⟩
      refine ⟨_, rfl, rd_attr k1 ⟨rfl, _, rfl, iteE (fun q => ?_) (fun q => ?_)⟩⟩
      · -- struck
        cases en with
        | found p d' c => exact absurd q (by show ¬ ((0 : Nat) : Int) = 2; decide)
        | mended p d' => exact absurd q (by show ¬ ((1 : Nat) : Int) = 2; decide)
        | right_ e c => exact absurd q (by show ¬ ((3 : Nat) : Int) = 2; decide)
        | struck e =>
          obtain ⟨b, z, hz1, hz2, hz3, hz4⟩ := dp2.some (say_has ri.1 ri.2)
          refine ⟨_, rfl, d, rfl, .inl ⟨_, Rd.of hd2⟩, _, rfl, rd_attr k2 ⟨kvs, Sum.inl (e : Int), _, hd2, rfl, hz1, ?_⟩⟩
          refine ⟨_, _, _, rfl, fun b o ho => ?_, ?_, upd_same, ?_⟩
          · rw [upd_ne (ne_of_none ho hd)]; exact s2 _ _ ho
          · rw [upd_ne (fun q => hdl q.symm)]; exact hl2
          · rw [tk, say_struck]
            exact (dp2.loc fun a C dx fs e => by rw [upd_ne (ne_ins e hd2 rfl)]; exact e).drop
      · refine ⟨_, rfl, rd_attr k1 ⟨rfl, _, rfl, iteE (fun q' => ?_) (fun q' => ?_)⟩⟩
        · -- righted
          cases en with
          | found p d' c => exact absurd q' (by show ¬ ((0 : Nat) : Int) = 3; decide)
          | mended p d' => exact absurd q' (by show ¬ ((1 : Nat) : Int) = 3; decide)
          | struck e => exact absurd rfl q
          | right_ e c =>
            obtain ⟨b, z, hz1, hz2, hz3, hz4⟩ := dp2.some (say_has (.inl ri.1) ri.2)
            refine ⟨_, rfl, _, rfl, rd_attr k2 ⟨d, _, rfl, (by rw [← hz1]; exact DGet.k (k := Sum.inl (e : Int)) hd2), _, rfl, rd_attr k4 ⟨b, c, z, rfl, hz4, fun H3 x s3 hx3 => ?_⟩⟩⟩
            have k2' := k2.same s3
            have hd3 := s3 _ _ hd2
            refine ⟨_, rfl, _, rfl, rd_attr k2' ⟨d, _, rfl, DPut.k (k := Sum.inl (e : Int)) hd3 hlen, ?_⟩⟩
            refine ⟨_, _, _, rfl, fun b o ho => ?_, ?_, upd_same, ?_⟩
            · rw [upd_ne (ne_of_none ho hd)]; exact s3 _ _ (s2 _ _ ho)
            · rw [upd_ne (fun q => hdl q.symm)]; exact s3 _ _ hl2
            · rw [tk, say_right ri]
              have e1 : putK kvs (Sum.inl (e : Int)) (V.ref x) = kvs.map fun kv => if kv.1 = Sum.inl (e : Int) then (kv.1, V.ref x) else kv := by
                unfold putK
                rw [if_pos]
                rw [valV_any, hz1]
                rfl
              rw [e1]
              refine ((dp2.loc fun a C dx fs e => s3 _ _ e).rep fun st m hm => ?_).loc fun a C dx fs e => by rw [upd_ne (ne_ins e hd3 rfl)]; exact e
              have : st = z := say_inj m hz2 (by omega)
              subst this
              exact hx3
        · -- found, mended
          refine ⟨_, rfl, _, rfl, rd_attr k2 ⟨_, rfl, rd_attr k3 ⟨_, rfl, rd_attr k4 ?_⟩⟩⟩
          intro x dx nx nd ne
          refine ⟨x, dx, _, rfl, rfl, upd_same, fun H3 e3 => ⟨rfl, ?_⟩⟩
          obtain ⟨s3, a1, a2, a3, a4⟩ := mkStm T nx nd e3
          have hd3 := s3 _ _ hd2
          refine ⟨_, rfl, _, rfl, d, _, rfl, DPut.k (k := Sum.inl (i : Int)) hd3 hlen, ?_⟩
          refine ⟨_, _, _, rfl, fun b o ho => ?_, ?_, upd_same, ?_⟩
          · rw [upd_ne (ne_of_none ho hd)]; exact s3 _ _ (s2 _ _ ho)
          · rw [upd_ne (fun q => hdl q.symm)]; exact s3 _ _ hl2
          · have hno : valV kvs (Sum.inl (i : Int)) = none := dp2.none fun st m => by
              have := say_lt m
              omega
            rw [putK_new _ hno]
            have base2 : DP K (upd H3 d (.dK (kvs ++ [(Sum.inl (i : Int), V.ref x)]))) kvs (sayAll (l.take i)) := (dp2.loc fun a C dx fs e => s3 _ _ e).loc fun a C dx fs e => by rw [upd_ne (ne_ins e hd3 rfl)]; exact e
            have hsx : ∀ (st : Stm), StmAt K H3 x st → StmAt K (upd H3 d (.dK (kvs ++ [(Sum.inl (i : Int), V.ref x)]))) x st := fun st h => lStm.loc _ _ _ _ h fun o ho => by
              obtain ⟨C, dx, fs, hi⟩ := lStm.ins _ _ _ h
              rw [upd_ne (ne_ins hi hd3 rfl)]; exact ho
            cases en with
            | struck e => exact absurd rfl q
            | right_ e c => exact absurd rfl q'
            | found p d' c =>
              rw [tk, say_found vi, li]
              exact paired_snoc base2 ⟨rfl, x, rfl, hsx _ ⟨a1, a2, a3, a4⟩⟩
            | mended p d' =>
              rw [tk, say_mended vi, li]
              exact paired_snoc base2 ⟨rfl, x, rfl, hsx _ ⟨a1, a2, a3, a4⟩⟩
    · rintro σ H' ⟨v3, v4, kvs, rfl, sa, h1, h2, h3⟩
      refine ⟨_, rfl, d, kvs, rfl, h2, fun pv hpv => ?_⟩
      refine ⟨pv, d, kvs, rfl, upd_same, Same.upd_new hpv _ _ h2, fun q hq => ?_⟩
      obtain ⟨bs, hb1, hb2⟩ := (h3.loc fun a C dx fs e => (Same.upd_new hpv).to_upd hq _ _ e).refs
      exact k _ q (sa.trans ((Same.upd_new hpv).to_upd hq)) ⟨bs, by rw [upd_same, hb1], hb2⟩
end
end Br

end
section
set_option Elab.async false
set_option linter.all false
set_option maxRecDepth 100000
set_option maxHeartbeats 2000000
namespace Br
open PySem PySem.Spec PyProof.Rows L2
/-! ### instances stay -/
def InsK (H H' : Hp) : Prop := ∀ a C dx fs, H a = some (.ins C dx fs) → H' a = some (.ins C dx fs)
theorem InsK.of {H H' : Hp} (s : Same H H') : InsK H H' := fun a C dx fs e => s _ _ e
theorem InsK.upd {H : Hp} {d : Addr} {o o' : HO} (hd : H d = some o') (no : isIns o' = false) : InsK H (upd H d o) := fun a C dx fs e => by rw [upd_ne (ne_ins e hd no)]; exact e
theorem Loc1.insK {α : Type} {R : Hp → Addr → α → Prop} (L : Loc1 R) {H H' : Hp} {a : Addr} {x : α} (r : R H a x) (s : InsK H H') : R H' a x := by
  obtain ⟨C, dx, fs, hi⟩ := L.ins _ _ _ r
  exact L.loc _ _ _ _ r fun o ho => by rw [hi] at ho; cases ho; exact s _ _ _ _ hi
theorem AttrIs.insK {K : PySem.W.Frag} {H H' : Hp} {a : Addr} {f : Str} {v : V} (h : AttrIs K H a f v) (s : InsK H H') : AttrIs K H' a f v := by
  obtain ⟨C, dx, fs, hi, r⟩ := h
  exact ⟨C, dx, fs, s _ _ _ _ hi, r⟩
theorem SrcV.insK {K : PySem.W.Frag} {H H' : Hp} {v : V} {o : Option Stm} (h : SrcV K H v o) (s : InsK H H') : SrcV K H' v o := by
  cases o with
  | none => exact h
  | some st => obtain ⟨a, e, x⟩ := h; exact ⟨a, e, lStm.insK x s⟩
theorem StdAt.insK {K : PySem.W.Frag} {H H' : Hp} {a : Addr} {x : Option Stm × Nat × Nat} (h : StdAt K H a x) (s : InsK H H') : StdAt K H' a x := by
  obtain ⟨v, h1, h2, h3, h4⟩ := h
  exact ⟨v, h1.insK s, h2.insK s, h3.insK s, h4.insK s⟩
theorem ixN_nat {n j : Nat} (h : j < n) : ixN n (j : Int) = some j := by
  unfold ixN
  rw [if_pos (by omega), if_pos (by omega), Int.toNat_natCast]
/-- a list of its own that the def writes: what was there before stays -/
theorem same_own {H H' : Hp} {d : Addr} {o : HO} (s : Same H H') (hd : H d = none) : Same H (upd H' d o) := fun b u e => by
  rw [upd_ne (ne_of_none e hd)]; exact s _ _ e

/-! ### standings -/
def stdL (parts : List Sy50.Part) (sts : List Stm) (day : Nat) : List (Option Stm × Nat × Nat) := parts.zipIdx.map fun (x : Sy50.Part × Nat) => (srcOf sts x.2 day, crackN x.1 (srcOf sts x.2 day) day, bearsN x.1 (crackN x.1 (srcOf sts x.2 day) day))
theorem stdL_at {parts : List Sy50.Part} {sts : List Stm} {day k : Nat} {p : Sy50.Part} (h : parts[k]? = some p) : (stdL parts sts day)[k]? = some (srcOf sts k day, crackN p (srcOf sts k day) day, bearsN p (crackN p (srcOf sts k day) day)) := by
  unfold stdL
  rw [List.getElem?_map, List.getElem?_zipIdx, h]
  simp
theorem stdL_len (parts : List Sy50.Part) (sts : List Stm) (day : Nat) : (stdL parts sts day).length = parts.length := by
  unfold stdL
  rw [List.length_map, List.length_zipIdx]
def stdS (s : Sy50.St) (day n : Nat) : List (Option Stm × Nat × Nat) := (List.range s.parts.length).map fun k => (srcOf (sayAll (s.entries.take n)) k day, Sy50.crack s k day n, Sy50.bears s k day n)
theorem stdL_S (s : Sy50.St) (day n : Nat) : stdL s.parts (sayAll (s.entries.take n)) day = stdS s day n := by
  refine List.ext_getElem? fun k => ?_
  unfold stdS
  rw [List.getElem?_map]
  cases h : s.parts[k]? with
  | none =>
    have hk := List.getElem?_eq_none_iff.mp h
    rw [List.getElem?_eq_none (by rw [stdL_len]; exact hk), List.getElem?_eq_none (by rw [List.length_range]; exact hk)]
    rfl
  | some p =>
    have hk := (List.getElem?_eq_some_iff.mp h).1
    rw [stdL_at h, List.getElem?_range hk]
    simp only [Option.map_some]
    rw [crack_eq, bears_eq, part_at h]
section
variable {P : Program} {w : World} {K : PySem.W.Frag} {mg : Str → Option Value} {base : Heap} {A : Ad}
def spSources (K : PySem.W.Frag) : Sp := fun vs H Q _ => ∃ (la : Addr) (cnt day : Nat) (sts : List Stm), vs = [.ref la, .int cnt, .int day] ∧ Objs (StmAt K) H la sts ∧ cnt ≤ 12 ∧ (∀ st ∈ sts, st.part < cnt) ∧
  ∀ (H' : Hp) (p : Addr) (us : List V), Same H H' → H' p = some (.lst us) → us.length = cnt → (∀ k v, us[k]? = some v → SrcV K H' v (srcOf sts k day)) → Q (.ref p) H'
abbrev s_sources_on : Stmt := top 15
theorem sc_sources_on : FnScope ["said", "count", "day", "sources", "statement", "source"] ["said", "count", "day"] (defScope s_sources_on) := ⟨rfl, rfl, rfl, by decide +kernel, rfl, by decide +kernel, by decide +kernel⟩
theorem ok_sources_on {f : Addr} {fd : FuncData} (F : Fun K "sources_on" "sources_on" s_sources_on f fd) (T : Txt K mg A) : FnOk P w K mg base CX0 1 f fd ["said", "count", "day"] (spSources K) := by
  refine F.ok sc_sources_on (fun vs H Q E h => ?_) (fun cdv A' outer s H vs Q E hr h => ?_)
  · obtain ⟨la, cnt, day, sts, rfl, _⟩ := h
    rfl
  · obtain ⟨la, cnt, day, sts, rfl, ⟨as, hla, hp⟩, h12, hpt, k⟩ := h
    refine ⟨_, (pss_cons (ps_set (i := 3) sc_sources_on.nd rfl (Or.inl rfl) (pe_op op_rep (pe_lst (pa_cons pe_non pa_nil)) (pv 1))) (pss_cons (ps_for PassesOwn.never rfl (pi_list (pv 0)) (pg_name (i := 4) sc_sources_on.nd rfl (Or.inl rfl)) (pss_cons (ps_set (i := 5) sc_sources_on.nd rfl (Or.inl rfl) (pe_ix ix_list (pv 3) (pe_fld (pv 4) rfl) (fun _ _ => rfl))) (pss_one (ps_if (PW.pt (pw_and (pt_cmpR op_le (pe_fld (pv 4) rfl) (pv 2) (nomark _)) (pw_and1 (PW.pt (pw_or (pt_cmp (pc_isN (pv 5))) (pw_or1 (pt_cmpR op_ge (pe_fld (pv 4) rfl) (pe_fld (pv 5) rfl) (nomark _)))))))) (pss_one (ps_asg (pv 4) (pg_sub (pv 3) (pe_fld (pv 4) rfl) set_list))) pss_nil)))) (pss_one (ps_ret (pv 3))))), ?_⟩
    refine ⟨by show 1 ≤ sizeLine; decide, fun l0 hl0 => ?_⟩
    refine ⟨_, rfl, l0, (cnt : Int), _, rfl, rfl, upd_same, by omega, by omega, ?_, fun ls hls => ?_⟩
    · show 1 * ((cnt : Int).toNat) ≤ sizeLine
      rw [Int.toNat_natCast, Nat.one_mul]
      exact Nat.le_of_lt (small1000 (by omega))
    have s0 : Same H (upd H l0 (.lst [V.non])) := Same.upd_new hl0
    have hlsH : H ls = none := s0.free hls
    have e0 : (List.replicate (cnt : Int).toNat [V.non]).flatten = List.replicate cnt V.non := by
      rw [Int.toNat_natCast, List.flatten_replicate_singleton]
    have s1 : Same H (upd (upd H l0 (.lst [V.non])) ls (.lst (List.replicate (cnt : Int).toNat [V.non]).flatten)) := s0.to_upd hls
    refine ⟨_, rfl, la, rfl, ⟨_, SqL.of (s1 _ _ hla)⟩, for_list (K := K) (a := la) (xs := as.map V.ref) (fun i σ H' => ∃ (v4 v5 : Option V) (us : List V), σ = [some (.ref la), some (.int cnt), some (.int day), some (.ref ls), v4, v5] ∧ Same H H' ∧ H' ls = some (.lst us) ∧ us.length = cnt ∧ ∀ k v, us[k]? = some v → SrcV K H' v (srcOf (sts.take i) k day))
      ⟨none, none, _, rfl, s1, upd_same, by rw [e0, List.length_replicate], fun k v hv => ?_⟩ (fun i σ H' _ ⟨_, _, _, _, sa, _⟩ => SqL.of (sa _ _ hla)) ?_ ?_⟩
    · rw [e0, List.getElem?_replicate] at hv
      split at hv
      · exact (Option.some.inj hv).symm
      · cases hv
    · rintro i y σ H1 hi ⟨v4, v5, us, rfl, sa, h1, h2, h3⟩
      obtain ⟨a, ha, rfl⟩ := ref_at hi
      obtain ⟨st, hst, hs⟩ := paired_at hp ha
      have tk := take_snoc hst
      obtain ⟨k1, k2, k3, k4⟩ := mStm _ _ _ _ hs sa
      have hlt : st.part < cnt := hpt st (List.mem_of_getElem? hst)
      obtain ⟨v, hv⟩ : ∃ v, us[st.part]? = some v := ⟨_, List.getElem?_eq_getElem (by omega)⟩
      have hm := h3 _ _ hv
      have nope : ∀ H2 : Hp, (∀ kk, kk ≠ st.part → srcOf (sts.take (i + 1)) kk day = srcOf (sts.take i) kk day) := fun _ kk hk => by
        rw [tk, src_snoc]
        unfold srcStep
        rw [if_neg (fun q => hk q.1.symm)]
      -- nothing stored
      have idle : srcStep st.part day (srcOf (sts.take i) st.part day) st = srcOf (sts.take i) st.part day → ∃ (v4 v5' : Option V) (us' : List V), [some (V.ref la), some (V.int cnt), some (V.int day), some (V.ref ls), some (V.ref a), some v] = [some (.ref la), some (.int cnt), some (.int day), some (.ref ls), v4, v5'] ∧ Same H H1 ∧ H1 ls = some (.lst us') ∧ us'.length = cnt ∧ ∀ k v, us'[k]? = some v → SrcV K H1 v (srcOf (sts.take (i + 1)) k day) := fun q =>
        ⟨_, _, us, rfl, sa, h1, h2, fun kk u hu => by
          by_cases hk : kk = st.part
          · subst hk
            rw [tk, src_snoc, q]
            exact h3 _ _ hu
          · rw [nope H1 kk hk]
            exact h3 _ _ hu⟩
      -- stored
      have put : srcStep st.part day (srcOf (sts.take i) st.part day) st = some st → ∃ (v4 v5' : Option V) (us' : List V), [some (V.ref la), some (V.int cnt), some (V.int day), some (V.ref ls), some (V.ref a), some v] = [some (.ref la), some (.int cnt), some (.int day), some (.ref ls), v4, v5'] ∧ Same H (upd H1 ls (.lst (us.set st.part (.ref a)))) ∧ (upd H1 ls (.lst (us.set st.part (.ref a)))) ls = some (.lst us') ∧ us'.length = cnt ∧ ∀ k v, us'[k]? = some v → SrcV K (upd H1 ls (.lst (us.set st.part (.ref a)))) v (srcOf (sts.take (i + 1)) k day) := fun q =>
        ⟨_, _, us.set st.part (.ref a), rfl, same_own sa hlsH, upd_same, by rw [List.length_set]; exact h2, fun kk u hu => by
          by_cases hk : kk = st.part
          · subst hk
            rw [List.getElem?_set_self (by omega)] at hu
            have e := Option.some.inj hu
            subst e
            rw [tk, src_snoc, q]
            exact ⟨a, rfl, lStm.insK (mStm _ _ _ _ hs sa) (InsK.upd h1 rfl)⟩
          · rw [List.getElem?_set_ne (fun q => hk q.symm)] at hu
            rw [nope H1 kk hk]
            exact (h3 _ _ hu).insK (InsK.upd h1 rfl)⟩
      refine ⟨_, rfl, _, rfl, rd_attr k2 ⟨ls, us, _, v, rfl, rfl, SqL.of h1, atI_nat hv, ?_⟩⟩
      refine ⟨_, rfl, rd_attr k3 ⟨_, rfl, _, _, rfl, rfl, _, rfl, iteD (fun q => ?_) (fun q => iteF (idle ?_))⟩⟩
      · refine ⟨_, rfl, _, rfl, ?_⟩
        cases hso : srcOf (sts.take i) st.part day with
        | none =>
          rw [hso] at hm
          cases hm
          refine iteDp rfl (iteT ?_)
          refine ⟨_, rfl, _, rfl, _, rfl, rd_attr k2 ⟨ls, us, _, _, rfl, rfl, h1, ixN_nat (by omega), put ?_⟩⟩
          rw [hso]
          unfold srcStep
          rw [if_pos ⟨rfl, by omega⟩]
        | some z =>
          rw [hso] at hm
          obtain ⟨b, rfl, m1, m2, m3, m4⟩ := hm
          refine iteDn (by intro q; cases q) ?_
          refine ⟨_, rfl, rd_attr k3 ⟨_, rfl, rd_attr m3 ⟨_, _, rfl, rfl, _, rfl, ?_⟩⟩⟩
          by_cases hq : z.day ≤ st.day
          · rw [decide_eq_true (show (z.day : Int) ≤ (st.day : Int) by omega)]
            refine iteT ?_
            refine ⟨_, rfl, _, rfl, _, rfl, rd_attr k2 ⟨ls, us, _, _, rfl, rfl, h1, ixN_nat (by omega), put ?_⟩⟩
            rw [hso]
            unfold srcStep
            rw [if_pos ⟨rfl, by omega⟩]
            simp only [if_pos hq]
          · rw [decide_eq_false (show ¬ (z.day : Int) ≤ (st.day : Int) by omega)]
            refine iteF (idle ?_)
            rw [hso]
            unfold srcStep
            rw [if_pos ⟨rfl, by omega⟩]
            simp only [if_neg hq]
      · unfold srcStep
        rw [if_neg (fun z => q (by have := z.2; omega))]
    · rintro σ H1 ⟨v4, v5, us, rfl, sa, h1, h2, h3⟩
      refine ⟨_, rfl, k H1 ls us sa h1 h2 fun kk v hv => ?_⟩
      have e : sts.take (as.map V.ref).length = sts := by rw [List.length_map, paired_len hp, List.take_length]
      have := h3 kk v hv
      rw [e] at this
      exact this
def spStandings (K : PySem.W.Frag) : Sp := fun vs H Q _ => ∃ (lp la : Addr) (day : Nat) (parts : List Sy50.Part) (sts : List Stm), vs = [.ref lp, .ref la, .int day] ∧ Objs (PartAt K) H lp parts ∧ (∀ p ∈ parts, POk p) ∧ parts.length ≤ 12 ∧ Objs (StmAt K) H la sts ∧ (∀ st ∈ sts, st.part < parts.length) ∧
  ∀ (H' : Hp) (p : Addr), Same H H' → Objs (StdAt K) H' p (stdL parts sts day) → Q (.ref p) H'
abbrev s_standings : Stmt := top 16
theorem sc_standings : FnScope ["parts", "said", "day", "sources", "part", "source"] ["parts", "said", "day"] (defScope s_standings) := ⟨rfl, rfl, rfl, by decide +kernel, rfl, by decide +kernel, by decide +kernel⟩
theorem ok_standings {f : Addr} {fd : FuncData} (F : Fun K "standings" "standings" s_standings f fd) (T : Txt K mg A) (c1 : Cal P w K mg base 1 "sources_on" ["said", "count", "day"] (spSources K)) (c2 : Cal P w K mg base 3 "standing" ["part", "source", "day"] (spStanding K)) :
    FnOk P w K mg base CX0 4 f fd ["parts", "said", "day"] (spStandings K) := by
  obtain ⟨fsources_on, fdsources_on, Gsources_on, msources_on, ksources_on, bsources_on⟩ := c1.ex
  obtain ⟨fstanding, fdstanding, Gstanding, mstanding, kstanding, bstanding⟩ := c2.ex
  refine F.ok sc_standings (fun vs H Q E h => ?_) (fun cdv A' outer s H vs Q E hr h => ?_)
  · obtain ⟨lp, la, day, parts, sts, rfl, _⟩ := h
    rfl
  · obtain ⟨lp, la, day, parts, sts, rfl, ⟨ps, hlp, hpp⟩, hpo, h12, hst, hpt, k⟩ := h
    have hpl := paired_len hpp
    refine ⟨_, (pss_cons (ps_set (i := 3) sc_standings.nd rfl (Or.inl rfl) (pe_call Gsources_on (hr.mono (by decide)) rfl msources_on ksources_on bsources_on .nil pass0 (pa_cons (pv 1) (pa_cons (pe_callB call_len_seq (by rfl) T.blen PySem.boot_len (pa_cons (pv 0) pa_nil)) (pa_cons (pv 2) pa_nil))))) (pss_one (ps_ret (pe_lc rfl sc_standings.nd (g := (gTup K 2 (gCons (gName 4) (gCons (gName 5) gNil)))) (tt := tYes) (te := (tCall (spStanding K) [] E0 (tCons (tVar 4) (tCons (tVar 5) (tCons (tVar 2) tNil))))) (pi_zip rfl T.bzip (pa_cons (pv 0) (pa_cons (pv 3) pa_nil))) (blkOk_by (own := [("part", 4), ("source", 5)]) (show blkC ["parts", "said", "day", "sources", "part", "source"] (defScope s_standings) _ _ = true by decide +kernel)) (fun _ _ _ _ _ => (pg_tup rfl (pgs_cons (pg_name (i := 4) sc_standings.nd rfl (Or.inl rfl)) (pgs_cons (pg_name (i := 5) sc_standings.nd rfl (Or.inl rfl)) pgs_nil)))) (fun _ _ _ _ _ => pts_nil) (fun _ _ _ _ _ => (pe_call Gstanding (hr.mono (by decide)) rfl mstanding kstanding bstanding .nil pass0 (pa_cons (pv 4) (pa_cons (pv 5) (pa_cons (pv 2) pa_nil))))))))), ?_⟩
    refine ⟨_, rfl, _, rfl, lp, _, rfl, .inl (SqL.of hlp), _, rfl, la, (ps.map V.ref).length, day, sts, rfl, hst, by rw [List.length_map]; omega, fun st m => by rw [List.length_map]; have := hpt st m; omega, fun H1 lsrc us s1 h1 h2 h3 => ?_⟩
    rw [List.length_map] at h2
    refine ⟨_, rfl, _, rfl, lp, lsrc, _, _, rfl, SqL.of (s1 _ _ hlp), SqL.of h1, fun D hD => ?_⟩
    refine lc_it (n := parts.length) (fun i H' => ∃ acc : List Addr, Same H1 H' ∧ H' D = some (.lst (acc.map V.ref)) ∧ Paired (StdAt K H') acc ((stdL parts sts day).take i)) ⟨[], Same.upd_new hD, upd_same, .nil⟩ ?_ ?_ ?_ ?_
    · rintro i H' hi ⟨acc, sa, hd, pa⟩
      exact ⟨_, _, V.ref (ps[i]'(by omega)), us[i]'(by omega), SqL.of (sa _ _ (s1 _ _ hlp)), SqL.of (sa _ _ h1), at_ref (List.getElem?_eq_getElem (by omega)), List.getElem?_eq_getElem (by omega)⟩
    · rintro H' ⟨acc, sa, hd, pa⟩
      exact ⟨_, _, SqL.of (sa _ _ (s1 _ _ hlp)), SqL.of (sa _ _ h1), .inr (by omega)⟩
    · rintro i y H2 H3 hi ⟨acc, sa, hd, pa⟩ ⟨t, x, v, rfl, ht, rfl, hx, hv⟩
      obtain ⟨a, ha, rfl⟩ := ref_at (hx _ (SqL.of (sa _ _ (s1 _ _ hlp))))
      have hvi := hv _ (SqL.of (sa _ _ h1))
      obtain ⟨p, hp, hpa⟩ := paired_at hpp ha
      have s3 : Same H1 (upd H2 t (.tup [.ref a, v])) := sa.to_upd ht
      have hal : acc.length < sizeLine := by
        have e1 := paired_len pa
        rw [List.length_take] at e1
        exact small1000 (by omega)
      refine ⟨t, _, rfl, SqT.of upd_same, rfl, _, _, rfl, _, _, rfl, rfl, rfl, tyes ?_⟩
      refine ⟨_, rfl, _, rfl, _, rfl, a, v, day, p, srcOf sts i day, rfl, mPart _ _ _ _ hpa (s1.trans s3), hpo p (List.mem_of_getElem? hp), (h3 _ _ hvi).same s3, fun z hz => src_le hz, fun H4 x s4 hx4 => ?_⟩
      have hd4 := s4 _ _ (Same.upd_new ht _ _ hd)
      refine ⟨_, hd4, by rw [List.length_map]; exact hal, acc ++ [x], same_own (s3.trans s4) hD, by rw [upd_same, List.map_append]; rfl, ?_⟩
      rw [take_snoc (stdL_at hp)]
      refine paired_snoc (paired_mono (fun b z r => (mStd _ _ _ _ r ((Same.upd_new ht).trans s4)).insK (InsK.upd hd4 rfl)) pa) (hx4.insK (InsK.upd hd4 rfl))
    · rintro H' ⟨acc, sa, hd, pa⟩
      refine k H' D (s1.trans sa) ⟨acc, hd, ?_⟩
      rw [← stdL_len parts sts day, List.take_length] at pa
      exact pa
def spLimitOn (K : PySem.W.Frag) : Sp := fun vs H Q _ => ∃ (lp la : Addr) (day n : Nat) (s : Sy50.St), vs = [.ref lp, .ref la, .int day] ∧ Good s ∧ Objs (PartAt K) H lp s.parts ∧ Objs (StmAt K) H la (sayAll (s.entries.take n)) ∧
  ∀ (H' : Hp), Same H H' → Q (.int ((Sy50.limit s day n : Nat) : Int)) H'
abbrev s_limit_on : Stmt := top 21
theorem sc_limit_on : FnScope ["parts", "said", "day", "each"] ["parts", "said", "day"] (defScope s_limit_on) := ⟨rfl, rfl, rfl, by decide +kernel, rfl, by decide +kernel, by decide +kernel⟩
theorem ok_limit_on {f : Addr} {fd : FuncData} (F : Fun K "limit_on" "limit_on" s_limit_on f fd) (T : Txt K mg A) (c1 : Cal P w K mg base 4 "standings" ["parts", "said", "day"] (spStandings K)) :
    FnOk P w K mg base CX0 5 f fd ["parts", "said", "day"] (spLimitOn K) := by
  obtain ⟨fstandings, fdstandings, Gstandings, mstandings, kstandings, bstandings⟩ := c1.ex
  refine F.ok sc_limit_on (fun vs H Q E h => ?_) (fun cdv A' outer s H vs Q E hr h => ?_)
  · obtain ⟨lp, la, day, n, s, rfl, _⟩ := h
    rfl
  · obtain ⟨lp, la, day, n, s, rfl, g, hlp, hla, k⟩ := h
    refine ⟨_, (pss_one (ps_ret (pe_callB (cr_min rfl) (by rfl) T.bmin (by decide +kernel) (pa_cons (pe_lc rfl sc_limit_on.nd (g := (gName 3)) (tt := tYes) (te := (tFld K (tVar 3) "bears")) (pi_list (pe_call Gstandings (hr.mono (by decide)) rfl mstandings kstandings bstandings .nil pass0 (pa_cons (pv 0) (pa_cons (pv 1) (pa_cons (pv 2) pa_nil))))) (blkOk_by (own := [("each", 3)]) (show blkC ["parts", "said", "day", "each"] (defScope s_limit_on) _ _ = true by decide +kernel)) (fun _ _ _ _ _ => (pg_name (i := 3) sc_limit_on.nd rfl (Or.inl rfl))) (fun _ _ _ _ _ => pts_nil) (fun _ _ _ _ _ => (pe_fld (pv 3) rfl))) pa_nil)))), ?_⟩
    refine ⟨_, rfl, _, rfl, _, rfl, lp, la, day, s.parts, _, rfl, hlp, g.pb, g.p12, hla, fun st m => (g.say n m).1, fun H1 p s1 ⟨as, hp, hpa⟩ => ?_⟩
    rw [stdL_S] at hpa
    have hl := paired_len hpa
    have hl2 : (stdS s day n).length = s.parts.length := by unfold stdS; rw [List.length_map, List.length_range]
    refine ⟨p, rfl, ⟨_, SqL.of hp⟩, fun D hD => ?_⟩
    refine lc_list (K := K) (a := p) (xs := as.map V.ref) (fun i H' => Same H1 H' ∧ H' D = some (.lst ((((stdS s day n).take i).map fun x => (x.2.2 : Int)).map V.int))) ⟨Same.upd_new hD, upd_same⟩ (fun i H' _ ⟨sa, _⟩ => SqL.of (sa _ _ hp)) ?_ ?_
    · rintro i y H2 hi ⟨sa, hd⟩
      obtain ⟨a, ha, rfl⟩ := ref_at hi
      obtain ⟨x, hx, v, q1, q2, q3, q4⟩ := paired_at hpa ha
      refine ⟨rfl, tyes ?_⟩
      refine ⟨_, rfl, rd_attr (q4.same sa) ⟨_, hd, ?_, same_own sa hD, ?_⟩⟩
      · rw [List.length_map, List.length_map, List.length_take]
        have := g.p12
        exact small1000 (by omega)
      · rw [upd_same, take_snoc hx, List.map_append, List.map_append]
        rfl
    · rintro H2 ⟨sa, hd⟩
      have e : (stdS s day n).take (as.map V.ref).length = stdS s day n := by rw [List.length_map, hl, List.take_length]
      rw [e] at hd
      refine ⟨D, _, rfl, SqL.of hd, ?_, fun m hm hall => ?_⟩
      · rw [List.length_map, hl2]; exact g.p0
      · unfold stdS at hm hall
        rw [List.map_map] at hm hall
        obtain ⟨kk, hk, rfl⟩ := List.mem_map.mp hm
        have hk' := List.mem_range.mp hk
        have e2 : Sy50.bears s kk day n = Sy50.limit s day n := by
          refine limit_of ⟨kk, hk', rfl⟩ fun k2 h2 => ?_
          have h3 : ((Sy50.bears s kk day n : Nat) : Int) ≤ ((Sy50.bears s k2 day n : Nat) : Int) := hall _ (List.mem_map.mpr ⟨k2, List.mem_range.mpr h2, rfl⟩)
          omega
        show Q (.int ((Sy50.bears s kk day n : Nat) : Int)) H2
        rw [e2]
        exact k H2 (s1.trans sa)
end
end Br

end
section
set_option Elab.async false
set_option linter.all false
set_option maxRecDepth 100000
set_option maxHeartbeats 2000000
namespace Br
open PySem PySem.Spec PyProof.Rows L2
theorem kind_eq (x : Sy50.Entry) : eKind x = kindOf x := by cases x <;> rfl
/-- what a call that only asks promises: a new list, all else as it was -/
def RdK (s : Sy50.St) (c : Sy50.Call) (H : Hp) (Q : VK) : Prop := ∀ (H' : Hp) (l : Addr), Same H H' → H l = none → H' l = some (.lst ((outOf s c).map V.int)) → Q (.ref l) H'
theorem RdK.fin {s : Sy50.St} {c : Sy50.Call} {H H1 : Hp} {Q : VK} {xs : List V} (k : RdK s c H Q) (s1 : Same H H1) (hl : xs.length ≤ sizeLine) (e : (outOf s c).map V.int = xs) : xs.length ≤ sizeLine ∧ ∀ p, H1 p = none → Q (.ref p) (upd H1 p (.lst xs)) :=
  ⟨hl, fun p hp => k _ p (s1.to_upd hp) (s1.free hp) (by rw [upd_same, e])⟩
theorem int_len (l : List Nat) : ((Sy50.ints l).map V.int).length = l.length := by rw [List.length_map, ints_len]
section
variable {P : Program} {w : World} {K : PySem.W.Frag} {mg : Str → Option Value} {base : Heap} {A : Ad}
def spToldSource (K : PySem.W.Frag) : Sp := fun vs H Q _ => ∃ (v : V) (o : Option Stm), vs = [v] ∧ SrcV K H v o ∧ Q (.int ((match o with | none => 0 | some z => z.num + 1 : Nat) : Int)) H
abbrev s_told_source : Stmt := top 34
theorem sc_told_source : FnScope ["source"] ["source"] (defScope s_told_source) := ⟨rfl, rfl, rfl, by decide +kernel, rfl, by decide +kernel, by decide +kernel⟩
theorem ok_told_source {f : Addr} {fd : FuncData} (F : Fun K "told_source" "told_source" s_told_source f fd) (T : Txt K mg A) : FnOk P w K mg base CX0 1 f fd ["source"] (spToldSource K) := by
  refine F.ok sc_told_source (fun vs H Q E h => ?_) (fun cdv A' outer s H vs Q E hr h => ?_)
  · obtain ⟨v, o, rfl, _⟩ := h
    rfl
  · obtain ⟨v, o, rfl, hs, k⟩ := h
    refine ⟨_, (pss_cons (ps_if (pt_cmp (pc_isN (pv 0))) (pss_one (ps_ret pe_int)) pss_nil) (pss_one (ps_ret (pe_op op_add (pe_fld (pv 0) rfl) pe_int)))), ?_⟩
    cases o with
    | none =>
      cases hs
      exact ⟨_, rfl, _, rfl, iteDp rfl k⟩
    | some z =>
      obtain ⟨a, rfl, h1, h2, h3, h4⟩ := hs
      refine ⟨_, rfl, _, rfl, iteDn (by intro q; cases q) ?_⟩
      refine ⟨_, rfl, rd_attr h1 ⟨_, _, rfl, rfl, ?_⟩⟩
      show Q (.int ((z.num : Int) + 1)) H
      exact k
def spBehind : Sp := fun vs H Q _ => ∃ (l : Addr) (ns : List Int), vs = [.ref l] ∧ H l = some (.lst (ns.map V.int)) ∧ ns.length < 100000 ∧ ∀ (H' : Hp) (p : Addr), Same H H' → H p = none → H' p = some (.lst (((ns.length : Int) :: ns).map V.int)) → Q (.ref p) H'
abbrev s_behind_length : Stmt := top 45
theorem sc_behind_length : FnScope ["numbers"] ["numbers"] (defScope s_behind_length) := ⟨rfl, rfl, rfl, by decide +kernel, rfl, by decide +kernel, by decide +kernel⟩
theorem ok_behind_length {f : Addr} {fd : FuncData} (F : Fun K "behind_length" "behind_length" s_behind_length f fd) (T : Txt K mg A) : FnOk P w K mg base CX0 1 f fd ["numbers"] spBehind := by
  refine F.ok sc_behind_length (fun vs H Q E h => ?_) (fun cdv A' outer s H vs Q E hr h => ?_)
  · obtain ⟨l, ns, rfl, _⟩ := h
    rfl
  · obtain ⟨l, ns, rfl, hl, hn, k⟩ := h
    refine ⟨_, (pss_one (ps_ret (pe_op op_cat (pe_lst (pa_cons (pe_callB call_len_seq (by rfl) T.blen PySem.boot_len (pa_cons (pv 0) pa_nil)) pa_nil)) (pv 0)))), ?_⟩
    refine ⟨_, rfl, l, _, rfl, .inl (SqL.of hl), by show 1 ≤ sizeLine; decide, fun q hq => ?_⟩
    refine ⟨_, rfl, q, l, _, _, rfl, rfl, upd_same, Same.upd_new hq _ _ hl, ?_, fun p hp => ?_⟩
    · rw [List.length_map]
      show 1 + ns.length ≤ sizeLine
      have : (sizeLine : Nat) = 16777216 := by decide
      omega
    · refine k _ p ((Same.upd_new hq).to_upd hp) ((Same.upd_new hq).free hp) ?_
      rw [upd_same, List.length_map]
      rfl
def spStandingsBy (A : Ad) (K : PySem.W.Frag) : Sp := fun vs H Q _ => ∃ (b le lq : Addr) (d n : Nat) (s : Sy50.St), vs = [.ref b, .int d, .int n] ∧ BrAt A K H b le lq s ∧ Good s ∧ n ≤ s.entries.length ∧ ∀ (H' : Hp) (p : Addr), Same H H' → Objs (StdAt K) H' p (stdS s d n) → Q (.ref p) H'
abbrev s_standings_by : Stmt := top 33
theorem sc_standings_by : FnScope ["bridge", "day", "n"] ["bridge", "day", "n"] (defScope s_standings_by) := ⟨rfl, rfl, rfl, by decide +kernel, rfl, by decide +kernel, by decide +kernel⟩
theorem ok_standings_by {f : Addr} {fd : FuncData} (F : Fun K "standings_by" "standings_by" s_standings_by f fd) (T : Txt K mg A) (c1 : Cal P w K mg base 4 "standings" ["parts", "said", "day"] (spStandings K)) (c2 : Cal P w K mg base 4 "statements" ["entries", "n"] (spStatements K)) :
    FnOk P w K mg base CX0 5 f fd ["bridge", "day", "n"] (spStandingsBy A K) := by
  obtain ⟨fstandings, fdstandings, Gstandings, mstandings, kstandings, bstandings⟩ := c1.ex
  obtain ⟨fstatements, fdstatements, Gstatements, mstatements, kstatements, bstatements⟩ := c2.ex
  refine F.ok sc_standings_by (fun vs H Q E h => ?_) (fun cdv A' outer s H vs Q E hr h => ?_)
  · obtain ⟨b, le, lq, d, n, s, rfl, _⟩ := h
    rfl
  · obtain ⟨b, le, lq, d, n, s, rfl, hb, g, hn, k⟩ := h
    refine ⟨_, (pss_one (ps_ret (pe_call Gstandings (hr.mono (by decide)) rfl mstandings kstandings bstandings .nil pass0 (pa_cons (pe_fld (pv 0) rfl) (pa_cons (pe_call Gstatements (hr.mono (by decide)) rfl mstatements kstatements bstatements .nil pass0 (pa_cons (pe_fld (pv 0) rfl) (pa_cons (pv 2) pa_nil))) (pa_cons (pv 1) pa_nil)))))), ?_⟩
    obtain ⟨lp, hp1, hp2⟩ := hb.parts T
    refine ⟨_, rfl, rd_attr hp1 ⟨_, rfl, rd_attr (hb.entries T) ⟨_, rfl, le, n, s.entries, rfl, hb.ent, hn, g.vd, g.e60, fun H1 la s1 hla => ?_⟩⟩⟩
    refine ⟨_, rfl, lp, la, d, s.parts, _, rfl, hp2.same mPart s1, g.pb, g.p12, hla, fun st m => (g.say n m).1, fun H2 p s2 hp => ?_⟩
    rw [stdL_S] at hp
    exact k H2 p (s1.trans s2) hp
def spSaidNow (A : Ad) (K : PySem.W.Frag) : Sp := fun vs H Q _ => ∃ (b le lq : Addr) (s : Sy50.St), vs = [.ref b] ∧ BrAt A K H b le lq s ∧ Good s ∧ ∀ (H' : Hp) (p : Addr), Same H H' → Objs (StmAt K) H' p (sayAll s.entries) → Q (.ref p) H'
abbrev s_said_now : Stmt := top 39
theorem sc_said_now : FnScope ["bridge"] ["bridge"] (defScope s_said_now) := ⟨rfl, rfl, rfl, by decide +kernel, rfl, by decide +kernel, by decide +kernel⟩
theorem ok_said_now {f : Addr} {fd : FuncData} (F : Fun K "said_now" "said_now" s_said_now f fd) (T : Txt K mg A) (c2 : Cal P w K mg base 4 "statements" ["entries", "n"] (spStatements K)) :
    FnOk P w K mg base CX0 5 f fd ["bridge"] (spSaidNow A K) := by
  obtain ⟨fstatements, fdstatements, Gstatements, mstatements, kstatements, bstatements⟩ := c2.ex
  refine F.ok sc_said_now (fun vs H Q E h => ?_) (fun cdv A' outer s H vs Q E hr h => ?_)
  · obtain ⟨b, le, lq, s, rfl, _⟩ := h
    rfl
  · obtain ⟨b, le, lq, s, rfl, hb, g, k⟩ := h
    refine ⟨_, (pss_one (ps_ret (pe_call Gstatements (hr.mono (by decide)) rfl mstatements kstatements bstatements .nil pass0 (pa_cons (pe_fld (pv 0) rfl) (pa_cons (pe_callB call_len_seq (by rfl) T.blen PySem.boot_len (pa_cons (pe_fld (pv 0) rfl) pa_nil)) pa_nil))))), ?_⟩
    obtain ⟨es, he1, he2, he3⟩ := hb.ent.len
    refine ⟨_, rfl, rd_attr (hb.entries T) ⟨_, rfl, rd_attr (hb.entries T) ⟨le, _, rfl, .inl (SqL.of he1), le, s.entries.length, s.entries, by rw [he3]; rfl, hb.ent, Nat.le_refl _, g.vd, g.e60, fun H1 la s1 hla => ?_⟩⟩⟩
    rw [List.take_length] at hla
    exact k H1 la s1 hla
def spKnown (A : Ad) (K : PySem.W.Frag) : Sp := fun vs H Q _ => ∃ (b le lq : Addr) (p d n : Nat) (s : Sy50.St), vs = [.ref b, .int p, .int d, .int n] ∧ BrAt A K H b le lq s ∧ Good s ∧ RdK s (.known p d n) H Q
abbrev s_known : Stmt := top 31
theorem sc_known : FnScope ["bridge", "part", "day", "n", "stands"] ["bridge", "part", "day", "n"] (defScope s_known) := ⟨rfl, rfl, rfl, by decide +kernel, rfl, by decide +kernel, by decide +kernel⟩
theorem ok_known {f : Addr} {fd : FuncData} (F : Fun K "known" "known" s_known f fd) (T : Txt K mg A) (c1 : Cal P w K mg base 5 "standings_by" ["bridge", "day", "n"] (spStandingsBy A K)) (c2 : Cal P w K mg base 1 "told_source" ["source"] (spToldSource K)) :
    FnOk P w K mg base CX0 6 f fd ["bridge", "part", "day", "n"] (spKnown A K) := by
  obtain ⟨fstandings_by, fdstandings_by, Gstandings_by, mstandings_by, kstandings_by, bstandings_by⟩ := c1.ex
  obtain ⟨ftold_source, fdtold_source, Gtold_source, mtold_source, ktold_source, btold_source⟩ := c2.ex
  refine F.ok sc_known (fun vs H Q E h => ?_) (fun cdv A' outer s H vs Q E hr h => ?_)
  · obtain ⟨b, le, lq, p, d, n, s, rfl, _⟩ := h
    rfl
  · obtain ⟨b, le, lq, p, d, n, s, rfl, hb, g, k⟩ := h
    refine ⟨_, (pss_cons (ps_if (pt_cmpR op_ge (pv 1) (pe_callB call_len_seq (by rfl) T.blen PySem.boot_len (pa_cons (pe_fld (pv 0) rfl) pa_nil)) (nomark _)) (pss_one (ps_ret (pe_lst (pa_cons (pe_glob (v := V.int (-2)) rfl T.gNOT_THERE.choose_spec ⟨_, rfl⟩) pa_nil)))) pss_nil) (pss_cons (ps_if (PW.pt (pw_or (pt_cmpR op_gt (pv 2) (pe_glob (v := V.int (100000)) rfl T.gLAST_DAY.choose_spec ⟨_, rfl⟩) (nomark _)) (pw_or1 (pt_cmpR op_gt (pv 3) (pe_callB call_len_seq (by rfl) T.blen PySem.boot_len (pa_cons (pe_fld (pv 0) rfl) pa_nil)) (nomark _))))) (pss_one (ps_ret (pe_lst (pa_cons (pe_glob (v := V.int (-1)) rfl T.gNOT_LET.choose_spec ⟨_, rfl⟩) pa_nil)))) pss_nil) (pss_cons (ps_set (i := 4) sc_known.nd rfl (Or.inl rfl) (pe_ix ix_list (pe_call Gstandings_by (hr.mono (by decide)) rfl mstandings_by kstandings_by bstandings_by .nil pass0 (pa_cons (pv 0) (pa_cons (pv 2) (pa_cons (pv 3) pa_nil)))) (pv 1) (fun _ _ => rfl))) (pss_one (ps_ret (pe_lst (pa_cons (pe_fld (pv 4) rfl) (pa_cons pe_int (pa_cons (pe_call Gtold_source (hr.mono (by decide)) rfl mtold_source ktold_source btold_source .nil pass0 (pa_cons (pe_fld (pv 4) rfl) pa_nil)) (pa_cons (pe_fld (pv 4) rfl) pa_nil)))))))))), ?_⟩
    obtain ⟨lp, hp1, hp2⟩ := hb.parts T
    obtain ⟨ps, hps1, hps2, hps3⟩ := hp2.len
    obtain ⟨es, he1, he2, he3⟩ := hb.ent.len
    refine ⟨_, rfl, _, rfl, rd_attr hp1 ⟨lp, _, rfl, .inl (SqL.of hps1), _, _, rfl, rfl, _, rfl, iteD (fun q => ?_) (fun q => ?_)⟩⟩
    · rw [hps3] at q
      exact k.fin (Same.refl _) (by show 1 ≤ sizeLine; decide) (by rw [out_known1 (by omega)]; rfl)
    rw [hps3] at q
    have q1 : ¬ s.parts.length ≤ p := by omega
    have bad : Sy50.LAST < d ∨ s.entries.length < n → (([V.int (-1)] : List V).length ≤ sizeLine ∧ ∀ q, H q = none → Q (.ref q) (upd H q (.lst [V.int (-1)]))) := fun z =>
      k.fin (Same.refl _) (by show 1 ≤ sizeLine; decide) (by rw [out_known2 q1 z]; rfl)
    refine ⟨_, rfl, _, _, rfl, rfl, _, rfl, iteD (fun q2 => iteT (bad (.inl (show 100000 < d by omega)))) (fun q2 => ?_)⟩
    refine ⟨_, rfl, _, rfl, rd_attr (hb.entries T) ⟨le, _, rfl, .inl (SqL.of he1), _, _, rfl, rfl, _, rfl, iteD (fun q3 => bad (.inr ?_)) (fun q3 => ?_)⟩⟩
    · rw [he3] at q3; omega
    rw [he3] at q3
    have q4 : ¬ (Sy50.LAST < d ∨ s.entries.length < n) := by
      rintro (z | z)
      · exact q2 (by have : 100000 < d := z; omega)
      · exact q3 (by omega)
    refine ⟨_, rfl, _, rfl, _, rfl, b, le, lq, d, n, s, rfl, hb, g, by omega, fun H1 pl s1 ⟨as, hl1, hl2⟩ => ?_⟩
    have hlt : p < s.parts.length := by omega
    have hx : (stdS s d n)[p]? = some (srcOf (sayAll (s.entries.take n)) p d, Sy50.crack s p d n, Sy50.bears s p d n) := by
      unfold stdS
      rw [List.getElem?_map, List.getElem?_range hlt]
      rfl
    obtain ⟨a, ha, v, v1, v2, v3, v4⟩ := paired_at' hl2 hx
    refine ⟨_, rfl, pl, _, _, _, rfl, rfl, SqL.of hl1, atI_nat (at_ref ha), ?_⟩
    refine ⟨_, rfl, rd_attr v3 ⟨_, rfl, rd_attr v2 ⟨v, _, rfl, v1, _, rfl, rd_attr v4 ?_⟩⟩⟩
    refine k.fin s1 (by show 4 ≤ sizeLine; decide) ?_
    rw [out_known3 q1 q4, source_eq]
    rfl
def spLimit (A : Ad) (K : PySem.W.Frag) : Sp := fun vs H Q _ => ∃ (b le lq : Addr) (d n : Nat) (s : Sy50.St), vs = [.ref b, .int d, .int n] ∧ BrAt A K H b le lq s ∧ Good s ∧ RdK s (.limit d n) H Q
abbrev s_limit : Stmt := top 32
theorem sc_limit : FnScope ["bridge", "day", "n", "stand", "borne_each", "least", "weakest", "each"] ["bridge", "day", "n"] (defScope s_limit) := ⟨rfl, rfl, rfl, by decide +kernel, rfl, by decide +kernel, by decide +kernel⟩
theorem ok_limit {f : Addr} {fd : FuncData} (F : Fun K "limit" "limit" s_limit f fd) (T : Txt K mg A) (c1 : Cal P w K mg base 5 "standings_by" ["bridge", "day", "n"] (spStandingsBy A K)) (c2 : Cal P w K mg base 1 "told_source" ["source"] (spToldSource K)) :
    FnOk P w K mg base CX0 6 f fd ["bridge", "day", "n"] (spLimit A K) := by
  obtain ⟨fstandings_by, fdstandings_by, Gstandings_by, mstandings_by, kstandings_by, bstandings_by⟩ := c1.ex
  obtain ⟨ftold_source, fdtold_source, Gtold_source, mtold_source, ktold_source, btold_source⟩ := c2.ex
  refine F.ok sc_limit (fun vs H Q E h => ?_) (fun cdv A' outer s H vs Q E hr h => ?_)
  · obtain ⟨b, le, lq, d, n, s, rfl, _⟩ := h
    rfl
  · obtain ⟨b, le, lq, d, n, s, rfl, hb, g, k⟩ := h
    refine ⟨_, (pss_cons (ps_if (PW.pt (pw_or (pt_cmpR op_gt (pv 1) (pe_glob (v := V.int (100000)) rfl T.gLAST_DAY.choose_spec ⟨_, rfl⟩) (nomark _)) (pw_or1 (pt_cmpR op_gt (pv 2) (pe_callB call_len_seq (by rfl) T.blen PySem.boot_len (pa_cons (pe_fld (pv 0) rfl) pa_nil)) (nomark _))))) (pss_one (ps_ret (pe_lst (pa_cons (pe_glob (v := V.int (-1)) rfl T.gNOT_LET.choose_spec ⟨_, rfl⟩) pa_nil)))) pss_nil) (pss_cons (ps_set (i := 3) sc_limit.nd rfl (Or.inl rfl) (pe_call Gstandings_by (hr.mono (by decide)) rfl mstandings_by kstandings_by bstandings_by .nil pass0 (pa_cons (pv 0) (pa_cons (pv 1) (pa_cons (pv 2) pa_nil))))) (pss_cons (ps_setLc (i := 4) rfl sc_limit.nd rfl rfl (sw_true rfl rfl rfl (by decide)) (g := (gName 7)) (tt := tYes) (te := (tFld K (tVar 7) "bears")) (pi_list (pv 3)) (blkOk_by (own := [("each", 7)]) (show blkC ["bridge", "day", "n", "stand", "borne_each", "least", "weakest", "each"] (defScope s_limit) _ _ = true by decide +kernel)) (fun _ _ _ _ _ => (pg_name (i := 7) sc_limit.nd rfl (Or.inl rfl))) (fun _ _ _ _ _ => pts_nil) (fun _ _ _ _ _ => (pe_fld (pv 7) rfl))) (pss_cons (ps_set (i := 5) sc_limit.nd rfl (Or.inl rfl) (pe_callB (cr_min rfl) (by rfl) T.bmin (by decide +kernel) (pa_cons (pv 4) pa_nil))) (pss_cons (ps_set (i := 6) sc_limit.nd rfl (Or.inl rfl) (pe_bm PySem.F.plainAttrs_list PySem.F.slot_list_index PySem.F.type_list_index mt_index (pv 4) (pa_cons (pv 5) pa_nil))) (pss_one (ps_ret (pe_lst (pa_cons (pv 5) (pa_cons pe_int (pa_cons (pv 6) (pa_cons (pe_call Gtold_source (hr.mono (by decide)) rfl mtold_source ktold_source btold_source .nil pass0 (pa_cons (pe_fld (pe_ix ix_list (pv 3) (pv 6) (fun _ _ => rfl)) rfl) pa_nil)) (pa_cons (pe_fld (pe_ix ix_list (pv 3) (pv 6) (fun _ _ => rfl)) rfl) pa_nil))))))))))))), ?_⟩
    obtain ⟨es, he1, he2, he3⟩ := hb.ent.len
    have bad : Sy50.LAST < d ∨ s.entries.length < n → (([V.int (-1)] : List V).length ≤ sizeLine ∧ ∀ q, H q = none → Q (.ref q) (upd H q (.lst [V.int (-1)]))) := fun z =>
      k.fin (Same.refl _) (by show 1 ≤ sizeLine; decide) (by rw [out_limit1 z]; rfl)
    refine ⟨_, rfl, _, _, rfl, rfl, _, rfl, iteD (fun q2 => iteT (bad (.inl (show 100000 < d by omega)))) (fun q2 => ?_)⟩
    refine ⟨_, rfl, _, rfl, rd_attr (hb.entries T) ⟨le, _, rfl, .inl (SqL.of he1), _, _, rfl, rfl, _, rfl, iteD (fun q3 => bad (.inr ?_)) (fun q3 => ?_)⟩⟩
    · rw [he3] at q3; omega
    rw [he3] at q3
    have q4 : ¬ (Sy50.LAST < d ∨ s.entries.length < n) := by
      rintro (z | z)
      · exact q2 (by have : 100000 < d := z; omega)
      · exact q3 (by omega)
    refine ⟨_, rfl, _, rfl, _, rfl, b, le, lq, d, n, s, rfl, hb, g, by omega, fun H1 pl s1 ⟨as, hl1, hl2⟩ => ?_⟩
    have hl := paired_len hl2
    have hlen : (stdS s d n).length = s.parts.length := by unfold stdS; rw [List.length_map, List.length_range]
    refine ⟨_, rfl, pl, rfl, ⟨_, SqL.of hl1⟩, fun D hD => ?_⟩
    refine lc_list (K := K) (a := pl) (xs := as.map V.ref) (fun i H' => Same H1 H' ∧ H' D = some (.lst ((((stdS s d n).take i).map fun x => (x.2.2 : Int)).map V.int))) ⟨Same.upd_new hD, upd_same⟩ (fun i H' _ ⟨sa, _⟩ => SqL.of (sa _ _ hl1)) ?_ ?_
    · rintro i y H2 hi ⟨sa, hd⟩
      obtain ⟨a, ha, rfl⟩ := ref_at hi
      obtain ⟨x, hx, v, q1, q2, q3, q4⟩ := paired_at hl2 ha
      refine ⟨rfl, tyes ?_⟩
      refine ⟨_, rfl, rd_attr (q4.same sa) ⟨_, hd, ?_, same_own sa hD, ?_⟩⟩
      · rw [List.length_map, List.length_map, List.length_take]
        have := g.p12
        exact small1000 (by omega)
      · rw [upd_same, take_snoc hx, List.map_append, List.map_append]
        rfl
    · rintro H2 ⟨sa, hd⟩
      have e : (stdS s d n).take (as.map V.ref).length = stdS s d n := by rw [List.length_map, hl, List.take_length]
      rw [e] at hd
      refine ⟨_, rfl, D, _, rfl, SqL.of hd, ?_, fun m hm hall => ?_⟩
      · rw [List.length_map, hlen]; exact g.p0
      have em : m = ((Sy50.limit s d n : Nat) : Int) := by
        unfold stdS at hm hall
        rw [List.map_map] at hm hall
        obtain ⟨kk, hk, rfl⟩ := List.mem_map.mp hm
        have hk' := List.mem_range.mp hk
        have e2 : Sy50.bears s kk d n = Sy50.limit s d n := by
          refine limit_of ⟨kk, hk', rfl⟩ fun k2 h2 => ?_
          have h3 : ((Sy50.bears s kk d n : Nat) : Int) ≤ ((Sy50.bears s k2 d n : Nat) : Int) := hall _ (List.mem_map.mpr ⟨k2, List.mem_range.mpr h2, rfl⟩)
          omega
        show ((Sy50.bears s kk d n : Nat) : Int) = _
        rw [e2]
      subst em
      have hw := weakest_lt (s := s) d n g.p0
      have hat : ∀ kk, kk < s.parts.length → (((stdS s d n).map fun x => (x.2.2 : Int)).map V.int)[kk]? = some (V.int (Sy50.bears s kk d n)) := fun kk hk => by
        unfold stdS
        rw [List.getElem?_map, List.getElem?_map, List.getElem?_map, List.getElem?_range hk]
        rfl
      refine ⟨_, rfl, .inl ⟨rfl, _, SqL.of hd⟩, _, rfl, D, _, _, Sy50.weakest s d n, _, rfl, rfl, SqL.of hd, rfl, ?_, hat _ hw, ?_, ?_, ?_⟩
      · rw [List.all_eq_true]
        intro y hy
        obtain ⟨z, _, rfl⟩ := List.mem_map.mp hy
        rfl
      · show (((Sy50.bears s (Sy50.weakest s d n) d n : Nat) : Int) == ((Sy50.limit s d n : Nat) : Int)) = true
        exact beq_self_eq_true _
      · intro m z' hm hz
        rw [hat m (by omega)] at hz
        have ez := Option.some.inj hz
        subst ez
        have hlt := weakest_first hm
        show (((Sy50.bears s m d n : Nat) : Int) == ((Sy50.limit s d n : Nat) : Int)) = false
        exact beq_eq_false_iff_ne.mpr (by omega)
      · have hx : (stdS s d n)[Sy50.weakest s d n]? = some (srcOf (sayAll (s.entries.take n)) (Sy50.weakest s d n) d, Sy50.crack s (Sy50.weakest s d n) d n, Sy50.bears s (Sy50.weakest s d n) d n) := by
          unfold stdS
          rw [List.getElem?_map, List.getElem?_range hw]
          rfl
        obtain ⟨a, ha, v, v1, v2, v3, v4⟩ := paired_at' hl2 hx
        have hl3 := sa _ _ hl1
        refine ⟨_, rfl, _, rfl, _, rfl, _, rfl, pl, _, _, _, rfl, rfl, SqL.of hl3, atI_nat (at_ref ha), rd_attr (v2.same sa) ⟨v, _, rfl, v1.same sa, _, rfl, _, rfl, pl, _, _, _, rfl, rfl, SqL.of hl3, atI_nat (at_ref ha), rd_attr (v3.same sa) ?_⟩⟩
        refine k.fin (s1.trans sa) (by show 5 ≤ sizeLine; decide) ?_
        rw [out_limit2 q4, source_eq]
        rfl
end
end Br

end
section
set_option Elab.async false
set_option linter.all false
set_option maxRecDepth 100000
set_option maxHeartbeats 2000000
namespace Br
open PySem PySem.Spec PyProof.Rows L2
/-- a posting: none, or one -/
def PstV (K : PySem.W.Frag) (H : Hp) (v : V) : Option Sy50.Post → Prop
  | none => v = .non
  | some p => ∃ a, v = .ref a ∧ PostAt K H a p
section
variable {P : Program} {w : World} {K : PySem.W.Frag} {mg : Str → Option Value} {base : Heap} {A : Ad}
def spPostingOn (K : PySem.W.Frag) : Sp := fun vs H Q _ => ∃ (lq : Addr) (d : Nat) (ps : List Sy50.Post), vs = [.ref lq, .int d] ∧ Objs (PostAt K) H lq ps ∧ ∀ v, PstV K H v (lastBy ps d) → Q v H
abbrev s_posting_on : Stmt := top 36
theorem sc_posting_on : FnScope ["postings", "day", "last", "posting"] ["postings", "day"] (defScope s_posting_on) := ⟨rfl, rfl, rfl, by decide +kernel, rfl, by decide +kernel, by decide +kernel⟩
theorem ok_posting_on {f : Addr} {fd : FuncData} (F : Fun K "posting_on" "posting_on" s_posting_on f fd) (T : Txt K mg A) : FnOk P w K mg base CX0 1 f fd ["postings", "day"] (spPostingOn K) := by
  refine F.ok sc_posting_on (fun vs H Q E h => ?_) (fun cdv A' outer s H vs Q E hr h => ?_)
  · obtain ⟨lq, d, ps, rfl, _⟩ := h
    rfl
  · obtain ⟨lq, d, ps, rfl, ⟨as, hl, hp⟩, k⟩ := h
    refine ⟨_, (pss_cons (ps_set (i := 2) sc_posting_on.nd rfl (Or.inl rfl) pe_non) (pss_cons (ps_for PassesOwn.never rfl (pi_list (pv 0)) (pg_name (i := 3) sc_posting_on.nd rfl (Or.inl rfl)) (pss_one (ps_if (pt_cmpR op_le (pe_fld (pv 3) rfl) (pv 1) (nomark _)) (pss_one (ps_set (i := 2) sc_posting_on.nd rfl (Or.inl rfl) (pv 3))) pss_nil))) (pss_one (ps_ret (pv 2))))), ?_⟩
    refine ⟨_, rfl, lq, rfl, ⟨_, SqL.of hl⟩, for_list (K := K) (a := lq) (xs := as.map V.ref) (fun i σ H' => ∃ (v : V) (v3 : Option V), σ = [some (.ref lq), some (.int d), some v, v3] ∧ H' = H ∧ PstV K H v (lastBy (ps.take i) d)) ⟨.non, none, rfl, rfl, rfl⟩ (fun i σ H' _ ⟨_, _, _, e, _⟩ => by rw [e]; exact SqL.of hl) ?_ ?_⟩
    · rintro i y σ H' hi ⟨v, v3, rfl, rfl, hv⟩
      obtain ⟨a, ha, rfl⟩ := ref_at hi
      obtain ⟨p, hp1, hpa⟩ := paired_at hp ha
      have tk := take_snoc hp1
      refine ⟨_, rfl, rd_attr hpa.1 ⟨_, rfl, _, _, rfl, rfl, _, rfl, iteD (fun q => ?_) (fun q => ?_)⟩⟩
      · refine ⟨_, rfl, _, _, rfl, rfl, ?_⟩
        rw [tk, lastBy_snoc, if_pos (by omega)]
        exact ⟨a, rfl, hpa⟩
      · refine ⟨_, _, rfl, rfl, ?_⟩
        rw [tk, lastBy_snoc, if_neg (by omega)]
        exact hv
    · rintro σ H' ⟨v, v3, rfl, rfl, hv⟩
      refine ⟨_, rfl, k v ?_⟩
      rw [List.length_map, paired_len hp, List.take_length] at hv
      exact hv
def spTooMuch (A : Ad) (K : PySem.W.Frag) : Sp := fun vs H Q _ => ∃ (b le lq la : Addr) (d : Nat) (s : Sy50.St), vs = [.ref b, .ref la, .int d] ∧ BrAt A K H b le lq s ∧ Good s ∧ Objs (StmAt K) H la (sayAll s.entries) ∧ ∀ (H' : Hp), Same H H' → Q (.int ((Sy50.tooMuch s d : Nat) : Int)) H'
abbrev s_too_much : Stmt := top 38
theorem sc_too_much : FnScope ["bridge", "said", "day", "posting"] ["bridge", "said", "day"] (defScope s_too_much) := ⟨rfl, rfl, rfl, by decide +kernel, rfl, by decide +kernel, by decide +kernel⟩
theorem ok_too_much {f : Addr} {fd : FuncData} (F : Fun K "too_much" "too_much" s_too_much f fd) (T : Txt K mg A) (c1 : Cal P w K mg base 1 "posting_on" ["postings", "day"] (spPostingOn K)) (c2 : Cal P w K mg base 5 "limit_on" ["parts", "said", "day"] (spLimitOn K)) :
    FnOk P w K mg base CX0 6 f fd ["bridge", "said", "day"] (spTooMuch A K) := by
  obtain ⟨fposting_on, fdposting_on, Gposting_on, mposting_on, kposting_on, bposting_on⟩ := c1.ex
  obtain ⟨flimit_on, fdlimit_on, Glimit_on, mlimit_on, klimit_on, blimit_on⟩ := c2.ex
  refine F.ok sc_too_much (fun vs H Q E h => ?_) (fun cdv A' outer s H vs Q E hr h => ?_)
  · obtain ⟨b, le, lq, la, d, s, rfl, _⟩ := h
    rfl
  · obtain ⟨b, le, lq, la, d, s, rfl, hb, g, hla, k⟩ := h
    refine ⟨_, (pss_cons (ps_set (i := 3) sc_too_much.nd rfl (Or.inl rfl) (pe_call Gposting_on (hr.mono (by decide)) rfl mposting_on kposting_on bposting_on .nil pass0 (pa_cons (pe_fld (pv 0) rfl) (pa_cons (pv 2) pa_nil)))) (pss_cons (ps_if (pt_cmp (pc_isN (pv 3))) (pss_one (ps_ret pe_int)) pss_nil) (pss_one (ps_ret (pe_callB (call_max2 rfl) (by rfl) T.bmax (by decide +kernel) (pa_cons pe_int (pa_cons (pe_op op_sub (pe_fld (pv 3) rfl) (pe_call Glimit_on (hr.mono (by decide)) rfl mlimit_on klimit_on blimit_on .nil pass0 (pa_cons (pe_fld (pv 0) rfl) (pa_cons (pv 1) (pa_cons (pv 2) pa_nil))))) pa_nil))))))), ?_⟩
    obtain ⟨lp, hp1, hp2⟩ := hb.parts T
    refine ⟨_, rfl, rd_attr (hb.postings T) ⟨_, rfl, lq, d, s.posts, rfl, hb.pos, fun v hv => ?_⟩⟩
    have e0 : Sy50.posted s d = lastBy s.posts d := rfl
    cases hq : lastBy s.posts d with
    | none =>
      rw [hq] at hv
      cases hv
      refine ⟨_, rfl, _, rfl, iteDp rfl ?_⟩
      have e : Sy50.tooMuch s d = 0 := by unfold Sy50.tooMuch; rw [e0, hq]
      have := k H (Same.refl _)
      rw [e] at this
      exact this
    | some p =>
      rw [hq] at hv
      obtain ⟨a, rfl, v1, v2, v3⟩ := hv
      refine ⟨_, rfl, _, rfl, iteDn (by intro q; cases q) ?_⟩
      refine ⟨_, rfl, rd_attr v3 ⟨_, rfl, rd_attr hp1 ⟨_, rfl, _, rfl, lp, la, d, s.entries.length, s, rfl, g, hp2, by rw [List.take_length]; exact hla, fun H1 s1 => ?_⟩⟩⟩
      refine ⟨_, _, rfl, rfl, _, _, rfl, ?_⟩
      have e : (if (p.limit : Int) - ((Sy50.limit s d s.entries.length : Nat) : Int) > 0 then (p.limit : Int) - ((Sy50.limit s d s.entries.length : Nat) : Int) else 0) = ((Sy50.tooMuch s d : Nat) : Int) := by
        unfold Sy50.tooMuch
        rw [e0, hq]
        dsimp only
        split <;> omega
      show Q (.int (if (p.limit : Int) - ((Sy50.limit s d s.entries.length : Nat) : Int) > 0 then (p.limit : Int) - ((Sy50.limit s d s.entries.length : Nat) : Int) else 0)) H1
      rw [e]
      exact k H1 s1
def spPosted (A : Ad) (K : PySem.W.Frag) : Sp := fun vs H Q _ => ∃ (b le lq : Addr) (d : Nat) (s : Sy50.St), vs = [.ref b, .int d] ∧ BrAt A K H b le lq s ∧ Good s ∧ RdK s (.posted d) H Q
abbrev s_posted : Stmt := top 35
theorem sc_posted : FnScope ["bridge", "day", "posting"] ["bridge", "day"] (defScope s_posted) := ⟨rfl, rfl, rfl, by decide +kernel, rfl, by decide +kernel, by decide +kernel⟩
theorem ok_posted {f : Addr} {fd : FuncData} (F : Fun K "posted" "posted" s_posted f fd) (T : Txt K mg A) (c1 : Cal P w K mg base 1 "posting_on" ["postings", "day"] (spPostingOn K)) :
    FnOk P w K mg base CX0 2 f fd ["bridge", "day"] (spPosted A K) := by
  obtain ⟨fposting_on, fdposting_on, Gposting_on, mposting_on, kposting_on, bposting_on⟩ := c1.ex
  refine F.ok sc_posted (fun vs H Q E h => ?_) (fun cdv A' outer s H vs Q E hr h => ?_)
  · obtain ⟨b, le, lq, d, s, rfl, _⟩ := h
    rfl
  · obtain ⟨b, le, lq, d, s, rfl, hb, g, k⟩ := h
    refine ⟨_, (pss_cons (ps_if (pt_cmpR op_gt (pv 1) (pe_fld (pv 0) rfl) (nomark _)) (pss_one (ps_ret (pe_lst (pa_cons (pe_glob (v := V.int (-1)) rfl T.gNOT_LET.choose_spec ⟨_, rfl⟩) pa_nil)))) pss_nil) (pss_cons (ps_set (i := 2) sc_posted.nd rfl (Or.inl rfl) (pe_call Gposting_on (hr.mono (by decide)) rfl mposting_on kposting_on bposting_on .nil pass0 (pa_cons (pe_fld (pv 0) rfl) (pa_cons (pv 1) pa_nil)))) (pss_cons (ps_if (pt_cmp (pc_isN (pv 2))) (pss_one (ps_ret (pe_lst (pa_cons (pe_glob (v := V.int (-6)) rfl T.gNOTHING.choose_spec ⟨_, rfl⟩) pa_nil)))) pss_nil) (pss_one (ps_ret (pe_lst (pa_cons (pe_fld (pv 2) rfl) (pa_cons pe_int (pa_cons (pe_fld (pv 2) rfl) (pa_cons (pe_fld (pv 2) rfl) pa_nil)))))))))), ?_⟩
    refine ⟨_, rfl, _, rfl, rd_attr (hb.today T) ⟨_, _, rfl, rfl, _, rfl, iteD (fun q => ?_) (fun q => ?_)⟩⟩
    · exact k.fin (Same.refl _) (by show 1 ≤ sizeLine; decide) (by rw [out_posted1 (by omega)]; rfl)
    have q1 : ¬ s.today < d := by omega
    refine ⟨_, rfl, rd_attr (hb.postings T) ⟨_, rfl, lq, d, s.posts, rfl, hb.pos, fun v hv => ?_⟩⟩
    have e0 : Sy50.posted s d = lastBy s.posts d := rfl
    cases hq : lastBy s.posts d with
    | none =>
      rw [hq] at hv
      cases hv
      refine ⟨_, rfl, _, rfl, iteDp rfl ?_⟩
      exact k.fin (Same.refl _) (by show 1 ≤ sizeLine; decide) (by rw [out_posted2 q1 (by rw [e0, hq])]; rfl)
    | some p =>
      rw [hq] at hv
      obtain ⟨a, rfl, v1, v2, v3⟩ := hv
      refine ⟨_, rfl, _, rfl, iteDn (by intro q; cases q) ?_⟩
      refine ⟨_, rfl, rd_attr v3 ⟨_, rfl, rd_attr v1 ⟨_, rfl, rd_attr v2 ?_⟩⟩⟩
      exact k.fin (Same.refl _) (by show 4 ≤ sizeLine; decide) (by rw [out_posted3 q1 (by rw [e0, hq])]; rfl)
def spWrong (A : Ad) (K : PySem.W.Frag) : Sp := fun vs H Q _ => ∃ (b le lq : Addr) (x y : Nat) (s : Sy50.St), vs = [.ref b, .int x, .int y] ∧ BrAt A K H b le lq s ∧ Good s ∧ RdK s (.wrong x y) H Q
abbrev s_wrong : Stmt := top 37
theorem sc_wrong : FnScope ["bridge", "first", "last", "said", "days", "most", "day", "excess"] ["bridge", "first", "last"] (defScope s_wrong) := ⟨rfl, rfl, rfl, by decide +kernel, rfl, by decide +kernel, by decide +kernel⟩
theorem ok_wrong {f : Addr} {fd : FuncData} (F : Fun K "wrong" "wrong" s_wrong f fd) (T : Txt K mg A) (c1 : Cal P w K mg base 5 "said_now" ["bridge"] (spSaidNow A K)) (c2 : Cal P w K mg base 6 "too_much" ["bridge", "said", "day"] (spTooMuch A K)) :
    FnOk P w K mg base CX0 7 f fd ["bridge", "first", "last"] (spWrong A K) := by
  obtain ⟨fsaid_now, fdsaid_now, Gsaid_now, msaid_now, ksaid_now, bsaid_now⟩ := c1.ex
  obtain ⟨ftoo_much, fdtoo_much, Gtoo_much, mtoo_much, ktoo_much, btoo_much⟩ := c2.ex
  refine F.ok sc_wrong (fun vs H Q E h => ?_) (fun cdv A' outer s H vs Q E hr h => ?_)
  · obtain ⟨b, le, lq, x, y, s, rfl, _⟩ := h
    rfl
  · obtain ⟨b, le, lq, x, y, s, rfl, hb, g, k⟩ := h
    refine ⟨_, (pss_cons (ps_if (PW.pt (pw_or (pt_cmpR op_lt (pv 2) (pv 1) (nomark _)) (pw_or (pt_cmpR op_gt (pv 2) (pe_fld (pv 0) rfl) (nomark _)) (pw_or1 (pt_cmpR op_gt (pe_op op_sub (pv 2) (pv 1)) (pe_glob (v := V.int (500)) rfl T.gMOST_DAYS_BEHIND.choose_spec ⟨_, rfl⟩) (nomark _)))))) (pss_one (ps_ret (pe_lst (pa_cons (pe_glob (v := V.int (-1)) rfl T.gNOT_LET.choose_spec ⟨_, rfl⟩) pa_nil)))) pss_nil) (pss_cons (ps_set (i := 3) sc_wrong.nd rfl (Or.inl rfl) (pe_call Gsaid_now (hr.mono (by decide)) rfl msaid_now ksaid_now bsaid_now .nil pass0 (pa_cons (pv 0) pa_nil))) (pss_cons (ps_set (i := 4) sc_wrong.nd rfl (Or.inl rfl) (pe_lst pa_nil)) (pss_cons (ps_set (i := 5) sc_wrong.nd rfl (Or.inl rfl) pe_int) (pss_cons (ps_for PassesOwn.never rfl (pi_range2 rfl T.brange (pa_cons (pv 1) (pa_cons (pe_op op_add (pv 2) pe_int) pa_nil))) (pg_name (i := 6) sc_wrong.nd rfl (Or.inl rfl)) (pss_cons (ps_set (i := 7) sc_wrong.nd rfl (Or.inl rfl) (pe_call Gtoo_much (hr.mono (by decide)) rfl mtoo_much ktoo_much btoo_much .nil pass0 (pa_cons (pv 0) (pa_cons (pv 3) (pa_cons (pv 6) pa_nil))))) (pss_one (ps_if (pt_cmpR op_gt (pv 7) pe_int (nomark _)) (pss_cons (ps_expr (pe_bm PySem.F.plainAttrs_list PySem.F.slot_list_append PySem.F.type_list_append mt_append (pv 4) (pa_cons (pv 6) pa_nil))) (pss_one (ps_set (i := 5) sc_wrong.nd rfl (Or.inl rfl) (pe_callB (call_max2 rfl) (by rfl) T.bmax (by decide +kernel) (pa_cons (pv 5) (pa_cons (pv 7) pa_nil)))))) pss_nil)))) (pss_cons (ps_if (pt_cmpR op_eq (pe_callB call_len_seq (by rfl) T.blen PySem.boot_len (pa_cons (pv 4) pa_nil)) pe_int (nomark _)) (pss_one (ps_ret (pe_lst (pa_cons pe_int pa_nil)))) pss_nil) (pss_one (ps_ret (pe_lst (pa_cons (pe_callB call_len_seq (by rfl) T.blen PySem.boot_len (pa_cons (pv 4) pa_nil)) (pa_cons pe_int (pa_cons (pe_ix ix_list (pv 4) pe_int (fun _ _ => rfl)) (pa_cons (pv 5) pa_nil))))))))))))), ?_⟩
    have bad : y < x ∨ s.today < y ∨ 500 < y - x → (([V.int (-1)] : List V).length ≤ sizeLine ∧ ∀ q, H q = none → Q (.ref q) (upd H q (.lst [V.int (-1)]))) := fun z =>
      k.fin (Same.refl _) (by show 1 ≤ sizeLine; decide) (by rw [out_wrong1 z]; rfl)
    refine ⟨_, rfl, _, rfl, _, _, rfl, rfl, _, rfl, iteD (fun q1 => iteT (bad (.inl (by omega)))) (fun q1 => ?_)⟩
    refine ⟨_, rfl, _, rfl, rd_attr (hb.today T) ⟨_, _, rfl, rfl, _, rfl, iteD (fun q2 => iteT (bad (.inr (.inl (by omega))))) (fun q2 => ?_)⟩⟩
    refine ⟨_, rfl, _, rfl, _, _, rfl, rfl, _, _, rfl, rfl, _, rfl, iteD (fun q3 => bad (.inr (.inr (by omega)))) (fun q3 => ?_)⟩
    have q4 : ¬ (y < x ∨ s.today < y ∨ 500 < y - x) := by omega
    refine ⟨_, rfl, b, le, lq, s, rfl, hb, g, fun H1 la s1 hla => ?_⟩
    refine ⟨by show 0 ≤ sizeLine; decide, fun ld hld => ?_⟩
    have htd := g.td
    refine ⟨_, rfl, _, rfl, _, _, rfl, rfl, _, _, rfl, ⟨by omega, by omega, by omega, by omega⟩, ?_⟩
    have hn : ((y : Int) + 1 - (x : Int)).toNat = y + 1 - x := by omega
    refine for_range (lo := (x : Int)) (n := ((y : Int) + 1 - (x : Int)).toNat) (fun i σ H' => ∃ (v6 v7 : Option V), σ = [some (.ref b), some (.int x), some (.int y), some (.ref la), some (.ref ld), some (.int (most (wrongs s x i) : Nat)), v6, v7] ∧ Same H1 H' ∧ H' ld = some (.lst ((Sy50.ints ((wrongs s x i).map (·.1))).map V.int)))
      ⟨none, none, rfl, Same.upd_new hld, upd_same⟩ ?_ ?_
    · rintro i σ H2 hi ⟨v6, v7, rfl, sa, hd⟩
      rw [hn] at hi
      have hlen := wrongs_len s x i
      refine ⟨_, rfl, _, rfl, _, rfl, b, le, lq, la, x + i, s, rfl, hb.same (s1.trans sa), g, hla.same mStm sa, fun H3 s3 => ?_⟩
      have hd3 := s3 _ _ hd
      refine ⟨_, rfl, _, _, rfl, rfl, _, rfl, iteD (fun q => ?_) (fun q => ?_)⟩
      · have hpos : 0 < Sy50.tooMuch s (x + i) := by omega
        refine ⟨_, rfl, .inl ⟨rfl, _, SqL.of hd3⟩, _, rfl, ld, _, _, rfl, rfl, hd3, by rw [int_len, List.length_map]; exact small1000 (by omega), ?_⟩
        refine ⟨_, rfl, _, rfl, _, _, rfl, ?_⟩
        refine ⟨some (.int ((x : Int) + (i : Int))), some (.int ((Sy50.tooMuch s (x + i) : Nat) : Int)), ?_, same_own (sa.trans s3) hld, ?_⟩
        · rw [wrongs_succ, if_pos hpos, most_snoc]
          have em : (if ((Sy50.tooMuch s (x + i) : Nat) : Int) > ((most (wrongs s x i) : Nat) : Int) then ((Sy50.tooMuch s (x + i) : Nat) : Int) else ((most (wrongs s x i) : Nat) : Int)) = ((max (most (wrongs s x i)) (Sy50.tooMuch s (x + i)) : Nat) : Int) := by
            split <;> omega
          rw [← em]
          rfl
        · rw [upd_same, wrongs_succ, if_pos hpos, List.map_append, ints_append, List.map_append]
          rfl
      · have hz : ¬ 0 < Sy50.tooMuch s (x + i) := by omega
        refine ⟨some (.int ((x : Int) + (i : Int))), some (.int ((Sy50.tooMuch s (x + i) : Nat) : Int)), ?_, sa.trans s3, ?_⟩
        · rw [wrongs_succ, if_neg hz]; rfl
        · rw [wrongs_succ, if_neg hz]; exact hd3
    · rintro σ H2 ⟨v6, v7, rfl, sa, hd⟩
      rw [hn] at hd
      have hlen := wrongs_len s x (y + 1 - x)
      refine ⟨_, rfl, ld, _, rfl, .inl (SqL.of hd), rfl, _, rfl, iteE (fun q => ?_) (fun q => ?_)⟩
      · rw [int_len, List.length_map] at q
        have e : wrongs s x (y + 1 - x) = [] := List.eq_nil_of_length_eq_zero (by omega)
        exact k.fin (s1.trans sa) (by show 1 ≤ sizeLine; decide) (by rw [out_wrong2 q4 e]; rfl)
      · rw [int_len, List.length_map] at q
        cases hw : wrongs s x (y + 1 - x) with
        | nil => rw [hw] at q; exact absurd rfl q
        | cons z l =>
          rw [hw] at hd
          refine ⟨_, rfl, ld, _, rfl, .inl (SqL.of hd), _, rfl, ld, _, _, _, rfl, rfl, SqL.of hd, atI_nat (j := 0) rfl, _, rfl, ?_⟩
          refine k.fin (s1.trans sa) (by show 4 ≤ sizeLine; decide) ?_
          rw [out_wrong3 q4 hw, int_len, List.length_map, hn, hw]
          rfl
def spFalls (A : Ad) (K : PySem.W.Frag) : Sp := fun vs H Q _ => ∃ (b le lq : Addr) (m : Nat) (s : Sy50.St), vs = [.ref b, .int m] ∧ BrAt A K H b le lq s ∧ Good s ∧ RdK s (.falls m) H Q
abbrev s_falls : Stmt := top 40
theorem sc_falls : FnScope ["bridge", "much", "said", "low", "high", "middle"] ["bridge", "much"] (defScope s_falls) := ⟨rfl, rfl, rfl, by decide +kernel, rfl, by decide +kernel, by decide +kernel⟩
theorem ok_falls {f : Addr} {fd : FuncData} (F : Fun K "falls" "falls" s_falls f fd) (T : Txt K mg A) (c1 : Cal P w K mg base 5 "said_now" ["bridge"] (spSaidNow A K)) (c2 : Cal P w K mg base 5 "limit_on" ["parts", "said", "day"] (spLimitOn K)) :
    FnOk P w K mg base CX0 6 f fd ["bridge", "much"] (spFalls A K) := by
  obtain ⟨fsaid_now, fdsaid_now, Gsaid_now, msaid_now, ksaid_now, bsaid_now⟩ := c1.ex
  obtain ⟨flimit_on, fdlimit_on, Glimit_on, mlimit_on, klimit_on, blimit_on⟩ := c2.ex
  refine F.ok sc_falls (fun vs H Q E h => ?_) (fun cdv A' outer s H vs Q E hr h => ?_)
  · obtain ⟨b, le, lq, m, s, rfl, _⟩ := h
    rfl
  · obtain ⟨b, le, lq, m, s, rfl, hb, g, k⟩ := h
    refine ⟨_, (pss_cons (ps_if (pt_not (pt_chain op_le op_le pe_int (pv 1) (pe_glob (v := V.int (1000)) rfl T.gMOST_MUCH.choose_spec ⟨_, rfl⟩))) (pss_one (ps_ret (pe_lst (pa_cons (pe_glob (v := V.int (-1)) rfl T.gNOT_LET.choose_spec ⟨_, rfl⟩) pa_nil)))) pss_nil) (pss_cons (ps_set (i := 2) sc_falls.nd rfl (Or.inl rfl) (pe_call Gsaid_now (hr.mono (by decide)) rfl msaid_now ksaid_now bsaid_now .nil pass0 (pa_cons (pv 0) pa_nil))) (pss_cons (ps_set (i := 3) sc_falls.nd rfl (Or.inl rfl) pe_int) (pss_cons (ps_set (i := 4) sc_falls.nd rfl (Or.inl rfl) (pe_glob (v := V.int (131072)) rfl T.gDAYS_LOOKED_AHEAD.choose_spec ⟨_, rfl⟩)) (pss_cons (ps_while PassesOwn.never (pt_cmpR op_lt (pv 3) (pv 4) (nomark _)) (pss_cons (ps_set (i := 5) sc_falls.nd rfl (Or.inl rfl) (pe_op op_fdiv (pe_op op_add (pv 3) (pv 4)) pe_int)) (pss_one (ps_if (pt_cmpR op_lt (pe_call Glimit_on (hr.mono (by decide)) rfl mlimit_on klimit_on blimit_on .nil pass0 (pa_cons (pe_fld (pv 0) rfl) (pa_cons (pv 2) (pa_cons (pe_op op_add (pe_fld (pv 0) rfl) (pv 5)) pa_nil)))) (pv 1) (nomark _)) (pss_one (ps_set (i := 4) sc_falls.nd rfl (Or.inl rfl) (pv 5))) (pss_one (ps_set (i := 3) sc_falls.nd rfl (Or.inl rfl) (pe_op op_add (pv 5) pe_int))))))) (pss_cons (ps_if (pt_cmpR op_eq (pv 3) (pe_glob (v := V.int (131072)) rfl T.gDAYS_LOOKED_AHEAD.choose_spec ⟨_, rfl⟩) (nomark _)) (pss_one (ps_ret (pe_lst (pa_cons (pe_glob (v := V.int (-6)) rfl T.gNOTHING.choose_spec ⟨_, rfl⟩) pa_nil)))) pss_nil) (pss_one (ps_ret (pe_lst (pa_cons (pv 3) pa_nil)))))))))), ?_⟩
    have bad : m < 1 ∨ 1000 < m → (([V.int (-1)] : List V).length ≤ sizeLine ∧ ∀ q, H q = none → Q (.ref q) (upd H q (.lst [V.int (-1)]))) := fun z =>
      k.fin (Same.refl _) (by show 1 ≤ sizeLine; decide) (by rw [out_falls1 z]; rfl)
    refine ⟨_, rfl, _, _, rfl, rfl, _, rfl, iteD (fun q1 => ?_) (fun q1 => ⟨_, rfl, iteT (bad (.inl (by omega)))⟩)⟩
    refine ⟨_, _, rfl, rfl, _, rfl, ?_⟩
    by_cases q2 : (m : Int) ≤ 1000
    case neg =>
      rw [decide_eq_false q2]
      exact iteT (bad (.inr (by omega)))
    rw [decide_eq_true q2]
    refine iteF ?_
    have q3 : ¬ (m < 1 ∨ 1000 < m) := by omega
    refine ⟨_, rfl, b, le, lq, s, rfl, hb, g, fun H1 la s1 hla => ?_⟩
    obtain ⟨lp, hp1, hp2⟩ := hb.parts T
    refine ⟨fun n σ H' => ∃ (lo hi : Nat) (v5 : Option V), σ = [some (.ref b), some (.int m), some (.ref la), some (.int lo), some (.int hi), v5] ∧ lo ≤ hi ∧ hi ≤ 131072 ∧ n = hi - lo ∧ (∀ e, e < lo → ¬ Bel s m (s.today + e)) ∧ (hi = 131072 ∨ Bel s m (s.today + hi)) ∧ Same H1 H',
      ⟨131072, 0, 131072, none, rfl, by omega, by omega, rfl, fun e he => by omega, .inl rfl, Same.refl _⟩, ?_⟩
    rintro n σ H2 ⟨lo, hi, v5, rfl, h1, h2, rfl, h3, h4, sa⟩
    refine ⟨_, rfl, _, rfl, _, _, rfl, rfl, _, rfl, iteD (fun q => ⟨fun σ' H' => ∃ n', n' < hi - lo ∧ ∃ (lo hi : Nat) (v5 : Option V), σ' = [some (.ref b), some (.int m), some (.ref la), some (.int lo), some (.int hi), v5] ∧ lo ≤ hi ∧ hi ≤ 131072 ∧ n' = hi - lo ∧ (∀ e, e < lo → ¬ Bel s m (s.today + e)) ∧ (hi = 131072 ∨ Bel s m (s.today + hi)) ∧ Same H1 H', fun σ' H' z => z, ?_⟩) (fun q => ?_)⟩
    · have hm : ((lo : Int) + (hi : Int)) / 2 = (((lo + hi) / 2 : Nat) : Int) := by omega
      refine ⟨_, rfl, _, rfl, _, _, rfl, rfl, _, _, rfl, rfl, ⟨by decide, by decide⟩, ?_⟩
      refine ⟨_, rfl, rd_attr (hp1.same (s1.trans sa)) ⟨_, rfl, _, rfl, rd_attr ((hb.today T).same (s1.trans sa)) ⟨_, rfl, _, _, rfl, rfl, lp, la, s.today + (lo + hi) / 2, s.entries.length, s, ?_, g, hp2.same mPart (s1.trans sa), ?_, fun H3 s3 => ?_⟩⟩⟩
      · show [V.ref lp, V.ref la, V.int ((s.today : Int) + ((lo : Int) + (hi : Int)) / 2)] = _
        rw [hm, Int.natCast_add]
      · rw [List.take_length]; exact hla.same mStm sa
      refine ⟨_, rfl, _, _, rfl, rfl, _, rfl, iteD (fun z => ?_) (fun z => ?_)⟩
      · refine ⟨_, rfl, (lo + hi) / 2 - lo, by omega, lo, (lo + hi) / 2, some (.int (((lo + hi) / 2 : Nat) : Int)), ?_, by omega, by omega, rfl, h3, .inr ?_, sa.trans s3⟩
        · rw [← hm]; rfl
        · show Sy50.limit s _ _ < m
          omega
      · refine ⟨_, rfl, _, _, rfl, rfl, hi - ((lo + hi) / 2 + 1), by omega, (lo + hi) / 2 + 1, hi, some (.int (((lo + hi) / 2 : Nat) : Int)), ?_, by omega, by omega, rfl, fun e he hbel => ?_, h4, sa.trans s3⟩
        · rw [Int.natCast_add, ← hm]; rfl
        · have hle : s.today + e ≤ s.today + (lo + hi) / 2 := by omega
          have := bel_mono g (a := s.today + e) (by omega) hle hbel
          have z2 : ¬ Sy50.limit s (s.today + (lo + hi) / 2) s.entries.length < m := by omega
          exact z2 this
    · have e : lo = hi := by omega
      subst e
      refine ⟨_, rfl, rfl, _, rfl, iteE (fun z => ?_) (fun z => ?_)⟩
      · have e2 : lo = 131072 := by omega
        subst e2
        exact k.fin (s1.trans sa) (by show 1 ≤ sizeLine; decide) (by rw [out_falls2 q3 (falls_none g h3)]; rfl)
      · have hB : Bel s m (s.today + lo) := by
          rcases h4 with h4 | h4
          · exact absurd (by omega) z
          · exact h4
        refine ⟨_, rfl, ?_⟩
        refine k.fin (s1.trans sa) (by show 1 ≤ sizeLine; decide) ?_
        rw [out_falls3 q3 (falls_some g (by omega) hB h3)]
        rfl
end
end Br

end
section
set_option Elab.async false
set_option linter.all false
set_option maxRecDepth 100000
set_option maxHeartbeats 2000000
namespace Br
open PySem PySem.Spec PyProof.Rows L2
theorem isF_kind {l : List Sy50.Entry} {i : Nat} {x : Sy50.Entry} (h : l[i]? = some x) : isF l i = decide (((eKind x : Nat) : Int) = 0) := by
  unfold isF
  rw [h]
  cases x <;> rfl
section
variable {P : Program} {w : World} {K : PySem.W.Frag} {mg : Str → Option Value} {base : Heap} {A : Ad}
def spLastFound (A : Ad) (K : PySem.W.Frag) : Sp := fun vs H Q _ => ∃ (b le lq : Addr) (s : Sy50.St), vs = [.ref b] ∧ BrAt A K H b le lq s ∧ Good s ∧ ∀ (H' : Hp) (p : Addr), Same H H' → H' p = some (.lst ((Sy50.ints ((List.range s.parts.length).map fun k => Sy50.inspected s k)).map V.int)) → Q (.ref p) H'
abbrev s_last_found : Stmt := top 42
theorem sc_last_found : FnScope ["bridge", "last", "statement"] ["bridge"] (defScope s_last_found) := ⟨rfl, rfl, rfl, by decide +kernel, rfl, by decide +kernel, by decide +kernel⟩
theorem ok_last_found {f : Addr} {fd : FuncData} (F : Fun K "last_found" "last_found" s_last_found f fd) (T : Txt K mg A) (c1 : Cal P w K mg base 5 "said_now" ["bridge"] (spSaidNow A K)) :
    FnOk P w K mg base CX0 6 f fd ["bridge"] (spLastFound A K) := by
  obtain ⟨fsaid_now, fdsaid_now, Gsaid_now, msaid_now, ksaid_now, bsaid_now⟩ := c1.ex
  refine F.ok sc_last_found (fun vs H Q E h => ?_) (fun cdv A' outer s H vs Q E hr h => ?_)
  · obtain ⟨b, le, lq, s, rfl, _⟩ := h
    rfl
  · obtain ⟨b, le, lq, s, rfl, hb, g, k⟩ := h
    refine ⟨_, (pss_cons (ps_set (i := 1) sc_last_found.nd rfl (Or.inl rfl) (pe_op op_rep (pe_lst (pa_cons pe_int pa_nil)) (pe_callB call_len_seq (by rfl) T.blen PySem.boot_len (pa_cons (pe_fld (pv 0) rfl) pa_nil)))) (pss_cons (ps_for PassesOwn.never rfl (pi_list (pe_call Gsaid_now (hr.mono (by decide)) rfl msaid_now ksaid_now bsaid_now .nil pass0 (pa_cons (pv 0) pa_nil))) (pg_name (i := 2) sc_last_found.nd rfl (Or.inl rfl)) (pss_one (ps_if (pt_cmpR op_eq (pe_fld (pe_ix ix_list (pe_fld (pv 0) rfl) (pe_fld (pv 2) rfl) (fun _ _ => rfl)) rfl) (pe_glob (v := V.int (0)) rfl T.gFOUND.choose_spec ⟨_, rfl⟩) (nomark _)) (pss_one (ps_asg (pe_callB (call_max2 rfl) (by rfl) T.bmax (by decide +kernel) (pa_cons (pe_ix ix_list (pv 1) (pe_fld (pv 2) rfl) (fun _ _ => rfl)) (pa_cons (pe_fld (pv 2) rfl) pa_nil))) (pg_sub (pv 1) (pe_fld (pv 2) rfl) set_list))) pss_nil))) (pss_one (ps_ret (pv 1))))), ?_⟩
    obtain ⟨lp, hp1, hp2⟩ := hb.parts T
    obtain ⟨ps, hps1, hps2, hps3⟩ := hp2.len
    obtain ⟨es, he1, he2⟩ := hb.ent
    have h12 := g.p12
    refine ⟨by show 1 ≤ sizeLine; decide, fun l0 hl0 => ?_⟩
    have s0 : Same H (upd H l0 (.lst [V.int 0])) := Same.upd_new hl0
    refine ⟨_, rfl, rd_attr (hp1.same s0) ⟨lp, _, rfl, .inl (SqL.of (s0 _ _ hps1)), l0, _, _, rfl, rfl, upd_same, by omega, by rw [hps3]; omega, ?_, fun ls hls => ?_⟩⟩
    · show 1 * (((ps.map V.ref).length : Int).toNat) ≤ sizeLine
      rw [Int.toNat_natCast, Nat.one_mul, hps3]
      exact Nat.le_of_lt (small1000 (by omega))
    have e0 : (List.replicate ((ps.map V.ref).length : Int).toNat [V.int 0]).flatten = List.replicate s.parts.length (V.int 0) := by
      rw [Int.toNat_natCast, List.flatten_replicate_singleton, hps3]
    have hlsH : H ls = none := s0.free hls
    have s1 := s0.to_upd (o := .lst (List.replicate ((ps.map V.ref).length : Int).toNat [V.int 0]).flatten) hls
    refine ⟨_, rfl, b, le, lq, s, rfl, hb.same s1, g, fun H1 la s2 ⟨as, hla, hpa⟩ => ?_⟩
    have hls1 := s2 _ _ (upd_same (H := upd H l0 (.lst [V.int 0])) (a := ls))
    have s12 := s1.trans s2
    refine ⟨la, rfl, ⟨_, SqL.of hla⟩, for_list (K := K) (a := la) (xs := as.map V.ref) (fun i σ H' => ∃ (v2 : Option V) (ns : List Int), σ = [some (.ref b), some (.ref ls), v2] ∧ Same H H' ∧ (∀ c o, H1 c = some o → c ≠ ls → H' c = some o) ∧ H' ls = some (.lst (ns.map V.int)) ∧ ns.length = s.parts.length ∧ ∀ kk z, ns[kk]? = some z → z = ((insp s.entries ((sayAll s.entries).take i) kk : Nat) : Int))
      ⟨none, List.replicate s.parts.length 0, rfl, s12, fun c o e _ => e, ?_, List.length_replicate, ?_⟩ (fun i σ H' _ ⟨_, _, _, _, kp, _⟩ => SqL.of (kp _ _ hla ?_)) ?_ ?_⟩
    · rw [hls1, e0, List.map_replicate]
    · intro kk z hz
      rw [List.getElem?_replicate] at hz
      split at hz
      · exact (Option.some.inj hz).symm
      · cases hz
    · intro q
      rw [q] at hla
      rw [hla] at hls1
      have := congrArg (fun o : Option HO => match o with | some (.lst (V.ref _ :: _)) => 1 | some (.lst (V.int _ :: _)) => 2 | some (.lst []) => 3 | _ => 0) hls1
      rw [e0] at this
      obtain ⟨n, hn⟩ : ∃ n, s.parts.length = n + 1 := ⟨s.parts.length - 1, by have := g.p0; omega⟩
      rw [hn, List.replicate_succ] at this
      cases as with
      | nil => cases this
      | cons a r => cases this
    · rintro i y σ H2 hi ⟨v2, ns, rfl, sa, kp, h1, h2, h3⟩
      obtain ⟨a, ha, rfl⟩ := ref_at hi
      obtain ⟨st, hst, hs⟩ := paired_at hpa ha
      have tk := take_snoc hst
      have hins := lStm.ins _ _ _ hs
      obtain ⟨C, dx, fs, hi1⟩ := hins
      have hs2 : StmAt K H2 a st := lStm.loc _ _ _ _ hs fun o ho => kp _ _ ho (ne_ins hi1 hls1 rfl)
      obtain ⟨k1, k2, k3, k4⟩ := hs2
      have hmem := List.mem_of_getElem? hst
      have hok := say_ok g.eo hmem
      obtain ⟨en, hen, _⟩ := mem_say hmem
      obtain ⟨ea, hea, he3⟩ := paired_at' he2 hen
      have he4 := mEnt _ _ _ _ he3 sa
      have hf := isF_kind hen
      have hb2 := hb.same sa
      obtain ⟨z, hz⟩ : ∃ z, ns[st.part]? = some z := ⟨_, List.getElem?_eq_getElem (by omega)⟩
      have hz2 := h3 _ _ hz
      have nope : ∀ kk, kk ≠ st.part → insp s.entries ((sayAll s.entries).take (i + 1)) kk = insp s.entries ((sayAll s.entries).take i) kk := fun kk hk => by
        rw [tk, insp_snoc]
        unfold inspStep
        rw [if_neg (fun q => hk q.1.symm)]
      refine ⟨_, rfl, rd_attr (hb2.entries T) ⟨_, rfl, rd_attr k1 ⟨le, _, _, _, rfl, rfl, SqL.of (sa _ _ he1), atI_nat (at_ref hea), rd_attr he4.1 ⟨rfl, _, rfl, iteE (fun q => ?_) (fun q => ?_)⟩⟩⟩⟩
      · have hf1 : isF s.entries st.num = true := by rw [hf]; exact decide_eq_true q
        refine ⟨_, rfl, _, rfl, rd_attr k2 ⟨ls, _, _, _, rfl, rfl, SqL.of h1, atI_nat (at_int hz), _, rfl, rd_attr k3 ⟨_, _, rfl, ?_⟩⟩⟩
        refine ⟨_, rfl, _, rfl, rd_attr k2 ⟨ls, _, _, _, rfl, rfl, h1, ixN_nat (by rw [List.length_map]; omega), ?_⟩⟩
        refine ⟨_, ns.set st.part (if (st.day : Int) > z then (st.day : Int) else z), rfl, same_own sa hlsH, fun c o e hc => by rw [upd_ne hc]; exact kp _ _ e hc, ?_, by rw [List.length_set]; exact h2, fun kk u hu => ?_⟩
        · rw [upd_same, List.map_set]
        · by_cases hk : kk = st.part
          · subst hk
            rw [List.getElem?_set_self (by omega)] at hu
            have e := Option.some.inj hu
            subst e
            rw [tk, insp_snoc, hz2]
            unfold inspStep
            rw [if_pos (show st.part = st.part ∧ isF s.entries st.num = true from ⟨rfl, hf1⟩)]
            split <;> omega
          · rw [List.getElem?_set_ne (fun q => hk q.symm)] at hu
            rw [nope kk hk]
            exact h3 _ _ hu
      · have hf1 : ¬ isF s.entries st.num = true := by rw [hf, decide_eq_false q]; decide
        refine ⟨_, ns, rfl, sa, kp, h1, h2, fun kk u hu => ?_⟩
        by_cases hk : kk = st.part
        · subst hk
          rw [tk, insp_snoc]
          unfold inspStep
          rw [if_neg (fun z => hf1 z.2)]
          exact h3 _ _ hu
        · rw [nope kk hk]
          exact h3 _ _ hu
    · rintro σ H2 ⟨v2, ns, rfl, sa, kp, h1, h2, h3⟩
      refine ⟨_, rfl, k H2 ls sa ?_⟩
      rw [h1]
      have e : ns = Sy50.ints ((List.range s.parts.length).map fun k => Sy50.inspected s k) := by
        refine List.ext_getElem? fun kk => ?_
        unfold Sy50.ints
        rw [List.getElem?_map, List.getElem?_map]
        by_cases hk : kk < s.parts.length
        · rw [List.getElem?_range hk]
          obtain ⟨z, hz⟩ : ∃ z, ns[kk]? = some z := ⟨_, List.getElem?_eq_getElem (by omega)⟩
          have := h3 _ _ hz
          rw [List.length_map, paired_len hpa, List.take_length] at this
          rw [hz, this]
          show _ = some ((Sy50.inspected s kk : Nat) : Int)
          rw [inspected_eq]
        · rw [List.getElem?_eq_none (by omega), List.getElem?_eq_none (by rw [List.length_range]; omega)]
          rfl
      rw [e]
def spDue (A : Ad) (K : PySem.W.Frag) : Sp := fun vs H Q _ => ∃ (b le lq : Addr) (n : Nat) (s : Sy50.St), vs = [.ref b, .int n] ∧ BrAt A K H b le lq s ∧ Good s ∧ RdK s (.due n) H Q
def dueN (s : Sy50.St) (n i : Nat) : List Nat := (List.range i).filter fun (k : Nat) => decide (Sy50.inspected s k + n < s.today)
theorem dueN_succ (s : Sy50.St) (n i : Nat) : dueN s n (i + 1) = if Sy50.inspected s i + n < s.today then dueN s n i ++ [i] else dueN s n i := by
  unfold dueN
  rw [List.range_succ, List.filter_append]
  by_cases h : Sy50.inspected s i + n < s.today
  · rw [if_pos h]
    have : List.filter (fun (k : Nat) => decide (Sy50.inspected s k + n < s.today)) [i] = [i] := by simp [h]
    rw [this]
  · rw [if_neg h]
    have : List.filter (fun (k : Nat) => decide (Sy50.inspected s k + n < s.today)) [i] = [] := by simp [h]
    rw [this, List.append_nil]
theorem dueN_len (s : Sy50.St) (n i : Nat) : (dueN s n i).length ≤ i := by
  unfold dueN
  refine Nat.le_trans (List.length_filter_le _ _) ?_
  rw [List.length_range]
  exact Nat.le_refl _
abbrev s_due : Stmt := top 41
theorem sc_due : FnScope ["bridge", "days", "late", "part", "day"] ["bridge", "days"] (defScope s_due) := ⟨rfl, rfl, rfl, by decide +kernel, rfl, by decide +kernel, by decide +kernel⟩
theorem ok_due {f : Addr} {fd : FuncData} (F : Fun K "due" "due" s_due f fd) (T : Txt K mg A) (c1 : Cal P w K mg base 6 "last_found" ["bridge"] (spLastFound A K)) (c2 : Cal P w K mg base 1 "behind_length" ["numbers"] spBehind) :
    FnOk P w K mg base CX0 7 f fd ["bridge", "days"] (spDue A K) := by
  obtain ⟨flast_found, fdlast_found, Glast_found, mlast_found, klast_found, blast_found⟩ := c1.ex
  obtain ⟨fbehind_length, fdbehind_length, Gbehind_length, mbehind_length, kbehind_length, bbehind_length⟩ := c2.ex
  refine F.ok sc_due (fun vs H Q E h => ?_) (fun cdv A' outer s H vs Q E hr h => ?_)
  · obtain ⟨b, le, lq, n, s, rfl, _⟩ := h
    rfl
  · obtain ⟨b, le, lq, n, s, rfl, hb, g, k⟩ := h
    refine ⟨_, (pss_cons (ps_setLc (i := 2) rfl sc_due.nd rfl rfl (sw_true rfl rfl rfl (by decide)) (g := (gTup K 2 (gCons (gName 3) (gCons (gName 4) gNil)))) (tt := (tTest (tOp (rI0 fun i j => V.bl (decide (j < i))) (tOp (rI0 fun i j => V.int (i - j)) (tFld K (tVar 0) "today") (tVar 4)) (tVar 1)))) (te := (tVar 3)) (pi_enum rfl T.benumerate (pa_cons (pe_call Glast_found (hr.mono (by decide)) rfl mlast_found klast_found blast_found .nil pass0 (pa_cons (pv 0) pa_nil)) pa_nil)) (blkOk_by (own := [("part", 3), ("day", 4)]) (show blkC ["bridge", "days", "late", "part", "day"] (defScope s_due) _ _ = true by decide +kernel)) (fun _ _ _ _ _ => (pg_tup rfl (pgs_cons (pg_name (i := 3) sc_due.nd rfl (Or.inl rfl)) (pgs_cons (pg_name (i := 4) sc_due.nd rfl (Or.inl rfl)) pgs_nil)))) (fun _ _ _ _ _ => (pts_one (pt_cmpR op_gt (pe_op op_sub (pe_fld (pv 0) rfl) (pv 4)) (pv 1) (nomark _)))) (fun _ _ _ _ _ => (pv 3))) (pss_one (ps_ret (pe_op op_cat (pe_lst (pa_cons (pe_callB call_len_seq (by rfl) T.blen PySem.boot_len (pa_cons (pv 2) pa_nil)) pa_nil)) (pe_call Gbehind_length (hr.mono (by decide)) rfl mbehind_length kbehind_length bbehind_length .nil pass0 (pa_cons (pv 2) pa_nil)))))), ?_⟩
    have h12 := g.p12
    refine ⟨_, rfl, b, le, lq, s, rfl, hb, g, fun H1 pl s1 hpl => ?_⟩
    refine ⟨pl, _, rfl, SqL.of hpl, fun D hD => ?_⟩
    have hat : ∀ i, i < s.parts.length → ((Sy50.ints ((List.range s.parts.length).map fun k => Sy50.inspected s k)).map V.int)[i]? = some (V.int (Sy50.inspected s i)) := fun i hi => by
      unfold Sy50.ints
      rw [List.getElem?_map, List.getElem?_map, List.getElem?_map, List.getElem?_range hi]
      rfl
    refine lc_it (n := s.parts.length) (fun i H' => Same H1 H' ∧ H' D = some (.lst ((Sy50.ints (dueN s n i)).map V.int))) ⟨Same.upd_new hD, upd_same⟩ ?_ ?_ ?_ ?_
    · rintro i H' hi ⟨sa, hd⟩
      exact ⟨_, _, SqL.of (sa _ _ hpl), hat i hi⟩
    · rintro H' ⟨sa, hd⟩
      exact ⟨_, SqL.of (sa _ _ hpl), by rw [int_len, List.length_map, List.length_range]; exact Nat.le_refl _⟩
    · rintro i y H2 H3 hi ⟨sa, hd⟩ ⟨t, x, rfl, ht, rfl, hx⟩
      have hxi := hx _ (SqL.of (sa _ _ hpl))
      rw [hat i hi] at hxi
      have ex := (Option.some.inj hxi).symm
      subst ex
      have s3 : Same H1 (upd H2 t (.tup [.int (i : Nat), .int (Sy50.inspected s i)])) := sa.to_upd ht
      have hd3 := Same.upd_new (o := .tup [.int (i : Nat), .int (Sy50.inspected s i)]) ht _ _ hd
      have hlen := dueN_len s n i
      refine ⟨t, _, rfl, SqT.of upd_same, rfl, _, _, rfl, _, _, rfl, rfl, rfl, ?_⟩
      refine ⟨_, rfl, rd_attr ((hb.today T).same (s1.trans s3)) ⟨_, rfl, _, _, rfl, rfl, _, rfl, _, _, rfl, rfl, _, rfl, iteD (fun q => ?_) (fun q => ?_)⟩⟩
      · have hq : Sy50.inspected s i + n < s.today := by omega
        refine ⟨_, rfl, _, hd3, by rw [int_len]; exact small1000 (by omega), same_own s3 hD, ?_⟩
        rw [upd_same, dueN_succ, if_pos hq, ints_append, List.map_append]
        rfl
      · have hq : ¬ Sy50.inspected s i + n < s.today := by omega
        refine ⟨s3, ?_⟩
        rw [dueN_succ, if_neg hq]
        exact hd3
    · rintro H2 ⟨sa, hd⟩
      have hlen := dueN_len s n s.parts.length
      have s2 := s1.trans sa
      refine ⟨_, rfl, D, _, rfl, .inl (SqL.of hd), by show 1 ≤ sizeLine; decide, fun l1 hl1 => ?_⟩
      have hd1 := Same.upd_new (o := .lst [V.int ((((Sy50.ints (dueN s n s.parts.length)).map V.int).length : Nat) : Int)]) hl1 _ _ hd
      refine ⟨_, rfl, D, _, rfl, hd1, by rw [ints_len]; omega, fun H3 l2 s3 hl2 h2 => ?_⟩
      refine ⟨l1, l2, _, _, rfl, rfl, s3 _ _ upd_same, h2, ?_, fun p hp => ?_⟩
      · show 1 + (List.map V.int (_ :: _)).length ≤ sizeLine
        rw [List.length_map, List.length_cons, ints_len]
        have : (sizeLine : Nat) = 16777216 := by decide
        omega
      · refine k _ p ((s2.trans ((Same.upd_new hl1).trans s3)).to_upd hp) ((s2.trans ((Same.upd_new hl1).trans s3)).free hp) ?_
        rw [upd_same, out_due, int_len, ints_len]
        rfl
def spChanges (A : Ad) (K : PySem.W.Frag) : Sp := fun vs H Q _ => ∃ (b le lq : Addr) (p d : Nat) (s : Sy50.St), vs = [.ref b, .int p, .int d] ∧ BrAt A K H b le lq s ∧ Good s ∧ RdK s (.changes p d) H Q
abbrev s_changes : Stmt := top 43
theorem sc_changes : FnScope ["bridge", "part", "day", "told", "before", "n", "crack"] ["bridge", "part", "day"] (defScope s_changes) := ⟨rfl, rfl, rfl, by decide +kernel, rfl, by decide +kernel, by decide +kernel⟩
theorem ok_changes {f : Addr} {fd : FuncData} (F : Fun K "changes" "changes" s_changes f fd) (T : Txt K mg A) (c1 : Cal P w K mg base 5 "standings_by" ["bridge", "day", "n"] (spStandingsBy A K)) (c2 : Cal P w K mg base 1 "behind_length" ["numbers"] spBehind) :
    FnOk P w K mg base CX0 6 f fd ["bridge", "part", "day"] (spChanges A K) := by
  obtain ⟨fstandings_by, fdstandings_by, Gstandings_by, mstandings_by, kstandings_by, bstandings_by⟩ := c1.ex
  obtain ⟨fbehind_length, fdbehind_length, Gbehind_length, mbehind_length, kbehind_length, bbehind_length⟩ := c2.ex
  refine F.ok sc_changes (fun vs H Q E h => ?_) (fun cdv A' outer s H vs Q E hr h => ?_)
  · obtain ⟨b, le, lq, p, d, s, rfl, _⟩ := h
    rfl
  · obtain ⟨b, le, lq, p, d, s, rfl, hb, g, k⟩ := h
    refine ⟨_, (pss_cons (ps_if (pt_cmpR op_ge (pv 1) (pe_callB call_len_seq (by rfl) T.blen PySem.boot_len (pa_cons (pe_fld (pv 0) rfl) pa_nil)) (nomark _)) (pss_one (ps_ret (pe_lst (pa_cons (pe_glob (v := V.int (-2)) rfl T.gNOT_THERE.choose_spec ⟨_, rfl⟩) pa_nil)))) pss_nil) (pss_cons (ps_if (pt_cmpR op_gt (pv 2) (pe_glob (v := V.int (100000)) rfl T.gLAST_DAY.choose_spec ⟨_, rfl⟩) (nomark _)) (pss_one (ps_ret (pe_lst (pa_cons (pe_glob (v := V.int (-1)) rfl T.gNOT_LET.choose_spec ⟨_, rfl⟩) pa_nil)))) pss_nil) (pss_cons (ps_set (i := 3) sc_changes.nd rfl (Or.inl rfl) (pe_lst pa_nil)) (pss_cons (ps_set (i := 4) sc_changes.nd rfl (Or.inl rfl) pe_non) (pss_cons (ps_for PassesOwn.never rfl (pi_range1 rfl T.brange (pa_cons (pe_op op_add (pe_callB call_len_seq (by rfl) T.blen PySem.boot_len (pa_cons (pe_fld (pv 0) rfl) pa_nil)) pe_int) pa_nil)) (pg_name (i := 5) sc_changes.nd rfl (Or.inl rfl)) (pss_cons (ps_set (i := 6) sc_changes.nd rfl (Or.inl rfl) (pe_fld (pe_ix ix_list (pe_call Gstandings_by (hr.mono (by decide)) rfl mstandings_by kstandings_by bstandings_by .nil pass0 (pa_cons (pv 0) (pa_cons (pv 2) (pa_cons (pv 5) pa_nil)))) (pv 1) (fun _ _ => rfl)) rfl)) (pss_cons (ps_if (pt_cmpR op_ne (pv 6) (pv 4) (nomark _)) (pss_one (ps_expr (pe_bm PySem.F.plainAttrs_list PySem.F.slot_list_extend PySem.F.type_list_extend mt_extend (pv 3) (pa_cons (pe_lst (pa_cons (pv 5) (pa_cons (pv 6) pa_nil))) pa_nil)))) pss_nil) (pss_one (ps_set (i := 4) sc_changes.nd rfl (Or.inl rfl) (pv 6)))))) (pss_one (ps_ret (pe_op op_cat (pe_lst (pa_cons (pe_op op_fdiv (pe_callB call_len_seq (by rfl) T.blen PySem.boot_len (pa_cons (pv 3) pa_nil)) pe_int) pa_nil)) (pe_call Gbehind_length (hr.mono (by decide)) rfl mbehind_length kbehind_length bbehind_length .nil pass0 (pa_cons (pv 3) pa_nil)))))))))), ?_⟩
    obtain ⟨lp, hp1, hp2⟩ := hb.parts T
    obtain ⟨ps, hps1, hps2, hps3⟩ := hp2.len
    obtain ⟨es, he1, he2, he3⟩ := hb.ent.len
    have h60 := g.e60
    refine ⟨_, rfl, _, rfl, rd_attr hp1 ⟨lp, _, rfl, .inl (SqL.of hps1), _, _, rfl, rfl, _, rfl, iteD (fun q => ?_) (fun q => ?_)⟩⟩
    · rw [hps3] at q
      exact k.fin (Same.refl _) (by show 1 ≤ sizeLine; decide) (by rw [out_changes1 (by omega)]; rfl)
    rw [hps3] at q
    have q1 : ¬ s.parts.length ≤ p := by omega
    refine ⟨_, rfl, _, _, rfl, rfl, _, rfl, iteD (fun q2 => k.fin (Same.refl _) (by show 1 ≤ sizeLine; decide) (by rw [out_changes2 q1 (show 100000 < d by omega)]; rfl)) (fun q2 => ?_)⟩
    have q3 : ¬ Sy50.LAST < d := by show ¬ 100000 < d; omega
    refine ⟨by show 0 ≤ sizeLine; decide, fun lt hlt => ?_⟩
    have s0 : Same H (upd H lt (.lst [])) := Same.upd_new hlt
    refine ⟨_, rfl, rd_attr ((hb.same s0).entries T) ⟨le, _, rfl, .inl (SqL.of (s0 _ _ he1)), _, _, rfl, rfl, _, rfl, by omega, by rw [he3]; omega, ?_⟩⟩
    have hn : (((es.map V.ref).length : Int) + 1).toNat = s.entries.length + 1 := by rw [he3]; omega
    refine for_range (lo := 0) (n := (((es.map V.ref).length : Int) + 1).toNat) (fun i σ H' => ∃ (vb : V) (v5 v6 : Option V), σ = [some (.ref b), some (.int p), some (.int d), some (.ref lt), some vb, v5, v6] ∧ (i = 0 → vb = .non) ∧ (∀ j, i = j + 1 → vb = .int (Sy50.crack s p d j : Nat)) ∧ Same H H' ∧ H' lt = some (.lst ((Sy50.ints (fl2 (chgs s p d i))).map V.int)))
      ⟨.non, none, none, rfl, fun _ => rfl, fun j hj => (by cases hj), s0, upd_same⟩ ?_ ?_
    · rintro i σ H1 hi ⟨vb, v5, v6, rfl, hv0, hv1, sa, hd⟩
      rw [hn] at hi
      have hlen := chgs_len s p d i
      have hb1 := hb.same sa
      refine ⟨_, rfl, _, rfl, _, rfl, b, le, lq, d, i, s, ?_, hb1, g, by omega, fun H2 pl s2 ⟨as, hl1, hl2⟩ => ?_⟩
      · show [V.ref b, V.int (d : Int), V.int (0 + (i : Int))] = _
        rw [Int.zero_add]
      have hx : (stdS s d i)[p]? = some (srcOf (sayAll (s.entries.take i)) p d, Sy50.crack s p d i, Sy50.bears s p d i) := by
        unfold stdS
        rw [List.getElem?_map, List.getElem?_range (by omega)]
        rfl
      obtain ⟨a, ha, v, w1, w2, w3, w4⟩ := paired_at' hl2 hx
      have hd2 := s2 _ _ hd
      refine ⟨_, rfl, pl, _, _, _, rfl, rfl, SqL.of hl1, atI_nat (at_ref ha), rd_attr w3 ?_⟩
      have told : chg s p d i = some (i, Sy50.crack s p d i) → ∃ (vb' : V) (v5' v6' : Option V), [some (V.ref b), some (V.int p), some (V.int d), some (V.ref lt), some (V.int (Sy50.crack s p d i : Nat)), some (V.int (0 + (i : Int))), some (V.int (Sy50.crack s p d i : Nat))] = [some (.ref b), some (.int p), some (.int d), some (.ref lt), some vb', v5', v6'] ∧ (i + 1 = 0 → vb' = .non) ∧ (∀ j, i + 1 = j + 1 → vb' = .int (Sy50.crack s p d j : Nat)) ∧
          ∀ l1, H2 l1 = none → Same H (upd (upd H2 l1 (.lst [V.int (0 + (i : Int)), V.int (Sy50.crack s p d i : Nat)])) lt (.lst (((Sy50.ints (fl2 (chgs s p d i))).map V.int) ++ [V.int (0 + (i : Int)), V.int (Sy50.crack s p d i : Nat)]))) ∧ (upd (upd H2 l1 (.lst [V.int (0 + (i : Int)), V.int (Sy50.crack s p d i : Nat)])) lt (.lst (((Sy50.ints (fl2 (chgs s p d i))).map V.int) ++ [V.int (0 + (i : Int)), V.int (Sy50.crack s p d i : Nat)]))) lt = some (.lst ((Sy50.ints (fl2 (chgs s p d (i + 1)))).map V.int)) := fun hc =>
        ⟨_, _, _, rfl, fun z => (by cases z), fun j hj => (by have : i = j := by omega
                                                              subst this; rfl), fun l1 hl1 => ⟨same_own ((sa.trans s2).to_upd hl1) hlt, by
          rw [upd_same, chgs_succ, hc]
          dsimp only
          rw [fl2_snoc, ints_append, List.map_append, Int.zero_add]
          rfl⟩⟩
      have idle : chg s p d i = none → ∃ (vb' : V) (v5' v6' : Option V), [some (V.ref b), some (V.int p), some (V.int d), some (V.ref lt), some (V.int (Sy50.crack s p d i : Nat)), some (V.int (0 + (i : Int))), some (V.int (Sy50.crack s p d i : Nat))] = [some (.ref b), some (.int p), some (.int d), some (.ref lt), some vb', v5', v6'] ∧ (i + 1 = 0 → vb' = .non) ∧ (∀ j, i + 1 = j + 1 → vb' = .int (Sy50.crack s p d j : Nat)) ∧ Same H H2 ∧ H2 lt = some (.lst ((Sy50.ints (fl2 (chgs s p d (i + 1)))).map V.int)) := fun hc =>
        ⟨_, _, _, rfl, fun z => (by cases z), fun j hj => (by have : i = j := by omega
                                                              subst this; rfl), sa.trans s2, by rw [chgs_succ, hc]; exact hd2⟩
      have hsz : ((Sy50.ints (fl2 (chgs s p d i))).map V.int).length + 2 ≤ sizeLine := by
        rw [int_len, fl2_len]
        have : (sizeLine : Nat) = 16777216 := by decide
        omega
      have go : chg s p d i = some (i, Sy50.crack s p d i) → ∀ l1, H2 l1 = none → _ := fun hc l1 hl1 => (told hc)
      cases i with
      | zero =>
        have ev := hv0 rfl
        subst ev
        have hc : chg s p d 0 = some (0, Sy50.crack s p d 0) := rfl
        refine ⟨_, rfl, _, rfl, rfl, _, rfl, iteN (fun z => ?_) (fun z => by cases z)⟩
        refine ⟨_, rfl, .inl ⟨rfl, _, SqL.of hd2⟩, _, rfl, _, rfl, by show 2 ≤ sizeLine; decide, fun l1 hl1 => ?_⟩
        refine ⟨lt, l1, _, _, rfl, rfl, Same.upd_new hl1 _ _ hd2, upd_same, hsz, ?_⟩
        obtain ⟨vb', v5', v6', e1, e2, e3, e4⟩ := told hc
        exact ⟨_, rfl, vb', v5', v6', e1, e2, e3, e4 l1 hl1⟩
      | succ j =>
        have ev := hv1 j rfl
        subst ev
        refine ⟨_, rfl, _, rfl, rfl, _, rfl, iteEN (fun z => ?_) (fun z => ?_)⟩
        · have z1 : ¬ ((Sy50.crack s p d (j + 1) : Nat) : Int) = ((Sy50.crack s p d j : Nat) : Int) := z
          have hc : chg s p d (j + 1) = some (j + 1, Sy50.crack s p d (j + 1)) := by
            unfold chg
            rw [if_neg (show ¬ j + 1 = 0 by omega), if_neg (show ¬ Sy50.crack s p d (j + 1) = Sy50.crack s p d (j + 1 - 1) by rw [Nat.add_sub_cancel]; omega)]
          refine ⟨_, rfl, .inl ⟨rfl, _, SqL.of hd2⟩, _, rfl, _, rfl, by show 2 ≤ sizeLine; decide, fun l1 hl1 => ?_⟩
          refine ⟨lt, l1, _, _, rfl, rfl, Same.upd_new hl1 _ _ hd2, upd_same, hsz, ?_⟩
          obtain ⟨vb', v5', v6', e1, e2, e3, e4⟩ := told hc
          exact ⟨_, rfl, vb', v5', v6', e1, e2, e3, e4 l1 hl1⟩
        · have z1 : ((Sy50.crack s p d (j + 1) : Nat) : Int) = ((Sy50.crack s p d j : Nat) : Int) := z
          have hc : chg s p d (j + 1) = none := by
            unfold chg
            rw [if_neg (show ¬ j + 1 = 0 by omega), if_pos (show Sy50.crack s p d (j + 1) = Sy50.crack s p d (j + 1 - 1) by rw [Nat.add_sub_cancel]; omega)]
          exact ⟨_, rfl, idle hc⟩
    · rintro σ H1 ⟨vb, v5, v6, rfl, hv0, hv1, sa, hd⟩
      rw [hn] at hd
      have hlen := chgs_len s p d (s.entries.length + 1)
      refine ⟨_, rfl, lt, _, rfl, .inl (SqL.of hd), _, _, rfl, rfl, ⟨by decide, by decide⟩, by show 1 ≤ sizeLine; decide, fun l1 hl1 => ?_⟩
      refine ⟨_, rfl, lt, _, rfl, Same.upd_new hl1 _ _ hd, by rw [ints_len, fl2_len]; omega, fun H3 l2 s3 hl2 h2 => ?_⟩
      refine ⟨l1, l2, _, _, rfl, rfl, s3 _ _ upd_same, h2, ?_, fun q hq => ?_⟩
      · show 1 + (List.map V.int (_ :: _)).length ≤ sizeLine
        rw [List.length_map, List.length_cons, ints_len, fl2_len]
        have : (sizeLine : Nat) = 16777216 := by decide
        omega
      · refine k _ q ((sa.trans ((Same.upd_new hl1).trans s3)).to_upd hq) ((sa.trans ((Same.upd_new hl1).trans s3)).free hq) ?_
        rw [upd_same, out_changes3 q1 q3, int_len, ints_len, fl2_len]
        dsimp only
        have e : ((2 * (chgs s p d (s.entries.length + 1)).length : Nat) : Int) / 2 = ((chgs s p d (s.entries.length + 1)).length : Int) := by omega
        rw [e]
        rfl
end
end Br

end
section
set_option Elab.async false
set_option linter.all false
set_option maxRecDepth 100000
set_option maxHeartbeats 2000000
namespace Br
open PySem PySem.Spec PyProof.Rows L2
theorem size_le {n : Nat} (h : n ≤ 100000) : n ≤ sizeLine := by
  have : (sizeLine : Nat) = 16777216 := by decide
  omega
section
variable {P : Program} {w : World} {K : PySem.W.Frag} {mg : Str → Option Value} {base : Heap} {A : Ad}
def spState (A : Ad) (K : PySem.W.Frag) : Sp := fun vs H Q _ => ∃ (b le lq : Addr) (s : Sy50.St), vs = [.ref b] ∧ BrAt A K H b le lq s ∧ Good s ∧ RdK s .state H Q
abbrev s_state : Stmt := top 44
theorem sc_state : FnScope ["bridge", "parts", "part", "entries", "entry", "postings", "posting"] ["bridge"] (defScope s_state) := ⟨rfl, rfl, rfl, by decide +kernel, rfl, by decide +kernel, by decide +kernel⟩
theorem ok_state {f : Addr} {fd : FuncData} (F : Fun K "state" "state" s_state f fd) (T : Txt K mg A) (c2 : Cal P w K mg base 1 "behind_length" ["numbers"] spBehind) :
    FnOk P w K mg base CX0 2 f fd ["bridge"] (spState A K) := by
  obtain ⟨fbehind_length, fdbehind_length, Gbehind_length, mbehind_length, kbehind_length, bbehind_length⟩ := c2.ex
  refine F.ok sc_state (fun vs H Q E h => ?_) (fun cdv A' outer s H vs Q E hr h => ?_)
  · obtain ⟨b, le, lq, s, rfl, _⟩ := h
    rfl
  · obtain ⟨b, le, lq, s, rfl, hb, g, k⟩ := h
    refine ⟨_, (pss_cons (ps_set (i := 1) sc_state.nd rfl (Or.inl rfl) (pe_lst pa_nil)) (pss_cons (ps_for PassesOwn.never rfl (pi_list (pe_fld (pv 0) rfl)) (pg_name (i := 2) sc_state.nd rfl (Or.inl rfl)) (pss_one (ps_expr (pe_bm PySem.F.plainAttrs_list PySem.F.slot_list_extend PySem.F.type_list_extend mt_extend (pv 1) (pa_cons (pe_lst (pa_cons (pe_fld (pv 2) rfl) (pa_cons (pe_fld (pv 2) rfl) (pa_cons (pe_fld (pv 2) rfl) pa_nil)))) pa_nil))))) (pss_cons (ps_set (i := 3) sc_state.nd rfl (Or.inl rfl) (pe_lst pa_nil)) (pss_cons (ps_for PassesOwn.never rfl (pi_list (pe_fld (pv 0) rfl)) (pg_name (i := 4) sc_state.nd rfl (Or.inl rfl)) (pss_one (ps_expr (pe_bm PySem.F.plainAttrs_list PySem.F.slot_list_extend PySem.F.type_list_extend mt_extend (pv 3) (pa_cons (pe_lst (pa_cons (pe_fld (pv 4) rfl) (pa_cons (pe_fld (pv 4) rfl) (pa_cons (pe_fld (pv 4) rfl) (pa_cons (pe_fld (pv 4) rfl) pa_nil))))) pa_nil))))) (pss_cons (ps_set (i := 5) sc_state.nd rfl (Or.inl rfl) (pe_lst pa_nil)) (pss_cons (ps_for PassesOwn.never rfl (pi_list (pe_fld (pv 0) rfl)) (pg_name (i := 6) sc_state.nd rfl (Or.inl rfl)) (pss_one (ps_expr (pe_bm PySem.F.plainAttrs_list PySem.F.slot_list_extend PySem.F.type_list_extend mt_extend (pv 5) (pa_cons (pe_lst (pa_cons (pe_fld (pv 6) rfl) (pa_cons (pe_fld (pv 6) rfl) (pa_cons (pe_fld (pv 6) rfl) pa_nil)))) pa_nil))))) (pss_one (ps_ret (pe_op op_cat (pe_op op_cat (pe_op op_cat (pe_lst (pa_cons (pe_fld (pv 0) rfl) pa_nil)) (pe_call Gbehind_length (hr.mono (by decide)) rfl mbehind_length kbehind_length bbehind_length .nil pass0 (pa_cons (pv 1) pa_nil))) (pe_call Gbehind_length (hr.mono (by decide)) rfl mbehind_length kbehind_length bbehind_length .nil pass0 (pa_cons (pv 3) pa_nil))) (pe_call Gbehind_length (hr.mono (by decide)) rfl mbehind_length kbehind_length bbehind_length .nil pass0 (pa_cons (pv 5) pa_nil))))))))))), ?_⟩
    obtain ⟨lp, hp1, ps, hps1, hps2⟩ := hb.parts T
    obtain ⟨es, he1, he2⟩ := hb.ent
    obtain ⟨qs, hq1, hq2⟩ := hb.pos
    have h12 := g.p12
    have h60 := g.e60
    have h61 := g.q60
    have hpl := paired_len hps2
    have hel := paired_len he2
    have hql := paired_len hq2
    -- parts
    refine ⟨by show 0 ≤ sizeLine; decide, fun l1 hl1 => ?_⟩
    have s0 : Same H (upd H l1 (.lst [])) := Same.upd_new hl1
    refine ⟨_, rfl, rd_attr (hp1.same s0) ⟨lp, rfl, ⟨_, SqL.of (s0 _ _ hps1)⟩, for_list (K := K) (a := lp) (xs := ps.map V.ref) (fun i σ H' => ∃ (v2 : Option V), σ = [some (.ref b), some (.ref l1), v2, none, none, none, none] ∧ Same H H' ∧ H' l1 = some (.lst ((Sy50.ints (pRows (s.parts.take i))).map V.int)))
      ⟨none, rfl, s0, upd_same⟩ (fun i σ H' _ ⟨_, _, sa, _⟩ => SqL.of (sa _ _ hps1)) ?_ ?_⟩⟩
    · rintro i y σ H' hi ⟨v2, rfl, sa, hd⟩
      have hil := (List.getElem?_eq_some_iff.mp hi).1
      rw [List.length_map] at hil
      obtain ⟨a, ha, rfl⟩ := ref_at hi
      obtain ⟨p, hp, hpa⟩ := paired_at hps2 ha
      obtain ⟨k1, k2, k3⟩ := mPart _ _ _ _ hpa sa
      refine ⟨_, rfl, .inl ⟨rfl, _, SqL.of hd⟩, _, rfl, rd_attr k1 ⟨_, rfl, rd_attr k2 ⟨_, rfl, rd_attr k3 ⟨by show 3 ≤ sizeLine; decide, fun q hq => ?_⟩⟩⟩⟩
      refine ⟨l1, q, _, _, rfl, rfl, Same.upd_new hq _ _ hd, upd_same, ?_, _, rfl, same_own (sa.to_upd hq) hl1, ?_⟩
      · rw [int_len, pRows_len, List.length_take]
        show _ + 3 ≤ sizeLine
        exact size_le (by omega)
      · rw [upd_same, take_snoc hp, pRows_snoc, ints_append, List.map_append]
        rfl
    rintro σ H1 ⟨v2, rfl, s1, hd1⟩
    rw [List.length_map, hpl, List.take_length] at hd1
    -- entries
    refine ⟨by show 0 ≤ sizeLine; decide, fun l2 hl2 => ?_⟩
    have s1' : Same H1 (upd H1 l2 (.lst [])) := Same.upd_new hl2
    refine ⟨_, rfl, rd_attr ((hb.same (s1.trans s1')).entries T) ⟨le, rfl, ⟨_, SqL.of (s1' _ _ (s1 _ _ he1))⟩, for_list (K := K) (a := le) (xs := es.map V.ref) (fun i σ H' => ∃ (v4 : Option V), σ = [some (.ref b), some (.ref l1), v2, some (.ref l2), v4, none, none] ∧ Same H1 H' ∧ H' l2 = some (.lst ((Sy50.ints (eRows (s.entries.take i))).map V.int)))
      ⟨none, rfl, s1', upd_same⟩ (fun i σ H' _ ⟨_, _, sa, _⟩ => SqL.of (sa _ _ (s1 _ _ he1))) ?_ ?_⟩⟩
    · rintro i y σ H' hi ⟨v4, rfl, sa, hd⟩
      have hil := (List.getElem?_eq_some_iff.mp hi).1
      rw [List.length_map] at hil
      obtain ⟨a, ha, rfl⟩ := ref_at hi
      obtain ⟨p, hp, hpa⟩ := paired_at he2 ha
      obtain ⟨k1, k2, k3, k4⟩ := mEnt _ _ _ _ hpa (s1.trans sa)
      refine ⟨_, rfl, .inl ⟨rfl, _, SqL.of hd⟩, _, rfl, rd_attr k1 ⟨_, rfl, rd_attr k2 ⟨_, rfl, rd_attr k3 ⟨_, rfl, rd_attr k4 ⟨by show 4 ≤ sizeLine; decide, fun q hq => ?_⟩⟩⟩⟩⟩
      refine ⟨l2, q, _, _, rfl, rfl, Same.upd_new hq _ _ hd, upd_same, ?_, _, rfl, same_own (sa.to_upd hq) hl2, ?_⟩
      · rw [int_len, eRows_len, List.length_take]
        show _ + 4 ≤ sizeLine
        exact size_le (by omega)
      · rw [upd_same, take_snoc hp, eRows_snoc, row_eq, ints_append, List.map_append]
        rfl
    rintro σ H2 ⟨v4, rfl, s2, hd2⟩
    rw [List.length_map, hel, List.take_length] at hd2
    -- postings
    refine ⟨by show 0 ≤ sizeLine; decide, fun l3 hl3 => ?_⟩
    have s2' : Same H2 (upd H2 l3 (.lst [])) := Same.upd_new hl3
    have s12 := s1.trans s2
    refine ⟨_, rfl, rd_attr ((hb.same (s12.trans s2')).postings T) ⟨lq, rfl, ⟨_, SqL.of (s2' _ _ (s12 _ _ hq1))⟩, for_list (K := K) (a := lq) (xs := qs.map V.ref) (fun i σ H' => ∃ (v6 : Option V), σ = [some (.ref b), some (.ref l1), v2, some (.ref l2), v4, some (.ref l3), v6] ∧ Same H2 H' ∧ H' l3 = some (.lst ((Sy50.ints (qRows (s.posts.take i))).map V.int)))
      ⟨none, rfl, s2', upd_same⟩ (fun i σ H' _ ⟨_, _, sa, _⟩ => SqL.of (sa _ _ (s12 _ _ hq1))) ?_ ?_⟩⟩
    · rintro i y σ H' hi ⟨v6, rfl, sa, hd⟩
      have hil := (List.getElem?_eq_some_iff.mp hi).1
      rw [List.length_map] at hil
      obtain ⟨a, ha, rfl⟩ := ref_at hi
      obtain ⟨p, hp, hpa⟩ := paired_at hq2 ha
      obtain ⟨k1, k2, k3⟩ := mPost _ _ _ _ hpa (s12.trans sa)
      refine ⟨_, rfl, .inl ⟨rfl, _, SqL.of hd⟩, _, rfl, rd_attr k1 ⟨_, rfl, rd_attr k2 ⟨_, rfl, rd_attr k3 ⟨by show 3 ≤ sizeLine; decide, fun q hq => ?_⟩⟩⟩⟩
      refine ⟨l3, q, _, _, rfl, rfl, Same.upd_new hq _ _ hd, upd_same, ?_, _, rfl, same_own (sa.to_upd hq) hl3, ?_⟩
      · rw [int_len, qRows_len, List.length_take]
        show _ + 3 ≤ sizeLine
        exact size_le (by omega)
      · rw [upd_same, take_snoc hp, qRows_snoc, ints_append, List.map_append]
        rfl
    rintro σ H3 ⟨v6, rfl, s3, hd3⟩
    rw [List.length_map, hql, List.take_length] at hd3
    have s13 := s12.trans s3
    have hd1' := s3 _ _ (s2 _ _ hd1)
    have hd2' := s3 _ _ hd2
    -- the answer
    refine ⟨_, rfl, rd_attr ((hb.same s13).today T) ⟨by show 1 ≤ sizeLine; decide, fun m1 hm1 => ?_⟩⟩
    have t1 : Same H3 (upd H3 m1 (.lst [V.int s.today])) := Same.upd_new hm1
    refine ⟨_, rfl, l1, _, rfl, t1 _ _ hd1', by rw [ints_len, pRows_len]; omega, fun H4 m2 t2 hm2 e2 => ?_⟩
    refine ⟨m1, m2, _, _, rfl, rfl, t2 _ _ upd_same, e2, ?_, fun m3 hm3 => ?_⟩
    · show 1 + (List.map V.int (_ :: _)).length ≤ sizeLine
      rw [List.length_map, List.length_cons, ints_len, pRows_len]
      exact size_le (by omega)
    have t3 := (t1.trans t2).to_upd (o := .lst ([V.int s.today] ++ (((Sy50.ints (pRows s.parts)).length : Int) :: Sy50.ints (pRows s.parts)).map V.int)) hm3
    refine ⟨_, rfl, l2, _, rfl, t3 _ _ hd2', by rw [ints_len, eRows_len]; omega, fun H5 m4 t4 hm4 e4 => ?_⟩
    refine ⟨m3, m4, _, _, rfl, rfl, t4 _ _ upd_same, e4, ?_, fun m5 hm5 => ?_⟩
    · simp only [List.length_append, List.length_map, List.length_cons, List.length_nil, ints_len, pRows_len, eRows_len, qRows_len]
      exact size_le (by omega)
    have t5 := (t3.trans t4).to_upd (o := .lst (([V.int s.today] ++ (((Sy50.ints (pRows s.parts)).length : Int) :: Sy50.ints (pRows s.parts)).map V.int) ++ (((Sy50.ints (eRows s.entries)).length : Int) :: Sy50.ints (eRows s.entries)).map V.int)) hm5
    refine ⟨_, rfl, l3, _, rfl, t5 _ _ hd3, by rw [ints_len, qRows_len]; omega, fun H6 m6 t6 hm6 e6 => ?_⟩
    refine ⟨m5, m6, _, _, rfl, rfl, t6 _ _ upd_same, e6, ?_, fun m7 hm7 => ?_⟩
    · simp only [List.length_append, List.length_map, List.length_cons, List.length_nil, ints_len, pRows_len, eRows_len, qRows_len]
      exact size_le (by omega)
    have t7 := s13.trans (t5.trans t6)
    refine k _ m7 (t7.to_upd hm7) (t7.free hm7) ?_
    rw [upd_same, out_state]
    simp only [ints_len, List.map_append, List.map_cons, List.cons_append, List.append_assoc, List.nil_append]

/-! ### the calls that write -/
/-- what stays: all but the bridge and its two lists; nothing that was there is gone -/
structure Fra (H H' : Hp) (b le lq : Addr) : Prop where
  keep : ∀ a o, H a = some o → a ≠ b → a ≠ le → a ≠ lq → H' a = some o
  dom : ∀ a, H' a = none → H a = none
theorem Fra.of {H H' : Hp} {b le lq : Addr} (s : Same H H') : Fra H H' b le lq := ⟨fun a o e _ _ _ => s _ _ e, fun a e => s.free e⟩
def WrO (A : Ad) (K : PySem.W.Frag) (b le lq : Addr) (s' : Sy50.St) (ns : List Int) (H : Hp) (Q : VK) : Prop :=
  ∀ (H' : Hp) (l le' lq' : Addr), BrAt A K H' b le' lq' s' → (le' = le ∨ H le' = none) → (lq' = lq ∨ H lq' = none) → Fra H H' b le lq → H l = none → H' l = some (.lst (ns.map V.int)) → Q (.ref l) H'
abbrev WrK (A : Ad) (K : PySem.W.Frag) (b le lq : Addr) (s : Sy50.St) (c : Sy50.Call) (H : Hp) (Q : VK) : Prop := WrO A K b le lq (Sy50.step s c).1 (outOf s c) H Q
theorem WrO.fin {b le lq le' lq' : Addr} {s' : Sy50.St} {ns : List Int} {H H1 : Hp} {Q : VK} {xs : List V} (k : WrO A K b le lq s' ns H Q) (hb : BrAt A K H1 b le' lq' s') (h1 : le' = le ∨ H le' = none) (h2 : lq' = lq ∨ H lq' = none) (fr : Fra H H1 b le lq) (hl : xs.length ≤ sizeLine) (e : ns.map V.int = xs) :
    xs.length ≤ sizeLine ∧ ∀ p, H1 p = none → Q (.ref p) (upd H1 p (.lst xs)) :=
  ⟨hl, fun p hp => k _ p le' lq' (hb.same (Same.upd_new hp)) h1 h2 ⟨fun a o ea n1 n2 n3 => Same.upd_new hp _ _ (fr.keep a o ea n1 n2 n3), fun a ea => fr.dom a ((Same.upd_new hp).free ea)⟩ (fr.dom p hp) (by rw [upd_same, e])⟩
/-- a refusal -/
theorem WrO.no {b le lq : Addr} {s s' : Sy50.St} {ns : List Int} {H H1 : Hp} {Q : VK} {v : Int} (k : WrO A K b le lq s' ns H Q) (hb : BrAt A K H b le lq s) (s1 : Same H H1) (h : ns = [v] ∧ s' = s) : ([V.int v] : List V).length ≤ sizeLine ∧ ∀ p, H1 p = none → Q (.ref p) (upd H1 p (.lst [V.int v])) := by
  obtain ⟨rfl, rfl⟩ := h
  exact k.fin (hb.same s1) (.inl rfl) (.inl rfl) (Fra.of s1) (by show 1 ≤ sizeLine; decide) rfl
theorem WrO.pre {b le lq : Addr} {s' : Sy50.St} {ns : List Int} {H H1 : Hp} {Q : VK} (k : WrO A K b le lq s' ns H Q) (s1 : Same H H1) : WrO A K b le lq s' ns H1 Q := by
  intro H' l le' lq' hb h1 h2 fr hl h
  refine k H' l le' lq' hb ?_ ?_ ⟨fun a o e n1 n2 n3 => fr.keep a o (s1 _ _ e) n1 n2 n3, fun a e => s1.free (fr.dom a e)⟩ (s1.free hl) h
  · rcases h1 with h1 | h1
    · exact .inl h1
    · exact .inr (s1.free h1)
  · rcases h2 with h2 | h2
    · exact .inl h2
    · exact .inr (s1.free h2)
theorem upd_dom {H : Hp} {d : Addr} {o o' : HO} (h : H d = some o') : ∀ a, upd H d o a = none → H a = none := fun a e => by
  by_cases q : a = d
  · rw [q, upd_same] at e; cases e
  · rw [upd_ne q] at e; exact e
theorem BrAt.enter {b le lq a : Addr} {s : Sy50.St} {H : Hp} {x : Sy50.Entry} {es : List Addr} (hb : BrAt A K H b le lq s) (ha : EntAt K H a x) (hl : H le = some (.lst (es.map V.ref))) : BrAt A K (upd H le (.lst (es.map V.ref ++ [V.ref a]))) b le lq { s with entries := s.entries ++ [x] } := by
  obtain ⟨⟨dx, lp, h1, h2, h3, h4⟩, ⟨es', h5, h6⟩, h7, h8⟩ := hb
  have ee : es' = es := by
    rw [hl] at h5
    have e := HO.lst.inj (Option.some.inj h5)
    clear hl h5 h6
    induction es generalizing es' with
    | nil => cases es' with
      | nil => rfl
      | cons _ _ => cases e
    | cons y r ih => cases es' with
      | nil => cases e
      | cons y' r' =>
        rw [List.map_cons, List.map_cons] at e
        have e1 := List.cons.inj e
        rw [V.ref.inj e1.1, ih r' e1.2]
  subst ee
  refine ⟨⟨dx, lp, by rw [upd_ne (ne_ins h1 hl rfl)]; exact h1, h2.keep lPart hl rfl h3, h3, h4⟩, ⟨es' ++ [a], by rw [upd_same, List.map_append]; rfl, ?_⟩, h7.keep lPost hl rfl (fun q => h8 q.symm), h8⟩
  exact paired_snoc (paired_mono (fun a x r => lEnt.insK r (InsK.upd hl rfl)) h6) (lEnt.insK ha (InsK.upd hl rfl))
def spEnter (A : Ad) (K : PySem.W.Frag) : Sp := fun vs H Q _ => ∃ (b le lq a : Addr) (s : Sy50.St) (x : Sy50.Entry), vs = [.ref b, .ref a] ∧ BrAt A K H b le lq s ∧ Good s ∧ EntAt K H a x ∧ WrO A K b le lq (Sy50.enter s x).1 (Sy50Neutral.out (Sy50.enter s x).2) H Q
abbrev s_enter : Stmt := top 63
theorem sc_enter : FnScope ["bridge", "entry"] ["bridge", "entry"] (defScope s_enter) := ⟨rfl, rfl, rfl, by decide +kernel, rfl, by decide +kernel, by decide +kernel⟩
theorem ok_enter {f : Addr} {fd : FuncData} (F : Fun K "enter" "enter" s_enter f fd) (T : Txt K mg A) : FnOk P w K mg base CX0 1 f fd ["bridge", "entry"] (spEnter A K) := by
  refine F.ok sc_enter (fun vs H Q E h => ?_) (fun cdv A' outer s H vs Q E hr h => ?_)
  · obtain ⟨b, le, lq, a, s, x, rfl, _⟩ := h
    rfl
  · obtain ⟨b, le, lq, a, s, x, rfl, hb, g, ha, k⟩ := h
    refine ⟨_, (pss_cons (ps_if (pt_cmpR op_ge (pe_callB call_len_seq (by rfl) T.blen PySem.boot_len (pa_cons (pe_fld (pv 0) rfl) pa_nil)) (pe_glob (v := V.int (60)) rfl T.gMOST_ENTRIES.choose_spec ⟨_, rfl⟩) (nomark _)) (pss_one (ps_ret (pe_lst (pa_cons (pe_glob (v := V.int (-5)) rfl T.gTOO_MANY.choose_spec ⟨_, rfl⟩) pa_nil)))) pss_nil) (pss_cons (ps_expr (pe_bm PySem.F.plainAttrs_list PySem.F.slot_list_append PySem.F.type_list_append mt_append (pe_fld (pv 0) rfl) (pa_cons (pv 1) pa_nil))) (pss_one (ps_ret (pe_lst (pa_cons (pe_op op_sub (pe_callB call_len_seq (by rfl) T.blen PySem.boot_len (pa_cons (pe_fld (pv 0) rfl) pa_nil)) pe_int) pa_nil)))))), ?_⟩
    obtain ⟨es, he1, he2, he3⟩ := hb.ent.len
    refine ⟨_, rfl, rd_attr (hb.entries T) ⟨le, _, rfl, .inl (SqL.of he1), _, _, rfl, rfl, _, rfl, iteD (fun q => ?_) (fun q => ?_)⟩⟩
    · rw [he3] at q
      exact k.no hb (Same.refl _) (enter1 (by omega))
    rw [he3] at q
    have q1 : ¬ 60 ≤ s.entries.length := by omega
    refine ⟨_, rfl, rd_attr (hb.entries T) ⟨.inl ⟨rfl, _, SqL.of he1⟩, _, rfl, le, _, _, rfl, rfl, he1, by rw [he3]; exact small1000 (by omega), ?_⟩⟩
    obtain ⟨e1, e2⟩ := enter2 (s := s) (x := x) q1
    have hb2 := hb.enter ha he1
    rw [← e2] at hb2
    refine ⟨_, rfl, rd_attr (hb2.entries T) ⟨le, _, rfl, .inl (SqL.of upd_same), _, _, rfl, rfl, ?_⟩⟩
    refine k.fin hb2 (.inl rfl) (.inl rfl) ⟨fun c o e _ n2 _ => by rw [upd_ne n2]; exact e, upd_dom he1⟩ (by show 1 ≤ sizeLine; decide) ?_
    rw [e1, List.length_append, he3]
    show [V.int (s.entries.length : Int)] = [V.int (((s.entries.length + 1 : Nat) : Int) - 1)]
    congr 2
    omega
def spIsStruck (K : PySem.W.Frag) : Sp := fun vs H Q _ => ∃ (le : Addr) (n : Nat) (l : List Sy50.Entry), vs = [.ref le, .int n] ∧ Objs (EntAt K) H le l ∧ l.length ≤ 60 ∧ ∀ H', Same H H' → Q (.bl (Sy50.isStruck l n)) H'
theorem struck_any (l : List Sy50.Entry) (n : Nat) : (l.map fun x => decide (x = .struck n)).any id = Sy50.isStruck l n := by
  rw [Bool.eq_iff_iff, List.any_eq_true, struck_iff]
  constructor
  · rintro ⟨c, hc, e⟩
    obtain ⟨x, hx, rfl⟩ := List.mem_map.mp hc
    have : x = .struck n := of_decide_eq_true e
    rw [← this]; exact hx
  · intro h
    exact ⟨_, List.mem_map.mpr ⟨_, h, rfl⟩, by simp⟩
theorem struck_dec (x : Sy50.Entry) (n : Nat) : decide (x = .struck n) = if decide (V.int ((eKind x : Nat) : Int) = V.int 2) = true then decide (V.int ((eAbout x : Nat) : Int) = V.int (n : Int)) else false := by
  rw [dvi, dvi]
  cases x with
  | struck e =>
    show decide (Sy50.Entry.struck e = .struck n) = if decide (((2 : Nat) : Int) = 2) = true then decide ((e : Int) = (n : Int)) else false
    rw [if_pos (by decide)]
    by_cases h : e = n
    · subst h; simp
    · rw [decide_eq_false (fun q => h (Sy50.Entry.struck.inj q)), decide_eq_false (by omega)]
  | found p d c => rw [decide_eq_false (by intro q; cases q)]; rfl
  | mended p d => rw [decide_eq_false (by intro q; cases q)]; rfl
  | right_ e c => rw [decide_eq_false (by intro q; cases q)]; rfl
abbrev s_is_struck : Stmt := top 62
theorem sc_is_struck : FnScope ["entries", "number", "entry"] ["entries", "number"] (defScope s_is_struck) := ⟨rfl, rfl, rfl, by decide +kernel, rfl, by decide +kernel, by decide +kernel⟩
theorem ok_is_struck {f : Addr} {fd : FuncData} (F : Fun K "is_struck" "is_struck" s_is_struck f fd) (T : Txt K mg A) : FnOk P w K mg base CX0 1 f fd ["entries", "number"] (spIsStruck K) := by
  refine F.ok sc_is_struck (fun vs H Q E h => ?_) (fun cdv A' outer s H vs Q E hr h => ?_)
  · obtain ⟨le, n, l, rfl, _⟩ := h
    rfl
  · obtain ⟨le, n, l, rfl, ⟨es, he1, he2⟩, h60, k⟩ := h
    refine ⟨_, (pss_one (ps_ret (pe_callB (cr_any rfl) (by rfl) T.bany (by decide +kernel) (pa_cons (pe_lc rfl sc_is_struck.nd (g := (gName 2)) (tt := tYes) (te := (tAndV (tOp rEq (tFld K (tVar 2) "kind") (tC (V.int (2)))) (tOp rEq (tFld K (tVar 2) "about") (tVar 1)))) (pi_list (pv 0)) (blkOk_by (own := [("entry", 2)]) (show blkC ["entries", "number", "entry"] (defScope s_is_struck) _ _ = true by decide +kernel)) (fun _ _ _ _ _ => (pg_name (i := 2) sc_is_struck.nd rfl (Or.inl rfl))) (fun _ _ _ _ _ => pts_nil) (fun _ _ _ _ _ => (pe_and (pe_cmpR op_eq (pe_fld (pv 2) rfl) (pe_glob (v := V.int (2)) rfl T.gSTRUCK.choose_spec ⟨_, rfl⟩) (nomark _)) (pe_one (pe_cmpR op_eq (pe_fld (pv 2) rfl) (pv 1) (nomark _)))))) pa_nil)))), ?_⟩
    have hel := paired_len he2
    refine ⟨_, rfl, le, rfl, ⟨_, SqL.of he1⟩, fun D hD => ?_⟩
    refine lc_list (K := K) (a := le) (xs := es.map V.ref) (fun i H' => Same H H' ∧ H' D = some (.lst (((l.take i).map fun x => decide (x = .struck n)).map V.bl))) ⟨Same.upd_new hD, upd_same⟩ (fun i H' _ ⟨sa, _⟩ => SqL.of (sa _ _ he1)) ?_ ?_
    · rintro i y H2 hi ⟨sa, hd⟩
      obtain ⟨a, ha, rfl⟩ := ref_at hi
      obtain ⟨x, hx, hxa⟩ := paired_at he2 ha
      obtain ⟨k1, k2, k3, k4⟩ := mEnt _ _ _ _ hxa sa
      refine ⟨rfl, tyes ?_⟩
      have fin : ∀ c : Bool, c = decide (x = .struck n) → ∃ acc, H2 D = some (.lst acc) ∧ acc.length < sizeLine ∧ Same H (upd H2 D (.lst (acc ++ [V.bl c]))) ∧ (upd H2 D (.lst (acc ++ [V.bl c]))) D = some (.lst (((l.take (i + 1)).map fun x => decide (x = .struck n)).map V.bl)) := fun c hc =>
        ⟨_, hd, by rw [List.length_map, List.length_map, List.length_take]; exact small1000 (by omega), same_own sa hD, by rw [upd_same, take_snoc hx, List.map_append, List.map_append, hc]; rfl⟩
      rw [struck_dec] at fin
      refine ⟨_, rfl, rd_attr k1 ⟨rfl, _, rfl, ?_⟩⟩
      by_cases hq : decide (V.int ((eKind x : Nat) : Int) = V.int 2) = true
      · rw [if_pos hq] at fin ⊢
        refine ⟨_, rfl, rd_attr k2 ⟨_, rfl, rfl, fin _ rfl⟩⟩
      · rw [if_neg hq] at fin ⊢
        exact fin _ rfl
    · rintro H2 ⟨sa, hd⟩
      rw [List.length_map, hel, List.take_length] at hd
      refine ⟨D, _, rfl, SqL.of hd, ?_⟩
      rw [struck_any]
      exact k H2 sa
end
end Br

end
section
set_option Elab.async false
set_option linter.all false
set_option maxRecDepth 100000
set_option maxHeartbeats 2000000
namespace Br
open PySem PySem.Spec PyProof.Rows L2
section
variable {P : Program} {w : World} {K : PySem.W.Frag} {mg : Str → Option Value} {base : Heap} {A : Ad}
theorem Ent.wr {b le lq : Addr} {s : Sy50.St} {c : Sy50.Call} {x : Sy50.Entry} {H : Hp} {Q : VK} (k : WrK A K b le lq s c H Q) (e : Ent s c x) : WrO A K b le lq (Sy50.enter s x).1 (Sy50Neutral.out (Sy50.enter s x).2) H Q := by
  unfold Ent at e
  unfold WrK outOf at k
  rw [e] at k
  exact k
def spFound (A : Ad) (K : PySem.W.Frag) : Sp := fun vs H Q _ => ∃ (b le lq : Addr) (p d c : Nat) (s : Sy50.St), vs = [.ref b, .int p, .int d, .int c] ∧ BrAt A K H b le lq s ∧ Good s ∧ WrK A K b le lq s (.found p d c) H Q
abbrev s_found : Stmt := top 58
theorem sc_found : FnScope ["bridge", "part", "day", "crack"] ["bridge", "part", "day", "crack"] (defScope s_found) := ⟨rfl, rfl, rfl, by decide +kernel, rfl, by decide +kernel, by decide +kernel⟩
theorem ok_found {f : Addr} {fd : FuncData} (F : Fun K "found" "found" s_found f fd) (T : Txt K mg A) (c1 : Cal P w K mg base 1 "enter" ["bridge", "entry"] (spEnter A K))
    (c3 : CalC P w K mg base 1 A.cEntry ["self", "kind", "about", "day", "crack"] (spIni A.cEntry ["kind", "about", "day", "crack"])) : FnOk P w K mg base CX0 3 f fd ["bridge", "part", "day", "crack"] (spFound A K) := by
  obtain ⟨fenter, fdenter, Genter, menter, kenter, benter⟩ := c1.ex
  obtain ⟨fI, fdI, GEntry, MEntry, bEntry⟩ := c3.ex
  refine F.ok sc_found (fun vs H Q E h => ?_) (fun cdv A' outer s H vs Q E hr h => ?_)
  · obtain ⟨b, le, lq, p, d, c, s, rfl, _⟩ := h
    rfl
  · obtain ⟨b, le, lq, p, d, c, s, rfl, hb, g, k⟩ := h
    refine ⟨_, (pss_cons (ps_if (pt_cmpR op_ge (pv 1) (pe_callB call_len_seq (by rfl) T.blen PySem.boot_len (pa_cons (pe_fld (pv 0) rfl) pa_nil)) (nomark _)) (pss_one (ps_ret (pe_lst (pa_cons (pe_glob (v := V.int (-2)) rfl T.gNOT_THERE.choose_spec ⟨_, rfl⟩) pa_nil)))) pss_nil) (pss_cons (ps_if (PW.pt (pw_or (pt_cmpR op_gt (pv 2) (pe_fld (pv 0) rfl) (nomark _)) (pw_or1 (pt_cmpR op_gt (pv 3) (pe_glob (v := V.int (1000)) rfl T.gMOST_CRACK.choose_spec ⟨_, rfl⟩) (nomark _))))) (pss_one (ps_ret (pe_lst (pa_cons (pe_glob (v := V.int (-1)) rfl T.gNOT_LET.choose_spec ⟨_, rfl⟩) pa_nil)))) pss_nil) (pss_one (ps_ret (pe_call Genter (hr.mono (by decide)) rfl menter kenter benter .nil pass0 (pa_cons (pv 0) (pa_cons (pe_make MEntry GEntry (hr.mono (by decide)) rfl T.cEntry bEntry .nil pass0 (pa_cons (pe_glob (v := V.int (0)) rfl T.gFOUND.choose_spec ⟨_, rfl⟩) (pa_cons (pv 1) (pa_cons (pv 2) (pa_cons (pv 3) pa_nil))))) pa_nil))))))), ?_⟩
    obtain ⟨lp, hp1, hp2⟩ := hb.parts T
    obtain ⟨ps, hps1, hps2, hps3⟩ := hp2.len
    refine ⟨_, rfl, _, rfl, rd_attr hp1 ⟨lp, _, rfl, .inl (SqL.of hps1), _, _, rfl, rfl, _, rfl, iteD (fun q => ?_) (fun q => ?_)⟩⟩
    · rw [hps3] at q
      exact k.no hb (Same.refl _) (out_found1 (by omega))
    rw [hps3] at q
    have q1 : ¬ s.parts.length ≤ p := by omega
    refine ⟨_, rfl, _, rfl, rd_attr (hb.today T) ⟨_, _, rfl, rfl, _, rfl, iteD (fun q2 => iteT (k.no hb (Same.refl _) (out_found2 q1 (.inl (by omega))))) (fun q2 => ?_)⟩⟩
    refine ⟨_, rfl, _, _, rfl, rfl, _, rfl, iteD (fun q3 => k.no hb (Same.refl _) (out_found2 q1 (.inr (by omega)))) (fun q3 => ?_)⟩
    refine ⟨_, rfl, _, rfl, _, rfl, _, rfl, ?_⟩
    intro x dx nx nd ne
    refine ⟨x, dx, _, rfl, rfl, upd_same, fun H2 e => ⟨rfl, ?_⟩⟩
    obtain ⟨s1, a1, a2, a3, a4⟩ := mkEnt T nx nd e
    exact ⟨b, le, lq, x, s, .found p d c, rfl, hb.same s1, g, ⟨a1, a2, a3, a4⟩, (Ent.wr k (out_found3 q1 (by omega))).pre s1⟩
def spMended (A : Ad) (K : PySem.W.Frag) : Sp := fun vs H Q _ => ∃ (b le lq : Addr) (p d : Nat) (s : Sy50.St), vs = [.ref b, .int p, .int d] ∧ BrAt A K H b le lq s ∧ Good s ∧ WrK A K b le lq s (.mended p d) H Q
abbrev s_mended : Stmt := top 59
theorem sc_mended : FnScope ["bridge", "part", "day"] ["bridge", "part", "day"] (defScope s_mended) := ⟨rfl, rfl, rfl, by decide +kernel, rfl, by decide +kernel, by decide +kernel⟩
theorem ok_mended {f : Addr} {fd : FuncData} (F : Fun K "mended" "mended" s_mended f fd) (T : Txt K mg A) (c1 : Cal P w K mg base 1 "enter" ["bridge", "entry"] (spEnter A K))
    (c3 : CalC P w K mg base 1 A.cEntry ["self", "kind", "about", "day", "crack"] (spIni A.cEntry ["kind", "about", "day", "crack"])) : FnOk P w K mg base CX0 3 f fd ["bridge", "part", "day"] (spMended A K) := by
  obtain ⟨fenter, fdenter, Genter, menter, kenter, benter⟩ := c1.ex
  obtain ⟨fI, fdI, GEntry, MEntry, bEntry⟩ := c3.ex
  refine F.ok sc_mended (fun vs H Q E h => ?_) (fun cdv A' outer s H vs Q E hr h => ?_)
  · obtain ⟨b, le, lq, p, d, s, rfl, _⟩ := h
    rfl
  · obtain ⟨b, le, lq, p, d, s, rfl, hb, g, k⟩ := h
    refine ⟨_, (pss_cons (ps_if (pt_cmpR op_ge (pv 1) (pe_callB call_len_seq (by rfl) T.blen PySem.boot_len (pa_cons (pe_fld (pv 0) rfl) pa_nil)) (nomark _)) (pss_one (ps_ret (pe_lst (pa_cons (pe_glob (v := V.int (-2)) rfl T.gNOT_THERE.choose_spec ⟨_, rfl⟩) pa_nil)))) pss_nil) (pss_cons (ps_if (pt_cmpR op_gt (pv 2) (pe_fld (pv 0) rfl) (nomark _)) (pss_one (ps_ret (pe_lst (pa_cons (pe_glob (v := V.int (-1)) rfl T.gNOT_LET.choose_spec ⟨_, rfl⟩) pa_nil)))) pss_nil) (pss_one (ps_ret (pe_call Genter (hr.mono (by decide)) rfl menter kenter benter .nil pass0 (pa_cons (pv 0) (pa_cons (pe_make MEntry GEntry (hr.mono (by decide)) rfl T.cEntry bEntry .nil pass0 (pa_cons (pe_glob (v := V.int (1)) rfl T.gMENDED.choose_spec ⟨_, rfl⟩) (pa_cons (pv 1) (pa_cons (pv 2) (pa_cons pe_int pa_nil))))) pa_nil))))))), ?_⟩
    obtain ⟨lp, hp1, hp2⟩ := hb.parts T
    obtain ⟨ps, hps1, hps2, hps3⟩ := hp2.len
    refine ⟨_, rfl, _, rfl, rd_attr hp1 ⟨lp, _, rfl, .inl (SqL.of hps1), _, _, rfl, rfl, _, rfl, iteD (fun q => ?_) (fun q => ?_)⟩⟩
    · rw [hps3] at q
      exact k.no hb (Same.refl _) (out_mended1 (by omega))
    rw [hps3] at q
    have q1 : ¬ s.parts.length ≤ p := by omega
    refine ⟨_, rfl, _, rfl, rd_attr (hb.today T) ⟨_, _, rfl, rfl, _, rfl, iteD (fun q2 => k.no hb (Same.refl _) (out_mended2 q1 (by omega))) (fun q2 => ?_)⟩⟩
    refine ⟨_, rfl, _, rfl, _, rfl, ?_⟩
    intro x dx nx nd ne
    refine ⟨x, dx, _, rfl, rfl, upd_same, fun H2 e => ⟨rfl, ?_⟩⟩
    obtain ⟨s1, a1, a2, a3, a4⟩ := mkEnt T nx nd e
    exact ⟨b, le, lq, x, s, .mended p d, rfl, hb.same s1, g, ⟨a1, a2, a3, a4⟩, (Ent.wr k (out_mended3 q1 (by omega))).pre s1⟩
def spStrike (A : Ad) (K : PySem.W.Frag) : Sp := fun vs H Q _ => ∃ (b le lq : Addr) (n : Nat) (s : Sy50.St), vs = [.ref b, .int n] ∧ BrAt A K H b le lq s ∧ Good s ∧ WrK A K b le lq s (.strike n) H Q
theorem not01 (x : Sy50.Entry) : (if true = true then !inV (V.int ((eKind x : Nat) : Int)) [V.int 0, V.int 1] else inV (V.int ((eKind x : Nat) : Int)) [V.int 0, V.int 1]) = decide (2 ≤ kindOf x) := by
  cases x <;> rfl
abbrev s_strike : Stmt := top 60
theorem sc_strike : FnScope ["bridge", "number"] ["bridge", "number"] (defScope s_strike) := ⟨rfl, rfl, rfl, by decide +kernel, rfl, by decide +kernel, by decide +kernel⟩
theorem ok_strike {f : Addr} {fd : FuncData} (F : Fun K "strike" "strike" s_strike f fd) (T : Txt K mg A) (c1 : Cal P w K mg base 1 "enter" ["bridge", "entry"] (spEnter A K)) (c2 : Cal P w K mg base 1 "is_struck" ["entries", "number"] (spIsStruck K))
    (c3 : CalC P w K mg base 1 A.cEntry ["self", "kind", "about", "day", "crack"] (spIni A.cEntry ["kind", "about", "day", "crack"])) : FnOk P w K mg base CX0 3 f fd ["bridge", "number"] (spStrike A K) := by
  obtain ⟨fenter, fdenter, Genter, menter, kenter, benter⟩ := c1.ex
  obtain ⟨fis_struck, fdis_struck, Gis_struck, mis_struck, kis_struck, bis_struck⟩ := c2.ex
  obtain ⟨fI, fdI, GEntry, MEntry, bEntry⟩ := c3.ex
  refine F.ok sc_strike (fun vs H Q E h => ?_) (fun cdv A' outer s H vs Q E hr h => ?_)
  · obtain ⟨b, le, lq, n, s, rfl, _⟩ := h
    rfl
  · obtain ⟨b, le, lq, n, s, rfl, hb, g, k⟩ := h
    refine ⟨_, (pss_cons (ps_if (pt_cmpR op_ge (pv 1) (pe_callB call_len_seq (by rfl) T.blen PySem.boot_len (pa_cons (pe_fld (pv 0) rfl) pa_nil)) (nomark _)) (pss_one (ps_ret (pe_lst (pa_cons (pe_glob (v := V.int (-2)) rfl T.gNOT_THERE.choose_spec ⟨_, rfl⟩) pa_nil)))) pss_nil) (pss_cons (ps_if (PW.pt (pw_or (pt_val (pe_call Gis_struck (hr.mono (by decide)) rfl mis_struck kis_struck bis_struck .nil pass0 (pa_cons (pe_fld (pv 0) rfl) (pa_cons (pv 1) pa_nil)))) (pw_or1 (pt_cmpR op_notIn_seq (pe_fld (pe_ix ix_list (pe_fld (pv 0) rfl) (pv 1) (fun _ _ => rfl)) rfl) (pe_tup (pa_cons (pe_glob (v := V.int (0)) rfl T.gFOUND.choose_spec ⟨_, rfl⟩) (pa_cons (pe_glob (v := V.int (1)) rfl T.gMENDED.choose_spec ⟨_, rfl⟩) pa_nil))) (by with_unfolding_all rfl))))) (pss_one (ps_ret (pe_lst (pa_cons (pe_glob (v := V.int (-4)) rfl T.gCANT_BE.choose_spec ⟨_, rfl⟩) pa_nil)))) pss_nil) (pss_one (ps_ret (pe_call Genter (hr.mono (by decide)) rfl menter kenter benter .nil pass0 (pa_cons (pv 0) (pa_cons (pe_make MEntry GEntry (hr.mono (by decide)) rfl T.cEntry bEntry .nil pass0 (pa_cons (pe_glob (v := V.int (2)) rfl T.gSTRUCK.choose_spec ⟨_, rfl⟩) (pa_cons (pv 1) (pa_cons pe_int (pa_cons pe_int pa_nil))))) pa_nil))))))), ?_⟩
    obtain ⟨es, he1, he2, he3⟩ := hb.ent.len
    refine ⟨_, rfl, _, rfl, rd_attr (hb.entries T) ⟨le, _, rfl, .inl (SqL.of he1), _, _, rfl, rfl, _, rfl, iteD (fun q => ?_) (fun q => ?_)⟩⟩
    · rw [he3] at q
      exact k.no hb (Same.refl _) (out_strike1 (by omega))
    rw [he3] at q
    obtain ⟨x, hx⟩ : ∃ x, s.entries[n]? = some x := ⟨_, List.getElem?_eq_getElem (by omega)⟩
    obtain ⟨a, ha, hxa⟩ := paired_at' he2 hx
    refine ⟨_, rfl, rd_attr (hb.entries T) ⟨_, rfl, le, n, s.entries, rfl, hb.ent, g.e60, fun H1 s1 => ?_⟩⟩
    have hb1 := hb.same s1
    refine ⟨_, rfl, iteB (fun z => iteT (k.no hb s1 (out_strike2 hx (.inl z)))) (fun z => ?_)⟩
    refine ⟨_, rfl, rd_attr (hb1.entries T) ⟨_, rfl, le, _, _, _, rfl, rfl, SqL.of (s1 _ _ he1), atI_nat (at_ref ha), rd_attr (mEnt _ _ _ _ hxa s1).1 ⟨by show 2 ≤ sizeLine; decide, fun t ht => ?_⟩⟩⟩
    have s2 := s1.to_upd (o := .tup [V.int 0, V.int 1]) ht
    refine ⟨t, _, rfl, .inr (SqT.of upd_same), rfl, rfl, _, rfl, ?_⟩
    rw [not01]
    refine iteD (fun z2 => k.no hb s2 (out_strike2 hx (.inr z2))) (fun z2 => ?_)
    refine ⟨_, rfl, _, rfl, ?_⟩
    intro y dx nx nd ne
    refine ⟨y, dx, _, rfl, rfl, upd_same, fun H2 e => ⟨rfl, ?_⟩⟩
    obtain ⟨s3, a1, a2, a3, a4⟩ := mkEnt T nx nd e
    exact ⟨b, le, lq, y, s, .struck n, rfl, hb.same (s2.trans s3), g, ⟨a1, a2, a3, a4⟩, (Ent.wr k (out_strike3 hx z z2)).pre (s2.trans s3)⟩
def spRight (A : Ad) (K : PySem.W.Frag) : Sp := fun vs H Q _ => ∃ (b le lq : Addr) (n c : Nat) (s : Sy50.St), vs = [.ref b, .int n, .int c] ∧ BrAt A K H b le lq s ∧ Good s ∧ WrK A K b le lq s (.right_ n c) H Q
abbrev s_right : Stmt := top 61
theorem sc_right : FnScope ["bridge", "number", "crack"] ["bridge", "number", "crack"] (defScope s_right) := ⟨rfl, rfl, rfl, by decide +kernel, rfl, by decide +kernel, by decide +kernel⟩
theorem ok_right {f : Addr} {fd : FuncData} (F : Fun K "right" "right" s_right f fd) (T : Txt K mg A) (c1 : Cal P w K mg base 1 "enter" ["bridge", "entry"] (spEnter A K)) (c2 : Cal P w K mg base 1 "is_struck" ["entries", "number"] (spIsStruck K))
    (c3 : CalC P w K mg base 1 A.cEntry ["self", "kind", "about", "day", "crack"] (spIni A.cEntry ["kind", "about", "day", "crack"])) : FnOk P w K mg base CX0 3 f fd ["bridge", "number", "crack"] (spRight A K) := by
  obtain ⟨fenter, fdenter, Genter, menter, kenter, benter⟩ := c1.ex
  obtain ⟨fis_struck, fdis_struck, Gis_struck, mis_struck, kis_struck, bis_struck⟩ := c2.ex
  obtain ⟨fI, fdI, GEntry, MEntry, bEntry⟩ := c3.ex
  refine F.ok sc_right (fun vs H Q E h => ?_) (fun cdv A' outer s H vs Q E hr h => ?_)
  · obtain ⟨b, le, lq, n, c, s, rfl, _⟩ := h
    rfl
  · obtain ⟨b, le, lq, n, c, s, rfl, hb, g, k⟩ := h
    refine ⟨_, (pss_cons (ps_if (pt_cmpR op_ge (pv 1) (pe_callB call_len_seq (by rfl) T.blen PySem.boot_len (pa_cons (pe_fld (pv 0) rfl) pa_nil)) (nomark _)) (pss_one (ps_ret (pe_lst (pa_cons (pe_glob (v := V.int (-2)) rfl T.gNOT_THERE.choose_spec ⟨_, rfl⟩) pa_nil)))) pss_nil) (pss_cons (ps_if (PW.pt (pw_or (pt_val (pe_call Gis_struck (hr.mono (by decide)) rfl mis_struck kis_struck bis_struck .nil pass0 (pa_cons (pe_fld (pv 0) rfl) (pa_cons (pv 1) pa_nil)))) (pw_or1 (pt_cmpR op_ne (pe_fld (pe_ix ix_list (pe_fld (pv 0) rfl) (pv 1) (fun _ _ => rfl)) rfl) (pe_glob (v := V.int (0)) rfl T.gFOUND.choose_spec ⟨_, rfl⟩) (nomark _))))) (pss_one (ps_ret (pe_lst (pa_cons (pe_glob (v := V.int (-4)) rfl T.gCANT_BE.choose_spec ⟨_, rfl⟩) pa_nil)))) pss_nil) (pss_cons (ps_if (pt_cmpR op_gt (pv 2) (pe_glob (v := V.int (1000)) rfl T.gMOST_CRACK.choose_spec ⟨_, rfl⟩) (nomark _)) (pss_one (ps_ret (pe_lst (pa_cons (pe_glob (v := V.int (-1)) rfl T.gNOT_LET.choose_spec ⟨_, rfl⟩) pa_nil)))) pss_nil) (pss_one (ps_ret (pe_call Genter (hr.mono (by decide)) rfl menter kenter benter .nil pass0 (pa_cons (pv 0) (pa_cons (pe_make MEntry GEntry (hr.mono (by decide)) rfl T.cEntry bEntry .nil pass0 (pa_cons (pe_glob (v := V.int (3)) rfl T.gRIGHTED.choose_spec ⟨_, rfl⟩) (pa_cons (pv 1) (pa_cons pe_int (pa_cons (pv 2) pa_nil))))) pa_nil)))))))), ?_⟩
    obtain ⟨es, he1, he2, he3⟩ := hb.ent.len
    refine ⟨_, rfl, _, rfl, rd_attr (hb.entries T) ⟨le, _, rfl, .inl (SqL.of he1), _, _, rfl, rfl, _, rfl, iteD (fun q => ?_) (fun q => ?_)⟩⟩
    · rw [he3] at q
      exact k.no hb (Same.refl _) (out_right1 (by omega))
    rw [he3] at q
    obtain ⟨x, hx⟩ : ∃ x, s.entries[n]? = some x := ⟨_, List.getElem?_eq_getElem (by omega)⟩
    obtain ⟨a, ha, hxa⟩ := paired_at' he2 hx
    have hk := kind_eq x
    refine ⟨_, rfl, rd_attr (hb.entries T) ⟨_, rfl, le, n, s.entries, rfl, hb.ent, g.e60, fun H1 s1 => ?_⟩⟩
    have hb1 := hb.same s1
    refine ⟨_, rfl, iteB (fun z => iteT (k.no hb s1 (out_right2 hx (.inl z)))) (fun z => ?_)⟩
    refine ⟨_, rfl, rd_attr (hb1.entries T) ⟨_, rfl, le, _, _, _, rfl, rfl, SqL.of (s1 _ _ he1), atI_nat (at_ref ha), rd_attr (mEnt _ _ _ _ hxa s1).1 ⟨rfl, _, rfl, iteEN (fun z2 => k.no hb s1 (out_right2 hx (.inr (by omega)))) (fun z2 => ?_)⟩⟩⟩
    have hk0 : kindOf x = 0 := by omega
    refine ⟨_, rfl, _, _, rfl, rfl, _, rfl, iteD (fun z3 => k.no hb s1 (out_right3 hx z hk0 (by omega))) (fun z3 => ?_)⟩
    refine ⟨_, rfl, _, rfl, _, rfl, ?_⟩
    intro y dx nx nd ne
    refine ⟨y, dx, _, rfl, rfl, upd_same, fun H2 e => ⟨rfl, ?_⟩⟩
    obtain ⟨s3, a1, a2, a3, a4⟩ := mkEnt T nx nd e
    exact ⟨b, le, lq, y, s, .right_ n c, rfl, hb.same (s1.trans s3), g, ⟨a1, a2, a3, a4⟩, (Ent.wr k (out_right4 hx z hk0 (by omega))).pre (s1.trans s3)⟩
end
end Br

end
section
set_option Elab.async false
set_option linter.all false
set_option maxRecDepth 100000
set_option maxHeartbeats 2000000
namespace Br
open PySem PySem.Spec PyProof.Rows L2
section
variable {P : Program} {w : World} {K : PySem.W.Frag} {mg : Str → Option Value} {base : Heap} {A : Ad}
/-- the instance at b is written: instances that say an attribute which b has not stay -/
theorem Objs.off {α : Type} {R : Hp → Addr → α → Prop} {H H' : Hp} {l b : Addr} {xs : List α} (L : Loc1 R) (h : Objs R H l xs) (hl : ∀ o, H l = some o → H' l = some o) (hn : ∀ a x, R H a x → a ≠ b) (kp : ∀ a o, H a = some o → a ≠ b → H' a = some o) : Objs R H' l xs := by
  obtain ⟨as, h0, p⟩ := h
  exact ⟨as, hl _ h0, paired_mono (fun a x r => L.loc _ _ a x r fun o e => kp a o e (hn a x r)) p⟩
theorem BrAt.at_ {b le lq : Addr} {s : Sy50.St} {H H' : Hp} {dx lp : Addr} {t : Nat} (hb : BrAt A K H b le lq s) (h0 : H b = some (.ins A.cBridge dx (brF lp le lq s.today))) (h' : H' b = some (.ins A.cBridge dx (brF lp le lq t))) (kp : ∀ a o, H a = some o → a ≠ b → H' a = some o) : BrAt A K H' b le lq { s with today := t } := by
  obtain ⟨⟨dx', lp', h1, h2, h3, h4⟩, h5, h6, h7⟩ := hb
  rw [h0] at h1
  have e : lp = lp' := by
    have := HO.ins.inj (Option.some.inj h1)
    have e2 := List.cons.inj this.2.2
    have e3 := (Prod.mk.inj e2.1).2
    exact V.ref.inj e3
  subst e
  have nl : ∀ {l : Addr} {xs : List V}, H l = some (.lst xs) → l ≠ b := fun h q => by rw [q, h0] at h; cases h
  refine ⟨⟨dx, lp, h', ?_, h3, h4⟩, ?_, ?_, h7⟩
  · obtain ⟨as, hl, _⟩ := id h2
    exact h2.off lPart (fun o e => kp _ _ e (nl hl)) (fun a x r => r.1.ne h0 rfl) kp
  · obtain ⟨as, hl, _⟩ := id h5
    exact h5.off lEnt (fun o e => kp _ _ e (nl hl)) (fun a x r => r.1.ne h0 rfl) kp
  · obtain ⟨as, hl, _⟩ := id h6
    exact h6.off lPost (fun o e => kp _ _ e (nl hl)) (fun a x r => r.2.1.ne h0 rfl) kp
def spDays (A : Ad) (K : PySem.W.Frag) : Sp := fun vs H Q _ => ∃ (b le lq : Addr) (n : Nat) (s : Sy50.St), vs = [.ref b, .int n] ∧ BrAt A K H b le lq s ∧ Good s ∧ WrK A K b le lq s (.day n) H Q
abbrev s_days_go_by : Stmt := top 57
theorem sc_days_go_by : FnScope ["bridge", "days"] ["bridge", "days"] (defScope s_days_go_by) := ⟨rfl, rfl, rfl, by decide +kernel, rfl, by decide +kernel, by decide +kernel⟩
theorem ok_days_go_by {f : Addr} {fd : FuncData} (F : Fun K "days_go_by" "days_go_by" s_days_go_by f fd) (T : Txt K mg A) : FnOk P w K mg base CX0 1 f fd ["bridge", "days"] (spDays A K) := by
  refine F.ok sc_days_go_by (fun vs H Q E h => ?_) (fun cdv A' outer s H vs Q E hr h => ?_)
  · obtain ⟨b, le, lq, n, s, rfl, _⟩ := h
    rfl
  · obtain ⟨b, le, lq, n, s, rfl, hb, g, k⟩ := h
    refine ⟨_, (pss_cons (ps_if (pt_not (pt_chain op_le op_le pe_int (pv 1) (pe_glob (v := V.int (10000)) rfl T.gMOST_DAYS.choose_spec ⟨_, rfl⟩))) (pss_one (ps_ret (pe_lst (pa_cons (pe_glob (v := V.int (-1)) rfl T.gNOT_LET.choose_spec ⟨_, rfl⟩) pa_nil)))) pss_nil) (pss_cons (ps_if (pt_cmpR op_gt (pe_op op_add (pe_fld (pv 0) rfl) (pv 1)) (pe_glob (v := V.int (100000)) rfl T.gLAST_DAY.choose_spec ⟨_, rfl⟩) (nomark _)) (pss_one (ps_ret (pe_lst (pa_cons (pe_glob (v := V.int (-5)) rfl T.gTOO_MANY.choose_spec ⟨_, rfl⟩) pa_nil)))) pss_nil) (pss_cons (ps_fld (pv 0) (pe_op op_add (pe_fld (pv 0) rfl) (pv 1)) rfl) (pss_one (ps_ret (pe_lst (pa_cons (pe_fld (pv 0) rfl) pa_nil))))))), ?_⟩
    refine ⟨_, rfl, _, _, rfl, rfl, _, rfl, iteD (fun q1 => ?_) (fun q1 => ⟨_, rfl, iteT (k.no hb (Same.refl _) (out_day1 (.inl (by omega))))⟩)⟩
    refine ⟨_, _, rfl, rfl, _, rfl, ?_⟩
    by_cases q2 : (n : Int) ≤ 10000
    case neg =>
      rw [decide_eq_false q2]
      exact iteT (k.no hb (Same.refl _) (out_day1 (.inr (by omega))))
    rw [decide_eq_true q2]
    refine iteF ?_
    have q3 : ¬ (n < 1 ∨ 10000 < n) := by omega
    refine ⟨_, rfl, rd_attr (hb.today T) ⟨_, rfl, _, _, rfl, rfl, _, _, rfl, rfl, _, rfl, iteD (fun q4 => k.no hb (Same.refl _) (out_day2 q3 (show 100000 < s.today + n by omega))) (fun q4 => ?_)⟩⟩
    have q5 : ¬ Sy50.LAST < s.today + n := by show ¬ 100000 < s.today + n; omega
    obtain ⟨e1, e2⟩ := out_day3 q3 q5
    obtain ⟨dx, lp, h0, _⟩ := hb.ex
    refine ⟨_, rfl, rd_attr (hb.today T) ⟨_, rfl, _, _, rfl, rfl, _, rfl, b, _, dx, _, rfl, h0, T.clBridge, T.nBridge _ (by decide), (by show 4 < 1000; decide), ?_⟩⟩
    have h1 : (upd H b (.ins A.cBridge dx (putF "today" (V.int ((s.today : Int) + (n : Int))) (brF lp le lq s.today)))) b = some (.ins A.cBridge dx (brF lp le lq (s.today + n))) := by
      rw [upd_same]; rfl
    have hb2 := hb.at_ h0 h1 (fun a o e ne => by rw [upd_ne ne]; exact e)
    rw [← e2] at hb2
    refine ⟨_, rfl, rd_attr (hb2.today T) ?_⟩
    refine k.fin hb2 (.inl rfl) (.inl rfl) ⟨fun a o e n1 _ _ => by rw [upd_ne n1]; exact e, upd_dom h0⟩ (by show 1 ≤ sizeLine; decide) ?_
    rw [e1, e2]
    rfl
theorem BrAt.posts {b le lq a : Addr} {s : Sy50.St} {H : Hp} {x : Sy50.Post} {es : List Addr} (hb : BrAt A K H b le lq s) (ha : PostAt K H a x) (hl : H lq = some (.lst (es.map V.ref))) (he : Paired (PostAt K H) es s.posts) : BrAt A K (upd H lq (.lst (es.map V.ref ++ [V.ref a]))) b le lq { s with posts := s.posts ++ [x] } := by
  obtain ⟨⟨dx, lp, h1, h2, h3, h4⟩, h5, h7, h8⟩ := hb
  refine ⟨⟨dx, lp, by rw [upd_ne (ne_ins h1 hl rfl)]; exact h1, h2.keep lPart hl rfl h4, h3, h4⟩, h5.keep lEnt hl rfl h8, ⟨es ++ [a], by rw [upd_same, List.map_append]; rfl, ?_⟩, h8⟩
  exact paired_snoc (paired_mono (fun a x r => lPost.insK r (InsK.upd hl rfl)) he) (lPost.insK ha (InsK.upd hl rfl))
def spPost (A : Ad) (K : PySem.W.Frag) : Sp := fun vs H Q _ => ∃ (b le lq : Addr) (s : Sy50.St), vs = [.ref b] ∧ BrAt A K H b le lq s ∧ Good s ∧ WrK A K b le lq s .post H Q
abbrev s_post : Stmt := top 64
theorem sc_post : FnScope ["bridge", "made", "much"] ["bridge"] (defScope s_post) := ⟨rfl, rfl, rfl, by decide +kernel, rfl, by decide +kernel, by decide +kernel⟩
theorem ok_post {f : Addr} {fd : FuncData} (F : Fun K "post" "post" s_post f fd) (T : Txt K mg A) (c1 : Cal P w K mg base 5 "limit_on" ["parts", "said", "day"] (spLimitOn K)) (c2 : Cal P w K mg base 4 "statements" ["entries", "n"] (spStatements K))
    (c3 : CalC P w K mg base 1 A.cPosting ["self", "day", "made", "much"] (spIni A.cPosting ["day", "made", "much"])) : FnOk P w K mg base CX0 6 f fd ["bridge"] (spPost A K) := by
  obtain ⟨flimit_on, fdlimit_on, Glimit_on, mlimit_on, klimit_on, blimit_on⟩ := c1.ex
  obtain ⟨fstatements, fdstatements, Gstatements, mstatements, kstatements, bstatements⟩ := c2.ex
  obtain ⟨fI, fdI, GPosting, MPosting, bPosting⟩ := c3.ex
  refine F.ok sc_post (fun vs H Q E h => ?_) (fun cdv A' outer s H vs Q E hr h => ?_)
  · obtain ⟨b, le, lq, s, rfl, _⟩ := h
    rfl
  · obtain ⟨b, le, lq, s, rfl, hb, g, k⟩ := h
    refine ⟨_, (pss_cons (ps_if (pt_cmpR op_ge (pe_callB call_len_seq (by rfl) T.blen PySem.boot_len (pa_cons (pe_fld (pv 0) rfl) pa_nil)) (pe_glob (v := V.int (60)) rfl T.gMOST_POSTINGS.choose_spec ⟨_, rfl⟩) (nomark _)) (pss_one (ps_ret (pe_lst (pa_cons (pe_glob (v := V.int (-5)) rfl T.gTOO_MANY.choose_spec ⟨_, rfl⟩) pa_nil)))) pss_nil) (pss_cons (ps_set (i := 1) sc_post.nd rfl (Or.inl rfl) (pe_callB call_len_seq (by rfl) T.blen PySem.boot_len (pa_cons (pe_fld (pv 0) rfl) pa_nil))) (pss_cons (ps_set (i := 2) sc_post.nd rfl (Or.inl rfl) (pe_call Glimit_on (hr.mono (by decide)) rfl mlimit_on klimit_on blimit_on .nil pass0 (pa_cons (pe_fld (pv 0) rfl) (pa_cons (pe_call Gstatements (hr.mono (by decide)) rfl mstatements kstatements bstatements .nil pass0 (pa_cons (pe_fld (pv 0) rfl) (pa_cons (pv 1) pa_nil))) (pa_cons (pe_fld (pv 0) rfl) pa_nil))))) (pss_cons (ps_expr (pe_bm PySem.F.plainAttrs_list PySem.F.slot_list_append PySem.F.type_list_append mt_append (pe_fld (pv 0) rfl) (pa_cons (pe_make MPosting GPosting (hr.mono (by decide)) rfl T.cPosting bPosting .nil pass0 (pa_cons (pe_fld (pv 0) rfl) (pa_cons (pv 1) (pa_cons (pv 2) pa_nil)))) pa_nil))) (pss_one (ps_ret (pe_lst (pa_cons (pv 2) pa_nil)))))))), ?_⟩
    obtain ⟨lp, hp1, hp2⟩ := hb.parts T
    obtain ⟨es, he1, he2, he3⟩ := hb.ent.len
    obtain ⟨qs, hq1, hq2, hq3⟩ := hb.pos.len
    have h61 := g.q60
    refine ⟨_, rfl, rd_attr (hb.postings T) ⟨lq, _, rfl, .inl (SqL.of hq1), _, _, rfl, rfl, _, rfl, iteD (fun q => ?_) (fun q => ?_)⟩⟩
    · rw [hq3] at q
      exact k.no hb (Same.refl _) (out_post1 (by omega))
    rw [hq3] at q
    obtain ⟨e1, e2⟩ := out_post2 (s := s) (by omega)
    refine ⟨_, rfl, rd_attr (hb.entries T) ⟨le, _, rfl, .inl (SqL.of he1), ?_⟩⟩
    rw [he3]
    refine ⟨_, rfl, rd_attr hp1 ⟨_, rfl, rd_attr (hb.entries T) ⟨_, rfl, le, s.entries.length, s.entries, rfl, hb.ent, Nat.le_refl _, g.vd, g.e60, fun H1 la s1 hla => ?_⟩⟩⟩
    have hb1 := hb.same s1
    refine ⟨_, rfl, rd_attr (hb1.today T) ⟨lp, la, s.today, s.entries.length, s, rfl, g, hp2.same mPart s1, hla, fun H2 s2 => ?_⟩⟩
    have s12 := s1.trans s2
    have hb2 := hb.same s12
    refine ⟨_, rfl, rd_attr (hb2.postings T) ⟨.inl ⟨rfl, _, SqL.of (s12 _ _ hq1)⟩, _, rfl, rd_attr (hb2.today T) ⟨_, rfl, _, rfl, ?_⟩⟩⟩
    intro x dx nx nd ne
    refine ⟨x, dx, _, rfl, rfl, upd_same, fun H3 e => ⟨rfl, ?_⟩⟩
    obtain ⟨s3, a1, a2, a3⟩ := mkPosting T nx nd e
    have s13 := s12.trans s3
    have hq4 := s13 _ _ hq1
    refine ⟨lq, _, _, rfl, rfl, hq4, by rw [hq3]; exact small1000 (by omega), ?_⟩
    have hb3 := (hb.same s13).posts (x := ⟨s.today, s.entries.length, Sy50.limit s s.today s.entries.length⟩) ⟨a1, a2, a3⟩ hq4 (paired_mono (fun a x r => mPost _ _ _ _ r s13) hq2)
    rw [← e2] at hb3
    refine ⟨_, rfl, ?_⟩
    refine k.fin hb3 (.inl rfl) (.inl rfl) ⟨fun a o e _ _ n3 => by rw [upd_ne n3]; exact s13 _ _ e, fun a e => s13.free (upd_dom hq4 a e)⟩ (by show 1 ≤ sizeLine; decide) ?_
    rw [e1]
    rfl
end
end Br

end
section
set_option Elab.async false
set_option linter.all false
set_option maxRecDepth 100000
set_option maxHeartbeats 2000000
namespace Br
open PySem PySem.Spec PyProof.Rows L2
theorem size3 {n : Nat} (h : n % 3 = 0) : Builtin.Range.rangeSize 0 (n : Int) 3 = ((n / 3 : Nat) : Int) := by
  unfold Builtin.Range.rangeSize
  rw [if_pos (by decide)]
  split <;> omega
theorem small3 : ∀ m : Nat, m < 13 → Builtin.Range.small 0 ((3 * m : Nat) : Int) 3 = true := by decide +kernel
theorem rg3 {n : Nat} (h : n % 3 = 0) (hb : n ≤ 36) : RgC 0 (n : Int) 3 (n / 3) := by
  refine ⟨by decide, by decide, ?_, size3 h⟩
  have e : n = 3 * (n / 3) := by omega
  rw [e]
  exact small3 (n / 3) (by omega)
section
variable {P : Program} {w : World} {K : PySem.W.Frag} {mg : Str → Option Value} {base : Heap} {A : Ad}
def spBegin (A : Ad) : Sp := fun vs H Q _ => ∃ (b lp dx : Addr) (fs : List (Str × V)) (o : HO), vs = [.ref b, .ref lp] ∧ H b = some (.ins A.cBridge dx fs) ∧ (fs = [] ∨ ∃ lp0 le0 lq0 t, fs = brF lp0 le0 lq0 t) ∧ H lp = some o ∧
  ∀ (H' : Hp) (le lq : Addr), H le = none → H lq = none → le ≠ lq → H' b = some (.ins A.cBridge dx (brF lp le lq 0)) → H' le = some (.lst []) → H' lq = some (.lst []) → (∀ a o, H a = some o → a ≠ b → H' a = some o) → (∀ a, H' a = none → H a = none) → Q .non H'
abbrev s_Bridge_begin : Stmt := inClass (top 9) 1
theorem sc_Bridge_begin : FnScope ["self", "parts"] ["self", "parts"] (defScope s_Bridge_begin) := ⟨rfl, rfl, rfl, by decide +kernel, rfl, by decide +kernel, by decide +kernel⟩
theorem ok_Bridge_begin {f : Addr} {fd : FuncData} (F : Fun K "begin" "Bridge.begin" s_Bridge_begin f fd) (T : Txt K mg A) : FnOk P w K mg base CX0 1 f fd ["self", "parts"] (spBegin A) := by
  refine F.ok sc_Bridge_begin (fun vs H Q E h => ?_) (fun cdv A' outer s H vs Q E hr h => ?_)
  · obtain ⟨b, lp, dx, fs, o, rfl, _⟩ := h
    rfl
  · obtain ⟨b, lp, dx, fs, o, rfl, hb, hf, hlp, k⟩ := h
    refine ⟨_, (pss_cons (ps_fld (pv 0) (pv 1) rfl) (pss_cons (ps_fld (pv 0) pe_int rfl) (pss_cons (ps_fld (pv 0) (pe_lst pa_nil) rfl) (pss_one (ps_fld (pv 0) (pe_lst pa_nil) rfl))))), ?_⟩
    have hl : fs.length ≤ 4 := by
      rcases hf with rfl | ⟨_, _, _, _, rfl⟩
      · exact Nat.zero_le _
      · exact Nat.le_refl _
    have l1 := length_putF "parts" (.ref lp) fs
    have l2 := length_putF "today" (.int 0) (putF "parts" (.ref lp) fs)
    refine ⟨_, rfl, _, rfl, b, _, dx, _, rfl, hb, T.clBridge, T.nBridge _ (by decide), by omega, ?_⟩
    refine ⟨_, rfl, b, _, dx, _, rfl, upd_same, T.clBridge, T.nBridge _ (by decide), by omega, ?_⟩
    refine ⟨by show 0 ≤ sizeLine; decide, fun le hle => ?_⟩
    have n1 : le ≠ b := fun q => by rw [q, upd_same] at hle; cases hle
    have f1 : H le = none := by rw [upd_ne n1, upd_ne n1] at hle; exact hle
    have l3 := length_putF "entries" (.ref le) (putF "today" (.int 0) (putF "parts" (.ref lp) fs))
    refine ⟨_, rfl, b, _, dx, _, rfl, by rw [upd_ne (Ne.symm n1)]; exact upd_same, T.clBridge, T.nBridge _ (by decide), by omega, ?_⟩
    refine ⟨by show 0 ≤ sizeLine; decide, fun lq hlq => ?_⟩
    have n2 : lq ≠ b := fun q => by rw [q, upd_same] at hlq; cases hlq
    have n3 : le ≠ lq := fun q => by rw [← q, upd_ne n1, upd_same] at hlq; cases hlq
    have f2 : H lq = none := by rw [upd_ne n2, upd_ne (Ne.symm n3), upd_ne n2, upd_ne n2] at hlq; exact hlq
    refine ⟨_, rfl, b, _, dx, _, rfl, by rw [upd_ne (Ne.symm n2)]; exact upd_same, T.clBridge, T.nBridge _ (by decide), by omega, ?_⟩
    refine k _ le lq f1 f2 n3 ?_ ?_ ?_ ?_ ?_
    · rw [upd_same]
      rcases hf with rfl | ⟨_, _, _, _, rfl⟩ <;> rfl
    · rw [upd_ne n1, upd_ne n3, upd_ne n1, upd_same]
    · rw [upd_ne n2, upd_same]
    · intro a u e ne
      rw [upd_ne ne, upd_ne (ne_of_none e f2), upd_ne ne, upd_ne (ne_of_none e f1), upd_ne ne, upd_ne ne]
      exact e
    · intro a e
      by_cases q1 : a = b
      · rw [q1, upd_same] at e; cases e
      · by_cases q2 : a = lq
        · rw [q2]; exact f2
        · by_cases q3 : a = le
          · rw [q3]; exact f1
          · rw [upd_ne q1, upd_ne q2, upd_ne q1, upd_ne q3, upd_ne q1, upd_ne q1] at e
            exact e
def spBInit (A : Ad) (K : PySem.W.Frag) : Sp := fun vs H Q _ => ∃ (p dx : Addr), vs = [.ref p] ∧ H p = some (.ins A.cBridge dx []) ∧ ∀ (H' : Hp) (le lq : Addr), BrAt A K H' p le lq Sy50.init → H le = none → H lq = none → (∀ a o, H a = some o → a ≠ p → H' a = some o) → Q .non H'
abbrev s_Bridge_init : Stmt := inClass (top 9) 0
theorem sc_Bridge_init : FnScope ["self"] ["self"] (defScope s_Bridge_init) := ⟨rfl, rfl, rfl, by decide +kernel, rfl, by decide +kernel, by decide +kernel⟩
theorem ok_Bridge_init {f fb : Addr} {fd fdb : FuncData} (F : Fun K "__init__" "Bridge.__init__" s_Bridge_init f fd) (T : Txt K mg A) (Gbegin : FnOk P w K mg base CX0 1 fb fdb ["self", "parts"] (spBegin A)) (meBegin : Meth K A.cBridge "begin" fb) (bbegin : Binds K fdb ["self", "parts"] [])
    (c3 : CalC P w K mg base 1 A.cPart ["self", "sound", "cost", "growth"] (spIni A.cPart ["sound", "cost", "growth"])) : FnOk P w K mg base CX0 3 f fd ["self"] (spBInit A K) := by
  obtain ⟨fI, fdI, GPart, MPart, bPart⟩ := c3.ex
  refine F.ok sc_Bridge_init (fun vs H Q E h => ?_) (fun cdv A' outer s H vs Q E hr h => ?_)
  · obtain ⟨p, dx, rfl, _⟩ := h
    rfl
  · obtain ⟨p, dx, rfl, hp, k⟩ := h
    refine ⟨_, (pss_one (ps_expr (pe_meth (pv 0) T.clBridge meBegin Gbegin (hr.mono (by decide)) bbegin .nil pass0 (pa_cons (pe_lst (pa_cons (pe_make MPart GPart (hr.mono (by decide)) rfl T.cPart bPart .nil pass0 (pa_cons pe_int (pa_cons pe_int (pa_cons pe_int pa_nil)))) pa_nil)) pa_nil)))), ?_⟩
    refine ⟨_, rfl, p, dx, _, rfl, hp, rfl, ?_⟩
    intro x dx' nx nd ne
    refine ⟨x, dx', _, rfl, rfl, upd_same, fun H2 e => ⟨rfl, by show 1 ≤ sizeLine; decide, fun l hl => ?_⟩⟩
    obtain ⟨s1, a1, a2, a3⟩ := mkPart T nx nd e
    have s2 := s1.to_upd (o := .lst [V.ref x]) hl
    refine ⟨p, l, dx, [], _, rfl, s2 _ _ hp, .inl rfl, upd_same, fun H' le lq f1 f2 n3 h1 h2 h3 kp dm => ?_⟩
    have hx : H2 x ≠ none := by obtain ⟨C, d, fs, hi⟩ := a1.ins; rw [hi]; exact fun q => by cases q
    have nxp : x ≠ p := fun q => by rw [q, hp] at nx; cases nx
    have nlp : l ≠ p := fun q => by rw [q, s1 _ _ hp] at hl; cases hl
    refine k H' le lq ⟨⟨dx, l, h1, ⟨[x], kp _ _ upd_same nlp, .cons ?_ .nil⟩, ?_, ?_⟩, ⟨[], h2, .nil⟩, ⟨[], h3, .nil⟩, n3⟩ (s2.free f1) (s2.free f2) fun a o e ne => kp _ _ (s2 _ _ e) ne
    · have hx2 : PartAt K H2 x ⟨1, 0, 0⟩ := ⟨a1, a2, a3⟩
      exact lPart.loc _ _ _ _ (mPart _ _ _ _ hx2 (Same.upd_new hl)) fun o ho => kp _ _ ho nxp
    · intro q; rw [← q, upd_same] at f1; cases f1
    · intro q; rw [← q, upd_same] at f2; cases f2
def spIsLet (K : PySem.W.Frag) : Sp := fun vs H Q _ => ∃ (a : Addr) (p : Sy50.Part), vs = [.ref a] ∧ PartAt K H a p ∧ Q (.bl (letP p)) H
abbrev s_is_let : Stmt := top 56
theorem sc_is_let : FnScope ["part"] ["part"] (defScope s_is_let) := ⟨rfl, rfl, rfl, by decide +kernel, rfl, by decide +kernel, by decide +kernel⟩
theorem ok_is_let {f : Addr} {fd : FuncData} (F : Fun K "is_let" "is_let" s_is_let f fd) (T : Txt K mg A) : FnOk P w K mg base CX0 1 f fd ["part"] (spIsLet K) := by
  refine F.ok sc_is_let (fun vs H Q E h => ?_) (fun cdv A' outer s H vs Q E hr h => ?_)
  · obtain ⟨a, p, rfl, _⟩ := h
    rfl
  · obtain ⟨a, p, rfl, ⟨h1, h2, h3⟩, k⟩ := h
    refine ⟨_, (pss_one (ps_ret (pe_and (pe_chain op_le op_le pe_int (pe_fld (pv 0) rfl) (pe_glob (v := V.int (1000)) rfl T.gMOST_SOUND.choose_spec ⟨_, rfl⟩)) (pe_and (pe_cmpR op_le (pe_fld (pv 0) rfl) (pe_glob (v := V.int (100)) rfl T.gMOST_COST.choose_spec ⟨_, rfl⟩) (nomark _)) (pe_one (pe_cmpR op_le (pe_fld (pv 0) rfl) (pe_glob (v := V.int (100)) rfl T.gMOST_GROWTH.choose_spec ⟨_, rfl⟩) (nomark _))))))), ?_⟩
    have no : letP p = false → Q (.bl false) H := fun q => by rw [q] at k; exact k
    refine ⟨_, rfl, rd_attr h1 ⟨_, _, rfl, rfl, _, rfl, iteD (fun q1 => ?_) (fun q1 => ⟨_, rfl, iteF (no ?_)⟩)⟩⟩
    · refine ⟨_, _, rfl, rfl, _, rfl, iteD (fun q2 => ?_) (fun q2 => no ?_)⟩
      · refine ⟨_, rfl, rd_attr h2 ⟨_, _, rfl, rfl, _, rfl, iteD (fun q3 => ?_) (fun q3 => no ?_)⟩⟩
        · refine ⟨_, rfl, rd_attr h3 ⟨_, _, rfl, rfl, ?_⟩⟩
          have e : letP p = decide ((p.grows : Int) ≤ 100) := by
            unfold letP
            rw [decide_eq_true (show 1 ≤ p.bears by omega), decide_eq_true (show p.bears ≤ 1000 by omega), decide_eq_true (show p.costs ≤ 100 by omega)]
            simp only [Bool.true_and]
            by_cases z : p.grows ≤ 100
            · rw [decide_eq_true z, decide_eq_true (by omega)]
            · rw [decide_eq_false z, decide_eq_false (by omega)]
          rw [e] at k
          exact k
        · unfold letP; simp; omega
      · unfold letP; simp; omega
    · unfold letP; simp; omega
end
end Br

end
section
set_option Elab.async false
set_option linter.all false
set_option maxRecDepth 100000
set_option maxHeartbeats 2000000
namespace Br
open PySem PySem.Spec PyProof.Rows L2
theorem triples_get {l : List Nat} {i : Nat} (h : i < l.length / 3) : ∃ a b c, l[3 * i]? = some a ∧ l[3 * i + 1]? = some b ∧ l[3 * i + 2]? = some c ∧ (Sy50.triples l)[i]? = some ⟨a, b, c⟩ := by
  have h1 : l[3 * i]? = some (l[3 * i]'(by omega)) := List.getElem?_eq_getElem (by omega)
  have h2 : l[3 * i + 1]? = some (l[3 * i + 1]'(by omega)) := List.getElem?_eq_getElem (by omega)
  have h3 : l[3 * i + 2]? = some (l[3 * i + 2]'(by omega)) := List.getElem?_eq_getElem (by omega)
  exact ⟨_, _, _, h1, h2, h3, triples_at l i _ _ _ h1 h2 h3⟩
theorem at_nat {l : List Nat} {i a : Nat} (h : l[i]? = some a) : ((Sy50.ints l).map V.int)[i]? = some (V.int (a : Int)) := by
  unfold Sy50.ints
  rw [List.getElem?_map, List.getElem?_map, h]
  rfl
section
variable {P : Program} {w : World} {K : PySem.W.Frag} {mg : Str → Option Value} {base : Heap} {A : Ad}
def spBegins (A : Ad) (K : PySem.W.Frag) : Sp := fun vs H Q _ => ∃ (b le lq ln : Addr) (l : List Nat) (s : Sy50.St), vs = [.ref b, .ref ln] ∧ H ln = some (.lst ((Sy50.ints l).map V.int)) ∧ BrAt A K H b le lq s ∧ WrK A K b le lq s (.begins l) H Q
abbrev s_begins : Stmt := top 55
theorem sc_begins : FnScope ["bridge", "numbers", "parts", "k", "part"] ["bridge", "numbers"] (defScope s_begins) := ⟨rfl, rfl, rfl, by decide +kernel, rfl, by decide +kernel, by decide +kernel⟩
theorem ok_begins {f fb : Addr} {fd fdb : FuncData} (F : Fun K "begins" "begins" s_begins f fd) (T : Txt K mg A) (Gbegin : FnOk P w K mg base CX0 1 fb fdb ["self", "parts"] (spBegin A)) (meBegin : Meth K A.cBridge "begin" fb) (bbegin : Binds K fdb ["self", "parts"] [])
    (c1 : Cal P w K mg base 1 "is_let" ["part"] (spIsLet K)) (c3 : CalC P w K mg base 1 A.cPart ["self", "sound", "cost", "growth"] (spIni A.cPart ["sound", "cost", "growth"])) : FnOk P w K mg base CX0 3 f fd ["bridge", "numbers"] (spBegins A K) := by
  obtain ⟨fis_let, fdis_let, Gis_let, mis_let, kis_let, bis_let⟩ := c1.ex
  obtain ⟨fI, fdI, GPart, MPart, bPart⟩ := c3.ex
  refine F.ok sc_begins (fun vs H Q E h => ?_) (fun cdv A' outer s H vs Q E hr h => ?_)
  · obtain ⟨b, le, lq, ln, l, s, rfl, _⟩ := h
    rfl
  · obtain ⟨b, le, lq, ln, l, s, rfl, hn, hb, k⟩ := h
    refine ⟨_, (pss_cons (ps_if (PW.pt (pw_or (pt_cmpR op_ne (pe_op op_mod (pe_callB call_len_seq (by rfl) T.blen PySem.boot_len (pa_cons (pv 1) pa_nil)) pe_int) pe_int (nomark _)) (pw_or1 (pt_not (pt_chain op_le op_le pe_int (pe_op op_fdiv (pe_callB call_len_seq (by rfl) T.blen PySem.boot_len (pa_cons (pv 1) pa_nil)) pe_int) (pe_glob (v := V.int (12)) rfl T.gMOST_PARTS.choose_spec ⟨_, rfl⟩)))))) (pss_one (ps_ret (pe_lst (pa_cons (pe_glob (v := V.int (-1)) rfl T.gNOT_LET.choose_spec ⟨_, rfl⟩) pa_nil)))) pss_nil) (pss_cons (ps_setLc (i := 2) rfl sc_begins.nd rfl rfl (sw_true rfl rfl rfl (by decide)) (g := (gName 3)) (tt := tYes) (te := (tMake A.cPart (spIni A.cPart ["sound", "cost", "growth"]) [] E0 (tCons (tOp (rIxL K) (tVar 1) (tVar 3)) (tCons (tOp (rIxL K) (tVar 1) (tOp (rI0 fun i j => V.int (i + j)) (tVar 3) (tC (V.int (1))))) (tCons (tOp (rIxL K) (tVar 1) (tOp (rI0 fun i j => V.int (i + j)) (tVar 3) (tC (V.int (2))))) tNil))))) (pi_range3 rfl T.brange (pa_cons pe_int (pa_cons (pe_callB call_len_seq (by rfl) T.blen PySem.boot_len (pa_cons (pv 1) pa_nil)) (pa_cons pe_int pa_nil)))) (blkOk_by (own := [("k", 3)]) (show blkC ["bridge", "numbers", "parts", "k", "part"] (defScope s_begins) _ _ = true by decide +kernel)) (fun _ _ _ _ _ => (pg_name (i := 3) sc_begins.nd rfl (Or.inl rfl))) (fun _ _ _ _ _ => pts_nil) (fun _ _ _ _ _ => (pe_make MPart GPart (hr.mono (by decide)) rfl T.cPart bPart .nil pass0 (pa_cons (pe_ix ix_list (pv 1) (pv 3) (fun _ _ => rfl)) (pa_cons (pe_ix ix_list (pv 1) (pe_op op_add (pv 3) pe_int) (fun _ _ => rfl)) (pa_cons (pe_ix ix_list (pv 1) (pe_op op_add (pv 3) pe_int) (fun _ _ => rfl)) pa_nil)))))) (pss_cons (ps_if (pt_not (pt_val (pe_callB (cr_all rfl) (by rfl) T.ball (by decide +kernel) (pa_cons (pe_lc rfl sc_begins.nd (g := (gName 4)) (tt := tYes) (te := (tCall (spIsLet K) [] E0 (tCons (tVar 4) tNil))) (pi_list (pv 2)) (blkOk_by (own := [("part", 4)]) (show blkC ["bridge", "numbers", "parts", "k", "part"] (defScope s_begins) _ _ = true by decide +kernel)) (fun _ _ _ _ _ => (pg_name (i := 4) sc_begins.nd rfl (Or.inl rfl))) (fun _ _ _ _ _ => pts_nil) (fun _ _ _ _ _ => (pe_call Gis_let (hr.mono (by decide)) rfl mis_let kis_let bis_let .nil pass0 (pa_cons (pv 4) pa_nil)))) pa_nil)))) (pss_one (ps_ret (pe_lst (pa_cons (pe_glob (v := V.int (-1)) rfl T.gNOT_LET.choose_spec ⟨_, rfl⟩) pa_nil)))) pss_nil) (pss_cons (ps_expr (pe_meth (pv 0) T.clBridge meBegin Gbegin (hr.mono (by decide)) bbegin .nil pass0 (pa_cons (pv 2) pa_nil))) (pss_one (ps_ret (pe_lst (pa_cons (pe_callB call_len_seq (by rfl) T.blen PySem.boot_len (pa_cons (pv 2) pa_nil)) pa_nil)))))))), ?_⟩
    have bad : l.length % 3 ≠ 0 ∨ l.length < 3 ∨ 36 < l.length → (([V.int (-1)] : List V).length ≤ sizeLine ∧ ∀ q, H q = none → Q (.ref q) (upd H q (.lst [V.int (-1)]))) := fun z =>
      k.no hb (Same.refl _) (out_begins1 (by rcases z with z | z | z; exact .inl z; exact .inr (.inl z); exact .inr (.inr (.inl z))))
    refine ⟨_, rfl, ln, _, rfl, .inl (SqL.of hn), _, _, rfl, rfl, (by show (0 : Int) < 3; decide), rfl, _, rfl, iteEN (fun q => iteT (bad (.inl ?_))) (fun q => ?_)⟩
    · rw [int_len] at q; omega
    rw [int_len] at q
    have q0 : l.length % 3 = 0 := by omega
    refine ⟨_, rfl, ln, _, rfl, .inl (SqL.of hn), _, _, rfl, rfl, ⟨by decide, by decide⟩, _, _, rfl, rfl, _, rfl, iteD (fun q1 => ?_) (fun q1 => ⟨_, rfl, iteT (bad (.inr (.inl ?_)))⟩)⟩
    case refine_2 => rw [int_len] at q1; omega
    rw [int_len] at q1
    refine ⟨_, _, rfl, rfl, _, rfl, ?_⟩
    rw [int_len]
    by_cases q2 : (l.length : Int) / 3 ≤ 12
    case neg =>
      rw [decide_eq_false q2]
      exact iteT (bad (.inr (.inr (by omega))))
    rw [decide_eq_true q2]
    refine iteF ?_
    have q3 : ¬ (l.length % 3 ≠ 0 ∨ l.length < 3 ∨ 36 < l.length) := by omega
    refine ⟨_, rfl, ln, _, rfl, .inl (SqL.of hn), _, _, _, _, rfl, by rw [int_len]; exact rg3 q0 (by omega), fun D hD => ?_⟩
    have htl := triples_len l
    refine lc_it (n := l.length / 3) (fun i H' => ∃ acc : List Addr, Same H H' ∧ H' D = some (.lst (acc.map V.ref)) ∧ Paired (PartAt K H') acc ((Sy50.triples l).take i)) ⟨[], Same.upd_new hD, upd_same, .nil⟩ (fun i H' hi _ => hi) (fun H' _ => Nat.le_refl _) ?_ ?_
    · rintro i y H2 H3 hi ⟨acc, sa, hd, pa⟩ ⟨rfl, rfl⟩
      obtain ⟨x1, x2, x3, g1, g2, g3, g4⟩ := triples_get hi
      have hn2 := sa _ _ hn
      have hal : acc.length < sizeLine := by
        have e1 := paired_len pa
        rw [List.length_take] at e1
        exact small1000 (by omega)
      refine ⟨rfl, tyes ?_⟩
      refine ⟨_, rfl, _, rfl, ln, _, _, _, rfl, rfl, SqL.of hn2, at_of (j := 3 * i) (by omega) (at_nat g1), _, rfl, _, rfl, _, _, rfl, rfl, ln, _, _, _, rfl, rfl, SqL.of hn2, at_of (j := 3 * i + 1) (by omega) (at_nat g2), _, rfl, _, rfl, _, _, rfl, rfl, ln, _, _, _, rfl, rfl, SqL.of hn2, at_of (j := 3 * i + 2) (by omega) (at_nat g3), ?_⟩
      intro x dx nx nd ne
      refine ⟨x, dx, _, rfl, rfl, upd_same, fun H4 e => ⟨rfl, ?_⟩⟩
      obtain ⟨s4, a1, a2, a3⟩ := mkPart T nx nd e
      have hd4 := s4 _ _ hd
      have hx4 : PartAt K H4 x ⟨x1, x2, x3⟩ := ⟨a1, a2, a3⟩
      refine ⟨_, hd4, by rw [List.length_map]; exact hal, acc ++ [x], same_own (sa.trans s4) hD, by rw [upd_same, List.map_append]; rfl, ?_⟩
      rw [take_snoc (l := Sy50.triples l) g4]
      exact paired_snoc (paired_mono (fun c z r => lPart.insK (mPart _ _ _ _ r s4) (InsK.upd hd4 rfl)) pa) (lPart.insK hx4 (InsK.upd hd4 rfl))
    rintro H1 ⟨acc, s1, hd1, pa⟩
    rw [← htl, List.take_length] at pa
    have hal := paired_len pa
    -- if not all([is_let(part) for part in parts])
    refine ⟨_, rfl, D, rfl, ⟨_, SqL.of hd1⟩, fun E' hE => ?_⟩
    refine lc_list (K := K) (a := D) (xs := acc.map V.ref) (fun i H' => Same H1 H' ∧ H' E' = some (.lst ((((Sy50.triples l).take i).map letP).map V.bl))) ⟨Same.upd_new hE, upd_same⟩ (fun i H' _ ⟨sa, _⟩ => SqL.of (sa _ _ hd1)) ?_ ?_
    · rintro i y H2 hi ⟨sa, hd⟩
      obtain ⟨a, ha, rfl⟩ := ref_at hi
      obtain ⟨p, hp, hpa⟩ := paired_at pa ha
      refine ⟨rfl, tyes ?_⟩
      refine ⟨_, rfl, a, p, rfl, mPart _ _ _ _ hpa sa, _, hd, ?_, same_own sa hE, ?_⟩
      · rw [List.length_map, List.length_map, List.length_take]
        exact small1000 (by omega)
      · rw [upd_same, take_snoc hp, List.map_append, List.map_append]
        rfl
    rintro H2 ⟨s2, hd2⟩
    rw [List.length_map, hal, List.take_length] at hd2
    have s12 := s1.trans s2
    refine ⟨E', _, rfl, SqL.of hd2, _, rfl, ?_⟩
    cases hq : ((Sy50.triples l).map letP).all id with
    | false =>
      refine iteT ?_
      exact k.no hb s12 (out_begins1 (.inr (.inr (.inr hq))))
    | true =>
      refine iteF ?_
      obtain ⟨e1, e2⟩ := out_begins2 (s := s) q3 hq
      obtain ⟨dx, lp, h0, _⟩ := hb.ex
      have hD2 := s2 _ _ hd1
      refine ⟨_, rfl, b, dx, _, rfl, s12 _ _ h0, rfl, _, rfl, b, D, dx, _, _, rfl, s12 _ _ h0, .inr ⟨_, _, _, _, rfl⟩, hD2, fun H3 le' lq' f1 f2 n3 h1 h2 h3 kp dm => ?_⟩
      have nDb : D ≠ b := fun q => by rw [q, s12 _ _ h0] at hD2; cases hD2
      have hD3 := kp _ _ hD2 nDb
      have hb3 : BrAt A K H3 b le' lq' (Sy50.step s (.begins l)).1 := by
        rw [e2]
        refine ⟨⟨dx, D, h1, ⟨acc, hD3, ?_⟩, fun q => (by rw [← q] at f1; rw [f1] at hD2; cases hD2), fun q => (by rw [← q] at f2; rw [f2] at hD2; cases hD2)⟩, ⟨[], h2, .nil⟩, ⟨[], h3, .nil⟩, n3⟩
        exact paired_mono (fun a x r => lPart.loc _ _ _ _ (mPart _ _ _ _ r s2) fun o ho => kp _ _ ho ((mPart _ _ _ _ r s2).1.ne (s12 _ _ h0) rfl)) pa
      refine ⟨_, rfl, D, _, rfl, .inl (SqL.of hD3), ?_⟩
      refine k.fin hb3 (.inr (s12.free f1)) (.inr (s12.free f2)) ⟨fun a o e n1 _ _ => kp _ _ (s12 _ _ e) n1, fun a e => s12.free (dm a e)⟩ (by show 1 ≤ sizeLine; decide) ?_
      rw [e1, List.length_map, hal]
      rfl
end
end Br

end
section
set_option Elab.async false
set_option linter.all false
set_option maxRecDepth 100000
set_option maxHeartbeats 2000000
namespace Br
open PySem PySem.Spec PyProof.Rows L2
theorem cut_of {xs : List V} {i j : Int} {x y : Nat} (hi : i = (x : Int)) (hj : j = (y : Int)) (hxy : x ≤ y) (hy : y ≤ xs.length) : cutV xs (some i) (some j) = (xs.drop x).take (y - x) := by
  unfold cutV
  rw [hi, hj, HT.sIx_nat, HT.sIx_nat, Nat.min_eq_left hy, Nat.min_eq_left (by omega)]
theorem flat_one (p : Int) (xs : List Int) : flat [p :: xs] = (p, xs) := by cases xs <;> rfl
theorem han_at {j : Nat} (h : j < 15) : atI (handedT.map V.int) (j : Int) = some (V.int (hn j : Nat)) := by
  refine atI_nat ?_
  match j, h with
  | 0, _ => rfl
  | 1, _ => rfl
  | 2, _ => rfl
  | 3, _ => rfl
  | 4, _ => rfl
  | 5, _ => rfl
  | 6, _ => rfl
  | 7, _ => rfl
  | 8, _ => rfl
  | 9, _ => rfl
  | 10, _ => rfl
  | 11, _ => rfl
  | 12, _ => rfl
  | 13, _ => rfl
  | 14, _ => rfl
/-- one call in the list: its number and the list of what is handed to it, both made behind H0 -/
def ItAt (H0 : Hp) (ls : Addr) (H : Hp) (t : Addr) (x : Int × List Int) : Prop := ∃ r, H0 t = none ∧ H0 r = none ∧ r ≠ ls ∧ H t = some (.tup [.int x.1, .ref r]) ∧ H r = some (.lst (x.2.map V.int))
theorem ItAt.keep {H0 H H1 : Hp} {ls t : Addr} {x : Int × List Int} {o : HO} {xs : List V} (h : ItAt H0 ls H t x) (s : Same H H1) (hl : H1 ls = some (.lst xs)) : ItAt H0 ls (upd H1 ls o) t x := by
  obtain ⟨r, h1, h2, h3, h4, h5⟩ := h
  have h4' := s _ _ h4
  refine ⟨r, h1, h2, h3, ?_, ?_⟩
  · rw [upd_ne (fun q => by rw [q, hl] at h4'; cases h4')]; exact h4'
  · rw [upd_ne h3]; exact s _ _ h5
def SingleAt (H0 H : Hp) (ls : Addr) (items : List (Int × List Int)) : Prop := ∃ ts : List Addr, H ls = some (.lst (ts.map V.ref)) ∧ Paired (ItAt H0 ls H) ts items
section
variable {P : Program} {w : World} {K : PySem.W.Frag} {mg : Str → Option Value} {base : Heap} {A : Ad}
/-- the body's last two statements: what is appended, and where the list goes on -/
theorem single_tail {H H1 : Hp} {a ls : Addr} {ns : List Int} {c : List (List Int)} {ts : List Addr} {items : List (Int × List Int)} {LO CV : Int} {X CNT : Nat} (hS1 : SqL K H1 a (ns.map V.int)) (sa : Same H H1) (hls : H ls = none) (hl1 : H1 ls = some (.lst (ts.map V.ref))) (hts : Paired (ItAt H ls H1) ts items)
    (hlo : LO = (X : Int)) (hcv : CV = (CNT : Int)) (hx : X + CNT ≤ ns.length) (hflat : (ns.drop X).take CNT = (flat c).2) {rr tt : Addr} (hrr : H1 rr = none) (htt : (upd H1 rr (.lst (cutV (ns.map V.int) (some LO) (some (LO + CV))))) tt = none) {p : Int} (hp : p = (flat c).1) :
    Same H (upd (upd (upd H1 rr (.lst (cutV (ns.map V.int) (some LO) (some (LO + CV))))) tt (.tup [V.int p, V.ref rr])) ls (.lst (ts.map V.ref ++ [V.ref tt]))) ∧ (upd (upd H1 rr (.lst (cutV (ns.map V.int) (some LO) (some (LO + CV))))) tt (.tup [V.int p, V.ref rr])) ls = some (.lst (ts.map V.ref)) ∧
    SingleAt H (upd (upd (upd H1 rr (.lst (cutV (ns.map V.int) (some LO) (some (LO + CV))))) tt (.tup [V.int p, V.ref rr])) ls (.lst (ts.map V.ref ++ [V.ref tt]))) ls (items ++ [flat c]) := by
  have hcut : cutV (ns.map V.int) (some LO) (some (LO + CV)) = (flat c).2.map V.int := by
    rw [cut_of (x := X) (y := X + CNT) hlo (by omega) (by omega) (by rw [List.length_map]; omega), Nat.add_sub_cancel_left, ← hflat, List.map_take, List.map_drop]
  rw [hcut] at htt ⊢
  have s2 : Same H1 (upd H1 rr (.lst ((flat c).2.map V.int))) := Same.upd_new hrr
  have s3 := s2.to_upd (o := .tup [V.int p, V.ref rr]) htt
  have hl3 := s3 _ _ hl1
  have nrl : rr ≠ ls := fun q => by rw [q] at hrr; rw [hrr] at hl1; cases hl1
  have ntl : tt ≠ ls := fun q => by rw [q] at htt; rw [s2 _ _ hl1] at htt; cases htt
  have nrt : rr ≠ tt := fun q => by rw [← q, upd_same] at htt; cases htt
  refine ⟨same_own (sa.trans s3) hls, hl3, ts ++ [tt], by rw [upd_same, List.map_append]; rfl, ?_⟩
  refine paired_snoc (paired_mono (fun b z hz => hz.keep s3 hl3) hts) ⟨rr, (sa.trans s2).free htt, sa.free hrr, nrl, ?_, ?_⟩
  · rw [upd_ne ntl, upd_same, hp]
  · rw [upd_ne nrl, upd_ne nrt, upd_same]
def spSingle (K : PySem.W.Frag) : Sp := fun vs H Q _ => ∃ (a : Addr) (ns : List Int) (raw : List (List (List Int))), vs = [.ref a] ∧ SqL K H a (ns.map V.int) ∧ ns.length ≤ 5100 ∧ PyFlat.calls PySy50.shape ns.length ns = some raw ∧ ∀ (H' : Hp) (p : Addr), Same H H' → H p = none → SingleAt H H' p (raw.map flat) → Q (.ref p) H'
abbrev s_single_calls : Stmt := top 70
theorem sc_single_calls : FnScope ["calls", "single", "at", "call", "count"] ["calls"] (defScope s_single_calls) := ⟨rfl, rfl, rfl, by decide +kernel, rfl, by decide +kernel, by decide +kernel⟩
theorem ok_single_calls {f : Addr} {fd : FuncData} (F : Fun K "single_calls" "single_calls" s_single_calls f fd) (T : Txt K mg A) : FnOk P w K mg base CX0 1 f fd ["calls"] (spSingle K) := by
  refine F.ok sc_single_calls (fun vs H Q E h => ?_) (fun cdv A' outer s H vs Q E hr h => ?_)
  · obtain ⟨a, ns, raw, rfl, _⟩ := h
    rfl
  · obtain ⟨a, ns, raw, rfl, hS, hlen, hraw0, k⟩ := h
    refine ⟨_, (pss_cons (ps_set (i := 1) sc_single_calls.nd rfl (Or.inl rfl) (pe_lst pa_nil)) (pss_cons (ps_set (i := 2) sc_single_calls.nd rfl (Or.inl rfl) pe_int) (pss_cons (ps_while PassesOwn.never (pt_cmpR op_lt (pv 2) (pe_callB call_len_seq (by rfl) T.blen PySem.boot_len (pa_cons (pv 0) pa_nil)) (nomark _)) (pss_cons (ps_set (i := 3) sc_single_calls.nd rfl (Or.inl rfl) (pe_ix ix_list (pv 0) (pv 2) (fun _ _ => rfl))) (pss_cons (ps_set (i := 4) sc_single_calls.nd rfl (Or.inl rfl) (pe_ix ix_tup (pe_glob (v := V.ref A.tHanded) rfl T.gHANDED rfl) (pv 3) (fun _ _ => rfl))) (pss_cons (ps_set (i := 2) sc_single_calls.nd rfl (Or.inl rfl) (pe_op op_add (pv 2) pe_int)) (pss_cons (ps_if (pt_cmpR op_eq (pv 3) (pe_glob (v := V.int (0)) rfl T.gBEGINS.choose_spec ⟨_, rfl⟩) (nomark _)) (pss_cons (ps_set (i := 4) sc_single_calls.nd rfl (Or.inl rfl) (pe_ix ix_list (pv 0) (pv 2) (fun _ _ => rfl))) (pss_one (ps_set (i := 2) sc_single_calls.nd rfl (Or.inl rfl) (pe_op op_add (pv 2) pe_int)))) pss_nil) (pss_cons (ps_expr (pe_bm PySem.F.plainAttrs_list PySem.F.slot_list_append PySem.F.type_list_append mt_append (pv 1) (pa_cons (pe_tup (pa_cons (pv 3) (pa_cons (pe_slice sl_list (pv 0) (po_some (pv 2)) (po_some (pe_op op_add (pv 2) (pv 4)))) pa_nil))) pa_nil))) (pss_one (ps_set (i := 2) sc_single_calls.nd rfl (Or.inl rfl) (pe_op op_add (pv 2) (pv 4)))))))))) (pss_one (ps_ret (pv 1)))))), ?_⟩
    refine ⟨by show 0 ≤ sizeLine; decide, fun ls hls => ?_⟩
    refine ⟨fun m σ H' => ∃ (at_ : Nat) (v3 v4 : Option V) (done rest : List (List (List Int))) (f : Nat), σ = [some (.ref a), some (.ref ls), some (.int at_), v3, v4] ∧ at_ ≤ ns.length ∧ m = ns.length - at_ ∧ raw = done ++ rest ∧ PyFlat.calls PySy50.shape f (ns.drop at_) = some rest ∧ done.length ≤ at_ ∧ Same H H' ∧ SingleAt H H' ls (done.map flat),
      ⟨ns.length, 0, none, none, [], raw, ns.length, rfl, Nat.zero_le _, rfl, rfl, hraw0, Nat.le_refl _, Same.upd_new hls, [], upd_same, .nil⟩, ?_⟩
    rintro m σ H1 ⟨at_, v3, v4, done, rest, f, rfl, h1, rfl, hraw, hcalls, hdl, sa, ts, hl1, hts⟩
    have hS1 := sa.seq hS
    have htl := paired_len hts
    rw [List.length_map] at htl
    refine ⟨_, rfl, _, rfl, a, _, rfl, .inl hS1, _, _, rfl, rfl, _, rfl, iteD (fun q => ⟨fun σ' H' => ∃ m', m' < ns.length - at_ ∧ ∃ (at_ : Nat) (v3 v4 : Option V) (done rest : List (List (List Int))) (f : Nat), σ' = [some (.ref a), some (.ref ls), some (.int at_), v3, v4] ∧ at_ ≤ ns.length ∧ m' = ns.length - at_ ∧ raw = done ++ rest ∧ PyFlat.calls PySy50.shape f (ns.drop at_) = some rest ∧ done.length ≤ at_ ∧ Same H H' ∧ SingleAt H H' ls (done.map flat), fun σ' H' z => z, ?_⟩) (fun q => ?_)⟩
    · rw [List.length_map] at q
      have hlt : at_ < ns.length := by omega
      have hd0 : ns.drop at_ = ns[at_] :: ns.drop (at_ + 1) := List.drop_eq_getElem_cons hlt
      have hp0 : ns[at_]? = some ns[at_] := List.getElem?_eq_getElem hlt
      generalize ns[at_] = p at hd0 hp0
      rw [hd0] at hcalls
      obtain ⟨f', c, t, cs, hcall, hcs, rfl⟩ := calls_cons hcalls
      refine ⟨_, rfl, _, rfl, a, _, _, _, rfl, rfl, hS1, atI_nat (at_int hp0), ?_⟩
      rcases call_at hcall with ⟨rfl, m, r', hr', hm, rfl, rfl⟩ | ⟨j, rfl, j0, j15, hl, rfl, rfl⟩
      · have hm1 : ns[at_ + 1]? = some (m : Int) := by
          have := congrArg (fun l : List Int => l[0]?) hr'
          rw [List.getElem?_drop] at this
          exact this
        have hd2 : ns.drop (at_ + 2) = r' := by
          have := congrArg (fun l : List Int => l.drop 1) hr'
          rw [List.drop_drop] at this
          exact this
        have hlr : r'.length = ns.length - (at_ + 2) := by rw [← hd2, List.length_drop]
        have hlt2 : at_ + 1 < ns.length := (List.getElem?_eq_some_iff.mp hm1).1
        refine ⟨_, rfl, A.tHanded, _, _, _, rfl, rfl, T.hanT _, han_at (j := 0) (by decide), ?_⟩
        refine ⟨_, rfl, _, _, rfl, rfl, ?_⟩
        refine ⟨_, rfl, rfl, _, rfl, iteE (fun _ => ?_) (fun z => absurd rfl z)⟩
        refine ⟨_, rfl, _, rfl, a, _, _, _, rfl, rfl, hS1, at_of (j := at_ + 1) (by omega) (at_int hm1), ?_⟩
        refine ⟨_, rfl, _, _, rfl, rfl, ?_⟩
        refine ⟨_, rfl, .inl ⟨rfl, _, SqL.of hl1⟩, _, rfl, _, rfl, _, rfl, _, rfl, _, rfl, _, rfl, _, _, rfl, rfl, _, rfl, a, _, rfl, hS1, fun rr hrr => ?_⟩
        refine ⟨by show 2 ≤ sizeLine; decide, fun tt htt => ?_⟩
        obtain ⟨g1, g2, g3⟩ := single_tail (c := [[0], r'.take m]) (X := at_ + 2) (CNT := m) (LO := (at_ : Int) + 1 + 1) (CV := (m : Int)) hS1 sa hls hl1 hts (by omega) rfl (by omega) (by rw [hd2]; rfl) hrr htt (p := 0) rfl
        refine ⟨ls, _, _, rfl, rfl, g2, by rw [List.length_map]; exact Nat.lt_of_le_of_lt (show ts.length ≤ 5100 by omega) (by decide), ?_⟩
        refine ⟨_, rfl, _, rfl, _, _, rfl, rfl, ?_⟩
        refine ⟨ns.length - (at_ + 2 + m), by omega, at_ + 2 + m, some (.int 0), some (.int (m : Int)), done ++ [[[0], r'.take m]], cs, f', ?_, by omega, rfl, by rw [hraw, List.append_assoc]; rfl, by rw [← hd2, List.drop_drop] at hcs; exact hcs, by rw [List.length_append, List.length_singleton]; omega, g1, ?_⟩
        · have e : (at_ : Int) + 1 + 1 + (m : Int) = ((at_ + 2 + m : Nat) : Int) := by omega
          rw [← e]
          rfl
        · rw [List.map_append]; exact g3
      · have hlr : (ns.drop (at_ + 1)).length = ns.length - (at_ + 1) := List.length_drop
        refine ⟨_, rfl, A.tHanded, _, _, _, rfl, rfl, T.hanT _, han_at j15, ?_⟩
        refine ⟨_, rfl, _, _, rfl, rfl, ?_⟩
        refine ⟨_, rfl, rfl, _, rfl, iteE (fun z => absurd z (by omega)) (fun _ => ?_)⟩
        refine ⟨_, rfl, .inl ⟨rfl, _, SqL.of hl1⟩, _, rfl, _, rfl, _, rfl, _, rfl, _, rfl, _, rfl, _, _, rfl, rfl, _, rfl, a, _, rfl, hS1, fun rr hrr => ?_⟩
        refine ⟨by show 2 ≤ sizeLine; decide, fun tt htt => ?_⟩
        have hfl : flat [(j : Int) :: (ns.drop (at_ + 1)).take (hn j)] = ((j : Int), (ns.drop (at_ + 1)).take (hn j)) := flat_one _ _
        obtain ⟨g1, g2, g3⟩ := single_tail (c := [(j : Int) :: (ns.drop (at_ + 1)).take (hn j)]) (X := at_ + 1) (CNT := hn j) (LO := (at_ : Int) + 1) (CV := (hn j : Int)) hS1 sa hls hl1 hts (by omega) rfl (by omega) (by rw [hfl]) hrr htt (p := (j : Int)) (by rw [hfl])
        refine ⟨ls, _, _, rfl, rfl, g2, by rw [List.length_map]; exact Nat.lt_of_le_of_lt (show ts.length ≤ 5100 by omega) (by decide), ?_⟩
        refine ⟨_, rfl, _, rfl, _, _, rfl, rfl, ?_⟩
        refine ⟨ns.length - (at_ + 1 + hn j), by omega, at_ + 1 + hn j, some (.int (j : Int)), some (.int (hn j : Int)), done ++ [[(j : Int) :: (ns.drop (at_ + 1)).take (hn j)]], cs, f', ?_, by omega, rfl, by rw [hraw, List.append_assoc]; rfl, by rw [List.drop_drop] at hcs; exact hcs, by rw [List.length_append, List.length_singleton]; omega, g1, ?_⟩
        · have e : (at_ : Int) + 1 + (hn j : Int) = ((at_ + 1 + hn j : Nat) : Int) := by omega
          rw [← e]
          rfl
        · rw [List.map_append]; exact g3
    · rw [List.length_map] at q
      have e : at_ = ns.length := by omega
      subst e
      rw [List.drop_length] at hcalls
      have er := calls_nil hcalls
      subst er
      rw [List.append_nil] at hraw
      subst hraw
      exact ⟨_, rfl, k H1 ls sa hls ⟨ts, hl1, hts⟩⟩
end
end Br

end
section
set_option Elab.async false
set_option linter.all false
set_option maxRecDepth 100000
set_option maxHeartbeats 2000000
namespace Br
open PySem PySem.Spec PyProof.Rows L2
section
variable {P : Program} {w : World} {K : PySem.W.Frag} {mg : Str → Option Value} {base : Heap} {A : Ad}
theorem rd_of {b le lq : Addr} {s : Sy50.St} {c : Sy50.Call} {H : Hp} {Q : VK} (k : WrK A K b le lq s c H Q) (hb : BrAt A K H b le lq s) (hs : (Sy50.step s c).1 = s) : RdK s c H Q := fun H' l sm hl h =>
  k H' l le lq (by rw [hs]; exact hb.same sm) (.inl rfl) (.inl rfl) (Fra.of sm) hl h
def spAnsOf (A : Ad) (K : PySem.W.Frag) (lo hi : Int) : Sp := fun vs H Q _ => ∃ (b le lq r : Addr) (p : Int) (xs : List Int) (s : Sy50.St) (c : Sy50.Call), vs = [.ref b, .int p, .ref r] ∧ H r = some (.lst (xs.map V.int)) ∧ BrAt A K H b le lq s ∧ Good s ∧ Dec p xs c ∧ lo ≤ p ∧ p ≤ hi ∧ WrK A K b le lq s c H Q
abbrev s_answer_of_writing : Stmt := top 72
theorem sc_answer_of_writing : FnScope ["bridge", "call", "handed"] ["bridge", "call", "handed"] (defScope s_answer_of_writing) := ⟨rfl, rfl, rfl, by decide +kernel, rfl, by decide +kernel, by decide +kernel⟩
theorem ok_answer_of_writing {f : Addr} {fd : FuncData} (F : Fun K "answer_of_writing" "answer_of_writing" s_answer_of_writing f fd) (T : Txt K mg A) (c0 : Cal P w K mg base 3 "begins" ["bridge", "numbers"] (spBegins A K)) (c1 : Cal P w K mg base 1 "days_go_by" ["bridge", "days"] (spDays A K)) (c2 : Cal P w K mg base 3 "found" ["bridge", "part", "day", "crack"] (spFound A K)) (c3 : Cal P w K mg base 3 "mended" ["bridge", "part", "day"] (spMended A K)) (c4 : Cal P w K mg base 3 "strike" ["bridge", "number"] (spStrike A K)) (c5 : Cal P w K mg base 3 "right" ["bridge", "number", "crack"] (spRight A K)) (c6 : Cal P w K mg base 6 "post" ["bridge"] (spPost A K)) : FnOk P w K mg base CX0 7 f fd ["bridge", "call", "handed"] (spAnsOf A K 0 6) := by
  obtain ⟨fbegins, fdbegins, Gbegins, mbegins, kbegins, bbegins⟩ := c0.ex
  obtain ⟨fdays_go_by, fddays_go_by, Gdays_go_by, mdays_go_by, kdays_go_by, bdays_go_by⟩ := c1.ex
  obtain ⟨ffound, fdfound, Gfound, mfound, kfound, bfound⟩ := c2.ex
  obtain ⟨fmended, fdmended, Gmended, mmended, kmended, bmended⟩ := c3.ex
  obtain ⟨fstrike, fdstrike, Gstrike, mstrike, kstrike, bstrike⟩ := c4.ex
  obtain ⟨fright, fdright, Gright, mright, kright, bright⟩ := c5.ex
  obtain ⟨fpost, fdpost, Gpost, mpost, kpost, bpost⟩ := c6.ex
  refine F.ok sc_answer_of_writing (fun vs H Q E h => ?_) (fun cdv A' outer s H vs Q E hr h => ?_)
  · obtain ⟨b, le, lq, r, p, xs, s, c, rfl, _⟩ := h
    rfl
  · obtain ⟨b, le, lq, r, p, xs, s, c, rfl, hr0, hb, g, hd, hlo, hhi, k⟩ := h
    refine ⟨_, (pss_cons (ps_if (pt_cmpR op_eq (pv 1) (pe_glob (v := V.int (0)) rfl T.gBEGINS.choose_spec ⟨_, rfl⟩) (nomark _)) (pss_one (ps_ret (pe_call Gbegins (hr.mono (by decide)) rfl mbegins kbegins bbegins .nil pass0 (pa_cons (pv 0) (pa_cons (pv 2) pa_nil))))) pss_nil) (pss_cons (ps_if (pt_cmpR op_eq (pv 1) pe_int (nomark _)) (pss_one (ps_ret (pe_call Gdays_go_by (hr.mono (by decide)) rfl mdays_go_by kdays_go_by bdays_go_by .nil pass0 (pa_cons (pv 0) (pa_cons (pe_ix ix_list (pv 2) pe_int (fun _ _ => rfl)) pa_nil))))) pss_nil) (pss_cons (ps_if (pt_cmpR op_eq (pv 1) pe_int (nomark _)) (pss_one (ps_ret (pe_call Gfound (hr.mono (by decide)) rfl mfound kfound bfound .nil pass0 (pa_cons (pv 0) (pa_cons (pe_ix ix_list (pv 2) pe_int (fun _ _ => rfl)) (pa_cons (pe_ix ix_list (pv 2) pe_int (fun _ _ => rfl)) (pa_cons (pe_ix ix_list (pv 2) pe_int (fun _ _ => rfl)) pa_nil))))))) pss_nil) (pss_cons (ps_if (pt_cmpR op_eq (pv 1) pe_int (nomark _)) (pss_one (ps_ret (pe_call Gmended (hr.mono (by decide)) rfl mmended kmended bmended .nil pass0 (pa_cons (pv 0) (pa_cons (pe_ix ix_list (pv 2) pe_int (fun _ _ => rfl)) (pa_cons (pe_ix ix_list (pv 2) pe_int (fun _ _ => rfl)) pa_nil)))))) pss_nil) (pss_cons (ps_if (pt_cmpR op_eq (pv 1) pe_int (nomark _)) (pss_one (ps_ret (pe_call Gstrike (hr.mono (by decide)) rfl mstrike kstrike bstrike .nil pass0 (pa_cons (pv 0) (pa_cons (pe_ix ix_list (pv 2) pe_int (fun _ _ => rfl)) pa_nil))))) pss_nil) (pss_cons (ps_if (pt_cmpR op_eq (pv 1) pe_int (nomark _)) (pss_one (ps_ret (pe_call Gright (hr.mono (by decide)) rfl mright kright bright .nil pass0 (pa_cons (pv 0) (pa_cons (pe_ix ix_list (pv 2) pe_int (fun _ _ => rfl)) (pa_cons (pe_ix ix_list (pv 2) pe_int (fun _ _ => rfl)) pa_nil)))))) pss_nil) (pss_one (ps_ret (pe_call Gpost (hr.mono (by decide)) rfl mpost kpost bpost .nil pass0 (pa_cons (pv 0) pa_nil)))))))))), ?_⟩
    cases hd with
    | begins x0 =>
      refine ⟨_, rfl, rfl, _, rfl, iteE (fun _ => ?_) (fun z => absurd rfl z)⟩
      exact ⟨_, rfl, _, rfl, b, le, lq, r, x0, s, rfl, hr0, hb, k⟩
    | day x0 =>
      refine ⟨_, rfl, rfl, _, rfl, iteE (fun z => absurd z (by decide)) (fun _ => ?_)⟩
      refine ⟨_, rfl, rfl, _, rfl, iteE (fun _ => ?_) (fun z => absurd rfl z)⟩
      exact ⟨_, rfl, _, rfl, r, _, _, _, rfl, rfl, SqL.of hr0, atI_nat (j := 0) rfl, b, le, lq, x0, s, rfl, hb, g, k⟩
    | found x0 x1 x2 =>
      refine ⟨_, rfl, rfl, _, rfl, iteE (fun z => absurd z (by decide)) (fun _ => ?_)⟩
      refine ⟨_, rfl, rfl, _, rfl, iteE (fun z => absurd z (by decide)) (fun _ => ?_)⟩
      refine ⟨_, rfl, rfl, _, rfl, iteE (fun _ => ?_) (fun z => absurd rfl z)⟩
      exact ⟨_, rfl, _, rfl, r, _, _, _, rfl, rfl, SqL.of hr0, atI_nat (j := 0) rfl, _, rfl, r, _, _, _, rfl, rfl, SqL.of hr0, atI_nat (j := 1) rfl, _, rfl, r, _, _, _, rfl, rfl, SqL.of hr0, atI_nat (j := 2) rfl, b, le, lq, x0, x1, x2, s, rfl, hb, g, k⟩
    | mended x0 x1 =>
      refine ⟨_, rfl, rfl, _, rfl, iteE (fun z => absurd z (by decide)) (fun _ => ?_)⟩
      refine ⟨_, rfl, rfl, _, rfl, iteE (fun z => absurd z (by decide)) (fun _ => ?_)⟩
      refine ⟨_, rfl, rfl, _, rfl, iteE (fun z => absurd z (by decide)) (fun _ => ?_)⟩
      refine ⟨_, rfl, rfl, _, rfl, iteE (fun _ => ?_) (fun z => absurd rfl z)⟩
      exact ⟨_, rfl, _, rfl, r, _, _, _, rfl, rfl, SqL.of hr0, atI_nat (j := 0) rfl, _, rfl, r, _, _, _, rfl, rfl, SqL.of hr0, atI_nat (j := 1) rfl, b, le, lq, x0, x1, s, rfl, hb, g, k⟩
    | strike x0 =>
      refine ⟨_, rfl, rfl, _, rfl, iteE (fun z => absurd z (by decide)) (fun _ => ?_)⟩
      refine ⟨_, rfl, rfl, _, rfl, iteE (fun z => absurd z (by decide)) (fun _ => ?_)⟩
      refine ⟨_, rfl, rfl, _, rfl, iteE (fun z => absurd z (by decide)) (fun _ => ?_)⟩
      refine ⟨_, rfl, rfl, _, rfl, iteE (fun z => absurd z (by decide)) (fun _ => ?_)⟩
      refine ⟨_, rfl, rfl, _, rfl, iteE (fun _ => ?_) (fun z => absurd rfl z)⟩
      exact ⟨_, rfl, _, rfl, r, _, _, _, rfl, rfl, SqL.of hr0, atI_nat (j := 0) rfl, b, le, lq, x0, s, rfl, hb, g, k⟩
    | right_ x0 x1 =>
      refine ⟨_, rfl, rfl, _, rfl, iteE (fun z => absurd z (by decide)) (fun _ => ?_)⟩
      refine ⟨_, rfl, rfl, _, rfl, iteE (fun z => absurd z (by decide)) (fun _ => ?_)⟩
      refine ⟨_, rfl, rfl, _, rfl, iteE (fun z => absurd z (by decide)) (fun _ => ?_)⟩
      refine ⟨_, rfl, rfl, _, rfl, iteE (fun z => absurd z (by decide)) (fun _ => ?_)⟩
      refine ⟨_, rfl, rfl, _, rfl, iteE (fun z => absurd z (by decide)) (fun _ => ?_)⟩
      refine ⟨_, rfl, rfl, _, rfl, iteE (fun _ => ?_) (fun z => absurd rfl z)⟩
      exact ⟨_, rfl, _, rfl, r, _, _, _, rfl, rfl, SqL.of hr0, atI_nat (j := 0) rfl, _, rfl, r, _, _, _, rfl, rfl, SqL.of hr0, atI_nat (j := 1) rfl, b, le, lq, x0, x1, s, rfl, hb, g, k⟩
    | post =>
      refine ⟨_, rfl, rfl, _, rfl, iteE (fun z => absurd z (by decide)) (fun _ => ?_)⟩
      refine ⟨_, rfl, rfl, _, rfl, iteE (fun z => absurd z (by decide)) (fun _ => ?_)⟩
      refine ⟨_, rfl, rfl, _, rfl, iteE (fun z => absurd z (by decide)) (fun _ => ?_)⟩
      refine ⟨_, rfl, rfl, _, rfl, iteE (fun z => absurd z (by decide)) (fun _ => ?_)⟩
      refine ⟨_, rfl, rfl, _, rfl, iteE (fun z => absurd z (by decide)) (fun _ => ?_)⟩
      refine ⟨_, rfl, rfl, _, rfl, iteE (fun z => absurd z (by decide)) (fun _ => ?_)⟩
      exact ⟨_, rfl, b, le, lq, s, rfl, hb, g, k⟩
    | known x0 x1 x2 =>
      exact absurd hhi (by decide)
    | limit x0 x1 =>
      exact absurd hhi (by decide)
    | posted x0 =>
      exact absurd hhi (by decide)
    | wrong x0 x1 =>
      exact absurd hhi (by decide)
    | falls x0 =>
      exact absurd hhi (by decide)
    | due x0 =>
      exact absurd hhi (by decide)
    | changes x0 x1 =>
      exact absurd hhi (by decide)
    | state =>
      exact absurd hhi (by decide)
abbrev s_answer_of_reading : Stmt := top 73
theorem sc_answer_of_reading : FnScope ["bridge", "call", "handed"] ["bridge", "call", "handed"] (defScope s_answer_of_reading) := ⟨rfl, rfl, rfl, by decide +kernel, rfl, by decide +kernel, by decide +kernel⟩
theorem ok_answer_of_reading {f : Addr} {fd : FuncData} (F : Fun K "answer_of_reading" "answer_of_reading" s_answer_of_reading f fd) (T : Txt K mg A) (c7 : Cal P w K mg base 6 "known" ["bridge", "part", "day", "n"] (spKnown A K)) (c8 : Cal P w K mg base 6 "limit" ["bridge", "day", "n"] (spLimit A K)) (c9 : Cal P w K mg base 2 "posted" ["bridge", "day"] (spPosted A K)) (c10 : Cal P w K mg base 7 "wrong" ["bridge", "first", "last"] (spWrong A K)) (c11 : Cal P w K mg base 6 "falls" ["bridge", "much"] (spFalls A K)) (c12 : Cal P w K mg base 7 "due" ["bridge", "days"] (spDue A K)) (c13 : Cal P w K mg base 6 "changes" ["bridge", "part", "day"] (spChanges A K)) (c14 : Cal P w K mg base 2 "state" ["bridge"] (spState A K)) : FnOk P w K mg base CX0 8 f fd ["bridge", "call", "handed"] (spAnsOf A K 7 14) := by
  obtain ⟨fknown, fdknown, Gknown, mknown, kknown, bknown⟩ := c7.ex
  obtain ⟨flimit, fdlimit, Glimit, mlimit, klimit, blimit⟩ := c8.ex
  obtain ⟨fposted, fdposted, Gposted, mposted, kposted, bposted⟩ := c9.ex
  obtain ⟨fwrong, fdwrong, Gwrong, mwrong, kwrong, bwrong⟩ := c10.ex
  obtain ⟨ffalls, fdfalls, Gfalls, mfalls, kfalls, bfalls⟩ := c11.ex
  obtain ⟨fdue, fddue, Gdue, mdue, kdue, bdue⟩ := c12.ex
  obtain ⟨fchanges, fdchanges, Gchanges, mchanges, kchanges, bchanges⟩ := c13.ex
  obtain ⟨fstate, fdstate, Gstate, mstate, kstate, bstate⟩ := c14.ex
  refine F.ok sc_answer_of_reading (fun vs H Q E h => ?_) (fun cdv A' outer s H vs Q E hr h => ?_)
  · obtain ⟨b, le, lq, r, p, xs, s, c, rfl, _⟩ := h
    rfl
  · obtain ⟨b, le, lq, r, p, xs, s, c, rfl, hr0, hb, g, hd, hlo, hhi, k⟩ := h
    refine ⟨_, (pss_cons (ps_if (pt_cmpR op_eq (pv 1) pe_int (nomark _)) (pss_one (ps_ret (pe_call Gknown (hr.mono (by decide)) rfl mknown kknown bknown .nil pass0 (pa_cons (pv 0) (pa_cons (pe_ix ix_list (pv 2) pe_int (fun _ _ => rfl)) (pa_cons (pe_ix ix_list (pv 2) pe_int (fun _ _ => rfl)) (pa_cons (pe_ix ix_list (pv 2) pe_int (fun _ _ => rfl)) pa_nil))))))) pss_nil) (pss_cons (ps_if (pt_cmpR op_eq (pv 1) pe_int (nomark _)) (pss_one (ps_ret (pe_call Glimit (hr.mono (by decide)) rfl mlimit klimit blimit .nil pass0 (pa_cons (pv 0) (pa_cons (pe_ix ix_list (pv 2) pe_int (fun _ _ => rfl)) (pa_cons (pe_ix ix_list (pv 2) pe_int (fun _ _ => rfl)) pa_nil)))))) pss_nil) (pss_cons (ps_if (pt_cmpR op_eq (pv 1) pe_int (nomark _)) (pss_one (ps_ret (pe_call Gposted (hr.mono (by decide)) rfl mposted kposted bposted .nil pass0 (pa_cons (pv 0) (pa_cons (pe_ix ix_list (pv 2) pe_int (fun _ _ => rfl)) pa_nil))))) pss_nil) (pss_cons (ps_if (pt_cmpR op_eq (pv 1) pe_int (nomark _)) (pss_one (ps_ret (pe_call Gwrong (hr.mono (by decide)) rfl mwrong kwrong bwrong .nil pass0 (pa_cons (pv 0) (pa_cons (pe_ix ix_list (pv 2) pe_int (fun _ _ => rfl)) (pa_cons (pe_ix ix_list (pv 2) pe_int (fun _ _ => rfl)) pa_nil)))))) pss_nil) (pss_cons (ps_if (pt_cmpR op_eq (pv 1) pe_int (nomark _)) (pss_one (ps_ret (pe_call Gfalls (hr.mono (by decide)) rfl mfalls kfalls bfalls .nil pass0 (pa_cons (pv 0) (pa_cons (pe_ix ix_list (pv 2) pe_int (fun _ _ => rfl)) pa_nil))))) pss_nil) (pss_cons (ps_if (pt_cmpR op_eq (pv 1) pe_int (nomark _)) (pss_one (ps_ret (pe_call Gdue (hr.mono (by decide)) rfl mdue kdue bdue .nil pass0 (pa_cons (pv 0) (pa_cons (pe_ix ix_list (pv 2) pe_int (fun _ _ => rfl)) pa_nil))))) pss_nil) (pss_cons (ps_if (pt_cmpR op_eq (pv 1) pe_int (nomark _)) (pss_one (ps_ret (pe_call Gchanges (hr.mono (by decide)) rfl mchanges kchanges bchanges .nil pass0 (pa_cons (pv 0) (pa_cons (pe_ix ix_list (pv 2) pe_int (fun _ _ => rfl)) (pa_cons (pe_ix ix_list (pv 2) pe_int (fun _ _ => rfl)) pa_nil)))))) pss_nil) (pss_one (ps_ret (pe_call Gstate (hr.mono (by decide)) rfl mstate kstate bstate .nil pass0 (pa_cons (pv 0) pa_nil))))))))))), ?_⟩
    cases hd with
    | begins x0 =>
      exact absurd hlo (by decide)
    | day x0 =>
      exact absurd hlo (by decide)
    | found x0 x1 x2 =>
      exact absurd hlo (by decide)
    | mended x0 x1 =>
      exact absurd hlo (by decide)
    | strike x0 =>
      exact absurd hlo (by decide)
    | right_ x0 x1 =>
      exact absurd hlo (by decide)
    | post =>
      exact absurd hlo (by decide)
    | known x0 x1 x2 =>
      refine ⟨_, rfl, rfl, _, rfl, iteE (fun _ => ?_) (fun z => absurd rfl z)⟩
      exact ⟨_, rfl, _, rfl, r, _, _, _, rfl, rfl, SqL.of hr0, atI_nat (j := 0) rfl, _, rfl, r, _, _, _, rfl, rfl, SqL.of hr0, atI_nat (j := 1) rfl, _, rfl, r, _, _, _, rfl, rfl, SqL.of hr0, atI_nat (j := 2) rfl, b, le, lq, x0, x1, x2, s, rfl, hb, g, (rd_of k hb rfl)⟩
    | limit x0 x1 =>
      refine ⟨_, rfl, rfl, _, rfl, iteE (fun z => absurd z (by decide)) (fun _ => ?_)⟩
      refine ⟨_, rfl, rfl, _, rfl, iteE (fun _ => ?_) (fun z => absurd rfl z)⟩
      exact ⟨_, rfl, _, rfl, r, _, _, _, rfl, rfl, SqL.of hr0, atI_nat (j := 0) rfl, _, rfl, r, _, _, _, rfl, rfl, SqL.of hr0, atI_nat (j := 1) rfl, b, le, lq, x0, x1, s, rfl, hb, g, (rd_of k hb rfl)⟩
    | posted x0 =>
      refine ⟨_, rfl, rfl, _, rfl, iteE (fun z => absurd z (by decide)) (fun _ => ?_)⟩
      refine ⟨_, rfl, rfl, _, rfl, iteE (fun z => absurd z (by decide)) (fun _ => ?_)⟩
      refine ⟨_, rfl, rfl, _, rfl, iteE (fun _ => ?_) (fun z => absurd rfl z)⟩
      exact ⟨_, rfl, _, rfl, r, _, _, _, rfl, rfl, SqL.of hr0, atI_nat (j := 0) rfl, b, le, lq, x0, s, rfl, hb, g, (rd_of k hb rfl)⟩
    | wrong x0 x1 =>
      refine ⟨_, rfl, rfl, _, rfl, iteE (fun z => absurd z (by decide)) (fun _ => ?_)⟩
      refine ⟨_, rfl, rfl, _, rfl, iteE (fun z => absurd z (by decide)) (fun _ => ?_)⟩
      refine ⟨_, rfl, rfl, _, rfl, iteE (fun z => absurd z (by decide)) (fun _ => ?_)⟩
      refine ⟨_, rfl, rfl, _, rfl, iteE (fun _ => ?_) (fun z => absurd rfl z)⟩
      exact ⟨_, rfl, _, rfl, r, _, _, _, rfl, rfl, SqL.of hr0, atI_nat (j := 0) rfl, _, rfl, r, _, _, _, rfl, rfl, SqL.of hr0, atI_nat (j := 1) rfl, b, le, lq, x0, x1, s, rfl, hb, g, (rd_of k hb rfl)⟩
    | falls x0 =>
      refine ⟨_, rfl, rfl, _, rfl, iteE (fun z => absurd z (by decide)) (fun _ => ?_)⟩
      refine ⟨_, rfl, rfl, _, rfl, iteE (fun z => absurd z (by decide)) (fun _ => ?_)⟩
      refine ⟨_, rfl, rfl, _, rfl, iteE (fun z => absurd z (by decide)) (fun _ => ?_)⟩
      refine ⟨_, rfl, rfl, _, rfl, iteE (fun z => absurd z (by decide)) (fun _ => ?_)⟩
      refine ⟨_, rfl, rfl, _, rfl, iteE (fun _ => ?_) (fun z => absurd rfl z)⟩
      exact ⟨_, rfl, _, rfl, r, _, _, _, rfl, rfl, SqL.of hr0, atI_nat (j := 0) rfl, b, le, lq, x0, s, rfl, hb, g, (rd_of k hb rfl)⟩
    | due x0 =>
      refine ⟨_, rfl, rfl, _, rfl, iteE (fun z => absurd z (by decide)) (fun _ => ?_)⟩
      refine ⟨_, rfl, rfl, _, rfl, iteE (fun z => absurd z (by decide)) (fun _ => ?_)⟩
      refine ⟨_, rfl, rfl, _, rfl, iteE (fun z => absurd z (by decide)) (fun _ => ?_)⟩
      refine ⟨_, rfl, rfl, _, rfl, iteE (fun z => absurd z (by decide)) (fun _ => ?_)⟩
      refine ⟨_, rfl, rfl, _, rfl, iteE (fun z => absurd z (by decide)) (fun _ => ?_)⟩
      refine ⟨_, rfl, rfl, _, rfl, iteE (fun _ => ?_) (fun z => absurd rfl z)⟩
      exact ⟨_, rfl, _, rfl, r, _, _, _, rfl, rfl, SqL.of hr0, atI_nat (j := 0) rfl, b, le, lq, x0, s, rfl, hb, g, (rd_of k hb rfl)⟩
    | changes x0 x1 =>
      refine ⟨_, rfl, rfl, _, rfl, iteE (fun z => absurd z (by decide)) (fun _ => ?_)⟩
      refine ⟨_, rfl, rfl, _, rfl, iteE (fun z => absurd z (by decide)) (fun _ => ?_)⟩
      refine ⟨_, rfl, rfl, _, rfl, iteE (fun z => absurd z (by decide)) (fun _ => ?_)⟩
      refine ⟨_, rfl, rfl, _, rfl, iteE (fun z => absurd z (by decide)) (fun _ => ?_)⟩
      refine ⟨_, rfl, rfl, _, rfl, iteE (fun z => absurd z (by decide)) (fun _ => ?_)⟩
      refine ⟨_, rfl, rfl, _, rfl, iteE (fun z => absurd z (by decide)) (fun _ => ?_)⟩
      refine ⟨_, rfl, rfl, _, rfl, iteE (fun _ => ?_) (fun z => absurd rfl z)⟩
      exact ⟨_, rfl, _, rfl, r, _, _, _, rfl, rfl, SqL.of hr0, atI_nat (j := 0) rfl, _, rfl, r, _, _, _, rfl, rfl, SqL.of hr0, atI_nat (j := 1) rfl, b, le, lq, x0, x1, s, rfl, hb, g, (rd_of k hb rfl)⟩
    | state =>
      refine ⟨_, rfl, rfl, _, rfl, iteE (fun z => absurd z (by decide)) (fun _ => ?_)⟩
      refine ⟨_, rfl, rfl, _, rfl, iteE (fun z => absurd z (by decide)) (fun _ => ?_)⟩
      refine ⟨_, rfl, rfl, _, rfl, iteE (fun z => absurd z (by decide)) (fun _ => ?_)⟩
      refine ⟨_, rfl, rfl, _, rfl, iteE (fun z => absurd z (by decide)) (fun _ => ?_)⟩
      refine ⟨_, rfl, rfl, _, rfl, iteE (fun z => absurd z (by decide)) (fun _ => ?_)⟩
      refine ⟨_, rfl, rfl, _, rfl, iteE (fun z => absurd z (by decide)) (fun _ => ?_)⟩
      refine ⟨_, rfl, rfl, _, rfl, iteE (fun z => absurd z (by decide)) (fun _ => ?_)⟩
      exact ⟨_, rfl, b, le, lq, s, rfl, hb, g, (rd_of k hb rfl)⟩
abbrev s_answer_of : Stmt := top 71
theorem sc_answer_of : FnScope ["bridge", "call", "handed"] ["bridge", "call", "handed"] (defScope s_answer_of) := ⟨rfl, rfl, rfl, by decide +kernel, rfl, by decide +kernel, by decide +kernel⟩
theorem ok_answer_of {f : Addr} {fd : FuncData} (F : Fun K "answer_of" "answer_of" s_answer_of f fd) (T : Txt K mg A) (c1 : Cal P w K mg base 7 "answer_of_writing" ["bridge", "call", "handed"] (spAnsOf A K 0 6)) (c2 : Cal P w K mg base 8 "answer_of_reading" ["bridge", "call", "handed"] (spAnsOf A K 7 14)) :
    FnOk P w K mg base CX0 9 f fd ["bridge", "call", "handed"] (spAnsOf A K 0 14) := by
  obtain ⟨fanswer_of_writing, fdanswer_of_writing, Ganswer_of_writing, manswer_of_writing, kanswer_of_writing, banswer_of_writing⟩ := c1.ex
  obtain ⟨fanswer_of_reading, fdanswer_of_reading, Ganswer_of_reading, manswer_of_reading, kanswer_of_reading, banswer_of_reading⟩ := c2.ex
  refine F.ok sc_answer_of (fun vs H Q E h => ?_) (fun cdv A' outer s H vs Q E hr h => ?_)
  · obtain ⟨b, le, lq, r, p, xs, s, c, rfl, _⟩ := h
    rfl
  · obtain ⟨b, le, lq, r, p, xs, s, c, rfl, hr0, hb, g, hd, hlo, hhi, k⟩ := h
    refine ⟨_, (pss_cons (ps_if (pt_cmpR op_le (pv 1) (pe_glob (v := V.int (6)) rfl T.gPOST.choose_spec ⟨_, rfl⟩) (nomark _)) (pss_one (ps_ret (pe_call Ganswer_of_writing (hr.mono (by decide)) rfl manswer_of_writing kanswer_of_writing banswer_of_writing .nil pass0 (pa_cons (pv 0) (pa_cons (pv 1) (pa_cons (pv 2) pa_nil)))))) pss_nil) (pss_one (ps_ret (pe_call Ganswer_of_reading (hr.mono (by decide)) rfl manswer_of_reading kanswer_of_reading banswer_of_reading .nil pass0 (pa_cons (pv 0) (pa_cons (pv 1) (pa_cons (pv 2) pa_nil))))))), ?_⟩
    refine ⟨_, rfl, _, _, rfl, rfl, _, rfl, iteD (fun q => ?_) (fun q => ?_)⟩
    · exact ⟨_, rfl, _, rfl, _, rfl, b, le, lq, r, p, xs, s, c, rfl, hr0, hb, g, hd, hlo, q, k⟩
    · exact ⟨_, rfl, _, rfl, _, rfl, b, le, lq, r, p, xs, s, c, rfl, hr0, hb, g, hd, by omega, hhi, k⟩
theorem Dec.rng {p : Int} {xs : List Int} {c : Sy50.Call} (h : Dec p xs c) : 0 ≤ p ∧ p ≤ 14 := by cases h <;> decide
theorem BrAt.keepL {b le lq lt : Addr} {s : Sy50.St} {H : Hp} {ns : List Int} {o : HO} (hb : BrAt A K H b le lq s) (h0 : 0 < s.parts.length) (hl : H lt = some (.lst (ns.map V.int))) (n1 : lt ≠ le) (n2 : lt ≠ lq) : BrAt A K (upd H lt o) b le lq s := by
  obtain ⟨⟨dx, lp, h1, h2, h3, h4⟩, h5, h7, h8⟩ := hb
  have nlp : lp ≠ lt := fun q => by
    obtain ⟨as, ha, pa⟩ := h2
    have hal := paired_len pa
    rw [q, hl] at ha
    have e := HO.lst.inj (Option.some.inj ha)
    cases as with
    | nil => rw [← hal] at h0; exact absurd h0 (by decide)
    | cons a r =>
      cases ns with
      | nil => cases e
      | cons z t => cases (List.cons.inj e).1
  exact ⟨⟨dx, lp, by rw [upd_ne (ne_ins h1 hl rfl)]; exact h1, h2.keep lPart hl rfl nlp, h3, h4⟩, h5.keep lEnt hl rfl (Ne.symm n1), h7.keep lPost hl rfl (Ne.symm n2), h8⟩
def spAns (K : PySem.W.Frag) : Sp := fun vs H Q _ => ∃ (a : Addr) (ns : List Int), vs = [.ref a] ∧ SqL K H a (ns.map V.int) ∧ ns.length ≤ 5100 ∧ PySy50.answers_asked ns = true ∧ ∀ (H' : Hp) (p : Addr), H' p = some (.lst ((PySy50.answers ns).map V.int)) → Q (.ref p) H'
abbrev s_answers : Stmt := top 69
theorem sc_answers : FnScope ["calls", "bridge", "told", "call", "handed", "answer"] ["calls"] (defScope s_answers) := ⟨rfl, rfl, rfl, by decide +kernel, rfl, by decide +kernel, by decide +kernel⟩
theorem ok_answers {f : Addr} {fd : FuncData} (F : Fun K "answers" "answers" s_answers f fd) (T : Txt K mg A) (c1 : Cal P w K mg base 1 "single_calls" ["calls"] (spSingle K)) (c2 : Cal P w K mg base 9 "answer_of" ["bridge", "call", "handed"] (spAnsOf A K 0 14))
    (c3 : CalC P w K mg base 3 A.cBridge ["self"] (spBInit A K)) : FnOk P w K mg base CX0 10 f fd ["calls"] (spAns K) := by
  obtain ⟨fsingle_calls, fdsingle_calls, Gsingle_calls, msingle_calls, ksingle_calls, bsingle_calls⟩ := c1.ex
  obtain ⟨fanswer_of, fdanswer_of, Ganswer_of, manswer_of, kanswer_of, banswer_of⟩ := c2.ex
  obtain ⟨fI, fdI, GBridge, MBridge, bBridge⟩ := c3.ex
  refine F.ok sc_answers (fun vs H Q E h => ?_) (fun cdv A' outer s H vs Q E hr h => ?_)
  · obtain ⟨a, ns, rfl, _⟩ := h
    rfl
  · obtain ⟨a, ns, rfl, hS, hlen, hask, k⟩ := h
    obtain ⟨raw, hraw, hok, heq, hsz⟩ := asked_ok hask
    refine ⟨_, (pss_cons (ps_set (i := 1) sc_answers.nd rfl (Or.inl rfl) (pe_make0 MBridge GBridge (hr.mono (by decide)) rfl T.cBridge bBridge .nil pass0)) (pss_cons (ps_set (i := 2) sc_answers.nd rfl (Or.inl rfl) (pe_lst pa_nil)) (pss_cons (ps_for PassesOwn.never rfl (pi_list (pe_call Gsingle_calls (hr.mono (by decide)) rfl msingle_calls ksingle_calls bsingle_calls .nil pass0 (pa_cons (pv 0) pa_nil))) (pg_tup rfl (pgs_cons (pg_name (i := 3) sc_answers.nd rfl (Or.inl rfl)) (pgs_cons (pg_name (i := 4) sc_answers.nd rfl (Or.inl rfl)) pgs_nil))) (pss_cons (ps_set (i := 5) sc_answers.nd rfl (Or.inl rfl) (pe_call Ganswer_of (hr.mono (by decide)) rfl manswer_of kanswer_of banswer_of .nil pass0 (pa_cons (pv 1) (pa_cons (pv 3) (pa_cons (pv 4) pa_nil))))) (pss_cons (ps_expr (pe_bm PySem.F.plainAttrs_list PySem.F.slot_list_append PySem.F.type_list_append mt_append (pv 2) (pa_cons (pe_callB call_len_seq (by rfl) T.blen PySem.boot_len (pa_cons (pv 5) pa_nil)) pa_nil))) (pss_one (ps_expr (pe_bm PySem.F.plainAttrs_list PySem.F.slot_list_extend PySem.F.type_list_extend mt_extend (pv 2) (pa_cons (pv 5) pa_nil))))))) (pss_one (ps_ret (pv 2)))))), ?_⟩
    intro b dx nb nd ne
    refine ⟨b, dx, rfl, upd_same, fun H1 le0 lq0 hb1 f1 f2 kp => ⟨rfl, ?_⟩⟩
    have s1 : Same H H1 := Same.made nb nd kp
    refine ⟨by show 0 ≤ sizeLine; decide, fun lt hlt => ?_⟩
    have s1' : Same H1 (upd H1 lt (.lst [])) := Same.upd_new hlt
    have hb1' := hb1.same s1'
    have hlt' : (upd H1 lt (.lst [])) lt = some (.lst []) := upd_same
    obtain ⟨⟨dxb, lpb, hbb, _⟩, ⟨es0, hes0, _⟩, ⟨qs0, hqs0, _⟩, _⟩ := id hb1
    have n0b : lt ≠ b := fun q => by rw [q, hbb] at hlt; cases hlt
    have n0e : lt ≠ le0 := fun q => by rw [q, hes0] at hlt; cases hlt
    have n0q : lt ≠ lq0 := fun q => by rw [q, hqs0] at hlt; cases hlt
    generalize hG : upd H1 lt (.lst []) = G1 at *
    refine ⟨_, rfl, a, ns, raw, rfl, (s1.trans s1').seq hS, hlen, hraw, fun H2 ls s2 hls ⟨ts, hl2, hts⟩ => ?_⟩
    have htl := paired_len hts
    rw [List.length_map] at htl
    refine ⟨ls, rfl, ⟨_, SqL.of hl2⟩, for_list (K := K) (a := ls) (xs := ts.map V.ref) (fun i σ H' => ∃ (v3 v4 v5 : Option V) (le lq : Addr), σ = [some (.ref a), some (.ref b), some (.ref lt), v3, v4, v5] ∧ BrAt A K H' b le lq (runS Sy50.init ((raw.map xOf).take i)) ∧ H' lt = some (.lst ((runA Sy50.init ((raw.map xOf).take i)).map V.int)) ∧ lt ≠ le ∧ lt ≠ lq ∧ ∀ c o, H2 c = some o → G1 c = none → H' c = some o ∧ c ≠ b ∧ c ≠ le ∧ c ≠ lq)
      ⟨none, none, none, le0, lq0, rfl, hb1'.same s2, s2 _ _ hlt', n0e, n0q, fun c o e1 e2 => ⟨e1, fun q => ?_, fun q => ?_, fun q => ?_⟩⟩ (fun i σ H' _ ⟨_, _, _, _, _, _, _, _, _, _, kq⟩ => SqL.of (kq _ _ hl2 hls).1) ?_ ?_⟩
    · rw [q, s1' _ _ hbb] at e2; cases e2
    · rw [q, s1' _ _ hes0] at e2; cases e2
    · rw [q, s1' _ _ hqs0] at e2; cases e2
    · rintro i y σ H' hi ⟨v3, v4, v5, le, lq, rfl, hb, htold, n1, n2, kq⟩
      obtain ⟨t, ht, rfl⟩ := ref_at hi
      obtain ⟨x, hx, r, g1, g2, g3, g4, g5⟩ := paired_at hts ht
      obtain ⟨c, hc, rfl⟩ : ∃ c, raw[i]? = some c ∧ x = flat c := by
        rw [List.getElem?_map] at hx
        cases e : raw[i]? with
        | none => rw [e] at hx; cases hx
        | some c => rw [e] at hx; exact ⟨c, rfl, (Option.some.inj hx).symm⟩
      have hcok := (hok c (List.mem_of_getElem? hc)).1
      have hxi : (raw.map xOf)[i]? = some (xOf c) := by rw [List.getElem?_map, hc]; rfl
      have tk := take_snoc hxi
      have good := Good.run ((raw.map xOf).take i) Good.init
      obtain ⟨k1, _⟩ := kq _ _ g4 g1
      obtain ⟨k2, _⟩ := kq _ _ g5 g2
      have hrng := hcok.rng
      refine ⟨t, _, rfl, SqT.of k1, rfl, _, _, rfl, _, _, rfl, rfl, ?_⟩
      refine ⟨_, rfl, _, rfl, _, rfl, b, le, lq, r, _, _, _, xOf c, rfl, k2, hb, good, hcok, hrng.1, hrng.2, fun H3 la le' lq' hb3 e1 e2 fr hla h3 => ?_⟩
      have hlb : lt ≠ b := n0b
      have hlt3 := fr.keep _ _ htold hlb n1 n2
      have n1' : lt ≠ le' := by
        rcases e1 with e1 | e1
        · rw [e1]; exact n1
        · intro q; rw [← q, htold] at e1; cases e1
      have n2' : lt ≠ lq' := by
        rcases e2 with e2 | e2
        · rw [e2]; exact n2
        · intro q; rw [← q, htold] at e2; cases e2
      have nla : la ≠ lt := fun q => by rw [q, htold] at hla; cases hla
      have hle := runA_le (raw.map xOf) Sy50.init (i + 1)
      rw [tk, runA_snoc, List.length_append, List.length_cons] at hle
      have hszl : (sizeLine : Nat) = 16777216 := by decide
      refine ⟨_, rfl, .inl ⟨rfl, _, SqL.of hlt3⟩, _, rfl, la, _, rfl, .inl (SqL.of h3), lt, _, _, rfl, rfl, hlt3, by rw [List.length_map]; omega, ?_⟩
      refine ⟨_, rfl, .inl ⟨rfl, _, SqL.of upd_same⟩, _, rfl, lt, la, _, _, rfl, rfl, upd_same, by rw [upd_ne nla]; exact h3, ?_, ?_⟩
      · rw [List.length_append, List.length_map, List.length_map]
        show _ + 1 + _ ≤ sizeLine
        omega
      refine ⟨_, _, _, le', lq', rfl, ?_, ?_, n1', n2', fun d o ed en => ?_⟩
      · rw [tk, runS_snoc]
        rw [upd_upd]
        exact hb3.keepL (good.step (xOf c)).p0 hlt3 n1' n2'
      · rw [upd_same, tk, runA_snoc, List.map_append, List.length_map, List.append_assoc]
        rfl
      · obtain ⟨m1, m2, m3, m4⟩ := kq _ _ ed en
        have ndl : d ≠ lt := fun q => by rw [q, hlt'] at en; cases en
        refine ⟨by rw [upd_ne ndl, upd_ne ndl]; exact fr.keep _ _ m1 m2 m3 m4, m2, ?_, ?_⟩
        · rcases e1 with e1 | e1
          · rw [e1]; exact m3
          · intro q; rw [← q, m1] at e1; cases e1
        · rcases e2 with e2 | e2
          · rw [e2]; exact m4
          · intro q; rw [← q, m1] at e2; cases e2
    · rintro σ H' ⟨v3, v4, v5, le, lq, rfl, hb, htold, _⟩
      refine ⟨_, rfl, k H' lt ?_⟩
      rw [htold, heq, List.length_map, htl]
      have e : (raw.map xOf).take raw.length = raw.map xOf := by
        have : (raw.map xOf).length = raw.length := List.length_map ..
        rw [← this, List.take_length]
      rw [e]
end
end Br

end
set_option Elab.async false
set_option linter.all false
set_option maxRecDepth 100000
set_option maxHeartbeats 4000000
namespace Br
open PySem PySem.Spec PyProof.Rows L2
open PySem.W (Codec)
/-! ### what the top has written -/
theorem len1 {us : List Value} (h : us.length = 1) : ∃ a, us = [a] := match us, h with | [a], _ => ⟨a, rfl⟩
theorem len2 {us : List Value} (h : us.length = 2) : ∃ a b, us = [a, b] := match us, h with | [a, b], _ => ⟨a, b, rfl⟩
theorem len3 {us : List Value} (h : us.length = 3) : ∃ a b c, us = [a, b, c] := match us, h with | [a, b, c], _ => ⟨a, b, c, rfl⟩
theorem len4 {us : List Value} (h : us.length = 4) : ∃ a b c d, us = [a, b, c, d] := match us, h with | [a, b, c, d], _ => ⟨a, b, c, d, rfl⟩
theorem len5 {us : List Value} (h : us.length = 5) : ∃ a b c d e, us = [a, b, c, d, e] := match us, h with | [a, b, c, d, e], _ => ⟨a, b, c, d, e, rfl⟩
theorem all_mk {P : Program} {w : World} {K : PySem.W.Frag} {h : Heap} {mg : Str → Option Value} {fa tH cPart cEntry cPosting cBridge cStatement cStanding f_statements f_put_right f_sources_on f_standings f_standing f_crack_on f_grown f_borne f_limit_on f_known f_limit f_standings_by f_told_source f_posted f_posting_on f_wrong f_too_much f_said_now f_falls f_due f_last_found f_changes f_state f_behind_length f_begins f_is_let f_days_go_by f_found f_mended f_strike f_right f_is_struck f_enter f_post f_answers f_single_calls f_answer_of f_answer_of_writing f_answer_of_reading f_Part_init f_Entry_init f_Posting_init f_Bridge_init f_Bridge_begin f_Statement_init f_Standing_init : Addr} {t_FOUND t_MENDED t_STRUCK t_RIGHTED t_LAST_DAY t_NOT_LET t_NOT_THERE t_CANT_BE t_TOO_MANY t_NOTHING t_MOST_DAYS_BEHIND t_MOST_MUCH t_DAYS_LOOKED_AHEAD t_MOST_PARTS t_MOST_SOUND t_MOST_COST t_MOST_GROWTH t_MOST_DAYS t_MOST_CRACK t_MOST_ENTRIES t_MOST_POSTINGS t_BEGINS t_POST : Tok} {odH : Option Addr} {nH : Nat} {slH : Array (Option Value)} {u0 u1 u2 u3 u4 u5 u6 u7 u8 u9 u10 u11 u12 u13 u14 : Tok} (X : K.In h) (G : h.Ns mainGlobals mg) (hfa : mg "answers" = some (.ref fa))
    {od_statements an_statements : Option Addr} {sl_statements : Array (Option Value)} {oc_statements kV_statements dc_statements pm_statements cd_statements ct_statements : Value}
    {od_put_right an_put_right : Option Addr} {sl_put_right : Array (Option Value)} {oc_put_right kV_put_right dc_put_right pm_put_right cd_put_right ct_put_right : Value}
    {od_sources_on an_sources_on : Option Addr} {sl_sources_on : Array (Option Value)} {oc_sources_on kV_sources_on dc_sources_on pm_sources_on cd_sources_on ct_sources_on : Value}
    {od_standings an_standings : Option Addr} {sl_standings : Array (Option Value)} {oc_standings kV_standings dc_standings pm_standings cd_standings ct_standings : Value}
    {od_standing an_standing : Option Addr} {sl_standing : Array (Option Value)} {oc_standing kV_standing dc_standing pm_standing cd_standing ct_standing : Value}
    {od_crack_on an_crack_on : Option Addr} {sl_crack_on : Array (Option Value)} {oc_crack_on kV_crack_on dc_crack_on pm_crack_on cd_crack_on ct_crack_on : Value}
    {od_grown an_grown : Option Addr} {sl_grown : Array (Option Value)} {oc_grown kV_grown dc_grown pm_grown cd_grown ct_grown : Value}
    {od_borne an_borne : Option Addr} {sl_borne : Array (Option Value)} {oc_borne kV_borne dc_borne pm_borne cd_borne ct_borne : Value}
    {od_limit_on an_limit_on : Option Addr} {sl_limit_on : Array (Option Value)} {oc_limit_on kV_limit_on dc_limit_on pm_limit_on cd_limit_on ct_limit_on : Value}
    {od_known an_known : Option Addr} {sl_known : Array (Option Value)} {oc_known kV_known dc_known pm_known cd_known ct_known : Value}
    {od_limit an_limit : Option Addr} {sl_limit : Array (Option Value)} {oc_limit kV_limit dc_limit pm_limit cd_limit ct_limit : Value}
    {od_standings_by an_standings_by : Option Addr} {sl_standings_by : Array (Option Value)} {oc_standings_by kV_standings_by dc_standings_by pm_standings_by cd_standings_by ct_standings_by : Value}
    {od_told_source an_told_source : Option Addr} {sl_told_source : Array (Option Value)} {oc_told_source kV_told_source dc_told_source pm_told_source cd_told_source ct_told_source : Value}
    {od_posted an_posted : Option Addr} {sl_posted : Array (Option Value)} {oc_posted kV_posted dc_posted pm_posted cd_posted ct_posted : Value}
    {od_posting_on an_posting_on : Option Addr} {sl_posting_on : Array (Option Value)} {oc_posting_on kV_posting_on dc_posting_on pm_posting_on cd_posting_on ct_posting_on : Value}
    {od_wrong an_wrong : Option Addr} {sl_wrong : Array (Option Value)} {oc_wrong kV_wrong dc_wrong pm_wrong cd_wrong ct_wrong : Value}
    {od_too_much an_too_much : Option Addr} {sl_too_much : Array (Option Value)} {oc_too_much kV_too_much dc_too_much pm_too_much cd_too_much ct_too_much : Value}
    {od_said_now an_said_now : Option Addr} {sl_said_now : Array (Option Value)} {oc_said_now kV_said_now dc_said_now pm_said_now cd_said_now ct_said_now : Value}
    {od_falls an_falls : Option Addr} {sl_falls : Array (Option Value)} {oc_falls kV_falls dc_falls pm_falls cd_falls ct_falls : Value}
    {od_due an_due : Option Addr} {sl_due : Array (Option Value)} {oc_due kV_due dc_due pm_due cd_due ct_due : Value}
    {od_last_found an_last_found : Option Addr} {sl_last_found : Array (Option Value)} {oc_last_found kV_last_found dc_last_found pm_last_found cd_last_found ct_last_found : Value}
    {od_changes an_changes : Option Addr} {sl_changes : Array (Option Value)} {oc_changes kV_changes dc_changes pm_changes cd_changes ct_changes : Value}
    {od_state an_state : Option Addr} {sl_state : Array (Option Value)} {oc_state kV_state dc_state pm_state cd_state ct_state : Value}
    {od_behind_length an_behind_length : Option Addr} {sl_behind_length : Array (Option Value)} {oc_behind_length kV_behind_length dc_behind_length pm_behind_length cd_behind_length ct_behind_length : Value}
    {od_begins an_begins : Option Addr} {sl_begins : Array (Option Value)} {oc_begins kV_begins dc_begins pm_begins cd_begins ct_begins : Value}
    {od_is_let an_is_let : Option Addr} {sl_is_let : Array (Option Value)} {oc_is_let kV_is_let dc_is_let pm_is_let cd_is_let ct_is_let : Value}
    {od_days_go_by an_days_go_by : Option Addr} {sl_days_go_by : Array (Option Value)} {oc_days_go_by kV_days_go_by dc_days_go_by pm_days_go_by cd_days_go_by ct_days_go_by : Value}
    {od_found an_found : Option Addr} {sl_found : Array (Option Value)} {oc_found kV_found dc_found pm_found cd_found ct_found : Value}
    {od_mended an_mended : Option Addr} {sl_mended : Array (Option Value)} {oc_mended kV_mended dc_mended pm_mended cd_mended ct_mended : Value}
    {od_strike an_strike : Option Addr} {sl_strike : Array (Option Value)} {oc_strike kV_strike dc_strike pm_strike cd_strike ct_strike : Value}
    {od_right an_right : Option Addr} {sl_right : Array (Option Value)} {oc_right kV_right dc_right pm_right cd_right ct_right : Value}
    {od_is_struck an_is_struck : Option Addr} {sl_is_struck : Array (Option Value)} {oc_is_struck kV_is_struck dc_is_struck pm_is_struck cd_is_struck ct_is_struck : Value}
    {od_enter an_enter : Option Addr} {sl_enter : Array (Option Value)} {oc_enter kV_enter dc_enter pm_enter cd_enter ct_enter : Value}
    {od_post an_post : Option Addr} {sl_post : Array (Option Value)} {oc_post kV_post dc_post pm_post cd_post ct_post : Value}
    {od_answers an_answers : Option Addr} {sl_answers : Array (Option Value)} {oc_answers kV_answers dc_answers pm_answers cd_answers ct_answers : Value}
    {od_single_calls an_single_calls : Option Addr} {sl_single_calls : Array (Option Value)} {oc_single_calls kV_single_calls dc_single_calls pm_single_calls cd_single_calls ct_single_calls : Value}
    {od_answer_of an_answer_of : Option Addr} {sl_answer_of : Array (Option Value)} {oc_answer_of kV_answer_of dc_answer_of pm_answer_of cd_answer_of ct_answer_of : Value}
    {od_answer_of_writing an_answer_of_writing : Option Addr} {sl_answer_of_writing : Array (Option Value)} {oc_answer_of_writing kV_answer_of_writing dc_answer_of_writing pm_answer_of_writing cd_answer_of_writing ct_answer_of_writing : Value}
    {od_answer_of_reading an_answer_of_reading : Option Addr} {sl_answer_of_reading : Array (Option Value)} {oc_answer_of_reading kV_answer_of_reading dc_answer_of_reading pm_answer_of_reading cd_answer_of_reading ct_answer_of_reading : Value}
    {od_Part_init an_Part_init : Option Addr} {sl_Part_init : Array (Option Value)} {oc_Part_init kV_Part_init dc_Part_init pm_Part_init cd_Part_init ct_Part_init : Value}
    {od_Entry_init an_Entry_init : Option Addr} {sl_Entry_init : Array (Option Value)} {oc_Entry_init kV_Entry_init dc_Entry_init pm_Entry_init cd_Entry_init ct_Entry_init : Value}
    {od_Posting_init an_Posting_init : Option Addr} {sl_Posting_init : Array (Option Value)} {oc_Posting_init kV_Posting_init dc_Posting_init pm_Posting_init cd_Posting_init ct_Posting_init : Value}
    {od_Bridge_init an_Bridge_init : Option Addr} {sl_Bridge_init : Array (Option Value)} {oc_Bridge_init kV_Bridge_init dc_Bridge_init pm_Bridge_init cd_Bridge_init ct_Bridge_init : Value}
    {od_Bridge_begin an_Bridge_begin : Option Addr} {sl_Bridge_begin : Array (Option Value)} {oc_Bridge_begin kV_Bridge_begin dc_Bridge_begin pm_Bridge_begin cd_Bridge_begin ct_Bridge_begin : Value}
    {od_Statement_init an_Statement_init : Option Addr} {sl_Statement_init : Array (Option Value)} {oc_Statement_init kV_Statement_init dc_Statement_init pm_Statement_init cd_Statement_init ct_Statement_init : Value}
    {od_Standing_init an_Standing_init : Option Addr} {sl_Standing_init : Array (Option Value)} {oc_Standing_init kV_Standing_init dc_Standing_init pm_Standing_init cd_Standing_init ct_Standing_init : Value}
    (aC_Part : PySem.W.nsIn K mainGlobals "Part" = some (some (.ref cPart)))
    (pg_Part : PySem.W.plainGet K cPart Str.empty = true)
    (hd_Part : PySem.W.hasDictIn K cPart = true)
    (po_Part : PySem.W.plainOver K cPart = true)
    (sa_Part : PySem.W.findIn K (.ref cPart) "__setattr__" = some (some (.builtin "object.__setattr__")))
    (mk_Part : PySem.W.makesIn K cPart = true)
    (kc_Part : PySem.W.keepIn K (.ref cPart) = true)
    (n_Part_sound : PySem.W.findIn K (.ref cPart) "sound" = some none)
    (n_Part_cost : PySem.W.findIn K (.ref cPart) "cost" = some none)
    (n_Part_growth : PySem.W.findIn K (.ref cPart) "growth" = some none)
    (aC_Entry : PySem.W.nsIn K mainGlobals "Entry" = some (some (.ref cEntry)))
    (pg_Entry : PySem.W.plainGet K cEntry Str.empty = true)
    (hd_Entry : PySem.W.hasDictIn K cEntry = true)
    (po_Entry : PySem.W.plainOver K cEntry = true)
    (sa_Entry : PySem.W.findIn K (.ref cEntry) "__setattr__" = some (some (.builtin "object.__setattr__")))
    (mk_Entry : PySem.W.makesIn K cEntry = true)
    (kc_Entry : PySem.W.keepIn K (.ref cEntry) = true)
    (n_Entry_kind : PySem.W.findIn K (.ref cEntry) "kind" = some none)
    (n_Entry_about : PySem.W.findIn K (.ref cEntry) "about" = some none)
    (n_Entry_day : PySem.W.findIn K (.ref cEntry) "day" = some none)
    (n_Entry_crack : PySem.W.findIn K (.ref cEntry) "crack" = some none)
    (aC_Posting : PySem.W.nsIn K mainGlobals "Posting" = some (some (.ref cPosting)))
    (pg_Posting : PySem.W.plainGet K cPosting Str.empty = true)
    (hd_Posting : PySem.W.hasDictIn K cPosting = true)
    (po_Posting : PySem.W.plainOver K cPosting = true)
    (sa_Posting : PySem.W.findIn K (.ref cPosting) "__setattr__" = some (some (.builtin "object.__setattr__")))
    (mk_Posting : PySem.W.makesIn K cPosting = true)
    (kc_Posting : PySem.W.keepIn K (.ref cPosting) = true)
    (n_Posting_day : PySem.W.findIn K (.ref cPosting) "day" = some none)
    (n_Posting_made : PySem.W.findIn K (.ref cPosting) "made" = some none)
    (n_Posting_much : PySem.W.findIn K (.ref cPosting) "much" = some none)
    (aC_Bridge : PySem.W.nsIn K mainGlobals "Bridge" = some (some (.ref cBridge)))
    (pg_Bridge : PySem.W.plainGet K cBridge Str.empty = true)
    (hd_Bridge : PySem.W.hasDictIn K cBridge = true)
    (po_Bridge : PySem.W.plainOver K cBridge = true)
    (sa_Bridge : PySem.W.findIn K (.ref cBridge) "__setattr__" = some (some (.builtin "object.__setattr__")))
    (mk_Bridge : PySem.W.makesIn K cBridge = true)
    (kc_Bridge : PySem.W.keepIn K (.ref cBridge) = true)
    (n_Bridge_parts : PySem.W.findIn K (.ref cBridge) "parts" = some none)
    (n_Bridge_today : PySem.W.findIn K (.ref cBridge) "today" = some none)
    (n_Bridge_entries : PySem.W.findIn K (.ref cBridge) "entries" = some none)
    (n_Bridge_postings : PySem.W.findIn K (.ref cBridge) "postings" = some none)
    (aC_Statement : PySem.W.nsIn K mainGlobals "Statement" = some (some (.ref cStatement)))
    (pg_Statement : PySem.W.plainGet K cStatement Str.empty = true)
    (hd_Statement : PySem.W.hasDictIn K cStatement = true)
    (po_Statement : PySem.W.plainOver K cStatement = true)
    (sa_Statement : PySem.W.findIn K (.ref cStatement) "__setattr__" = some (some (.builtin "object.__setattr__")))
    (mk_Statement : PySem.W.makesIn K cStatement = true)
    (kc_Statement : PySem.W.keepIn K (.ref cStatement) = true)
    (n_Statement_number : PySem.W.findIn K (.ref cStatement) "number" = some none)
    (n_Statement_part : PySem.W.findIn K (.ref cStatement) "part" = some none)
    (n_Statement_day : PySem.W.findIn K (.ref cStatement) "day" = some none)
    (n_Statement_crack : PySem.W.findIn K (.ref cStatement) "crack" = some none)
    (aC_Standing : PySem.W.nsIn K mainGlobals "Standing" = some (some (.ref cStanding)))
    (pg_Standing : PySem.W.plainGet K cStanding Str.empty = true)
    (hd_Standing : PySem.W.hasDictIn K cStanding = true)
    (po_Standing : PySem.W.plainOver K cStanding = true)
    (sa_Standing : PySem.W.findIn K (.ref cStanding) "__setattr__" = some (some (.builtin "object.__setattr__")))
    (mk_Standing : PySem.W.makesIn K cStanding = true)
    (kc_Standing : PySem.W.keepIn K (.ref cStanding) = true)
    (n_Standing_source : PySem.W.findIn K (.ref cStanding) "source" = some none)
    (n_Standing_crack : PySem.W.findIn K (.ref cStanding) "crack" = some none)
    (n_Standing_bears : PySem.W.findIn K (.ref cStanding) "bears" = some none)
    (a_Part_init : PySem.W.findIn K (.ref cPart) "__init__" = some (some (.ref f_Part_init)))
    (i_Part_init : PySem.W.isFn K (.ref f_Part_init) = true)
    (a_Entry_init : PySem.W.findIn K (.ref cEntry) "__init__" = some (some (.ref f_Entry_init)))
    (i_Entry_init : PySem.W.isFn K (.ref f_Entry_init) = true)
    (a_Posting_init : PySem.W.findIn K (.ref cPosting) "__init__" = some (some (.ref f_Posting_init)))
    (i_Posting_init : PySem.W.isFn K (.ref f_Posting_init) = true)
    (a_Bridge_init : PySem.W.findIn K (.ref cBridge) "__init__" = some (some (.ref f_Bridge_init)))
    (i_Bridge_init : PySem.W.isFn K (.ref f_Bridge_init) = true)
    (a_Bridge_begin : PySem.W.findIn K (.ref cBridge) "begin" = some (some (.ref f_Bridge_begin)))
    (i_Bridge_begin : PySem.W.isFn K (.ref f_Bridge_begin) = true)
    (a_Statement_init : PySem.W.findIn K (.ref cStatement) "__init__" = some (some (.ref f_Statement_init)))
    (i_Statement_init : PySem.W.isFn K (.ref f_Statement_init) = true)
    (a_Standing_init : PySem.W.findIn K (.ref cStanding) "__init__" = some (some (.ref f_Standing_init)))
    (i_Standing_init : PySem.W.isFn K (.ref f_Standing_init) = true)
    (a_statements : PySem.W.nsIn K mainGlobals "statements" = some (some (.ref f_statements)))
    (a_put_right : PySem.W.nsIn K mainGlobals "put_right" = some (some (.ref f_put_right)))
    (a_sources_on : PySem.W.nsIn K mainGlobals "sources_on" = some (some (.ref f_sources_on)))
    (a_standings : PySem.W.nsIn K mainGlobals "standings" = some (some (.ref f_standings)))
    (a_standing : PySem.W.nsIn K mainGlobals "standing" = some (some (.ref f_standing)))
    (a_crack_on : PySem.W.nsIn K mainGlobals "crack_on" = some (some (.ref f_crack_on)))
    (a_grown : PySem.W.nsIn K mainGlobals "grown" = some (some (.ref f_grown)))
    (a_borne : PySem.W.nsIn K mainGlobals "borne" = some (some (.ref f_borne)))
    (a_limit_on : PySem.W.nsIn K mainGlobals "limit_on" = some (some (.ref f_limit_on)))
    (a_known : PySem.W.nsIn K mainGlobals "known" = some (some (.ref f_known)))
    (a_limit : PySem.W.nsIn K mainGlobals "limit" = some (some (.ref f_limit)))
    (a_standings_by : PySem.W.nsIn K mainGlobals "standings_by" = some (some (.ref f_standings_by)))
    (a_told_source : PySem.W.nsIn K mainGlobals "told_source" = some (some (.ref f_told_source)))
    (a_posted : PySem.W.nsIn K mainGlobals "posted" = some (some (.ref f_posted)))
    (a_posting_on : PySem.W.nsIn K mainGlobals "posting_on" = some (some (.ref f_posting_on)))
    (a_wrong : PySem.W.nsIn K mainGlobals "wrong" = some (some (.ref f_wrong)))
    (a_too_much : PySem.W.nsIn K mainGlobals "too_much" = some (some (.ref f_too_much)))
    (a_said_now : PySem.W.nsIn K mainGlobals "said_now" = some (some (.ref f_said_now)))
    (a_falls : PySem.W.nsIn K mainGlobals "falls" = some (some (.ref f_falls)))
    (a_due : PySem.W.nsIn K mainGlobals "due" = some (some (.ref f_due)))
    (a_last_found : PySem.W.nsIn K mainGlobals "last_found" = some (some (.ref f_last_found)))
    (a_changes : PySem.W.nsIn K mainGlobals "changes" = some (some (.ref f_changes)))
    (a_state : PySem.W.nsIn K mainGlobals "state" = some (some (.ref f_state)))
    (a_behind_length : PySem.W.nsIn K mainGlobals "behind_length" = some (some (.ref f_behind_length)))
    (a_begins : PySem.W.nsIn K mainGlobals "begins" = some (some (.ref f_begins)))
    (a_is_let : PySem.W.nsIn K mainGlobals "is_let" = some (some (.ref f_is_let)))
    (a_days_go_by : PySem.W.nsIn K mainGlobals "days_go_by" = some (some (.ref f_days_go_by)))
    (a_found : PySem.W.nsIn K mainGlobals "found" = some (some (.ref f_found)))
    (a_mended : PySem.W.nsIn K mainGlobals "mended" = some (some (.ref f_mended)))
    (a_strike : PySem.W.nsIn K mainGlobals "strike" = some (some (.ref f_strike)))
    (a_right : PySem.W.nsIn K mainGlobals "right" = some (some (.ref f_right)))
    (a_is_struck : PySem.W.nsIn K mainGlobals "is_struck" = some (some (.ref f_is_struck)))
    (a_enter : PySem.W.nsIn K mainGlobals "enter" = some (some (.ref f_enter)))
    (a_post : PySem.W.nsIn K mainGlobals "post" = some (some (.ref f_post)))
    (a_answers : PySem.W.nsIn K mainGlobals "answers" = some (some (.ref f_answers)))
    (a_single_calls : PySem.W.nsIn K mainGlobals "single_calls" = some (some (.ref f_single_calls)))
    (a_answer_of : PySem.W.nsIn K mainGlobals "answer_of" = some (some (.ref f_answer_of)))
    (a_answer_of_writing : PySem.W.nsIn K mainGlobals "answer_of_writing" = some (some (.ref f_answer_of_writing)))
    (a_answer_of_reading : PySem.W.nsIn K mainGlobals "answer_of_reading" = some (some (.ref f_answer_of_reading)))
    (l_statements : K.lookup f_statements = some ⟨oc_statements, od_statements, .func (PySem.W.fnOf "statements" "statements" (defArgs s_statements) (defBody s_statements) (defScope s_statements) .none kV_statements dc_statements pm_statements an_statements cd_statements ct_statements), sl_statements⟩)
    (cd_statementsh : PySem.W.codeIn K cd_statements "statements" = true)
    (k_statements : PySem.W.keepIn K (.ref f_statements) = true)
    (l_put_right : K.lookup f_put_right = some ⟨oc_put_right, od_put_right, .func (PySem.W.fnOf "put_right" "put_right" (defArgs s_put_right) (defBody s_put_right) (defScope s_put_right) .none kV_put_right dc_put_right pm_put_right an_put_right cd_put_right ct_put_right), sl_put_right⟩)
    (cd_put_righth : PySem.W.codeIn K cd_put_right "put_right" = true)
    (k_put_right : PySem.W.keepIn K (.ref f_put_right) = true)
    (l_sources_on : K.lookup f_sources_on = some ⟨oc_sources_on, od_sources_on, .func (PySem.W.fnOf "sources_on" "sources_on" (defArgs s_sources_on) (defBody s_sources_on) (defScope s_sources_on) .none kV_sources_on dc_sources_on pm_sources_on an_sources_on cd_sources_on ct_sources_on), sl_sources_on⟩)
    (cd_sources_onh : PySem.W.codeIn K cd_sources_on "sources_on" = true)
    (k_sources_on : PySem.W.keepIn K (.ref f_sources_on) = true)
    (l_standings : K.lookup f_standings = some ⟨oc_standings, od_standings, .func (PySem.W.fnOf "standings" "standings" (defArgs s_standings) (defBody s_standings) (defScope s_standings) .none kV_standings dc_standings pm_standings an_standings cd_standings ct_standings), sl_standings⟩)
    (cd_standingsh : PySem.W.codeIn K cd_standings "standings" = true)
    (k_standings : PySem.W.keepIn K (.ref f_standings) = true)
    (l_standing : K.lookup f_standing = some ⟨oc_standing, od_standing, .func (PySem.W.fnOf "standing" "standing" (defArgs s_standing) (defBody s_standing) (defScope s_standing) .none kV_standing dc_standing pm_standing an_standing cd_standing ct_standing), sl_standing⟩)
    (cd_standingh : PySem.W.codeIn K cd_standing "standing" = true)
    (k_standing : PySem.W.keepIn K (.ref f_standing) = true)
    (l_crack_on : K.lookup f_crack_on = some ⟨oc_crack_on, od_crack_on, .func (PySem.W.fnOf "crack_on" "crack_on" (defArgs s_crack_on) (defBody s_crack_on) (defScope s_crack_on) .none kV_crack_on dc_crack_on pm_crack_on an_crack_on cd_crack_on ct_crack_on), sl_crack_on⟩)
    (cd_crack_onh : PySem.W.codeIn K cd_crack_on "crack_on" = true)
    (k_crack_on : PySem.W.keepIn K (.ref f_crack_on) = true)
    (l_grown : K.lookup f_grown = some ⟨oc_grown, od_grown, .func (PySem.W.fnOf "grown" "grown" (defArgs s_grown) (defBody s_grown) (defScope s_grown) .none kV_grown dc_grown pm_grown an_grown cd_grown ct_grown), sl_grown⟩)
    (cd_grownh : PySem.W.codeIn K cd_grown "grown" = true)
    (k_grown : PySem.W.keepIn K (.ref f_grown) = true)
    (l_borne : K.lookup f_borne = some ⟨oc_borne, od_borne, .func (PySem.W.fnOf "borne" "borne" (defArgs s_borne) (defBody s_borne) (defScope s_borne) .none kV_borne dc_borne pm_borne an_borne cd_borne ct_borne), sl_borne⟩)
    (cd_borneh : PySem.W.codeIn K cd_borne "borne" = true)
    (k_borne : PySem.W.keepIn K (.ref f_borne) = true)
    (l_limit_on : K.lookup f_limit_on = some ⟨oc_limit_on, od_limit_on, .func (PySem.W.fnOf "limit_on" "limit_on" (defArgs s_limit_on) (defBody s_limit_on) (defScope s_limit_on) .none kV_limit_on dc_limit_on pm_limit_on an_limit_on cd_limit_on ct_limit_on), sl_limit_on⟩)
    (cd_limit_onh : PySem.W.codeIn K cd_limit_on "limit_on" = true)
    (k_limit_on : PySem.W.keepIn K (.ref f_limit_on) = true)
    (l_known : K.lookup f_known = some ⟨oc_known, od_known, .func (PySem.W.fnOf "known" "known" (defArgs s_known) (defBody s_known) (defScope s_known) .none kV_known dc_known pm_known an_known cd_known ct_known), sl_known⟩)
    (cd_knownh : PySem.W.codeIn K cd_known "known" = true)
    (k_known : PySem.W.keepIn K (.ref f_known) = true)
    (l_limit : K.lookup f_limit = some ⟨oc_limit, od_limit, .func (PySem.W.fnOf "limit" "limit" (defArgs s_limit) (defBody s_limit) (defScope s_limit) .none kV_limit dc_limit pm_limit an_limit cd_limit ct_limit), sl_limit⟩)
    (cd_limith : PySem.W.codeIn K cd_limit "limit" = true)
    (k_limit : PySem.W.keepIn K (.ref f_limit) = true)
    (l_standings_by : K.lookup f_standings_by = some ⟨oc_standings_by, od_standings_by, .func (PySem.W.fnOf "standings_by" "standings_by" (defArgs s_standings_by) (defBody s_standings_by) (defScope s_standings_by) .none kV_standings_by dc_standings_by pm_standings_by an_standings_by cd_standings_by ct_standings_by), sl_standings_by⟩)
    (cd_standings_byh : PySem.W.codeIn K cd_standings_by "standings_by" = true)
    (k_standings_by : PySem.W.keepIn K (.ref f_standings_by) = true)
    (l_told_source : K.lookup f_told_source = some ⟨oc_told_source, od_told_source, .func (PySem.W.fnOf "told_source" "told_source" (defArgs s_told_source) (defBody s_told_source) (defScope s_told_source) .none kV_told_source dc_told_source pm_told_source an_told_source cd_told_source ct_told_source), sl_told_source⟩)
    (cd_told_sourceh : PySem.W.codeIn K cd_told_source "told_source" = true)
    (k_told_source : PySem.W.keepIn K (.ref f_told_source) = true)
    (l_posted : K.lookup f_posted = some ⟨oc_posted, od_posted, .func (PySem.W.fnOf "posted" "posted" (defArgs s_posted) (defBody s_posted) (defScope s_posted) .none kV_posted dc_posted pm_posted an_posted cd_posted ct_posted), sl_posted⟩)
    (cd_postedh : PySem.W.codeIn K cd_posted "posted" = true)
    (k_posted : PySem.W.keepIn K (.ref f_posted) = true)
    (l_posting_on : K.lookup f_posting_on = some ⟨oc_posting_on, od_posting_on, .func (PySem.W.fnOf "posting_on" "posting_on" (defArgs s_posting_on) (defBody s_posting_on) (defScope s_posting_on) .none kV_posting_on dc_posting_on pm_posting_on an_posting_on cd_posting_on ct_posting_on), sl_posting_on⟩)
    (cd_posting_onh : PySem.W.codeIn K cd_posting_on "posting_on" = true)
    (k_posting_on : PySem.W.keepIn K (.ref f_posting_on) = true)
    (l_wrong : K.lookup f_wrong = some ⟨oc_wrong, od_wrong, .func (PySem.W.fnOf "wrong" "wrong" (defArgs s_wrong) (defBody s_wrong) (defScope s_wrong) .none kV_wrong dc_wrong pm_wrong an_wrong cd_wrong ct_wrong), sl_wrong⟩)
    (cd_wrongh : PySem.W.codeIn K cd_wrong "wrong" = true)
    (k_wrong : PySem.W.keepIn K (.ref f_wrong) = true)
    (l_too_much : K.lookup f_too_much = some ⟨oc_too_much, od_too_much, .func (PySem.W.fnOf "too_much" "too_much" (defArgs s_too_much) (defBody s_too_much) (defScope s_too_much) .none kV_too_much dc_too_much pm_too_much an_too_much cd_too_much ct_too_much), sl_too_much⟩)
    (cd_too_muchh : PySem.W.codeIn K cd_too_much "too_much" = true)
    (k_too_much : PySem.W.keepIn K (.ref f_too_much) = true)
    (l_said_now : K.lookup f_said_now = some ⟨oc_said_now, od_said_now, .func (PySem.W.fnOf "said_now" "said_now" (defArgs s_said_now) (defBody s_said_now) (defScope s_said_now) .none kV_said_now dc_said_now pm_said_now an_said_now cd_said_now ct_said_now), sl_said_now⟩)
    (cd_said_nowh : PySem.W.codeIn K cd_said_now "said_now" = true)
    (k_said_now : PySem.W.keepIn K (.ref f_said_now) = true)
    (l_falls : K.lookup f_falls = some ⟨oc_falls, od_falls, .func (PySem.W.fnOf "falls" "falls" (defArgs s_falls) (defBody s_falls) (defScope s_falls) .none kV_falls dc_falls pm_falls an_falls cd_falls ct_falls), sl_falls⟩)
    (cd_fallsh : PySem.W.codeIn K cd_falls "falls" = true)
    (k_falls : PySem.W.keepIn K (.ref f_falls) = true)
    (l_due : K.lookup f_due = some ⟨oc_due, od_due, .func (PySem.W.fnOf "due" "due" (defArgs s_due) (defBody s_due) (defScope s_due) .none kV_due dc_due pm_due an_due cd_due ct_due), sl_due⟩)
    (cd_dueh : PySem.W.codeIn K cd_due "due" = true)
    (k_due : PySem.W.keepIn K (.ref f_due) = true)
    (l_last_found : K.lookup f_last_found = some ⟨oc_last_found, od_last_found, .func (PySem.W.fnOf "last_found" "last_found" (defArgs s_last_found) (defBody s_last_found) (defScope s_last_found) .none kV_last_found dc_last_found pm_last_found an_last_found cd_last_found ct_last_found), sl_last_found⟩)
    (cd_last_foundh : PySem.W.codeIn K cd_last_found "last_found" = true)
    (k_last_found : PySem.W.keepIn K (.ref f_last_found) = true)
    (l_changes : K.lookup f_changes = some ⟨oc_changes, od_changes, .func (PySem.W.fnOf "changes" "changes" (defArgs s_changes) (defBody s_changes) (defScope s_changes) .none kV_changes dc_changes pm_changes an_changes cd_changes ct_changes), sl_changes⟩)
    (cd_changesh : PySem.W.codeIn K cd_changes "changes" = true)
    (k_changes : PySem.W.keepIn K (.ref f_changes) = true)
    (l_state : K.lookup f_state = some ⟨oc_state, od_state, .func (PySem.W.fnOf "state" "state" (defArgs s_state) (defBody s_state) (defScope s_state) .none kV_state dc_state pm_state an_state cd_state ct_state), sl_state⟩)
    (cd_stateh : PySem.W.codeIn K cd_state "state" = true)
    (k_state : PySem.W.keepIn K (.ref f_state) = true)
    (l_behind_length : K.lookup f_behind_length = some ⟨oc_behind_length, od_behind_length, .func (PySem.W.fnOf "behind_length" "behind_length" (defArgs s_behind_length) (defBody s_behind_length) (defScope s_behind_length) .none kV_behind_length dc_behind_length pm_behind_length an_behind_length cd_behind_length ct_behind_length), sl_behind_length⟩)
    (cd_behind_lengthh : PySem.W.codeIn K cd_behind_length "behind_length" = true)
    (k_behind_length : PySem.W.keepIn K (.ref f_behind_length) = true)
    (l_begins : K.lookup f_begins = some ⟨oc_begins, od_begins, .func (PySem.W.fnOf "begins" "begins" (defArgs s_begins) (defBody s_begins) (defScope s_begins) .none kV_begins dc_begins pm_begins an_begins cd_begins ct_begins), sl_begins⟩)
    (cd_beginsh : PySem.W.codeIn K cd_begins "begins" = true)
    (k_begins : PySem.W.keepIn K (.ref f_begins) = true)
    (l_is_let : K.lookup f_is_let = some ⟨oc_is_let, od_is_let, .func (PySem.W.fnOf "is_let" "is_let" (defArgs s_is_let) (defBody s_is_let) (defScope s_is_let) .none kV_is_let dc_is_let pm_is_let an_is_let cd_is_let ct_is_let), sl_is_let⟩)
    (cd_is_leth : PySem.W.codeIn K cd_is_let "is_let" = true)
    (k_is_let : PySem.W.keepIn K (.ref f_is_let) = true)
    (l_days_go_by : K.lookup f_days_go_by = some ⟨oc_days_go_by, od_days_go_by, .func (PySem.W.fnOf "days_go_by" "days_go_by" (defArgs s_days_go_by) (defBody s_days_go_by) (defScope s_days_go_by) .none kV_days_go_by dc_days_go_by pm_days_go_by an_days_go_by cd_days_go_by ct_days_go_by), sl_days_go_by⟩)
    (cd_days_go_byh : PySem.W.codeIn K cd_days_go_by "days_go_by" = true)
    (k_days_go_by : PySem.W.keepIn K (.ref f_days_go_by) = true)
    (l_found : K.lookup f_found = some ⟨oc_found, od_found, .func (PySem.W.fnOf "found" "found" (defArgs s_found) (defBody s_found) (defScope s_found) .none kV_found dc_found pm_found an_found cd_found ct_found), sl_found⟩)
    (cd_foundh : PySem.W.codeIn K cd_found "found" = true)
    (k_found : PySem.W.keepIn K (.ref f_found) = true)
    (l_mended : K.lookup f_mended = some ⟨oc_mended, od_mended, .func (PySem.W.fnOf "mended" "mended" (defArgs s_mended) (defBody s_mended) (defScope s_mended) .none kV_mended dc_mended pm_mended an_mended cd_mended ct_mended), sl_mended⟩)
    (cd_mendedh : PySem.W.codeIn K cd_mended "mended" = true)
    (k_mended : PySem.W.keepIn K (.ref f_mended) = true)
    (l_strike : K.lookup f_strike = some ⟨oc_strike, od_strike, .func (PySem.W.fnOf "strike" "strike" (defArgs s_strike) (defBody s_strike) (defScope s_strike) .none kV_strike dc_strike pm_strike an_strike cd_strike ct_strike), sl_strike⟩)
    (cd_strikeh : PySem.W.codeIn K cd_strike "strike" = true)
    (k_strike : PySem.W.keepIn K (.ref f_strike) = true)
    (l_right : K.lookup f_right = some ⟨oc_right, od_right, .func (PySem.W.fnOf "right" "right" (defArgs s_right) (defBody s_right) (defScope s_right) .none kV_right dc_right pm_right an_right cd_right ct_right), sl_right⟩)
    (cd_righth : PySem.W.codeIn K cd_right "right" = true)
    (k_right : PySem.W.keepIn K (.ref f_right) = true)
    (l_is_struck : K.lookup f_is_struck = some ⟨oc_is_struck, od_is_struck, .func (PySem.W.fnOf "is_struck" "is_struck" (defArgs s_is_struck) (defBody s_is_struck) (defScope s_is_struck) .none kV_is_struck dc_is_struck pm_is_struck an_is_struck cd_is_struck ct_is_struck), sl_is_struck⟩)
    (cd_is_struckh : PySem.W.codeIn K cd_is_struck "is_struck" = true)
    (k_is_struck : PySem.W.keepIn K (.ref f_is_struck) = true)
    (l_enter : K.lookup f_enter = some ⟨oc_enter, od_enter, .func (PySem.W.fnOf "enter" "enter" (defArgs s_enter) (defBody s_enter) (defScope s_enter) .none kV_enter dc_enter pm_enter an_enter cd_enter ct_enter), sl_enter⟩)
    (cd_enterh : PySem.W.codeIn K cd_enter "enter" = true)
    (k_enter : PySem.W.keepIn K (.ref f_enter) = true)
    (l_post : K.lookup f_post = some ⟨oc_post, od_post, .func (PySem.W.fnOf "post" "post" (defArgs s_post) (defBody s_post) (defScope s_post) .none kV_post dc_post pm_post an_post cd_post ct_post), sl_post⟩)
    (cd_posth : PySem.W.codeIn K cd_post "post" = true)
    (k_post : PySem.W.keepIn K (.ref f_post) = true)
    (l_answers : K.lookup f_answers = some ⟨oc_answers, od_answers, .func (PySem.W.fnOf "answers" "answers" (defArgs s_answers) (defBody s_answers) (defScope s_answers) .none kV_answers dc_answers pm_answers an_answers cd_answers ct_answers), sl_answers⟩)
    (cd_answersh : PySem.W.codeIn K cd_answers "answers" = true)
    (k_answers : PySem.W.keepIn K (.ref f_answers) = true)
    (l_single_calls : K.lookup f_single_calls = some ⟨oc_single_calls, od_single_calls, .func (PySem.W.fnOf "single_calls" "single_calls" (defArgs s_single_calls) (defBody s_single_calls) (defScope s_single_calls) .none kV_single_calls dc_single_calls pm_single_calls an_single_calls cd_single_calls ct_single_calls), sl_single_calls⟩)
    (cd_single_callsh : PySem.W.codeIn K cd_single_calls "single_calls" = true)
    (k_single_calls : PySem.W.keepIn K (.ref f_single_calls) = true)
    (l_answer_of : K.lookup f_answer_of = some ⟨oc_answer_of, od_answer_of, .func (PySem.W.fnOf "answer_of" "answer_of" (defArgs s_answer_of) (defBody s_answer_of) (defScope s_answer_of) .none kV_answer_of dc_answer_of pm_answer_of an_answer_of cd_answer_of ct_answer_of), sl_answer_of⟩)
    (cd_answer_ofh : PySem.W.codeIn K cd_answer_of "answer_of" = true)
    (k_answer_of : PySem.W.keepIn K (.ref f_answer_of) = true)
    (l_answer_of_writing : K.lookup f_answer_of_writing = some ⟨oc_answer_of_writing, od_answer_of_writing, .func (PySem.W.fnOf "answer_of_writing" "answer_of_writing" (defArgs s_answer_of_writing) (defBody s_answer_of_writing) (defScope s_answer_of_writing) .none kV_answer_of_writing dc_answer_of_writing pm_answer_of_writing an_answer_of_writing cd_answer_of_writing ct_answer_of_writing), sl_answer_of_writing⟩)
    (cd_answer_of_writingh : PySem.W.codeIn K cd_answer_of_writing "answer_of_writing" = true)
    (k_answer_of_writing : PySem.W.keepIn K (.ref f_answer_of_writing) = true)
    (l_answer_of_reading : K.lookup f_answer_of_reading = some ⟨oc_answer_of_reading, od_answer_of_reading, .func (PySem.W.fnOf "answer_of_reading" "answer_of_reading" (defArgs s_answer_of_reading) (defBody s_answer_of_reading) (defScope s_answer_of_reading) .none kV_answer_of_reading dc_answer_of_reading pm_answer_of_reading an_answer_of_reading cd_answer_of_reading ct_answer_of_reading), sl_answer_of_reading⟩)
    (cd_answer_of_readingh : PySem.W.codeIn K cd_answer_of_reading "answer_of_reading" = true)
    (k_answer_of_reading : PySem.W.keepIn K (.ref f_answer_of_reading) = true)
    (l_Part_init : K.lookup f_Part_init = some ⟨oc_Part_init, od_Part_init, .func (PySem.W.fnOf "__init__" "Part.__init__" (defArgs s_Part_init) (defBody s_Part_init) (defScope s_Part_init) .none kV_Part_init dc_Part_init pm_Part_init an_Part_init cd_Part_init ct_Part_init), sl_Part_init⟩)
    (cd_Part_inith : PySem.W.codeIn K cd_Part_init "Part.__init__" = true)
    (k_Part_init : PySem.W.keepIn K (.ref f_Part_init) = true)
    (l_Entry_init : K.lookup f_Entry_init = some ⟨oc_Entry_init, od_Entry_init, .func (PySem.W.fnOf "__init__" "Entry.__init__" (defArgs s_Entry_init) (defBody s_Entry_init) (defScope s_Entry_init) .none kV_Entry_init dc_Entry_init pm_Entry_init an_Entry_init cd_Entry_init ct_Entry_init), sl_Entry_init⟩)
    (cd_Entry_inith : PySem.W.codeIn K cd_Entry_init "Entry.__init__" = true)
    (k_Entry_init : PySem.W.keepIn K (.ref f_Entry_init) = true)
    (l_Posting_init : K.lookup f_Posting_init = some ⟨oc_Posting_init, od_Posting_init, .func (PySem.W.fnOf "__init__" "Posting.__init__" (defArgs s_Posting_init) (defBody s_Posting_init) (defScope s_Posting_init) .none kV_Posting_init dc_Posting_init pm_Posting_init an_Posting_init cd_Posting_init ct_Posting_init), sl_Posting_init⟩)
    (cd_Posting_inith : PySem.W.codeIn K cd_Posting_init "Posting.__init__" = true)
    (k_Posting_init : PySem.W.keepIn K (.ref f_Posting_init) = true)
    (l_Bridge_init : K.lookup f_Bridge_init = some ⟨oc_Bridge_init, od_Bridge_init, .func (PySem.W.fnOf "__init__" "Bridge.__init__" (defArgs s_Bridge_init) (defBody s_Bridge_init) (defScope s_Bridge_init) .none kV_Bridge_init dc_Bridge_init pm_Bridge_init an_Bridge_init cd_Bridge_init ct_Bridge_init), sl_Bridge_init⟩)
    (cd_Bridge_inith : PySem.W.codeIn K cd_Bridge_init "Bridge.__init__" = true)
    (k_Bridge_init : PySem.W.keepIn K (.ref f_Bridge_init) = true)
    (l_Bridge_begin : K.lookup f_Bridge_begin = some ⟨oc_Bridge_begin, od_Bridge_begin, .func (PySem.W.fnOf "begin" "Bridge.begin" (defArgs s_Bridge_begin) (defBody s_Bridge_begin) (defScope s_Bridge_begin) .none kV_Bridge_begin dc_Bridge_begin pm_Bridge_begin an_Bridge_begin cd_Bridge_begin ct_Bridge_begin), sl_Bridge_begin⟩)
    (cd_Bridge_beginh : PySem.W.codeIn K cd_Bridge_begin "Bridge.begin" = true)
    (k_Bridge_begin : PySem.W.keepIn K (.ref f_Bridge_begin) = true)
    (l_Statement_init : K.lookup f_Statement_init = some ⟨oc_Statement_init, od_Statement_init, .func (PySem.W.fnOf "__init__" "Statement.__init__" (defArgs s_Statement_init) (defBody s_Statement_init) (defScope s_Statement_init) .none kV_Statement_init dc_Statement_init pm_Statement_init an_Statement_init cd_Statement_init ct_Statement_init), sl_Statement_init⟩)
    (cd_Statement_inith : PySem.W.codeIn K cd_Statement_init "Statement.__init__" = true)
    (k_Statement_init : PySem.W.keepIn K (.ref f_Statement_init) = true)
    (l_Standing_init : K.lookup f_Standing_init = some ⟨oc_Standing_init, od_Standing_init, .func (PySem.W.fnOf "__init__" "Standing.__init__" (defArgs s_Standing_init) (defBody s_Standing_init) (defScope s_Standing_init) .none kV_Standing_init dc_Standing_init pm_Standing_init an_Standing_init cd_Standing_init ct_Standing_init), sl_Standing_init⟩)
    (cd_Standing_inith : PySem.W.codeIn K cd_Standing_init "Standing.__init__" = true)
    (k_Standing_init : PySem.W.keepIn K (.ref f_Standing_init) = true)
    (g_FOUND : PySem.W.nsIn K mainGlobals "FOUND" = some (some (.int (0) t_FOUND)))
    (g_MENDED : PySem.W.nsIn K mainGlobals "MENDED" = some (some (.int (1) t_MENDED)))
    (g_STRUCK : PySem.W.nsIn K mainGlobals "STRUCK" = some (some (.int (2) t_STRUCK)))
    (g_RIGHTED : PySem.W.nsIn K mainGlobals "RIGHTED" = some (some (.int (3) t_RIGHTED)))
    (g_LAST_DAY : PySem.W.nsIn K mainGlobals "LAST_DAY" = some (some (.int (100000) t_LAST_DAY)))
    (g_NOT_LET : PySem.W.nsIn K mainGlobals "NOT_LET" = some (some (.int (-1) t_NOT_LET)))
    (g_NOT_THERE : PySem.W.nsIn K mainGlobals "NOT_THERE" = some (some (.int (-2) t_NOT_THERE)))
    (g_CANT_BE : PySem.W.nsIn K mainGlobals "CANT_BE" = some (some (.int (-4) t_CANT_BE)))
    (g_TOO_MANY : PySem.W.nsIn K mainGlobals "TOO_MANY" = some (some (.int (-5) t_TOO_MANY)))
    (g_NOTHING : PySem.W.nsIn K mainGlobals "NOTHING" = some (some (.int (-6) t_NOTHING)))
    (g_MOST_DAYS_BEHIND : PySem.W.nsIn K mainGlobals "MOST_DAYS_BEHIND" = some (some (.int (500) t_MOST_DAYS_BEHIND)))
    (g_MOST_MUCH : PySem.W.nsIn K mainGlobals "MOST_MUCH" = some (some (.int (1000) t_MOST_MUCH)))
    (g_DAYS_LOOKED_AHEAD : PySem.W.nsIn K mainGlobals "DAYS_LOOKED_AHEAD" = some (some (.int (131072) t_DAYS_LOOKED_AHEAD)))
    (g_MOST_PARTS : PySem.W.nsIn K mainGlobals "MOST_PARTS" = some (some (.int (12) t_MOST_PARTS)))
    (g_MOST_SOUND : PySem.W.nsIn K mainGlobals "MOST_SOUND" = some (some (.int (1000) t_MOST_SOUND)))
    (g_MOST_COST : PySem.W.nsIn K mainGlobals "MOST_COST" = some (some (.int (100) t_MOST_COST)))
    (g_MOST_GROWTH : PySem.W.nsIn K mainGlobals "MOST_GROWTH" = some (some (.int (100) t_MOST_GROWTH)))
    (g_MOST_DAYS : PySem.W.nsIn K mainGlobals "MOST_DAYS" = some (some (.int (10000) t_MOST_DAYS)))
    (g_MOST_CRACK : PySem.W.nsIn K mainGlobals "MOST_CRACK" = some (some (.int (1000) t_MOST_CRACK)))
    (g_MOST_ENTRIES : PySem.W.nsIn K mainGlobals "MOST_ENTRIES" = some (some (.int (60) t_MOST_ENTRIES)))
    (g_MOST_POSTINGS : PySem.W.nsIn K mainGlobals "MOST_POSTINGS" = some (some (.int (60) t_MOST_POSTINGS)))
    (g_BEGINS : PySem.W.nsIn K mainGlobals "BEGINS" = some (some (.int (0) t_BEGINS)))
    (g_POST : PySem.W.nsIn K mainGlobals "POST" = some (some (.int (6) t_POST)))
    (g_HANDED : PySem.W.nsIn K mainGlobals "HANDED" = some (some (.ref tH)))
    (lH : K.lookup tH = some ⟨.type "tuple", odH, .seq #[.int 0 u0, .int 1 u1, .int 3 u2, .int 2 u3, .int 1 u4, .int 2 u5, .int 0 u6, .int 3 u7, .int 2 u8, .int 1 u9, .int 2 u10, .int 1 u11, .int 1 u12, .int 2 u13, .int 0 u14] nH, slH⟩)
    (b_len : PySem.W.nsIn K mainGlobals "len" = some none)
    (b_max : PySem.W.nsIn K mainGlobals "max" = some none)
    (b_min : PySem.W.nsIn K mainGlobals "min" = some none)
    (b_any : PySem.W.nsIn K mainGlobals "any" = some none)
    (b_all : PySem.W.nsIn K mainGlobals "all" = some none)
    (b_list : PySem.W.nsIn K mainGlobals "list" = some none)
    (b_enumerate : PySem.W.nsIn K mainGlobals "enumerate" = some none)
    (b_zip : PySem.W.nsIn K mainGlobals "zip" = some none)
    (b_range : PySem.W.nsIn K mainGlobals "range" = some none)
    : ∃ fd : FuncData, (∀ (s : Shared) (us : List Value), us.length = (["calls"] : List Str).length → BindsTo s fd ⟨us, []⟩ ((["calls"] : List Str).zip us)) ∧ ∀ base : Heap, K.In base → base.Ns mainGlobals mg → FnOk P w K mg base CX0 10 fa fd ["calls"] (spAns K) := by
  have e := hfa.symm.trans (PySem.W.mg_of X G a_answers)
  cases e
  let A : Ad := ⟨cPart, cEntry, cPosting, cBridge, cStatement, cStanding, tH⟩
  have T : Txt K mg A := {
    clPart := ⟨pg_Part, hd_Part, po_Part, sa_Part⟩
    clEntry := ⟨pg_Entry, hd_Entry, po_Entry, sa_Entry⟩
    clPosting := ⟨pg_Posting, hd_Posting, po_Posting, sa_Posting⟩
    clBridge := ⟨pg_Bridge, hd_Bridge, po_Bridge, sa_Bridge⟩
    clStatement := ⟨pg_Statement, hd_Statement, po_Statement, sa_Statement⟩
    clStanding := ⟨pg_Standing, hd_Standing, po_Standing, sa_Standing⟩
    nPart := fun f m => by
      simp only [List.mem_cons, List.not_mem_nil, or_false] at m
      rcases m with rfl | rfl | rfl
      · exact n_Part_sound
      · exact n_Part_cost
      · exact n_Part_growth
    nEntry := fun f m => by
      simp only [List.mem_cons, List.not_mem_nil, or_false] at m
      rcases m with rfl | rfl | rfl | rfl
      · exact n_Entry_kind
      · exact n_Entry_about
      · exact n_Entry_day
      · exact n_Entry_crack
    nPosting := fun f m => by
      simp only [List.mem_cons, List.not_mem_nil, or_false] at m
      rcases m with rfl | rfl | rfl
      · exact n_Posting_day
      · exact n_Posting_made
      · exact n_Posting_much
    nBridge := fun f m => by
      simp only [List.mem_cons, List.not_mem_nil, or_false] at m
      rcases m with rfl | rfl | rfl | rfl
      · exact n_Bridge_parts
      · exact n_Bridge_today
      · exact n_Bridge_entries
      · exact n_Bridge_postings
    nStatement := fun f m => by
      simp only [List.mem_cons, List.not_mem_nil, or_false] at m
      rcases m with rfl | rfl | rfl | rfl
      · exact n_Statement_number
      · exact n_Statement_part
      · exact n_Statement_day
      · exact n_Statement_crack
    nStanding := fun f m => by
      simp only [List.mem_cons, List.not_mem_nil, or_false] at m
      rcases m with rfl | rfl | rfl
      · exact n_Standing_source
      · exact n_Standing_crack
      · exact n_Standing_bears
    cPart := PySem.W.mg_of X G aC_Part
    cEntry := PySem.W.mg_of X G aC_Entry
    cPosting := PySem.W.mg_of X G aC_Posting
    cBridge := PySem.W.mg_of X G aC_Bridge
    cStatement := PySem.W.mg_of X G aC_Statement
    cStanding := PySem.W.mg_of X G aC_Standing
    gFOUND := ⟨_, PySem.W.mg_of X G g_FOUND⟩
    gMENDED := ⟨_, PySem.W.mg_of X G g_MENDED⟩
    gSTRUCK := ⟨_, PySem.W.mg_of X G g_STRUCK⟩
    gRIGHTED := ⟨_, PySem.W.mg_of X G g_RIGHTED⟩
    gLAST_DAY := ⟨_, PySem.W.mg_of X G g_LAST_DAY⟩
    gNOT_LET := ⟨_, PySem.W.mg_of X G g_NOT_LET⟩
    gNOT_THERE := ⟨_, PySem.W.mg_of X G g_NOT_THERE⟩
    gCANT_BE := ⟨_, PySem.W.mg_of X G g_CANT_BE⟩
    gTOO_MANY := ⟨_, PySem.W.mg_of X G g_TOO_MANY⟩
    gNOTHING := ⟨_, PySem.W.mg_of X G g_NOTHING⟩
    gMOST_DAYS_BEHIND := ⟨_, PySem.W.mg_of X G g_MOST_DAYS_BEHIND⟩
    gMOST_MUCH := ⟨_, PySem.W.mg_of X G g_MOST_MUCH⟩
    gDAYS_LOOKED_AHEAD := ⟨_, PySem.W.mg_of X G g_DAYS_LOOKED_AHEAD⟩
    gMOST_PARTS := ⟨_, PySem.W.mg_of X G g_MOST_PARTS⟩
    gMOST_SOUND := ⟨_, PySem.W.mg_of X G g_MOST_SOUND⟩
    gMOST_COST := ⟨_, PySem.W.mg_of X G g_MOST_COST⟩
    gMOST_GROWTH := ⟨_, PySem.W.mg_of X G g_MOST_GROWTH⟩
    gMOST_DAYS := ⟨_, PySem.W.mg_of X G g_MOST_DAYS⟩
    gMOST_CRACK := ⟨_, PySem.W.mg_of X G g_MOST_CRACK⟩
    gMOST_ENTRIES := ⟨_, PySem.W.mg_of X G g_MOST_ENTRIES⟩
    gMOST_POSTINGS := ⟨_, PySem.W.mg_of X G g_MOST_POSTINGS⟩
    gBEGINS := ⟨_, PySem.W.mg_of X G g_BEGINS⟩
    gPOST := ⟨_, PySem.W.mg_of X G g_POST⟩
    gHANDED := PySem.W.mg_of X G g_HANDED
    hanT := fun H => .inr ⟨_, _, _, lH, rfl, rfl, by show 15 ≤ sizeLine; decide, .cons ⟨_, rfl⟩ (.cons ⟨_, rfl⟩ (.cons ⟨_, rfl⟩ (.cons ⟨_, rfl⟩ (.cons ⟨_, rfl⟩ (.cons ⟨_, rfl⟩ (.cons ⟨_, rfl⟩ (.cons ⟨_, rfl⟩ (.cons ⟨_, rfl⟩ (.cons ⟨_, rfl⟩ (.cons ⟨_, rfl⟩ (.cons ⟨_, rfl⟩ (.cons ⟨_, rfl⟩ (.cons ⟨_, rfl⟩ (.cons ⟨_, rfl⟩ (.nil)))))))))))))))⟩
    blen := PySem.W.mg_none_of X G b_len
    bmax := PySem.W.mg_none_of X G b_max
    bmin := PySem.W.mg_none_of X G b_min
    bany := PySem.W.mg_none_of X G b_any
    ball := PySem.W.mg_none_of X G b_all
    blist := PySem.W.mg_none_of X G b_list
    benumerate := PySem.W.mg_none_of X G b_enumerate
    bzip := PySem.W.mg_none_of X G b_zip
    brange := PySem.W.mg_none_of X G b_range }
  have F_statements := fun_mk (st := s_statements) l_statements cd_statementsh k_statements
  have b_statementsB := F_statements.binds (ps := ["entries", "n"]) fun _ _ _ _ _ _ us hl => by obtain ⟨z0, z1, rfl⟩ := len2 hl; rfl
  have F_put_right := fun_mk (st := s_put_right) l_put_right cd_put_righth k_put_right
  have b_put_rightB := F_put_right.binds (ps := ["statement", "crack"]) fun _ _ _ _ _ _ us hl => by obtain ⟨z0, z1, rfl⟩ := len2 hl; rfl
  have F_sources_on := fun_mk (st := s_sources_on) l_sources_on cd_sources_onh k_sources_on
  have b_sources_onB := F_sources_on.binds (ps := ["said", "count", "day"]) fun _ _ _ _ _ _ us hl => by obtain ⟨z0, z1, z2, rfl⟩ := len3 hl; rfl
  have F_standings := fun_mk (st := s_standings) l_standings cd_standingsh k_standings
  have b_standingsB := F_standings.binds (ps := ["parts", "said", "day"]) fun _ _ _ _ _ _ us hl => by obtain ⟨z0, z1, z2, rfl⟩ := len3 hl; rfl
  have F_standing := fun_mk (st := s_standing) l_standing cd_standingh k_standing
  have b_standingB := F_standing.binds (ps := ["part", "source", "day"]) fun _ _ _ _ _ _ us hl => by obtain ⟨z0, z1, z2, rfl⟩ := len3 hl; rfl
  have F_crack_on := fun_mk (st := s_crack_on) l_crack_on cd_crack_onh k_crack_on
  have b_crack_onB := F_crack_on.binds (ps := ["part", "source", "day"]) fun _ _ _ _ _ _ us hl => by obtain ⟨z0, z1, z2, rfl⟩ := len3 hl; rfl
  have F_grown := fun_mk (st := s_grown) l_grown cd_grownh k_grown
  have b_grownB := F_grown.binds (ps := ["part", "days"]) fun _ _ _ _ _ _ us hl => by obtain ⟨z0, z1, rfl⟩ := len2 hl; rfl
  have F_borne := fun_mk (st := s_borne) l_borne cd_borneh k_borne
  have b_borneB := F_borne.binds (ps := ["part", "crack"]) fun _ _ _ _ _ _ us hl => by obtain ⟨z0, z1, rfl⟩ := len2 hl; rfl
  have F_limit_on := fun_mk (st := s_limit_on) l_limit_on cd_limit_onh k_limit_on
  have b_limit_onB := F_limit_on.binds (ps := ["parts", "said", "day"]) fun _ _ _ _ _ _ us hl => by obtain ⟨z0, z1, z2, rfl⟩ := len3 hl; rfl
  have F_known := fun_mk (st := s_known) l_known cd_knownh k_known
  have b_knownB := F_known.binds (ps := ["bridge", "part", "day", "n"]) fun _ _ _ _ _ _ us hl => by obtain ⟨z0, z1, z2, z3, rfl⟩ := len4 hl; rfl
  have F_limit := fun_mk (st := s_limit) l_limit cd_limith k_limit
  have b_limitB := F_limit.binds (ps := ["bridge", "day", "n"]) fun _ _ _ _ _ _ us hl => by obtain ⟨z0, z1, z2, rfl⟩ := len3 hl; rfl
  have F_standings_by := fun_mk (st := s_standings_by) l_standings_by cd_standings_byh k_standings_by
  have b_standings_byB := F_standings_by.binds (ps := ["bridge", "day", "n"]) fun _ _ _ _ _ _ us hl => by obtain ⟨z0, z1, z2, rfl⟩ := len3 hl; rfl
  have F_told_source := fun_mk (st := s_told_source) l_told_source cd_told_sourceh k_told_source
  have b_told_sourceB := F_told_source.binds (ps := ["source"]) fun _ _ _ _ _ _ us hl => by obtain ⟨z0, rfl⟩ := len1 hl; rfl
  have F_posted := fun_mk (st := s_posted) l_posted cd_postedh k_posted
  have b_postedB := F_posted.binds (ps := ["bridge", "day"]) fun _ _ _ _ _ _ us hl => by obtain ⟨z0, z1, rfl⟩ := len2 hl; rfl
  have F_posting_on := fun_mk (st := s_posting_on) l_posting_on cd_posting_onh k_posting_on
  have b_posting_onB := F_posting_on.binds (ps := ["postings", "day"]) fun _ _ _ _ _ _ us hl => by obtain ⟨z0, z1, rfl⟩ := len2 hl; rfl
  have F_wrong := fun_mk (st := s_wrong) l_wrong cd_wrongh k_wrong
  have b_wrongB := F_wrong.binds (ps := ["bridge", "first", "last"]) fun _ _ _ _ _ _ us hl => by obtain ⟨z0, z1, z2, rfl⟩ := len3 hl; rfl
  have F_too_much := fun_mk (st := s_too_much) l_too_much cd_too_muchh k_too_much
  have b_too_muchB := F_too_much.binds (ps := ["bridge", "said", "day"]) fun _ _ _ _ _ _ us hl => by obtain ⟨z0, z1, z2, rfl⟩ := len3 hl; rfl
  have F_said_now := fun_mk (st := s_said_now) l_said_now cd_said_nowh k_said_now
  have b_said_nowB := F_said_now.binds (ps := ["bridge"]) fun _ _ _ _ _ _ us hl => by obtain ⟨z0, rfl⟩ := len1 hl; rfl
  have F_falls := fun_mk (st := s_falls) l_falls cd_fallsh k_falls
  have b_fallsB := F_falls.binds (ps := ["bridge", "much"]) fun _ _ _ _ _ _ us hl => by obtain ⟨z0, z1, rfl⟩ := len2 hl; rfl
  have F_due := fun_mk (st := s_due) l_due cd_dueh k_due
  have b_dueB := F_due.binds (ps := ["bridge", "days"]) fun _ _ _ _ _ _ us hl => by obtain ⟨z0, z1, rfl⟩ := len2 hl; rfl
  have F_last_found := fun_mk (st := s_last_found) l_last_found cd_last_foundh k_last_found
  have b_last_foundB := F_last_found.binds (ps := ["bridge"]) fun _ _ _ _ _ _ us hl => by obtain ⟨z0, rfl⟩ := len1 hl; rfl
  have F_changes := fun_mk (st := s_changes) l_changes cd_changesh k_changes
  have b_changesB := F_changes.binds (ps := ["bridge", "part", "day"]) fun _ _ _ _ _ _ us hl => by obtain ⟨z0, z1, z2, rfl⟩ := len3 hl; rfl
  have F_state := fun_mk (st := s_state) l_state cd_stateh k_state
  have b_stateB := F_state.binds (ps := ["bridge"]) fun _ _ _ _ _ _ us hl => by obtain ⟨z0, rfl⟩ := len1 hl; rfl
  have F_behind_length := fun_mk (st := s_behind_length) l_behind_length cd_behind_lengthh k_behind_length
  have b_behind_lengthB := F_behind_length.binds (ps := ["numbers"]) fun _ _ _ _ _ _ us hl => by obtain ⟨z0, rfl⟩ := len1 hl; rfl
  have F_begins := fun_mk (st := s_begins) l_begins cd_beginsh k_begins
  have b_beginsB := F_begins.binds (ps := ["bridge", "numbers"]) fun _ _ _ _ _ _ us hl => by obtain ⟨z0, z1, rfl⟩ := len2 hl; rfl
  have F_is_let := fun_mk (st := s_is_let) l_is_let cd_is_leth k_is_let
  have b_is_letB := F_is_let.binds (ps := ["part"]) fun _ _ _ _ _ _ us hl => by obtain ⟨z0, rfl⟩ := len1 hl; rfl
  have F_days_go_by := fun_mk (st := s_days_go_by) l_days_go_by cd_days_go_byh k_days_go_by
  have b_days_go_byB := F_days_go_by.binds (ps := ["bridge", "days"]) fun _ _ _ _ _ _ us hl => by obtain ⟨z0, z1, rfl⟩ := len2 hl; rfl
  have F_found := fun_mk (st := s_found) l_found cd_foundh k_found
  have b_foundB := F_found.binds (ps := ["bridge", "part", "day", "crack"]) fun _ _ _ _ _ _ us hl => by obtain ⟨z0, z1, z2, z3, rfl⟩ := len4 hl; rfl
  have F_mended := fun_mk (st := s_mended) l_mended cd_mendedh k_mended
  have b_mendedB := F_mended.binds (ps := ["bridge", "part", "day"]) fun _ _ _ _ _ _ us hl => by obtain ⟨z0, z1, z2, rfl⟩ := len3 hl; rfl
  have F_strike := fun_mk (st := s_strike) l_strike cd_strikeh k_strike
  have b_strikeB := F_strike.binds (ps := ["bridge", "number"]) fun _ _ _ _ _ _ us hl => by obtain ⟨z0, z1, rfl⟩ := len2 hl; rfl
  have F_right := fun_mk (st := s_right) l_right cd_righth k_right
  have b_rightB := F_right.binds (ps := ["bridge", "number", "crack"]) fun _ _ _ _ _ _ us hl => by obtain ⟨z0, z1, z2, rfl⟩ := len3 hl; rfl
  have F_is_struck := fun_mk (st := s_is_struck) l_is_struck cd_is_struckh k_is_struck
  have b_is_struckB := F_is_struck.binds (ps := ["entries", "number"]) fun _ _ _ _ _ _ us hl => by obtain ⟨z0, z1, rfl⟩ := len2 hl; rfl
  have F_enter := fun_mk (st := s_enter) l_enter cd_enterh k_enter
  have b_enterB := F_enter.binds (ps := ["bridge", "entry"]) fun _ _ _ _ _ _ us hl => by obtain ⟨z0, z1, rfl⟩ := len2 hl; rfl
  have F_post := fun_mk (st := s_post) l_post cd_posth k_post
  have b_postB := F_post.binds (ps := ["bridge"]) fun _ _ _ _ _ _ us hl => by obtain ⟨z0, rfl⟩ := len1 hl; rfl
  have F_answers := fun_mk (st := s_answers) l_answers cd_answersh k_answers
  have b_answersB := F_answers.binds (ps := ["calls"]) fun _ _ _ _ _ _ us hl => by obtain ⟨z0, rfl⟩ := len1 hl; rfl
  have F_single_calls := fun_mk (st := s_single_calls) l_single_calls cd_single_callsh k_single_calls
  have b_single_callsB := F_single_calls.binds (ps := ["calls"]) fun _ _ _ _ _ _ us hl => by obtain ⟨z0, rfl⟩ := len1 hl; rfl
  have F_answer_of := fun_mk (st := s_answer_of) l_answer_of cd_answer_ofh k_answer_of
  have b_answer_ofB := F_answer_of.binds (ps := ["bridge", "call", "handed"]) fun _ _ _ _ _ _ us hl => by obtain ⟨z0, z1, z2, rfl⟩ := len3 hl; rfl
  have F_answer_of_writing := fun_mk (st := s_answer_of_writing) l_answer_of_writing cd_answer_of_writingh k_answer_of_writing
  have b_answer_of_writingB := F_answer_of_writing.binds (ps := ["bridge", "call", "handed"]) fun _ _ _ _ _ _ us hl => by obtain ⟨z0, z1, z2, rfl⟩ := len3 hl; rfl
  have F_answer_of_reading := fun_mk (st := s_answer_of_reading) l_answer_of_reading cd_answer_of_readingh k_answer_of_reading
  have b_answer_of_readingB := F_answer_of_reading.binds (ps := ["bridge", "call", "handed"]) fun _ _ _ _ _ _ us hl => by obtain ⟨z0, z1, z2, rfl⟩ := len3 hl; rfl
  have F_Part_init := fun_mk (st := s_Part_init) l_Part_init cd_Part_inith k_Part_init
  have b_Part_initB := F_Part_init.binds (ps := ["self", "sound", "cost", "growth"]) fun _ _ _ _ _ _ us hl => by obtain ⟨z0, z1, z2, z3, rfl⟩ := len4 hl; rfl
  have F_Entry_init := fun_mk (st := s_Entry_init) l_Entry_init cd_Entry_inith k_Entry_init
  have b_Entry_initB := F_Entry_init.binds (ps := ["self", "kind", "about", "day", "crack"]) fun _ _ _ _ _ _ us hl => by obtain ⟨z0, z1, z2, z3, z4, rfl⟩ := len5 hl; rfl
  have F_Posting_init := fun_mk (st := s_Posting_init) l_Posting_init cd_Posting_inith k_Posting_init
  have b_Posting_initB := F_Posting_init.binds (ps := ["self", "day", "made", "much"]) fun _ _ _ _ _ _ us hl => by obtain ⟨z0, z1, z2, z3, rfl⟩ := len4 hl; rfl
  have F_Bridge_init := fun_mk (st := s_Bridge_init) l_Bridge_init cd_Bridge_inith k_Bridge_init
  have b_Bridge_initB := F_Bridge_init.binds (ps := ["self"]) fun _ _ _ _ _ _ us hl => by obtain ⟨z0, rfl⟩ := len1 hl; rfl
  have F_Bridge_begin := fun_mk (st := s_Bridge_begin) l_Bridge_begin cd_Bridge_beginh k_Bridge_begin
  have b_Bridge_beginB := F_Bridge_begin.binds (ps := ["self", "parts"]) fun _ _ _ _ _ _ us hl => by obtain ⟨z0, z1, rfl⟩ := len2 hl; rfl
  have F_Statement_init := fun_mk (st := s_Statement_init) l_Statement_init cd_Statement_inith k_Statement_init
  have b_Statement_initB := F_Statement_init.binds (ps := ["self", "number", "part", "day", "crack"]) fun _ _ _ _ _ _ us hl => by obtain ⟨z0, z1, z2, z3, z4, rfl⟩ := len5 hl; rfl
  have F_Standing_init := fun_mk (st := s_Standing_init) l_Standing_init cd_Standing_inith k_Standing_init
  have b_Standing_initB := F_Standing_init.binds (ps := ["self", "source", "crack", "bears"]) fun _ _ _ _ _ _ us hl => by obtain ⟨z0, z1, z2, z3, rfl⟩ := len4 hl; rfl
  have m_statements := PySem.W.mg_of X G a_statements
  have m_put_right := PySem.W.mg_of X G a_put_right
  have m_sources_on := PySem.W.mg_of X G a_sources_on
  have m_standings := PySem.W.mg_of X G a_standings
  have m_standing := PySem.W.mg_of X G a_standing
  have m_crack_on := PySem.W.mg_of X G a_crack_on
  have m_grown := PySem.W.mg_of X G a_grown
  have m_borne := PySem.W.mg_of X G a_borne
  have m_limit_on := PySem.W.mg_of X G a_limit_on
  have m_known := PySem.W.mg_of X G a_known
  have m_limit := PySem.W.mg_of X G a_limit
  have m_standings_by := PySem.W.mg_of X G a_standings_by
  have m_told_source := PySem.W.mg_of X G a_told_source
  have m_posted := PySem.W.mg_of X G a_posted
  have m_posting_on := PySem.W.mg_of X G a_posting_on
  have m_wrong := PySem.W.mg_of X G a_wrong
  have m_too_much := PySem.W.mg_of X G a_too_much
  have m_said_now := PySem.W.mg_of X G a_said_now
  have m_falls := PySem.W.mg_of X G a_falls
  have m_due := PySem.W.mg_of X G a_due
  have m_last_found := PySem.W.mg_of X G a_last_found
  have m_changes := PySem.W.mg_of X G a_changes
  have m_state := PySem.W.mg_of X G a_state
  have m_behind_length := PySem.W.mg_of X G a_behind_length
  have m_begins := PySem.W.mg_of X G a_begins
  have m_is_let := PySem.W.mg_of X G a_is_let
  have m_days_go_by := PySem.W.mg_of X G a_days_go_by
  have m_found := PySem.W.mg_of X G a_found
  have m_mended := PySem.W.mg_of X G a_mended
  have m_strike := PySem.W.mg_of X G a_strike
  have m_right := PySem.W.mg_of X G a_right
  have m_is_struck := PySem.W.mg_of X G a_is_struck
  have m_enter := PySem.W.mg_of X G a_enter
  have m_post := PySem.W.mg_of X G a_post
  have m_answers := PySem.W.mg_of X G a_answers
  have m_single_calls := PySem.W.mg_of X G a_single_calls
  have m_answer_of := PySem.W.mg_of X G a_answer_of
  have m_answer_of_writing := PySem.W.mg_of X G a_answer_of_writing
  have m_answer_of_reading := PySem.W.mg_of X G a_answer_of_reading
  refine ⟨PySem.W.fnOf "answers" "answers" (defArgs s_answers) (defBody s_answers) (defScope s_answers) .none kV_answers dc_answers pm_answers an_answers cd_answers ct_answers, fun s us hu => by obtain ⟨z0, rfl⟩ := len1 hu; exact .of_eq rfl, fun base _ _ => ?_⟩
  have I_Part : CalC P w K mg base 1 A.cPart ["self", "sound", "cost", "growth"] (spIni A.cPart ["sound", "cost", "growth"]) := ⟨_, _, ok_Part_init F_Part_init T, ⟨mk_Part, a_Part_init, i_Part_init, kc_Part⟩, b_Part_initB⟩
  have I_Entry : CalC P w K mg base 1 A.cEntry ["self", "kind", "about", "day", "crack"] (spIni A.cEntry ["kind", "about", "day", "crack"]) := ⟨_, _, ok_Entry_init F_Entry_init T, ⟨mk_Entry, a_Entry_init, i_Entry_init, kc_Entry⟩, b_Entry_initB⟩
  have I_Posting : CalC P w K mg base 1 A.cPosting ["self", "day", "made", "much"] (spIni A.cPosting ["day", "made", "much"]) := ⟨_, _, ok_Posting_init F_Posting_init T, ⟨mk_Posting, a_Posting_init, i_Posting_init, kc_Posting⟩, b_Posting_initB⟩
  have I_Statement : CalC P w K mg base 1 A.cStatement ["self", "number", "part", "day", "crack"] (spIni A.cStatement ["number", "part", "day", "crack"]) := ⟨_, _, ok_Statement_init F_Statement_init T, ⟨mk_Statement, a_Statement_init, i_Statement_init, kc_Statement⟩, b_Statement_initB⟩
  have I_Standing : CalC P w K mg base 1 A.cStanding ["self", "source", "crack", "bears"] (spIni A.cStanding ["source", "crack", "bears"]) := ⟨_, _, ok_Standing_init F_Standing_init T, ⟨mk_Standing, a_Standing_init, i_Standing_init, kc_Standing⟩, b_Standing_initB⟩
  have Gbegin : FnOk P w K mg base CX0 1 f_Bridge_begin _ ["self", "parts"] (spBegin A) := ok_Bridge_begin F_Bridge_begin T
  have meBegin : Meth K A.cBridge "begin" f_Bridge_begin := ⟨a_Bridge_begin, i_Bridge_begin, k_Bridge_begin⟩
  have I_Bridge : CalC P w K mg base 3 A.cBridge ["self"] (spBInit A K) := ⟨_, _, ok_Bridge_init F_Bridge_init T Gbegin meBegin b_Bridge_beginB I_Part, ⟨mk_Bridge, a_Bridge_init, i_Bridge_init, kc_Bridge⟩, b_Bridge_initB⟩
  have C_grown : Cal P w K mg base 1 "grown" ["part", "days"] (spGrown K) := ⟨_, _, ok_grown F_grown T , m_grown, k_grown, b_grownB⟩
  have C_borne : Cal P w K mg base 1 "borne" ["part", "crack"] (spBorne K) := ⟨_, _, ok_borne F_borne T , m_borne, k_borne, b_borneB⟩
  have C_crack_on : Cal P w K mg base 2 "crack_on" ["part", "source", "day"] (spCrackOn K) := ⟨_, _, ok_crack_on F_crack_on T C_grown, m_crack_on, k_crack_on, b_crack_onB⟩
  have C_standing : Cal P w K mg base 3 "standing" ["part", "source", "day"] (spStanding K) := ⟨_, _, ok_standing F_standing T C_crack_on C_borne I_Standing, m_standing, k_standing, b_standingB⟩
  have C_put_right : Cal P w K mg base 3 "put_right" ["statement", "crack"] (spPutRight K) := ⟨_, _, ok_put_right F_put_right T I_Statement, m_put_right, k_put_right, b_put_rightB⟩
  have C_statements : Cal P w K mg base 4 "statements" ["entries", "n"] (spStatements K) := ⟨_, _, ok_statements F_statements T C_put_right I_Statement, m_statements, k_statements, b_statementsB⟩
  have C_sources_on : Cal P w K mg base 1 "sources_on" ["said", "count", "day"] (spSources K) := ⟨_, _, ok_sources_on F_sources_on T , m_sources_on, k_sources_on, b_sources_onB⟩
  have C_standings : Cal P w K mg base 4 "standings" ["parts", "said", "day"] (spStandings K) := ⟨_, _, ok_standings F_standings T C_sources_on C_standing, m_standings, k_standings, b_standingsB⟩
  have C_limit_on : Cal P w K mg base 5 "limit_on" ["parts", "said", "day"] (spLimitOn K) := ⟨_, _, ok_limit_on F_limit_on T C_standings, m_limit_on, k_limit_on, b_limit_onB⟩
  have C_told_source : Cal P w K mg base 1 "told_source" ["source"] (spToldSource K) := ⟨_, _, ok_told_source F_told_source T , m_told_source, k_told_source, b_told_sourceB⟩
  have C_behind_length : Cal P w K mg base 1 "behind_length" ["numbers"] (spBehind) := ⟨_, _, ok_behind_length F_behind_length T , m_behind_length, k_behind_length, b_behind_lengthB⟩
  have C_standings_by : Cal P w K mg base 5 "standings_by" ["bridge", "day", "n"] (spStandingsBy A K) := ⟨_, _, ok_standings_by F_standings_by T C_standings C_statements, m_standings_by, k_standings_by, b_standings_byB⟩
  have C_said_now : Cal P w K mg base 5 "said_now" ["bridge"] (spSaidNow A K) := ⟨_, _, ok_said_now F_said_now T C_statements, m_said_now, k_said_now, b_said_nowB⟩
  have C_known : Cal P w K mg base 6 "known" ["bridge", "part", "day", "n"] (spKnown A K) := ⟨_, _, ok_known F_known T C_standings_by C_told_source, m_known, k_known, b_knownB⟩
  have C_limit : Cal P w K mg base 6 "limit" ["bridge", "day", "n"] (spLimit A K) := ⟨_, _, ok_limit F_limit T C_standings_by C_told_source, m_limit, k_limit, b_limitB⟩
  have C_posting_on : Cal P w K mg base 1 "posting_on" ["postings", "day"] (spPostingOn K) := ⟨_, _, ok_posting_on F_posting_on T , m_posting_on, k_posting_on, b_posting_onB⟩
  have C_too_much : Cal P w K mg base 6 "too_much" ["bridge", "said", "day"] (spTooMuch A K) := ⟨_, _, ok_too_much F_too_much T C_posting_on C_limit_on, m_too_much, k_too_much, b_too_muchB⟩
  have C_posted : Cal P w K mg base 2 "posted" ["bridge", "day"] (spPosted A K) := ⟨_, _, ok_posted F_posted T C_posting_on, m_posted, k_posted, b_postedB⟩
  have C_wrong : Cal P w K mg base 7 "wrong" ["bridge", "first", "last"] (spWrong A K) := ⟨_, _, ok_wrong F_wrong T C_said_now C_too_much, m_wrong, k_wrong, b_wrongB⟩
  have C_falls : Cal P w K mg base 6 "falls" ["bridge", "much"] (spFalls A K) := ⟨_, _, ok_falls F_falls T C_said_now C_limit_on, m_falls, k_falls, b_fallsB⟩
  have C_last_found : Cal P w K mg base 6 "last_found" ["bridge"] (spLastFound A K) := ⟨_, _, ok_last_found F_last_found T C_said_now, m_last_found, k_last_found, b_last_foundB⟩
  have C_due : Cal P w K mg base 7 "due" ["bridge", "days"] (spDue A K) := ⟨_, _, ok_due F_due T C_last_found C_behind_length, m_due, k_due, b_dueB⟩
  have C_changes : Cal P w K mg base 6 "changes" ["bridge", "part", "day"] (spChanges A K) := ⟨_, _, ok_changes F_changes T C_standings_by C_behind_length, m_changes, k_changes, b_changesB⟩
  have C_state : Cal P w K mg base 2 "state" ["bridge"] (spState A K) := ⟨_, _, ok_state F_state T C_behind_length, m_state, k_state, b_stateB⟩
  have C_enter : Cal P w K mg base 1 "enter" ["bridge", "entry"] (spEnter A K) := ⟨_, _, ok_enter F_enter T , m_enter, k_enter, b_enterB⟩
  have C_is_struck : Cal P w K mg base 1 "is_struck" ["entries", "number"] (spIsStruck K) := ⟨_, _, ok_is_struck F_is_struck T , m_is_struck, k_is_struck, b_is_struckB⟩
  have C_found : Cal P w K mg base 3 "found" ["bridge", "part", "day", "crack"] (spFound A K) := ⟨_, _, ok_found F_found T C_enter I_Entry, m_found, k_found, b_foundB⟩
  have C_mended : Cal P w K mg base 3 "mended" ["bridge", "part", "day"] (spMended A K) := ⟨_, _, ok_mended F_mended T C_enter I_Entry, m_mended, k_mended, b_mendedB⟩
  have C_strike : Cal P w K mg base 3 "strike" ["bridge", "number"] (spStrike A K) := ⟨_, _, ok_strike F_strike T C_enter C_is_struck I_Entry, m_strike, k_strike, b_strikeB⟩
  have C_right : Cal P w K mg base 3 "right" ["bridge", "number", "crack"] (spRight A K) := ⟨_, _, ok_right F_right T C_enter C_is_struck I_Entry, m_right, k_right, b_rightB⟩
  have C_days_go_by : Cal P w K mg base 1 "days_go_by" ["bridge", "days"] (spDays A K) := ⟨_, _, ok_days_go_by F_days_go_by T , m_days_go_by, k_days_go_by, b_days_go_byB⟩
  have C_post : Cal P w K mg base 6 "post" ["bridge"] (spPost A K) := ⟨_, _, ok_post F_post T C_limit_on C_statements I_Posting, m_post, k_post, b_postB⟩
  have C_is_let : Cal P w K mg base 1 "is_let" ["part"] (spIsLet K) := ⟨_, _, ok_is_let F_is_let T , m_is_let, k_is_let, b_is_letB⟩
  have C_begins : Cal P w K mg base 3 "begins" ["bridge", "numbers"] (spBegins A K) := ⟨_, _, ok_begins F_begins T Gbegin meBegin b_Bridge_beginB C_is_let I_Part, m_begins, k_begins, b_beginsB⟩
  have C_single_calls : Cal P w K mg base 1 "single_calls" ["calls"] (spSingle K) := ⟨_, _, ok_single_calls F_single_calls T , m_single_calls, k_single_calls, b_single_callsB⟩
  have C_answer_of_writing : Cal P w K mg base 7 "answer_of_writing" ["bridge", "call", "handed"] (spAnsOf A K 0 6) := ⟨_, _, ok_answer_of_writing F_answer_of_writing T C_begins C_days_go_by C_found C_mended C_strike C_right C_post, m_answer_of_writing, k_answer_of_writing, b_answer_of_writingB⟩
  have C_answer_of_reading : Cal P w K mg base 8 "answer_of_reading" ["bridge", "call", "handed"] (spAnsOf A K 7 14) := ⟨_, _, ok_answer_of_reading F_answer_of_reading T C_known C_limit C_posted C_wrong C_falls C_due C_changes C_state, m_answer_of_reading, k_answer_of_reading, b_answer_of_readingB⟩
  have C_answer_of : Cal P w K mg base 9 "answer_of" ["bridge", "call", "handed"] (spAnsOf A K 0 14) := ⟨_, _, ok_answer_of F_answer_of T C_answer_of_writing C_answer_of_reading, m_answer_of, k_answer_of, b_answer_ofB⟩
  exact ok_answers F_answers T C_single_calls C_answer_of I_Bridge
end Br
theorem PySem.W.Fast.tw4915140426382091592 : True := trivial
theorem PySem.W.Fast.tw8767294413602380326 : True := trivial
theorem PySem.W.Fast.tw6576194058561134100 : True := trivial
theorem PySem.W.Fast.tw11153106271083059385 : True := trivial
theorem PySem.W.Fast.tw16593253754740763533 : True := trivial
theorem PySem.W.Fast.tw12358635006835826969 : True := trivial
theorem PySem.W.Fast.tw9512825156841544523 : True := trivial
open PySem PySem.W PyProof.Rows
set_option maxRecDepth 100000 in
set_option maxHeartbeats 0 in
theorem PySem.Challenge.cw_bridgefile_s01_answers_holds : PySem.Challenge.rw_bridgefile_s01_answers.Holds := by
  w_on; k_headS; (case hw => exact ⟨[.list [.int 6]], by decide +kernel, by decide +kernel⟩)
  k_fillS
  refine L2.walk_specK (r := PySem.Challenge.rw_bridgefile_s01_answers) (k := 10) (CX := L2.CX0) (ps := ["calls"]) (sp := Br.spAns) (by decide +kernel) rfl rfl ⟨rfl, by decide, by decide⟩ (fun w h Y => PySem.W.kIn_of Y) ?F ?S (fun _ _ _ _ z => z)
  case F =>
    intro w mg fa h Y KX G hmg
    refine' Br.all_mk KX G hmg ?aC_Part ?pg_Part ?hd_Part ?po_Part ?sa_Part ?mk_Part ?kc_Part ?n_Part_sound ?n_Part_cost ?n_Part_growth ?aC_Entry ?pg_Entry ?hd_Entry ?po_Entry ?sa_Entry ?mk_Entry ?kc_Entry ?n_Entry_kind ?n_Entry_about ?n_Entry_day ?n_Entry_crack ?aC_Posting ?pg_Posting ?hd_Posting ?po_Posting ?sa_Posting ?mk_Posting ?kc_Posting ?n_Posting_day ?n_Posting_made ?n_Posting_much ?aC_Bridge ?pg_Bridge ?hd_Bridge ?po_Bridge ?sa_Bridge ?mk_Bridge ?kc_Bridge ?n_Bridge_parts ?n_Bridge_today ?n_Bridge_entries ?n_Bridge_postings ?aC_Statement ?pg_Statement ?hd_Statement ?po_Statement ?sa_Statement ?mk_Statement ?kc_Statement ?n_Statement_number ?n_Statement_part ?n_Statement_day ?n_Statement_crack ?aC_Standing ?pg_Standing ?hd_Standing ?po_Standing ?sa_Standing ?mk_Standing ?kc_Standing ?n_Standing_source ?n_Standing_crack ?n_Standing_bears ?a_Part_init ?i_Part_init ?a_Entry_init ?i_Entry_init ?a_Posting_init ?i_Posting_init ?a_Bridge_init ?i_Bridge_init ?a_Bridge_begin ?i_Bridge_begin ?a_Statement_init ?i_Statement_init ?a_Standing_init ?i_Standing_init ?a_statements ?a_put_right ?a_sources_on ?a_standings ?a_standing ?a_crack_on ?a_grown ?a_borne ?a_limit_on ?a_known ?a_limit ?a_standings_by ?a_told_source ?a_posted ?a_posting_on ?a_wrong ?a_too_much ?a_said_now ?a_falls ?a_due ?a_last_found ?a_changes ?a_state ?a_behind_length ?a_begins ?a_is_let ?a_days_go_by ?a_found ?a_mended ?a_strike ?a_right ?a_is_struck ?a_enter ?a_post ?a_answers ?a_single_calls ?a_answer_of ?a_answer_of_writing ?a_answer_of_reading ?l_statements ?cd_statementsh ?k_statements ?l_put_right ?cd_put_righth ?k_put_right ?l_sources_on ?cd_sources_onh ?k_sources_on ?l_standings ?cd_standingsh ?k_standings ?l_standing ?cd_standingh ?k_standing ?l_crack_on ?cd_crack_onh ?k_crack_on ?l_grown ?cd_grownh ?k_grown ?l_borne ?cd_borneh ?k_borne ?l_limit_on ?cd_limit_onh ?k_limit_on ?l_known ?cd_knownh ?k_known ?l_limit ?cd_limith ?k_limit ?l_standings_by ?cd_standings_byh ?k_standings_by ?l_told_source ?cd_told_sourceh ?k_told_source ?l_posted ?cd_postedh ?k_posted ?l_posting_on ?cd_posting_onh ?k_posting_on ?l_wrong ?cd_wrongh ?k_wrong ?l_too_much ?cd_too_muchh ?k_too_much ?l_said_now ?cd_said_nowh ?k_said_now ?l_falls ?cd_fallsh ?k_falls ?l_due ?cd_dueh ?k_due ?l_last_found ?cd_last_foundh ?k_last_found ?l_changes ?cd_changesh ?k_changes ?l_state ?cd_stateh ?k_state ?l_behind_length ?cd_behind_lengthh ?k_behind_length ?l_begins ?cd_beginsh ?k_begins ?l_is_let ?cd_is_leth ?k_is_let ?l_days_go_by ?cd_days_go_byh ?k_days_go_by ?l_found ?cd_foundh ?k_found ?l_mended ?cd_mendedh ?k_mended ?l_strike ?cd_strikeh ?k_strike ?l_right ?cd_righth ?k_right ?l_is_struck ?cd_is_struckh ?k_is_struck ?l_enter ?cd_enterh ?k_enter ?l_post ?cd_posth ?k_post ?l_answers ?cd_answersh ?k_answers ?l_single_calls ?cd_single_callsh ?k_single_calls ?l_answer_of ?cd_answer_ofh ?k_answer_of ?l_answer_of_writing ?cd_answer_of_writingh ?k_answer_of_writing ?l_answer_of_reading ?cd_answer_of_readingh ?k_answer_of_reading ?l_Part_init ?cd_Part_inith ?k_Part_init ?l_Entry_init ?cd_Entry_inith ?k_Entry_init ?l_Posting_init ?cd_Posting_inith ?k_Posting_init ?l_Bridge_init ?cd_Bridge_inith ?k_Bridge_init ?l_Bridge_begin ?cd_Bridge_beginh ?k_Bridge_begin ?l_Statement_init ?cd_Statement_inith ?k_Statement_init ?l_Standing_init ?cd_Standing_inith ?k_Standing_init ?g_FOUND ?g_MENDED ?g_STRUCK ?g_RIGHTED ?g_LAST_DAY ?g_NOT_LET ?g_NOT_THERE ?g_CANT_BE ?g_TOO_MANY ?g_NOTHING ?g_MOST_DAYS_BEHIND ?g_MOST_MUCH ?g_DAYS_LOOKED_AHEAD ?g_MOST_PARTS ?g_MOST_SOUND ?g_MOST_COST ?g_MOST_GROWTH ?g_MOST_DAYS ?g_MOST_CRACK ?g_MOST_ENTRIES ?g_MOST_POSTINGS ?g_BEGINS ?g_POST ?g_HANDED ?lH ?b_len ?b_max ?b_min ?b_any ?b_all ?b_list ?b_enumerate ?b_zip ?b_range
    (case aC_Part => k_is)
    (case pg_Part => k_is)
    (case hd_Part => k_is)
    (case po_Part => k_is)
    (case sa_Part => k_is)
    (case mk_Part => k_is)
    (case kc_Part => k_is)
    (case n_Part_sound => k_is)
    (case n_Part_cost => k_is)
    (case n_Part_growth => k_is)
    (case aC_Entry => k_is)
    (case pg_Entry => k_is)
    (case hd_Entry => k_is)
    (case po_Entry => k_is)
    (case sa_Entry => k_is)
    (case mk_Entry => k_is)
    (case kc_Entry => k_is)
    (case n_Entry_kind => k_is)
    (case n_Entry_about => k_is)
    (case n_Entry_day => k_is)
    (case n_Entry_crack => k_is)
    (case aC_Posting => k_is)
    (case pg_Posting => k_is)
    (case hd_Posting => k_is)
    (case po_Posting => k_is)
    (case sa_Posting => k_is)
    (case mk_Posting => k_is)
    (case kc_Posting => k_is)
    (case n_Posting_day => k_is)
    (case n_Posting_made => k_is)
    (case n_Posting_much => k_is)
    (case aC_Bridge => k_is)
    (case pg_Bridge => k_is)
    (case hd_Bridge => k_is)
    (case po_Bridge => k_is)
    (case sa_Bridge => k_is)
    (case mk_Bridge => k_is)
    (case kc_Bridge => k_is)
    (case n_Bridge_parts => k_is)
    (case n_Bridge_today => k_is)
    (case n_Bridge_entries => k_is)
    (case n_Bridge_postings => k_is)
    (case aC_Statement => k_is)
    (case pg_Statement => k_is)
    (case hd_Statement => k_is)
    (case po_Statement => k_is)
    (case sa_Statement => k_is)
    (case mk_Statement => k_is)
    (case kc_Statement => k_is)
    (case n_Statement_number => k_is)
    (case n_Statement_part => k_is)
    (case n_Statement_day => k_is)
    (case n_Statement_crack => k_is)
    (case aC_Standing => k_is)
    (case pg_Standing => k_is)
    (case hd_Standing => k_is)
    (case po_Standing => k_is)
    (case sa_Standing => k_is)
    (case mk_Standing => k_is)
    (case kc_Standing => k_is)
    (case n_Standing_source => k_is)
    (case n_Standing_crack => k_is)
    (case n_Standing_bears => k_is)
    (case a_Part_init => k_is)
    (case i_Part_init => k_is)
    (case a_Entry_init => k_is)
    (case i_Entry_init => k_is)
    (case a_Posting_init => k_is)
    (case i_Posting_init => k_is)
    (case a_Bridge_init => k_is)
    (case i_Bridge_init => k_is)
    (case a_Bridge_begin => k_is)
    (case i_Bridge_begin => k_is)
    (case a_Statement_init => k_is)
    (case i_Statement_init => k_is)
    (case a_Standing_init => k_is)
    (case i_Standing_init => k_is)
    (case a_statements => k_is)
    (case a_put_right => k_is)
    (case a_sources_on => k_is)
    (case a_standings => k_is)
    (case a_standing => k_is)
    (case a_crack_on => k_is)
    (case a_grown => k_is)
    (case a_borne => k_is)
    (case a_limit_on => k_is)
    (case a_known => k_is)
    (case a_limit => k_is)
    (case a_standings_by => k_is)
    (case a_told_source => k_is)
    (case a_posted => k_is)
    (case a_posting_on => k_is)
    (case a_wrong => k_is)
    (case a_too_much => k_is)
    (case a_said_now => k_is)
    (case a_falls => k_is)
    (case a_due => k_is)
    (case a_last_found => k_is)
    (case a_changes => k_is)
    (case a_state => k_is)
    (case a_behind_length => k_is)
    (case a_begins => k_is)
    (case a_is_let => k_is)
    (case a_days_go_by => k_is)
    (case a_found => k_is)
    (case a_mended => k_is)
    (case a_strike => k_is)
    (case a_right => k_is)
    (case a_is_struck => k_is)
    (case a_enter => k_is)
    (case a_post => k_is)
    (case a_answers => k_is)
    (case a_single_calls => k_is)
    (case a_answer_of => k_is)
    (case a_answer_of_writing => k_is)
    (case a_answer_of_reading => k_is)
    (case l_statements => k_is)
    (case cd_statementsh => k_is)
    (case k_statements => k_is)
    (case l_put_right => k_is)
    (case cd_put_righth => k_is)
    (case k_put_right => k_is)
    (case l_sources_on => k_is)
    (case cd_sources_onh => k_is)
    (case k_sources_on => k_is)
    (case l_standings => k_is)
    (case cd_standingsh => k_is)
    (case k_standings => k_is)
    (case l_standing => k_is)
    (case cd_standingh => k_is)
    (case k_standing => k_is)
    (case l_crack_on => k_is)
    (case cd_crack_onh => k_is)
    (case k_crack_on => k_is)
    (case l_grown => k_is)
    (case cd_grownh => k_is)
    (case k_grown => k_is)
    (case l_borne => k_is)
    (case cd_borneh => k_is)
    (case k_borne => k_is)
    (case l_limit_on => k_is)
    (case cd_limit_onh => k_is)
    (case k_limit_on => k_is)
    (case l_known => k_is)
    (case cd_knownh => k_is)
    (case k_known => k_is)
    (case l_limit => k_is)
    (case cd_limith => k_is)
    (case k_limit => k_is)
    (case l_standings_by => k_is)
    (case cd_standings_byh => k_is)
    (case k_standings_by => k_is)
    (case l_told_source => k_is)
    (case cd_told_sourceh => k_is)
    (case k_told_source => k_is)
    (case l_posted => k_is)
    (case cd_postedh => k_is)
    (case k_posted => k_is)
    (case l_posting_on => k_is)
    (case cd_posting_onh => k_is)
    (case k_posting_on => k_is)
    (case l_wrong => k_is)
    (case cd_wrongh => k_is)
    (case k_wrong => k_is)
    (case l_too_much => k_is)
    (case cd_too_muchh => k_is)
    (case k_too_much => k_is)
    (case l_said_now => k_is)
    (case cd_said_nowh => k_is)
    (case k_said_now => k_is)
    (case l_falls => k_is)
    (case cd_fallsh => k_is)
    (case k_falls => k_is)
    (case l_due => k_is)
    (case cd_dueh => k_is)
    (case k_due => k_is)
    (case l_last_found => k_is)
    (case cd_last_foundh => k_is)
    (case k_last_found => k_is)
    (case l_changes => k_is)
    (case cd_changesh => k_is)
    (case k_changes => k_is)
    (case l_state => k_is)
    (case cd_stateh => k_is)
    (case k_state => k_is)
    (case l_behind_length => k_is)
    (case cd_behind_lengthh => k_is)
    (case k_behind_length => k_is)
    (case l_begins => k_is)
    (case cd_beginsh => k_is)
    (case k_begins => k_is)
    (case l_is_let => k_is)
    (case cd_is_leth => k_is)
    (case k_is_let => k_is)
    (case l_days_go_by => k_is)
    (case cd_days_go_byh => k_is)
    (case k_days_go_by => k_is)
    (case l_found => k_is)
    (case cd_foundh => k_is)
    (case k_found => k_is)
    (case l_mended => k_is)
    (case cd_mendedh => k_is)
    (case k_mended => k_is)
    (case l_strike => k_is)
    (case cd_strikeh => k_is)
    (case k_strike => k_is)
    (case l_right => k_is)
    (case cd_righth => k_is)
    (case k_right => k_is)
    (case l_is_struck => k_is)
    (case cd_is_struckh => k_is)
    (case k_is_struck => k_is)
    (case l_enter => k_is)
    (case cd_enterh => k_is)
    (case k_enter => k_is)
    (case l_post => k_is)
    (case cd_posth => k_is)
    (case k_post => k_is)
    (case l_answers => k_is)
    (case cd_answersh => k_is)
    (case k_answers => k_is)
    (case l_single_calls => k_is)
    (case cd_single_callsh => k_is)
    (case k_single_calls => k_is)
    (case l_answer_of => k_is)
    (case cd_answer_ofh => k_is)
    (case k_answer_of => k_is)
    (case l_answer_of_writing => k_is)
    (case cd_answer_of_writingh => k_is)
    (case k_answer_of_writing => k_is)
    (case l_answer_of_reading => k_is)
    (case cd_answer_of_readingh => k_is)
    (case k_answer_of_reading => k_is)
    (case l_Part_init => k_is)
    (case cd_Part_inith => k_is)
    (case k_Part_init => k_is)
    (case l_Entry_init => k_is)
    (case cd_Entry_inith => k_is)
    (case k_Entry_init => k_is)
    (case l_Posting_init => k_is)
    (case cd_Posting_inith => k_is)
    (case k_Posting_init => k_is)
    (case l_Bridge_init => k_is)
    (case cd_Bridge_inith => k_is)
    (case k_Bridge_init => k_is)
    (case l_Bridge_begin => k_is)
    (case cd_Bridge_beginh => k_is)
    (case k_Bridge_begin => k_is)
    (case l_Statement_init => k_is)
    (case cd_Statement_inith => k_is)
    (case k_Statement_init => k_is)
    (case l_Standing_init => k_is)
    (case cd_Standing_inith => k_is)
    (case k_Standing_init => k_is)
    (case g_FOUND => k_is)
    (case g_MENDED => k_is)
    (case g_STRUCK => k_is)
    (case g_RIGHTED => k_is)
    (case g_LAST_DAY => k_is)
    (case g_NOT_LET => k_is)
    (case g_NOT_THERE => k_is)
    (case g_CANT_BE => k_is)
    (case g_TOO_MANY => k_is)
    (case g_NOTHING => k_is)
    (case g_MOST_DAYS_BEHIND => k_is)
    (case g_MOST_MUCH => k_is)
    (case g_DAYS_LOOKED_AHEAD => k_is)
    (case g_MOST_PARTS => k_is)
    (case g_MOST_SOUND => k_is)
    (case g_MOST_COST => k_is)
    (case g_MOST_GROWTH => k_is)
    (case g_MOST_DAYS => k_is)
    (case g_MOST_CRACK => k_is)
    (case g_MOST_ENTRIES => k_is)
    (case g_MOST_POSTINGS => k_is)
    (case g_BEGINS => k_is)
    (case g_POST => k_is)
    (case g_HANDED => k_is)
    (case lH => k_is)
    (case b_len => k_is)
    (case b_max => k_is)
    (case b_min => k_is)
    (case b_any => k_is)
    (case b_all => k_is)
    (case b_list => k_is)
    (case b_enumerate => k_is)
    (case b_zip => k_is)
    (case b_range => k_is)
  case S =>
    intro K H xs a hO hwi hask hx
    cases hx with
    | cons h1 h2 =>
      cases h2
      cases h1 with
      | lst hs ha =>
        have e := L2.ints_dw a.1 _ ha
        subst e
        have q : ((Codec.inLen 0 5100 a.1 && a.1.all (Codec.inInt 0 4294967295)) && true) = true := hwi
        rw [Bool.and_eq_true, Bool.and_eq_true] at q
        exact ⟨_, a.1, rfl, hs, (Codec.inNat_iff.mp q.1.1).2, hask, fun H' p hp => .lst (L2.SqL.of hp) (L2.dw_ints _)⟩
#print axioms PySem.Challenge.cw_bridgefile_s01_answers_holds
