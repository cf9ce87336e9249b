import PyProof.Rows.All
import Wide.All
import OpenK.AllK
import Wide.FinOn
import PyProof.EqAt
import PyProof.EqKinds
import PyProof.TupleCall
import KE.BitLaws
import Open.SpecLaws
import KE.OsHead
import KE.OsGo
import PySem.Challenge.RW_evenpack_s01_answers
set_option Elab.async false
set_option linter.all false
set_option maxRecDepth 100000
namespace L2
open PySem PySem.Spec PyProof.Rows
abbrev Key := Sum Int Str
def keyIs : Key → Value → Bool
  | .inl k, v => Value.isInt k v
  | .inr x, v => Value.isStrOf x v
def keyH (w : World) : Key → Int
  | .inl k => hashInt k
  | .inr x => hashStr w x
theorem keyIs_shape : ∀ {k : Key} {v : Value}, keyIs k v = true → (∃ i t, k = Sum.inl i ∧ v = Value.int i t) ∨ (∃ x t, k = Sum.inr x ∧ v = Value.str x t)
  | .inl i, v, h => by
    obtain ⟨t, e⟩ := Value.isInt_shape (k := i) (v := v) h
    exact .inl ⟨i, t, rfl, e⟩
  | .inr x, v, h => by
    obtain ⟨t, e⟩ := Value.isStrOf_shape (x := x) (v := v) h
    exact .inr ⟨x, t, rfl, e⟩
theorem keyIs_int (i : Int) (t : Tok) : keyIs (.inl i) (.int i t) = true := by simp [keyIs, Value.isInt]
theorem key_ll (a b : Int) : decide ((Sum.inl a : Key) = Sum.inl b) = (a == b) := by
  by_cases e : a = b
  · subst e; simp
  · have h : ¬ (Sum.inl a : Key) = Sum.inl b := fun q => e (Sum.inl.inj q)
    rw [decide_eq_false h]
    exact (beq_eq_false_iff_ne.mpr e).symm
theorem key_rr (a b : Str) : decide ((Sum.inr a : Key) = Sum.inr b) = decide (a = b) := by
  by_cases e : a = b
  · subst e; simp
  · have h : ¬ (Sum.inr a : Key) = Sum.inr b := fun q => e (Sum.inr.inj q)
    rw [decide_eq_false h, decide_eq_false e]
theorem key_lr (a : Int) (b : Str) : decide ((Sum.inl a : Key) = Sum.inr b) = false := decide_eq_false (fun q => nomatch q)
theorem key_rl (a : Str) (b : Int) : decide ((Sum.inr a : Key) = Sum.inl b) = false := decide_eq_false (fun q => nomatch q)
def mixKind (prog : Program) (w : World) : PySem.KeyKind prog w Key where
  is := keyIs
  hash := keyH w
  inj := fun v a b ha hb => by
    rcases keyIs_shape ha with ⟨i, t, rfl, rfl⟩ | ⟨x, t, rfl, rfl⟩
    · rcases keyIs_shape hb with ⟨j, u, rfl, e⟩ | ⟨y, u, rfl, e⟩
      · injection e with e1 _; rw [e1]
      · exact nomatch e
    · rcases keyIs_shape hb with ⟨j, u, rfl, e⟩ | ⟨y, u, rfl, e⟩
      · exact nomatch e
      · injection e with e1 _; rw [e1]
  byValue := fun k v h => by
    rcases keyIs_shape h with ⟨i, t, rfl, rfl⟩ | ⟨x, t, rfl, rfl⟩ <;> rfl
  pyHash := fun hv h => by
    rcases keyIs_shape hv with ⟨i, t, rfl, rfl⟩ | ⟨x, t, rfl, rfl⟩
    · exact wpAny_pyHash_int h
    · exact wpAny_pyHash_str h
  eqBool := fun hu hv h => by
    rcases keyIs_shape hu with ⟨i, t, rfl, rfl⟩ | ⟨x, t, rfl, rfl⟩
    · rcases keyIs_shape hv with ⟨j, u, rfl, rfl⟩ | ⟨y, u, rfl, rfl⟩
      · rw [key_ll] at h; exact wpAny_eqBool_int h
      · rw [key_lr] at h; exact SeqAt.EqAt.int_str i t y u _ _ _ _ h
    · rcases keyIs_shape hv with ⟨j, u, rfl, rfl⟩ | ⟨y, u, rfl, rfl⟩
      · rw [key_rl] at h; exact SeqAt.EqAt.str_int x t j u _ _ _ _ h
      · rw [key_rr] at h; exact wpAny_eqBool_str h
  «strs» := fun k x t v h => by
    rcases keyIs_shape h with ⟨i, u, rfl, e⟩ | ⟨y, u, rfl, e⟩
    · exact nomatch e
    · injection e with e1 _
      subst e1
      cases v <;> rfl
end L2
namespace L2
open PySem PySem.Spec PyProof.Rows
inductive V where
  | non | bl (b : Bool) | int (i : Int) | str (x : Str) | byt (b : Array UInt8) | flt (b : UInt64) | ref (a : Addr) | ty (n : String)
  deriving DecidableEq
def RelV : V → Value → Prop
  | .non, u => u = Value.none
  | .bl b, u => u = Value.bool b
  | .int i, u => ∃ t, u = Value.int i t
  | .str x, u => ∃ t, u = Value.str x t
  | .byt b, u => ∃ t, u = Value.bytes b t
  | .flt b, u => ∃ t, u = Value.float b t
  | .ref a, u => u = Value.ref a
  | .ty n, u => u = Value.type n
abbrev Vals : List V → List Value → Prop := Paired RelV
theorem Vals.length {xs : List V} {us : List Value} (r : Vals xs us) : xs.length = us.length := Paired.length r
theorem Vals.get : ∀ {xs : List V} {us : List Value} {i : Nat} {x : V}, Vals xs us → xs[i]? = some x → ∃ u, us[i]? = some u ∧ RelV x u
  | _, _, _, _, .nil, e => by simp at e
  | _, _, 0, _, .cons r _, e => by simp at e; subst e; exact ⟨_, rfl, r⟩
  | _, _, i + 1, x, .cons _ t, e => by
    obtain ⟨u, h1, h2⟩ := Vals.get (i := i) (x := x) t (by simpa using e)
    exact ⟨u, by simpa using h1, h2⟩
theorem Vals.set {x : V} {u : Value} (r : RelV x u) : ∀ {xs : List V} {us : List Value} (i : Nat), Vals xs us → Vals (xs.set i x) (us.set i u)
  | _, _, _, .nil => .nil
  | _, _, 0, .cons _ t => .cons r t
  | _, _, i + 1, .cons q t => .cons q (Vals.set r i t)
theorem Vals.append : ∀ {xs ys : List V} {us ws : List Value}, Vals xs us → Vals ys ws → Vals (xs ++ ys) (us ++ ws)
  | _, _, _, _, .nil, s => s
  | _, _, _, _, .cons r t, s => .cons r (Vals.append t s)
theorem Vals.take : ∀ {xs : List V} {us : List Value} (n : Nat), Vals xs us → Vals (xs.take n) (us.take n)
  | _, _, 0, _ => .nil
  | _, _, _ + 1, .nil => .nil
  | _, _, n + 1, .cons r t => .cons r (Vals.take n t)
theorem Vals.drop : ∀ {xs : List V} {us : List Value} (n : Nat), Vals xs us → Vals (xs.drop n) (us.drop n)
  | _, _, 0, r => r
  | _, _, _ + 1, .nil => .nil
  | _, _, n + 1, .cons _ t => Vals.drop n t
theorem Vals.none_of : ∀ {xs : List V} {us : List Value} {i : Nat}, Vals xs us → xs[i]? = none → us[i]? = none := fun {xs us i} r e => by
  have h1 := r.length
  have h2 : xs.length ≤ i := List.getElem?_eq_none_iff.mp e
  exact List.getElem?_eq_none_iff.mpr (by omega)
def RelO : Option V → Option Value → Prop
  | some v, some u => RelV v u
  | none, none => True
  | _, _ => False
def KV {κ : Type} : List (κ × V) → List (κ × Value) → Prop := Paired fun (p : κ × V) (q : κ × Value) => p.1 = q.1 ∧ RelV p.2 q.2
def kV : Key → V
  | .inl i => .int i
  | .inr x => .str x
inductive HO where
  /-- a list -/
  | lst (xs : List V)
  /-- a tuple (never changes) -/
  | tup (xs : List V)
  /-- a dict whose keys are ints and texts; one whose keys are tuples of ints and texts (the empty one is both) -/
  | dK (kvs : List (Key × V)) | dT (kvs : List (List Key × V))
  /-- a set of ints: its members, its size -/
  | set (S : Int → Bool) (n : Nat)
  /-- an instance of the class at C, its dict at dx, its attributes -/
  | ins (C dx : Addr) (fs : List (Str × V))
  /-- the dict of the instance at x -/
  | own (x : Addr)
  /-- the dict of an exception -/
  | xd (fs : List (Str × V))
  /-- a bound method, f of x -/
  | met (f x : Addr)
  /-- a range object lo, lo + 1, .. below hi -/
  | rng (lo hi : Int)
  /-- a thing that is known to the object (the script; a dict while a loop walks it): read, never written while it is so -/
  | frz (o : Obj) (u : HO)
  /-- a code object's table -/
  | tbl (ps : Array Value)
  /-- any other thing, by what is true of its one object (a def of one's own: SetO a S n := HO.ext fun h => ..) -/
  | ext (φ : Heap → Prop)
abbrev Hp := Addr → Option HO
def upd (H : Hp) (a : Addr) (o : HO) : Hp := fun b => if b = a then some o else H b
theorem upd_same {H : Hp} {a : Addr} {o : HO} : upd H a o a = some o := by unfold upd; rw [if_pos rfl]
theorem upd_ne {H : Hp} {a b : Addr} {o : HO} (h : b ≠ a) : upd H a o b = H b := by unfold upd; rw [if_neg h]
theorem upd_upd {H : Hp} {a : Addr} {o u : HO} : upd (upd H a o) a u = upd H a u := by
  funext b; unfold upd; split <;> rfl
theorem ne_of {H : Hp} {a b : Addr} {o u : HO} (h : H a = some o) (h' : H b = some u) (d : o ≠ u) : a ≠ b := by
  intro e; subst e; rw [h] at h'; exact d (Option.some.inj h')
theorem ne_of_none {H : Hp} {a b : Addr} {o : HO} (h : H a = some o) (h' : H b = none) : a ≠ b := by
  intro e; subst e; rw [h] at h'; cases h'
section
variable (P : Program) (w : World)
def ObjOk (H : Hp) (h : Heap) (a : Addr) : HO → Prop
  | .lst xs => xs.length ≤ sizeLine ∧ ∃ (its : List Value) (n : Nat), Vals xs its ∧ h.get? a = some { cls := .type "list", data := .seq its.toArray n }
  | .tup xs => xs.length ≤ sizeLine ∧ ∃ its : List Value, Vals xs its ∧ IsTup h a its.toArray
  | .dK kvs => kvs.length ≤ sizeLine ∧ (a == sysModules) = false ∧ ∃ vs, KV kvs vs ∧ h.DictOf (mixKind P w) a vs
  | .dT kvs => kvs.length ≤ sizeLine ∧ (a == sysModules) = false ∧ ∃ xs : List (List Key × Addr × Value),
      Paired (fun (p : List Key × V) (q : List Key × Addr × Value) => p.1 = q.1 ∧ H q.2.1 = some (.tup (p.1.map kV)) ∧ RelV p.2 q.2.2) kvs xs ∧
      ∃ o es ep, h.get? a = some o ∧ o.ExactDict ∧ o.data = .dict es ep ∧ es.toList = xs.map (entryOfKey (tupleKind (mixKind P w))) ∧ (xs.map (·.1)).Nodup
  | .set S n => h.SetOf (intKind P w) a S n
  | .ins C dx fs => H dx = some (.own a) ∧ fs.length ≤ 1000 ∧ dx ≠ a ∧ h.get? a = some (PySem.W.instObj C dx) ∧
      ∃ mA, h.Ns1 dx mA ∧ (∀ f, RelO (fs.lookup f) (mA f)) ∧ PySem.Within mA (fs.map (·.1))
  | .own _ => ∃ o, h.get? a = some o
  | .xd fs => ∃ mA, h.Ns1 a mA ∧ ∀ f, RelO (fs.lookup f) (mA f)
  | .rng lo hi => ∃ t u v, h.get? a = some { cls := .type "range", data := .fields #[.int lo t, .int hi u, .int 1 v] }
  | .frz o u => h.get? a = some o ∧ ObjOk H h a u
  | .tbl ps => h.get? a = some { cls := .none, data := .fields ps }
  | .met f x => h.get? a = some (PySem.W.methodObj (.ref f) (.ref x))
  | .ext φ => φ h ∧ (∃ o, h.get? a = some o) ∧ ∀ h1 h2 : Heap, φ h1 → (∀ o, h1.get? a = some o → h2.get? a = some o) → φ h2
def HOk (H : Hp) (h : Heap) : Prop := ∀ a o, H a = some o → ObjOk P w H h a o
end
section
variable {P : Program} {w : World} {H H' : Hp} {h h' : Heap} {a : Addr} {o : HO}
theorem ObjOk.lt (x : ObjOk P w H h a o) : a < h.objs.size := by
  cases o with
  | lst xs => obtain ⟨_, _, _, _, e⟩ := x; exact Heap.lt_size e
  | tup xs => obtain ⟨_, _, _, p⟩ := x; exact p.lt
  | dK kvs => obtain ⟨_, _, _, _, o, _, _, e, _⟩ := x; exact Heap.lt_size e
  | dT kvs => obtain ⟨_, _, _, _, o, _, _, e, _⟩ := x; exact Heap.lt_size e
  | set S n => obtain ⟨o, _, _, _, e, _⟩ := x; exact Heap.lt_size e
  | ins C dx fs => obtain ⟨_, _, _, e, _⟩ := x; exact Heap.lt_size e
  | own y => obtain ⟨_, e⟩ := x; exact Heap.lt_size e
  | xd fs => obtain ⟨_, ⟨_, _, _, e, _⟩, _⟩ := x; exact Heap.lt_size e
  | rng lo hi => obtain ⟨_, _, _, e⟩ := x; exact Heap.lt_size e
  | frz ob u => obtain ⟨e, _⟩ := x; exact Heap.lt_size e
  | tbl ps => exact Heap.lt_size (show h.get? a = some _ from x)
  | met f y => exact Heap.lt_size (show h.get? a = some _ from x)
  | ext φ => obtain ⟨_, ⟨_, e⟩, _⟩ := x; exact Heap.lt_size e
theorem Paired.mapP {α β : Type} {F G : α → β → Prop} : ∀ {l₁ : List α} {l₂ : List β}, Paired F l₁ l₂ → (∀ a b, F a b → G a b) → Paired G l₁ l₂
  | _, _, .nil, _ => .nil
  | _, _, .cons r t, f => .cons (f _ _ r) (Paired.mapP t f)
theorem ObjOk.stay (x : ObjOk P w H h a o) (k : ∀ b u, (b = a ∨ H b = some (.own a)) → h.get? b = some u → h'.get? b = some u)
    (ho : ∀ b, H b = some (.own a) → H' b = some (.own a)) (ht : ∀ b xs, H b = some (.tup xs) → H' b = some (.tup xs)) : ObjOk P w H' h' a o := by
  induction o with
  | lst xs => obtain ⟨z, its, n, r, e⟩ := x; exact ⟨z, its, n, r, k _ _ (.inl rfl) e⟩
  | tup xs => obtain ⟨z, its, r, ob, e, c⟩ := x; exact ⟨z, its, r, ob, k _ _ (.inl rfl) e, c⟩
  | dK kvs => obtain ⟨z, y, vs, r, ob, es, ep, e, c⟩ := x; exact ⟨z, y, vs, r, ob, es, ep, k _ _ (.inl rfl) e, c⟩
  | dT kvs =>
    obtain ⟨z, y, xs, r, ob, es, ep, e, c⟩ := x
    exact ⟨z, y, xs, Paired.mapP r fun p q z => ⟨z.1, ht _ _ z.2.1, z.2.2⟩, ob, es, ep, k _ _ (.inl rfl) e, c⟩
  | set S n => obtain ⟨ob, es, ep, t, e, c⟩ := x; exact ⟨ob, es, ep, t, k _ _ (.inl rfl) e, c⟩
  | ins C dx fs =>
    obtain ⟨d, z, ne, e, mA, ⟨od, es, ep, e2, c⟩, r⟩ := x
    exact ⟨ho _ d, z, ne, k _ _ (.inl rfl) e, mA, ⟨od, es, ep, k _ _ (.inr d) e2, c⟩, r⟩
  | own y => obtain ⟨ob, e⟩ := x; exact ⟨ob, k _ _ (.inl rfl) e⟩
  | xd fs => obtain ⟨mA, ⟨od, es, ep, e, c⟩, r⟩ := x; exact ⟨mA, ⟨od, es, ep, k _ _ (.inl rfl) e, c⟩, r⟩
  | rng lo hi => obtain ⟨t, u, v, e⟩ := x; exact ⟨t, u, v, k _ _ (.inl rfl) e⟩
  | frz ob u ih => obtain ⟨e, q⟩ := x; exact ⟨k _ _ (.inl rfl) e, ih q⟩
  | tbl ps =>
    have e : h.get? a = some { cls := .none, data := .fields ps } := x
    show h'.get? a = some { cls := .none, data := .fields ps }
    exact k a _ (.inl rfl) e
  | met f y =>
    have e : h.get? a = some (PySem.W.methodObj (.ref f) (.ref y)) := x
    show h'.get? a = some (PySem.W.methodObj (.ref f) (.ref y))
    exact k a _ (.inl rfl) e
  | ext φ => obtain ⟨p, ⟨o, e⟩, st⟩ := x; exact ⟨st _ _ p fun o q => k _ _ (.inl rfl) q, ⟨o, k _ _ (.inl rfl) e⟩, st⟩
theorem HOk.lt (x : HOk P w H h) (e : H a = some o) : a < h.objs.size := (x a o e).lt
theorem HOk.fresh (x : HOk P w H h) (e : h.objs.size ≤ a) : H a = none := by
  cases q : H a with
  | none => rfl
  | some u => exact absurd (Nat.lt_of_lt_of_le (x.lt q) e) (Nat.lt_irrefl _)
theorem HOk.kept (x : HOk P w H h) (k : ∀ b u, h.get? b = some u → h'.get? b = some u) : HOk P w H h' := fun a o e =>
  (x a o e).stay (fun b u _ q => k b u q) (fun _ q => q) fun _ _ q => q
theorem HOk.laid (x : HOk P w H h) (k : ∀ b u, h.get? b = some u → h'.get? b = some u) (hp : h.objs.size ≤ a) (new : ObjOk P w (upd H a o) h' a o) : HOk P w (upd H a o) h' := fun b u e => by
  have hn := x.fresh hp
  by_cases hb : b = a
  · subst hb; rw [upd_same] at e; cases e; exact new
  · rw [upd_ne hb] at e
    exact (x b u e).stay (fun c v _ q => k c v q) (fun c q => by rw [upd_ne (ne_of_none q hn)]; exact q) fun c xs q => by rw [upd_ne (ne_of_none q hn)]; exact q
end
def Rd (H : Hp) (a : Addr) (u : HO) : Prop := H a = some u ∨ ∃ o, H a = some (.frz o u)
theorem Rd.of {H : Hp} {a : Addr} {u : HO} (h : H a = some u) : Rd H a u := .inl h
theorem Rd.ok {P : Program} {w : World} {H : Hp} {h : Heap} {a : Addr} {u : HO} (r : Rd H a u) (x : HOk P w H h) : ObjOk P w H h a u := by
  rcases r with r | ⟨o, r⟩
  · exact x a u r
  · obtain ⟨_, q⟩ := x a _ r
    exact q
def Mut : Option HO → Prop
  | some (.lst _) => True
  | some (.dK _) => True
  | some (.dT _) => True
  | some (.set _ _) => True
  | some (.ins _ _ _) => True
  | some (.ext _) => True
  | _ => False
section
variable {P : Program} {w : World} {H : Hp} {h h' : Heap} {x e : Addr} {o' : HO}
theorem HOk.write (ok : HOk P w H h) (mu : Mut (H x)) (he : e = x ∨ H e = some (.own x)) (k : ∀ b u, b ≠ e → h.get? b = some u → h'.get? b = some u) (heo : ∃ u, h'.get? e = some u)
    (new : ObjOk P w (upd H x o') h' x o') : HOk P w (upd H x o') h' := fun b u q => by
  have nown : ∀ c y, H c = some (.own y) → c ≠ x := fun c y r z => by subst z; rw [r] at mu; exact mu
  have ntup : ∀ c xs, H c = some (.tup xs) → c ≠ x := fun c xs r z => by subst z; rw [r] at mu; exact mu
  by_cases hb : b = x
  · subst hb; rw [upd_same] at q; cases q; exact new
  · rw [upd_ne hb] at q
    by_cases hbe : b = e
    · have q' : H b = some (.own x) := by
        rcases he with z | z
        · exact absurd (hbe.trans z) hb
        · rw [hbe]; exact z
      rw [q] at q'; cases q'
      obtain ⟨v, hv⟩ := heo
      exact ⟨v, by rw [hbe]; exact hv⟩
    · refine (ok b u q).stay (fun c v hc r => k c v ?_ r) (fun c r => by rw [upd_ne (nown c b r)]; exact r) fun c xs r => by rw [upd_ne (ntup c xs r)]; exact r
      rcases hc with rfl | hc
      · exact hbe
      · rintro rfl
        rcases he with z | z
        · exact nown c b hc z
        · rw [hc] at z; cases z; exact hb rfl
end
structure Un (fs ex : List Addr) (H H' : Hp) (h h' : Heap) : Prop where
  keep : ∀ b o, h.get? b = some o → H b = none → b ∉ fs → b ∉ ex → h'.get? b = some o
  slot : ∀ b o, h.get? b = some o → H b = none → b ∈ fs → b ∉ ex → ∃ sl, h'.get? b = some { o with slots := sl }
  free : ∀ b o, h.get? b = some o → H b = none → b ∉ ex → H' b = none
  there : ∀ b o, h.get? b = some o → b ∉ ex → ∃ o', h'.get? b = some o'
  tups : ∀ b xs, H b = some (.tup xs) → H' b = some (.tup xs)
  frzs : ∀ b o u, H b = some (.frz o u) → H' b = some (.frz o u)
  tbls : ∀ b ps, H b = some (.tbl ps) → ∃ more, H' b = some (.tbl (ps ++ more))
section
variable {fs fs' ex ex' : List Addr} {H H1 H2 : Hp} {h h1 h2 h' : Heap} {a x e : Addr} {o : HO}
theorem Un.any (u : Un fs ex H H1 h h1) {b : Addr} {ob : Obj} (q : h.get? b = some ob) (n : H b = none) (hx : b ∉ ex) : ∃ sl, h1.get? b = some { ob with slots := sl } := by
  by_cases hb : b ∈ fs
  · exact u.slot b ob q n hb hx
  · exact ⟨ob.slots, u.keep b ob q n hb hx⟩
theorem Un.trans (a : Un fs ex H H1 h h1) (b : Un fs ex H1 H2 h1 h2) : Un fs ex H H2 h h2 where
  keep := fun c ob q n hc hx => b.keep c ob (a.keep c ob q n hc hx) (a.free c ob q n hx) hc hx
  slot := fun c ob q n hc hx => by
    obtain ⟨sl, e1⟩ := a.slot c ob q n hc hx
    obtain ⟨sl', e2⟩ := b.slot c _ e1 (a.free c ob q n hx) hc hx
    exact ⟨sl', e2⟩
  free := fun c ob q n hx => by
    obtain ⟨o', e1⟩ := a.there c ob q hx
    exact b.free c o' e1 (a.free c ob q n hx) hx
  there := fun c ob q hx => by
    obtain ⟨o', e1⟩ := a.there c ob q hx
    exact b.there c o' e1 hx
  tups := fun c xs q => b.tups c xs (a.tups c xs q)
  frzs := fun c ob xs q => b.frzs c ob xs (a.frzs c ob xs q)
  tbls := fun c ps q => by
    obtain ⟨m1, e1⟩ := a.tbls c ps q
    obtain ⟨m2, e2⟩ := b.tbls c _ e1
    exact ⟨m1 ++ m2, by rw [e2, Array.append_assoc]⟩
theorem Un.kept (k : ∀ b u, h.get? b = some u → h'.get? b = some u) : Un fs ex H H h h' :=
  ⟨fun b ob q _ _ _ => k b ob q, fun b ob q _ _ _ => ⟨ob.slots, k b ob q⟩, fun _ _ _ n _ => n, fun b ob q _ => ⟨ob, k b ob q⟩, fun _ _ q => q, fun _ _ _ q => q, fun _ ps q => ⟨#[], by rw [q]; simp⟩⟩
theorem Un.refl : Un fs ex H H h h := Un.kept fun _ _ q => q
theorem Un.laid (k : ∀ b u, h.get? b = some u → h'.get? b = some u) (hp : h.objs.size ≤ a) (hn : H a = none) : Un fs ex H (upd H a o) h h' where
  keep := fun b u q _ _ _ => k b u q
  slot := fun b u q _ _ _ => ⟨u.slots, k b u q⟩
  free := fun b u q n _ => by rw [upd_ne (Nat.ne_of_lt (Nat.lt_of_lt_of_le (Heap.lt_size q) hp))]; exact n
  there := fun b u q _ => ⟨u, k b u q⟩
  tups := fun b xs q => by rw [upd_ne (ne_of_none q hn)]; exact q
  frzs := fun b u xs q => by rw [upd_ne (ne_of_none q hn)]; exact q
  tbls := fun b ps q => ⟨#[], by rw [upd_ne (ne_of_none q hn), q]; simp⟩
theorem Un.write (mu : Mut (H x)) (he : e = x ∨ H e = some (.own x)) (k : ∀ b u, b ≠ e → h.get? b = some u → h'.get? b = some u) (heo : ∃ u, h'.get? e = some u) : Un fs ex H (upd H x o) h h' := by
  have hx : ∀ b, H b = none → b ≠ x := fun b n z => by subst z; rw [n] at mu; exact mu
  have hb : ∀ b, H b = none → b ≠ e := fun b n z => by
    subst z
    rcases he with r | r
    · exact hx b n r
    · rw [n] at r; cases r
  have hm : ∀ b u, H b = some u → ¬ Mut (some u) → b ≠ x := fun b u q nm z => by subst z; rw [q] at mu; exact nm mu
  refine ⟨fun b u q n _ _ => k b u (hb b n) q, fun b u q n _ _ => ⟨u.slots, k b u (hb b n) q⟩, fun b u q n _ => by rw [upd_ne (hx b n)]; exact n, fun b u q _ => ?_,
    fun b xs q => by rw [upd_ne (hm b _ q fun z => z)]; exact q, fun b u xs q => by rw [upd_ne (hm b _ q fun z => z)]; exact q, fun b ps q => ⟨#[], by rw [upd_ne (hm b _ q fun z => z), q]; simp⟩⟩
  by_cases hbe : b = e
  · subst hbe; exact heo
  · exact ⟨u, k b u hbe q⟩
theorem Un.mono (u : Un fs ex H H1 h h1) (hs : ∀ b ∈ fs, b ∈ fs') (hx : ∀ b ∈ ex, b ∈ ex') : Un fs' ex' H H1 h h1 :=
  ⟨fun b ob q n hb he => u.keep b ob q n (fun z => hb (hs b z)) fun z => he (hx b z), fun _ _ q n _ he => u.any q n fun z => he (hx _ z), fun b ob q n he => u.free b ob q n fun z => he (hx b z), fun b ob q he => u.there b ob q fun z => he (hx b z), u.tups, u.frzs, u.tbls⟩
end
def trk (h : Heap) (H : Hp) : List Addr := (List.range h.objs.size).filter fun a => (H a).isSome
def hidT (h : Heap) (H : Hp) : Heap := PySem.W.hideAll h (trk h H)
theorem hidT_size (h : Heap) (H : Hp) : (hidT h H).objs.size = h.objs.size := PySem.W.hideAll_size _ _
theorem hidT_get {h : Heap} {H : Hp} {b : Addr} {o : Obj} (e : h.get? b = some o) (n : H b = none) : (hidT h H).get? b = some o :=
  PySem.W.hideAll_get _ e fun hm => by
    have q : (H b).isSome = true := (List.mem_filter.mp hm).2
    rw [n] at q; simp at q
theorem of_hidT {h : Heap} {H : Hp} {b : Addr} {o : Obj} (e : (hidT h H).get? b = some o) : h.get? b = some o ∧ H b = none := by
  have e' : h.get? b = some o := PySem.W.of_hideAll (trk h H) e
  refine ⟨e', ?_⟩
  cases q : H b with
  | none => rfl
  | some x =>
    have hm : b ∈ trk h H := List.mem_filter.mpr ⟨List.mem_range.mpr (Heap.lt_size e'), by simp [q]⟩
    have z : (hidT h H).get? b = none := PySem.W.hideAll_none (trk h H) hm
    rw [z] at e; cases e
def allNews (g h : Heap) (L : Addr) : List (Addr × Obj) := (List.range h.objs.size).filterMap fun a => if a = L ∨ (g.get? a).isSome = true then none else (h.get? a).map fun o => (a, o)
def rest (g h : Heap) (L d : Addr) : List (Addr × Obj) := (allNews g h L).filter fun p => decide (p.1 ≠ d)
end L2
namespace L2
open PySem PySem.Spec PyProof.Rows
structure Mod (K : PySem.W.Frag) (mg : Str → Option Value) (base : Heap) : Prop where
  kin : K.In base
  glob : base.Ns mainGlobals mg
  blt : ∃ mb, base.Ns builtinsNs mb ∧ ∀ x : Str, x ≠ "__name__" → mb x = bootBuiltins x
  nolimit : base.NoLimit
structure Cx where
  prog : Program
  w : World
  K : PySem.W.Frag
  mg : Str → Option Value
  base : Heap
  A : Around
  N : List Str
  s_0 : Shared
  H_0 : Hp
  env : Env
  outer : List Env
  stack : List Env
  ex : List Addr
  fn : Str → Bool
  calm : Bool
  pn : List (Addr × Obj)
  xe : Value → Shared → Prop
def frs (l : List Env) : List Addr := l.filterMap (·.frame)
abbrev Cx.fs (X : Cx) : List Addr := frs X.outer
def Vis (sc : Scope) (x : Str) : Prop := sc.names.lookup x = some .local ∨ sc.names.lookup x = some .cell ∨ sc.names.lookup x = some .free
def Loc (sc : Scope) (x : Str) : Prop := sc.names.lookup x = some .local ∨ sc.names.lookup x = some .cell
def Look (env : Env) (h : Heap) (m : Str → Option Value) (x : Str) (u : Value) : Prop :=
  (env.kindOf x = some .local ∧ m x = some u) ∨ ((env.kindOf x = some .cell ∨ env.kindOf x = some .free) ∧ ∃ c, env.cells.lookup x = some c ∧ h.IsCell c (some u))
structure Cx.Ok (X : Cx) : Prop where
  mod : Mod X.K X.mg X.base
  kind : X.env.scope.kind = .function
  glob : X.env.globals = mainGlobals
  blt : X.env.builtins = builtinsNs
  above : X.s_0.heap.objs.size ≤ X.env.locals
  inj : ∀ x y c, X.env.cells.lookup x = some c → X.env.cells.lookup y = some c → x = y
  has : ∀ x, (X.env.kindOf x = some .cell ∨ X.env.kindOf x = some .free) → ∃ c, X.env.cells.lookup x = some c
  cab : ∀ x c, X.fn x = true → X.env.cells.lookup x = some c → X.s_0.heap.objs.size ≤ c
  hd : X.calm = true → X.A.handled = none
  frames : X.A.frames = some X.stack
  stk : X.stack = X.outer ∨ (X.stack = X.env :: X.outer ∧ X.env.frame = some X.env.locals)
  exf : ∀ b ∈ X.ex, b ≠ X.env.locals ∧ ∀ x c, X.env.cells.lookup x = some c → c ≠ b
  bs : ∀ b o, X.base.get? b = some o → X.s_0.heap.get? b = some o ∧ X.H_0 b = none
  bsz : X.base.objs.size ≤ X.s_0.heap.objs.size
  noex : ∀ b o, X.base.get? b = some o → b ∉ X.ex
  exfs : ∀ b ∈ X.ex, b ∉ X.fs
  funs : X.s_0.heap.FunFrames X.base X.outer
  frf : ∀ b ∈ X.fs, X.H_0 b = none
structure Inv (X : Cx) (pins : List (Addr × Obj)) (σ : List (Option V)) (H : Hp) (s : Shared) : Prop where
  ok : X.Ok
  os : s.os = X.s_0.os
  bare : AllBare s.gens
  base : Un X.fs X.ex X.H_0 H X.s_0.heap s.heap
  loc : ∃ m, s.heap.Ns X.env.locals m ∧ ∀ (i : Nat) (x : Str) (v : V), X.N[i]? = some x → σ[i]? = some (some v) → Vis X.env.scope x → ∃ u, RelV v u ∧ Look X.env s.heap m x u
  cell : ∀ x c, X.env.cells.lookup x = some c → ∃ v, s.heap.IsCell c v
  free : H X.env.locals = none
  freeC : ∀ x c, X.env.cells.lookup x = some c → H c = none
  pin : ∀ p ∈ X.pn ++ pins, s.heap.get? p.1 = some p.2 ∧ H p.1 = none ∧ p.1 ≠ X.env.locals ∧ p.1 ∉ X.fs ∧ ∀ v, p.2.data ≠ .cell v
  hok : HOk X.prog X.w H s.heap
  len : σ.length = X.N.length
section
variable {X : Cx} {pins : List (Addr × Obj)} {σ : List (Option V)} {H H' : Hp} {s : Shared} {h' : Heap}
theorem Cx.Ok.nofr (ok : X.Ok) {b : Addr} {o : Obj} (e : X.base.get? b = some o) : b ∉ X.fs := fun hb => by
  have := (ok.funs.mem hb).1
  rw [e] at this; cases this
theorem Inv.bs (I : Inv X pins σ H s) : ∀ b o, X.base.get? b = some o → s.heap.get? b = some o ∧ H b = none := fun b o e =>
  ⟨I.base.keep b o (I.ok.bs b o e).1 (I.ok.bs b o e).2 (I.ok.nofr e) (I.ok.noex b o e), I.base.free b o (I.ok.bs b o e).1 (I.ok.bs b o e).2 (I.ok.noex b o e)⟩
theorem Inv.bk (I : Inv X pins σ H s) : ∀ b o, X.base.get? b = some o → s.heap.get? b = some o := fun b o e => (I.bs b o e).1
theorem Inv.mod (I : Inv X pins σ H s) : Mod X.K X.mg X.base := I.ok.mod
theorem Inv.kIn (I : Inv X pins σ H s) : X.K.In s.heap := I.ok.mod.kin.keeps I.bk
theorem Inv.nolimit (I : Inv X pins σ H s) : s.heap.NoLimit := I.ok.mod.nolimit.keeps I.bk
theorem Inv.fr (I : Inv X pins σ H s) : ∃ m, Fr X.base X.env.locals s.heap m :=
  let ⟨m, hn, _⟩ := I.loc
  ⟨m, hn, I.bk, Nat.le_trans I.ok.bsz I.ok.above⟩
theorem Inv.lt (I : Inv X pins σ H s) : X.env.locals < s.heap.objs.size := let ⟨_, hn, _⟩ := I.loc; hn.lt
theorem Inv.sz (I : Inv X pins σ H s) : X.s_0.heap.objs.size ≤ s.heap.objs.size := Nat.le_trans I.ok.above (Nat.le_of_lt I.lt)
theorem Inv.nofs (I : Inv X pins σ H s) {a : Addr} (h : s.heap.objs.size ≤ a) : a ∉ X.fs := fun hb => by
  obtain ⟨_, o, ho, _⟩ := I.ok.funs.mem hb
  exact absurd (Nat.lt_of_lt_of_le (Heap.lt_size ho) (Nat.le_trans I.sz h)) (Nat.lt_irrefl _)
theorem Inv.cne (I : Inv X pins σ H s) : ∀ x c, X.env.cells.lookup x = some c → c ≠ X.env.locals := fun x c e z => by
  obtain ⟨v, o, ho, hd⟩ := I.cell x c e
  obtain ⟨m, ⟨o', es, ep, ho', hd', _⟩, _⟩ := I.loc
  rw [z, ho'] at ho; cases ho; rw [hd'] at hd; cases hd
theorem Inv.funs (I : Inv X pins σ H s) : s.heap.FunFrames X.base X.outer := by
  have all : ∀ (l : List Env), (∀ b ∈ frs l, b ∈ X.fs) → X.s_0.heap.FunFrames X.base l → s.heap.FunFrames X.base l := by
    intro l
    induction l with
    | nil => intro _ _; trivial
    | cons env r ih =>
      intro hs hl
      obtain ⟨hk, ⟨L, o, hf, hn, ho, hd⟩, hr⟩ := hl
      have hL : L ∈ X.fs := hs L (by unfold frs; rw [List.filterMap_cons, hf]; exact List.mem_cons_self)
      obtain ⟨sl, e⟩ := I.base.slot L o ho (I.ok.frf L hL) hL fun z => I.ok.exfs L z hL
      exact ⟨hk, ⟨L, _, hf, hn, e, hd⟩, ih (fun b hb => hs b (by unfold frs; rw [List.filterMap_cons, hf]; exact List.mem_cons_of_mem _ hb)) hr⟩
  exact all X.outer (fun _ hb => hb) I.ok.funs
theorem Inv.stack (I : Inv X pins σ H s) : s.heap.FunFrames X.base X.stack := by
  rcases I.ok.stk with e | ⟨e, hf⟩
  · rw [e]; exact I.funs
  · rw [e]
    obtain ⟨m, hn, _⟩ := I.loc
    refine .cons (by rw [I.ok.kind]; decide) hf hn ?_ I.funs
    exact Heap.get?_none_of_le (Nat.le_trans I.ok.bsz I.ok.above)
theorem Inv.stkSub (I : Inv X pins σ H s) : ∀ b ∈ frs X.stack, b ∈ X.env.locals :: X.fs := fun b hb => by
  rcases I.ok.stk with e | ⟨e, hf⟩
  · rw [e] at hb; exact List.mem_cons_of_mem _ hb
  · rw [e] at hb
    unfold frs at hb
    rw [List.filterMap_cons, hf] at hb
    exact hb
theorem Inv.stkFree (I : Inv X pins σ H s) : ∀ b ∈ frs X.stack, H b = none := fun b hb => by
  rcases List.mem_cons.mp (I.stkSub b hb) with e | hb
  · rw [e]; exact I.free
  · obtain ⟨_, o, ho, _⟩ := I.ok.funs.mem hb
    exact I.base.free b o ho (I.ok.frf b hb) fun z => I.ok.exfs b z hb
theorem Inv.step {g' : Array GenState} {t' : Nat} {d' : Drawn} {ch : List Addr} (I : Inv X pins σ H s)
    (hch : ∀ b ∈ ch, (b ∈ X.ex ∨ X.s_0.heap.objs.size ≤ b) ∧ b ≠ X.env.locals ∧ (∀ x c, X.env.cells.lookup x = some c → c ≠ b) ∧ ∀ p ∈ X.pn ++ pins, p.1 ≠ b)
    (keep : ∀ b o, b ≠ X.env.locals → b ∉ X.fs → b ∉ ch → s.heap.get? b = some o → H b = none → h'.get? b = some o)
    (slot : ∀ b o, b ≠ X.env.locals → b ∈ X.fs → b ∉ ch → s.heap.get? b = some o → H b = none → ∃ sl, h'.get? b = some { o with slots := sl }) (free : ∀ b o, b ∉ ch → s.heap.get? b = some o → H b = none → H' b = none)
    (there : ∀ b o, b ∉ ch → s.heap.get? b = some o → ∃ o', h'.get? b = some o')
    (tups : ∀ b xs, H b = some (.tup xs) → H' b = some (.tup xs)) (frzs : ∀ b o u, H b = some (.frz o u) → H' b = some (.frz o u)) (tbls : ∀ b ps, H b = some (.tbl ps) → ∃ more, H' b = some (.tbl (ps ++ more)))
    (ns : ∀ m, s.heap.Ns X.env.locals m → h'.Ns X.env.locals m) (hok : HOk X.prog X.w H' h') (hg : AllBare g') :
    Inv X pins σ H' { s with heap := h', gens := g', drawn := d', toks := t' } := by
  have neL : ∀ b o, X.s_0.heap.get? b = some o → b ≠ X.env.locals := fun b o e => Nat.ne_of_lt (Nat.lt_of_lt_of_le (Heap.lt_size e) I.ok.above)
  have neC : ∀ b o, X.s_0.heap.get? b = some o → b ∉ X.ex → b ∉ ch := fun b o e hx hb => by
    rcases (hch b hb).1 with z | z
    · exact hx z
    · exact absurd (Nat.lt_of_lt_of_le (Heap.lt_size e) z) (Nat.lt_irrefl _)
  have cellK : ∀ x c, X.env.cells.lookup x = some c → ∀ v, s.heap.IsCell c v → h'.IsCell c v := fun x c e v ⟨o, ho, hd⟩ => by
    have nch : c ∉ ch := fun z => (hch c z).2.2.1 x c e rfl
    by_cases hc : c ∈ X.fs
    · obtain ⟨sl, q⟩ := slot c o (I.cne x c e) hc nch ho (I.freeC x c e)
      exact ⟨_, q, hd⟩
    · exact ⟨o, keep c o (I.cne x c e) hc nch ho (I.freeC x c e), hd⟩
  refine ⟨I.ok, I.os, hg, ⟨fun b o e n hb hx => ?_, fun b o e n hb hx => ?_, fun b o e n hx => ?_, fun b o e hx => ?_, fun b xs e => tups b xs (I.base.tups b xs e), fun b o xs e => frzs b o xs (I.base.frzs b o xs e), fun b ps e => ?_⟩, ?_, fun x c e => ?_, ?_, fun x c e => ?_, fun p hp => ?_, hok, I.len⟩
  · exact keep b o (neL b o e) hb (neC b o e hx) (I.base.keep b o e n hb hx) (I.base.free b o e n hx)
  · obtain ⟨sl, e1⟩ := I.base.slot b o e n hb hx
    obtain ⟨sl', e2⟩ := slot b _ (neL b o e) hb (neC b o e hx) e1 (I.base.free b o e n hx)
    exact ⟨sl', e2⟩
  · obtain ⟨o', e1⟩ := I.base.there b o e hx
    exact free b o' (neC b o e hx) e1 (I.base.free b o e n hx)
  · obtain ⟨o', e1⟩ := I.base.there b o e hx
    exact there b o' (neC b o e hx) e1
  · obtain ⟨m1, e1⟩ := I.base.tbls b ps e
    obtain ⟨m2, e2⟩ := tbls b _ e1
    exact ⟨m1 ++ m2, by rw [e2, Array.append_assoc]⟩
  · obtain ⟨m, hn, hl⟩ := I.loc
    refine ⟨m, ns m hn, fun i x v e1 e2 e3 => ?_⟩
    obtain ⟨u, r, l⟩ := hl i x v e1 e2 e3
    refine ⟨u, r, ?_⟩
    rcases l with l | ⟨k, c, e, z⟩
    · exact .inl l
    · exact .inr ⟨k, c, e, cellK x c e _ z⟩
  · obtain ⟨v, z⟩ := I.cell x c e
    exact ⟨v, cellK x c e v z⟩
  · obtain ⟨m, ⟨o, _, _, ho, _⟩, _⟩ := I.loc
    exact free _ o (fun z => (hch _ z).2.1 rfl) ho I.free
  · obtain ⟨v, o, ho, hd⟩ := I.cell x c e
    exact free c o (fun z => (hch c z).2.2.1 x c e rfl) ho (I.freeC x c e)
  · obtain ⟨e, n, ne, nf, d⟩ := I.pin p hp
    have nch : p.1 ∉ ch := fun z => (hch p.1 z).2.2.2 p hp rfl
    exact ⟨keep p.1 p.2 ne nf nch e n, free p.1 p.2 nch e n, ne, nf, d⟩
theorem Inv.un {t' : Nat} (I : Inv X pins σ H s) (u : Un X.fs [] H H' s.heap h') (hok : HOk X.prog X.w H' h') : Inv X pins σ H' { s with heap := h', toks := t' } := by
  obtain ⟨m, ⟨o, es, ep, ho, r⟩, _⟩ := id I.loc
  obtain ⟨sl, hL⟩ := u.any ho I.free (by simp)
  exact I.step (g' := s.gens) (d' := s.drawn) (ch := []) (fun _ z => nomatch z) (fun b o _ hb _ e n => u.keep b o e n hb (by simp)) (fun b o _ hb _ e n => u.slot b o e n hb (by simp)) (fun b o _ e n => u.free b o e n (by simp)) (fun b o _ e => u.there b o e (by simp)) u.tups u.frzs u.tbls (fun m' hm => by
    obtain ⟨o', es', ep', ho', r'⟩ := hm
    rw [ho] at ho'; cases ho'
    exact ⟨_, es', ep', hL, r'⟩) hok I.bare
theorem Inv.call {g' : Array GenState} {t' : Nat} {d' : Drawn} {ch : List Addr} (I : Inv X pins σ H s) (u : Un (frs X.stack) ch H H' s.heap h') (hok : HOk X.prog X.w H' h') (hg : AllBare g')
    (hch : ∀ b ∈ ch, (b ∈ X.ex ∨ X.s_0.heap.objs.size ≤ b) ∧ b ≠ X.env.locals ∧ (∀ x c, X.env.cells.lookup x = some c → c ≠ b) ∧ ∀ p ∈ X.pn ++ pins, p.1 ≠ b) :
    Inv X pins σ H' { s with heap := h', gens := g', drawn := d', toks := t' } := by
  obtain ⟨m, ⟨o, es, ep, ho, r⟩, _⟩ := id I.loc
  obtain ⟨sl, hL⟩ := u.any ho I.free fun z => (hch _ z).2.1 rfl
  exact I.step (ch := ch) hch (fun b o hL hb hc e n => u.keep b o e n (fun z => (List.mem_cons.mp (I.stkSub b z)).elim hL hb) hc) (fun b o _ _ hc e n => u.any e n hc) (fun b o hc e n => u.free b o e n hc) (fun b o hc e => u.there b o e hc) u.tups u.frzs u.tbls (fun m' hm => by
    obtain ⟨o', es', ep', ho', r'⟩ := hm
    rw [ho] at ho'; cases ho'
    exact ⟨_, es', ep', hL, r'⟩) hok hg
theorem Inv.turned {t' : Nat} {it : Addr} (I : Inv X pins σ H s) (k : ∀ b o, b ≠ it → s.heap.get? b = some o → h'.get? b = some o) (hn : H it = none) (hL : it ≠ X.env.locals)
    (h1 : it ∈ X.ex ∨ X.s_0.heap.objs.size ≤ it) (h2 : ∀ x c, X.env.cells.lookup x = some c → c ≠ it) (h3 : ∀ p ∈ X.pn ++ pins, p.1 ≠ it) : Inv X pins σ H { s with heap := h', toks := t' } := by
  have nit : ∀ b u, H b = some u → b ≠ it := fun b u e z => by rw [z, hn] at e; cases e
  refine I.step (g' := s.gens) (d' := s.drawn) (ch := [it]) (fun b hb => ?_) (fun b o _ _ hc e _ => k b o (fun z => hc (by simp [z])) e) (fun b o _ _ hc e _ => ⟨o.slots, k b o (fun z => hc (by simp [z])) e⟩) (fun _ _ _ _ n => n)
    (fun b o hc e => ⟨o, k b o (fun z => hc (by simp [z])) e⟩) (fun _ _ e => e) (fun _ _ _ e => e) (fun b ps e => ⟨#[], by rw [e]; simp⟩) (fun m hm => ?_) (fun b u e => ?_) I.bare
  · have e : b = it := by simpa using hb
    subst e
    exact ⟨h1, hL, h2, h3⟩
  · obtain ⟨o, es, ep, ho, r⟩ := hm
    exact ⟨o, es, ep, k _ o (Ne.symm hL) ho, r⟩
  · refine (I.hok b u e).stay (fun c v hc q => k c v ?_ q) (fun _ q => q) fun _ _ q => q
    rcases hc with z | z
    · rw [z]; exact nit b u e
    · exact nit c _ z
theorem Inv.tok (I : Inv X pins σ H s) (t : Nat) : Inv X pins σ H { s with toks := t } := I.un (h' := s.heap) (t' := t) Un.refl I.hok
theorem Inv.kept {t' : Nat} (I : Inv X pins σ H s) (k : ∀ b u, s.heap.get? b = some u → h'.get? b = some u) : Inv X pins σ H { s with heap := h', toks := t' } := I.un (Un.kept k) (I.hok.kept k)
theorem Inv.laid {a : Addr} {o : HO} {t' : Nat} (I : Inv X pins σ H s) (k : ∀ b u, s.heap.get? b = some u → h'.get? b = some u) (hp : s.heap.objs.size ≤ a) (new : ObjOk X.prog X.w (upd H a o) h' a o) :
    Inv X pins σ (upd H a o) { s with heap := h', toks := t' } := I.un (Un.laid k hp (I.hok.fresh hp)) (I.hok.laid k hp new)
theorem Inv.write {x e : Addr} {o : HO} {t' : Nat} (I : Inv X pins σ H s) (mu : Mut (H x)) (he : e = x ∨ H e = some (.own x)) (k : ∀ b u, b ≠ e → s.heap.get? b = some u → h'.get? b = some u) (heo : ∃ u, h'.get? e = some u)
    (new : ObjOk X.prog X.w (upd H x o) h' x o) : Inv X pins σ (upd H x o) { s with heap := h', toks := t' } := I.un (Un.write mu he k heo) (I.hok.write mu he k heo new)
theorem Inv.weak {σ' : List (Option V)} (I : Inv X pins σ H s) (hl : σ'.length = σ.length) (w : ∀ (i : Nat) v, σ'[i]? = some (some v) → σ[i]? = some (some v)) : Inv X pins σ' H s :=
  ⟨I.ok, I.os, I.bare, I.base, let ⟨m, hn, hl'⟩ := I.loc; ⟨m, hn, fun i x v e1 e2 e3 => hl' i x v e1 (w i v e2) e3⟩, I.cell, I.free, I.freeC, I.pin, I.hok, hl.trans I.len⟩
theorem Inv.pins_of {pins' : List (Addr × Obj)} (I : Inv X pins σ H s) (h : ∀ p ∈ pins', s.heap.get? p.1 = some p.2 ∧ H p.1 = none ∧ p.1 ≠ X.env.locals ∧ p.1 ∉ X.fs ∧ ∀ v, p.2.data ≠ .cell v) : Inv X pins' σ H s :=
  ⟨I.ok, I.os, I.bare, I.base, I.loc, I.cell, I.free, I.freeC, fun p hp => (List.mem_append.mp hp).elim (fun z => I.pin p (List.mem_append_left _ z)) (h p), I.hok, I.len⟩
theorem nodup_ix {N : List Str} (hN : N.Nodup) {i j : Nat} {x : Str} (a : N[i]? = some x) (b : N[j]? = some x) : i = j := by
  obtain ⟨h1, e1⟩ := List.getElem?_eq_some_iff.mp a
  obtain ⟨h2, e2⟩ := List.getElem?_eq_some_iff.mp b
  exact (List.getElem_inj hN).mp (e1.trans e2.symm)
theorem store_ok2 {M : Model} {A : Around} {E : Value → Shared → Prop} {i : Nat} {x : Str} {v : V} {u : Value} {Q : Unit → Shared → Prop} (I : Inv X pins σ H s) (hN : X.N.Nodup) (hi : X.N[i]? = some x) (hx : Loc X.env.scope x) (r : RelV v u)
    (h : ∀ s', Inv X pins (σ.set i (some v)) H s' → (∃ a, Heap.SameBut a s.heap s'.heap ∧ (a = X.env.locals ∨ X.env.cells.lookup x = some a)) → Q () s') (hf : X.fn x = true ∨ X.env.scope.names.lookup x = some .local := by first | exact .inl rfl | exact .inr rfl | assumption) : wpAny M A (storeName X.env x u) Q E s := by
  obtain ⟨m, hn, hl⟩ := id I.loc
  have hcls : (X.env.scope.kind == .class || (X.env.scope.kind == .module && X.env.locals != X.env.globals)) = false := by rw [I.ok.kind]; rfl
  have hiσ : i < σ.length := by rw [I.len]; exact (List.getElem?_eq_some_iff.mp hi).1
  have cne := I.cne
  have tracked : ∀ {a : Addr} {h' : Heap}, (∃ o, s.heap.get? a = some o ∧ H a = none) → Heap.SameBut a s.heap h' → HOk X.prog X.w H h' := fun {a h'} ha hs b ob e => by
    obtain ⟨_, _, hfree⟩ := ha
    refine (I.hok b ob e).stay (fun c w' hc q => (hs.2 c ?_).trans q) (fun _ q => q) fun _ _ q => q
    rintro rfl
    rcases hc with rfl | hc
    · rw [hfree] at e; cases e
    · rw [hfree] at hc; cases hc
  rcases hx with hk | hk
  · refine wpAny_storeName_local hk hn (fun h' hn' hs => ?_) hcls
    obtain ⟨oL, _, _, hoL, _⟩ := id hn
    refine h _ ⟨I.ok, I.os, I.bare, ⟨fun b o e n hb hx => ?_, fun b o e n hb hx => ?_, I.base.free, fun b o e hx => ?_, I.base.tups, I.base.frzs, I.base.tbls⟩, ⟨_, hn', fun j y v' e1 e2 e3 => ?_⟩, fun y c e => ?_, I.free, I.freeC, fun p hp => ?_, tracked ⟨oL, hoL, I.free⟩ hs, by simpa using I.len⟩ ⟨_, hs, .inl rfl⟩
    · exact (hs.2 b (Nat.ne_of_lt (Nat.lt_of_lt_of_le (Heap.lt_size e) I.ok.above))).trans (I.base.keep b o e n hb hx)
    · obtain ⟨sl, e1⟩ := I.base.slot b o e n hb hx
      exact ⟨sl, (hs.2 b (Nat.ne_of_lt (Nat.lt_of_lt_of_le (Heap.lt_size e) I.ok.above))).trans e1⟩
    · obtain ⟨o', e1⟩ := I.base.there b o e hx
      exact ⟨o', (hs.2 b (Nat.ne_of_lt (Nat.lt_of_lt_of_le (Heap.lt_size e) I.ok.above))).trans e1⟩
    · by_cases hj : j = i
      · subst hj
        rw [hi] at e1; cases e1
        rw [List.getElem?_set_self hiσ] at e2
        cases e2
        exact ⟨u, r, .inl ⟨hk, by simp⟩⟩
      · rw [List.getElem?_set_ne (Ne.symm hj)] at e2
        obtain ⟨u', r', q⟩ := hl j y v' e1 e2 e3
        refine ⟨u', r', ?_⟩
        rcases q with ⟨k, e⟩ | ⟨k, c, e, z⟩
        · refine .inl ⟨k, ?_⟩
          have : y ≠ x := fun e => hj (nodup_ix hN e1 (e ▸ hi))
          simp [this, e]
        · exact .inr ⟨k, c, e, z.sameBut hs (cne y c e)⟩
    · obtain ⟨w', z⟩ := I.cell y c e
      exact ⟨w', z.sameBut hs (cne y c e)⟩
    · obtain ⟨e, n, ne, nf, d⟩ := I.pin p hp
      exact ⟨(hs.2 p.1 ne).trans e, n, ne, nf, d⟩
  · have hfn : X.fn x = true := by
      rcases hf with z | z
      · exact z
      · rw [z] at hk; cases hk
    obtain ⟨c, hc⟩ := I.ok.has x (.inl hk)
    obtain ⟨w', z⟩ := I.cell x c hc
    refine wpAny_storeName_cell I.ok.kind hk hc z (fun h' hc' hs => ?_)
    obtain ⟨oc, hoc, hocd⟩ := id z
    refine h { s with heap := h' } ⟨I.ok, I.os, I.bare, ⟨fun b o e n hb hx => ?_, fun b o e n hb hx => ?_, I.base.free, fun b o e hx => ?_, I.base.tups, I.base.frzs, I.base.tbls⟩, ⟨m, hn.sameBut hs (Ne.symm (cne x c hc)), fun j y v' e1 e2 e3 => ?_⟩, fun y c' e => ?_, I.free, I.freeC, fun p hp => ?_, tracked ⟨oc, hoc, I.freeC x c hc⟩ hs, by simpa using I.len⟩ ⟨c, hs, .inr hc⟩
    · exact (hs.2 b (Nat.ne_of_lt (Nat.lt_of_lt_of_le (Heap.lt_size e) (I.ok.cab x c hfn hc)))).trans (I.base.keep b o e n hb hx)
    · obtain ⟨sl, e1⟩ := I.base.slot b o e n hb hx
      exact ⟨sl, (hs.2 b (Nat.ne_of_lt (Nat.lt_of_lt_of_le (Heap.lt_size e) (I.ok.cab x c hfn hc)))).trans e1⟩
    · obtain ⟨o', e1⟩ := I.base.there b o e hx
      exact ⟨o', (hs.2 b (Nat.ne_of_lt (Nat.lt_of_lt_of_le (Heap.lt_size e) (I.ok.cab x c hfn hc)))).trans e1⟩
    · by_cases hj : j = i
      · subst hj
        rw [hi] at e1; cases e1
        rw [List.getElem?_set_self hiσ] at e2
        cases e2
        exact ⟨u, r, .inr ⟨.inl hk, c, hc, hc'⟩⟩
      · rw [List.getElem?_set_ne (Ne.symm hj)] at e2
        obtain ⟨u', r', q⟩ := hl j y v' e1 e2 e3
        refine ⟨u', r', ?_⟩
        rcases q with q | ⟨k, c', e, z'⟩
        · exact .inl q
        · refine .inr ⟨k, c', e, z'.sameBut hs ?_⟩
          rintro rfl
          exact hj (nodup_ix hN e1 (I.ok.inj _ _ _ e hc ▸ hi))
    · by_cases hcc : c' = c
      · subst hcc; exact ⟨_, hc'⟩
      · obtain ⟨w2, z2⟩ := I.cell y c' e
        exact ⟨w2, z2.sameBut hs hcc⟩
    · obtain ⟨e, n, ne, nf, d⟩ := I.pin p hp
      refine ⟨(hs.2 p.1 ?_).trans e, n, ne, nf, d⟩
      intro q
      rw [q, hoc] at e
      have q' : oc = p.2 := Option.some.inj e
      exact d w' (by rw [← q']; exact hocd)
theorem store_ok {M : Model} {A : Around} {E : Value → Shared → Prop} {i : Nat} {x : Str} {v : V} {u : Value} {Q : Unit → Shared → Prop} (I : Inv X pins σ H s) (hN : X.N.Nodup) (hi : X.N[i]? = some x) (hx : Loc X.env.scope x) (r : RelV v u)
    (h : ∀ s', Inv X pins (σ.set i (some v)) H s' → Q () s') (hf : X.fn x = true ∨ X.env.scope.names.lookup x = some .local := by first | exact .inl rfl | exact .inr rfl | assumption) : wpAny M A (storeName X.env x u) Q E s :=
  store_ok2 I hN hi hx r (fun s' I' _ => h s' I') hf
theorem Inv.call' {s' : Shared} {ch : List Addr} (I : Inv X pins σ H s) (ho : s'.os = s.os) (u : Un (frs X.stack) ch H H' s.heap s'.heap) (hok : HOk X.prog X.w H' s'.heap) (hg : AllBare s'.gens)
    (hch : ∀ b ∈ ch, (b ∈ X.ex ∨ X.s_0.heap.objs.size ≤ b) ∧ b ≠ X.env.locals ∧ (∀ x c, X.env.cells.lookup x = some c → c ≠ b) ∧ ∀ p ∈ X.pn ++ pins, p.1 ≠ b) : Inv X pins σ H' s' := by
  obtain ⟨h', g', d', t', o'⟩ := s'
  have e : o' = s.os := ho
  subst e
  exact I.call (g' := g') (t' := t') (d' := d') u hok hg hch
end
abbrev XK := Value → Option Addr → Hp → Prop
abbrev St := List (Option V)
abbrev VK := V → Hp → Prop
abbrev TE := St → Hp → VK → Prop
abbrev TT := St → Hp → (Bool → Hp → Prop) → Prop
abbrev TA := St → Hp → (List V → Hp → Prop) → Prop
structure Ends where
  nx : St → Hp → Prop
  rt : VK
  bk : St → Hp → Prop := fun _ _ => False
  ct : St → Hp → Prop := fun _ _ => False
abbrev TS := Ends → St → Hp → Prop
def EP (X : Cx) (pins : List (Addr × Obj)) (σ : St) (Q : VK) (u : Value) (s' : Shared) : Prop := ∃ v H', Inv X pins σ H' s' ∧ RelV v u ∧ Q v H'
def TP (X : Cx) (pins : List (Addr × Obj)) (σ : St) (Q : Bool → Hp → Prop) (b : Bool) (s' : Shared) : Prop := ∃ H', Inv X pins σ H' s' ∧ Q b H'
def AP (X : Cx) (pins : List (Addr × Obj)) (σ : St) (Q : List V → Hp → Prop) (us : List Value) (s' : Shared) : Prop := ∃ vs H', Inv X pins σ H' s' ∧ Vals vs us ∧ Q vs H'
def SP (X : Cx) (pins : List (Addr × Obj)) (D : Ends) (f : Flow) (s' : Shared) : Prop :=
  match f with
  | .next => ∃ σ' H', Inv X pins σ' H' s' ∧ D.nx σ' H'
  | .brk => ∃ σ' H', Inv X pins σ' H' s' ∧ D.bk σ' H'
  | .cont => ∃ σ' H', Inv X pins σ' H' s' ∧ D.ct σ' H'
  | .ret u => ∃ v σ' H', Inv X pins σ' H' s' ∧ RelV v u ∧ D.rt v H'
def PE (X : Cx) (e : Expr) (t : TE) : Prop :=
  ∀ (pins : List (Addr × Obj)) (s : Shared) (σ : St) (H : Hp) (Q : VK), Inv X pins σ H s → t σ H Q → wpAny (model X.prog X.w) X.A (eval e X.env) (EP X pins σ Q) X.xe s
def PT (X : Cx) (e : Expr) (t : TT) : Prop :=
  ∀ (pins : List (Addr × Obj)) (s : Shared) (σ : St) (H : Hp) (Q : Bool → Hp → Prop), Inv X pins σ H s → t σ H Q → wpAny (model X.prog X.w) X.A (isTrue e X.env (eval e X.env)) (TP X pins σ Q) X.xe s
def PW (X : Cx) (e : Expr) (t : TT) : Prop :=
  ∀ (whole : Sem Value) (pins : List (Addr × Obj)) (s : Shared) (σ : St) (H : Hp) (Q : Bool → Hp → Prop), Inv X pins σ H s → t σ H Q → wpAny (model X.prog X.w) X.A (isTrue e X.env whole) (TP X pins σ Q) X.xe s
theorem PW.pt {X : Cx} {e : Expr} {t : TT} (h : PW X e t) : PT X e t := h _
def PA (X : Cx) (es : List Expr) (t : TA) : Prop :=
  ∀ (pos : Pos) (pins : List (Addr × Obj)) (s : Shared) (σ : St) (H : Hp) (Q : List V → Hp → Prop), Inv X pins σ H s → t σ H Q → wpAny (model X.prog X.w) X.A (spliced (backTo pos (starEach es X.env))) (AP X pins σ Q) X.xe s
def PS (X : Cx) (st : Stmt) (t : TS) : Prop :=
  ∀ (pins : List (Addr × Obj)) (s : Shared) (σ : St) (H : Hp) (D : Ends), Inv X pins σ H s → t D σ H → wpAny (model X.prog X.w) X.A (exec st X.env) (SP X pins D) X.xe s
def PSs (X : Cx) (st : List Stmt) (t : TS) : Prop :=
  ∀ (pins : List (Addr × Obj)) (s : Shared) (σ : St) (H : Hp) (D : Ends), Inv X pins σ H s → t D σ H → wpAny (model X.prog X.w) X.A (execs st X.env) (SP X pins D) X.xe s
theorem thn {α : Type} {t : Sem α} {Q Q' : α → Shared → Prop} {M : Model} {A : Around} {E : Value → Shared → Prop} {s : Shared} (h : wpAny M A t Q E s) (hQ : ∀ a s, Q a s → Q' a s) : wpAny M A t Q' E s := wpAny_mono h hQ fun _ _ x => x
end L2
namespace L2
open PySem PySem.Spec PyProof.Rows
section
variable {X : Cx}
def tVar (i : Nat) : TE := fun σ H Q => ∃ v, σ[i]? = some (some v) ∧ Q v H
def tC (v : V) : TE := fun _ H Q => Q v H
theorem pe_var {i : Nat} {x : Str} {pos : Pos} (hN : X.N[i]? = some x) (hv : Vis X.env.scope x) (hd : (x == ("__debug__" : Str)) = false := by decide) (hcd : (x == ("__classdict__" : Str)) = false := by decide) : PE X (.Name x pos) (tVar i) := by
  intro pins s σ H Q I h
  obtain ⟨v, e, h⟩ := h
  obtain ⟨m, hn, hl⟩ := I.loc
  obtain ⟨u, r, l⟩ := hl i x v hN e hv
  have fin : EP X pins σ Q u s := ⟨v, H, I, r, h⟩
  rcases l with ⟨hk, hm⟩ | ⟨hk, c, hc, hcell⟩
  · exact wpAny_Name (wpAny_loadName_local I.ok.kind hk hn hm fin) hd
  · rcases hk with hk | hk
    · exact wpAny_Name (wpAny_loadName_cell I.ok.kind hk hc hcell fin) hd
    · exact wpAny_Name (wpAny_loadName_free I.ok.kind hk hc hcell fin hcd) hd
theorem pe_int {i j pos} : PE X (.Constant (.int i) j pos) (tC (.int i)) := fun _ _ _ H _ I h => wpAny_Constant_int ⟨.int i, H, I.tok _, ⟨_, rfl⟩, h⟩
theorem pe_non {j pos} : PE X (.Constant .none j pos) (tC .non) := fun _ _ _ H _ I h => Constant_none ⟨.non, H, I, rfl, h⟩
def Gl (X : Cx) (x : Str) : Prop := X.env.kindOf x = some .globalImplicit
theorem ld_glob {E : Value → Shared → Prop} {pins : List (Addr × Obj)} {s : Shared} {σ : St} {H : Hp} {x : Str} {u : Value} {pos : Pos} {Q : Value → Shared → Prop} (I : Inv X pins σ H s) (hg : Gl X x) (hm : X.mg x = some u) (h : Q u s)
    (hd : (x == ("__debug__" : Str)) = false := by decide) : wpAny (model X.prog X.w) X.A (eval (.Name x pos) X.env) Q E s :=
  Calls.Name_function_global I.ok.kind hg (Calls.loadGlobal_global (by rw [I.ok.glob]; exact I.mod.glob.keeps I.bk) hm h) hd
theorem ld_blt {E : Value → Shared → Prop} {pins : List (Addr × Obj)} {s : Shared} {σ : St} {H : Hp} {x : Str} {u : Value} {pos : Pos} {Q : Value → Shared → Prop} (I : Inv X pins σ H s) (hg : Gl X x) (hm : X.mg x = none) (hv : bootBuiltins x = some u) (h : Q u s)
    (hn : x ≠ "__name__" := by decide) (hd : (x == ("__debug__" : Str)) = false := by decide) : wpAny (model X.prog X.w) X.A (eval (.Name x pos) X.env) Q E s := by
  obtain ⟨mb, h1, h2⟩ := I.mod.blt
  exact Calls.Name_function_global I.ok.kind hg (Calls.loadGlobal_builtin (by rw [I.ok.glob]; exact I.mod.glob.keeps I.bk) hm (by rw [I.ok.blt]; exact h1.keeps I.bk) ((h2 x hn).trans hv) h) hd
theorem pe_glob {x : Str} {v : V} {u : Value} {pos : Pos} (hg : Gl X x) (hm : X.mg x = some u) (r : RelV v u) (hd : (x == ("__debug__" : Str)) = false := by decide) : PE X (.Name x pos) (tC v) :=
  fun _ _ _ H _ I h => ld_glob I hg hm ⟨v, H, I, r, h⟩ hd
variable {a b : Expr} {ta tb : TE} {pos : Pos}
def tB (t : TE) : TT := fun σ H Q => t σ H fun x H1 => ∃ c, x = .bl c ∧ Q c H1
theorem pt_val {e : Expr} {t : TE} (h : PE X e t) (he : ∀ whole, isTrue e X.env whole = (do let v ← whole; standAt e.pos; holding [v] (truthy v)) := by intro _; rfl) : PT X e (tB t) := by
  intro pins s σ H Q I hw
  refine isTrue_plain (thn (h pins s σ H _ I hw) fun v s1 ⟨x, H1, I1, r1, q1⟩ => ?_) (he _)
  obtain ⟨d, rfl, q⟩ := q1
  cases r1
  exact wpAny_truthy_bool ⟨H1, I1, q⟩
variable {tA tB' : TT} {rest : List Expr}
def tAnd (t u : TT) : TT := fun σ H Q => t σ H fun c H1 => if c = true then u σ H1 Q else Q false H1
def tOr (t u : TT) : TT := fun σ H Q => t σ H fun c H1 => if c = true then Q true H1 else u σ H1 Q
def tNot (t : TT) : TT := fun σ H Q => t σ H fun c H1 => Q (!c) H1
theorem pw_and1 (ha : PT X a tA) : PW X (.BoolOp .And [a] pos) tA := by
  intro wh pins s σ H Q I h
  refine isTrue_and (thn (ha pins s σ H Q I h) fun c s1 e => ?_)
  cases c with
  | true => exact isTrue_and_nil e
  | false => exact e
theorem pw_or1 (ha : PT X a tA) : PW X (.BoolOp .Or [a] pos) tA := by
  intro wh pins s σ H Q I h
  refine isTrue_or (thn (ha pins s σ H Q I h) fun c s1 e => ?_)
  cases c with
  | false => exact isTrue_or_nil e
  | true => exact e
theorem pw_and (ha : PT X a tA) (hb : PW X (.BoolOp .And (b :: rest) pos) tB') : PW X (.BoolOp .And (a :: b :: rest) pos) (tAnd tA tB') := by
  intro wh pins s σ H Q I h
  refine isTrue_and (thn (ha pins s σ H _ I h) fun c s1 ⟨H1, I1, q1⟩ => ?_)
  cases c with
  | true => exact hb wh pins s1 σ H1 Q I1 q1
  | false => exact ⟨H1, I1, q1⟩
theorem pw_or (ha : PT X a tA) (hb : PW X (.BoolOp .Or (b :: rest) pos) tB') : PW X (.BoolOp .Or (a :: b :: rest) pos) (tOr tA tB') := by
  intro wh pins s σ H Q I h
  refine isTrue_or (thn (ha pins s σ H _ I h) fun c s1 ⟨H1, I1, q1⟩ => ?_)
  cases c with
  | true => exact ⟨H1, I1, q1⟩
  | false => exact hb wh pins s1 σ H1 Q I1 q1
theorem pt_not (ha : PT X a tA) : PT X (.UnaryOp .Not a pos) (tNot tA) := by
  intro pins s σ H Q I h
  exact isTrue_not (ha pins s σ H (fun c H1 => Q (!c) H1) I h)
def tAndV (ta tb : TE) : TE := fun σ H Q => ta σ H fun x H1 => ∃ c, x = .bl c ∧ if c = true then tb σ H1 Q else Q (.bl false) H1
theorem pe_one {op} {t : TE} (h : PE X a t) : PE X (.BoolOp op [a] pos) t := fun pins s σ H Q I hw => BoolOp_one (h pins s σ H Q I hw)
theorem pe_and (ha : PE X a ta) (hb : PE X (.BoolOp .And (b :: rest) pos) tb) : PE X (.BoolOp .And (a :: b :: rest) pos) (tAndV ta tb) := by
  intro pins s σ H Q I h
  refine BoolOp_and (thn (ha pins s σ H _ I h) fun v s1 ⟨x, H1, I1, r1, q1⟩ => ?_)
  obtain ⟨c, rfl, q1⟩ := q1
  cases r1
  refine wpAny_truthy_bool ?_
  cases c with
  | true => exact hb pins s1 σ H1 Q I1 q1
  | false => exact ⟨.bl false, H1, I1, rfl, q1⟩
def tIf (t : TT) (ta tb : TE) : TE := fun σ H Q => t σ H fun c H1 => if c = true then ta σ H1 Q else tb σ H1 Q
theorem pe_ifExp {c : Expr} (hc : PT X c tA) (ha : PE X a ta) (hb : PE X b tb) : PE X (.IfExp c a b pos) (tIf tA ta tb) := by
  intro pins s σ H Q I h
  refine wpAny_IfExp (thn (hc pins s σ H _ I h) fun d s1 ⟨H1, I1, q1⟩ => ?_)
  cases d with
  | true => exact ha pins s1 σ H1 Q I1 q1
  | false => exact hb pins s1 σ H1 Q I1 q1
end
end L2
namespace L2
open PySem PySem.Spec PyProof.Rows
def SqL (K : PySem.W.Frag) (H : Hp) (a : Addr) (xs : List V) : Prop :=
  Rd H a (.lst xs) ∨
    ∃ (o : Obj) (its : Array Value) (n : Nat), K.lookup a = some o ∧ o.cls = .type "list" ∧ o.dict = none ∧ o.data = .seq its n ∧ its.size ≤ sizeLine ∧ Vals xs its.toList
def SqT (K : PySem.W.Frag) (H : Hp) (a : Addr) (xs : List V) : Prop :=
  Rd H a (.tup xs) ∨
    ∃ (o : Obj) (its : Array Value) (n : Nat), K.lookup a = some o ∧ o.cls = .type "tuple" ∧ o.data = .seq its n ∧ its.size ≤ sizeLine ∧ Vals xs its.toList
def absV : Value → Option V
  | .none => some .non
  | .bool b => some (.bl b)
  | .int i _ => some (.int i)
  | .str x _ => some (.str x)
  | .bytes b _ => some (.byt b)
  | .float b _ => some (.flt b)
  | .ref a => some (.ref a)
  | .type n => some (.ty n)
  | _ => none
theorem RelV.abs {x : V} {u : Value} (r : RelV x u) : absV u = some x := by
  cases x with
  | non => cases r; rfl
  | bl _ => cases r; rfl
  | int _ => obtain ⟨t, rfl⟩ := r; rfl
  | str _ => obtain ⟨t, rfl⟩ := r; rfl
  | byt _ => obtain ⟨t, rfl⟩ := r; rfl
  | flt _ => obtain ⟨t, rfl⟩ := r; rfl
  | ref _ => cases r; rfl
  | ty _ => cases r; rfl
theorem RelV.inj {x y : V} {u : Value} (r : RelV x u) (q : RelV y u) : x = y := Option.some.inj (r.abs.symm.trans q.abs)
theorem Vals.inj : ∀ {xs ys : List V} {us : List Value}, Vals xs us → Vals ys us → xs = ys
  | _, _, _, .nil, .nil => rfl
  | _, _, _, .cons r t, .cons r' t' => by rw [r.inj r', Vals.inj t t']
section
variable {X : Cx} {pins : List (Addr × Obj)} {σ : St} {H : Hp} {s : Shared} {a : Addr} {xs ys : List V}
theorem SqL.of {K : PySem.W.Frag} (h : H a = some (.lst xs)) : SqL K H a xs := .inl (.inl h)
theorem SqT.of {K : PySem.W.Frag} (h : H a = some (.tup xs)) : SqT K H a xs := .inl (.inl h)
theorem Inv.list (I : Inv X pins σ H s) (h : SqL X.K H a xs) : ∃ its : List Value, Vals xs its ∧ PlainL s.heap a its.toArray ∧ xs.length ≤ sizeLine := by
  rcases h with h | ⟨o, its, n, hk, hc, hd, hs, hz, r⟩
  · obtain ⟨z, its, n, r, e⟩ := h.ok I.hok
    exact ⟨its, r, ⟨_, n, e, rfl, rfl, rfl⟩, z⟩
  · refine ⟨its.toList, r, ⟨o, n, I.kIn a o hk, hc, hd, by simpa using hs⟩, ?_⟩
    have e := r.length
    simp only [Array.length_toList] at e
    omega
theorem Inv.tuple (I : Inv X pins σ H s) (h : SqT X.K H a xs) : ∃ its : List Value, Vals xs its ∧ IsTup s.heap a its.toArray ∧ xs.length ≤ sizeLine := by
  rcases h with h | ⟨o, its, n, hk, hc, hs, hz, r⟩
  · obtain ⟨z, its, r, p⟩ := h.ok I.hok
    exact ⟨its, r, p, z⟩
  · refine ⟨its.toList, r, ⟨o, I.kIn a o hk, hc, n, by simpa using hs⟩, ?_⟩
    have e := r.length
    simp only [Array.length_toList] at e
    omega
theorem Inv.list_inj (I : Inv X pins σ H s) (h : SqL X.K H a xs) (h' : SqL X.K H a ys) : xs = ys := by
  obtain ⟨its, r, ⟨o, n, e, _, _, d⟩, _⟩ := I.list h
  obtain ⟨its', r', ⟨o', n', e', _, _, d'⟩, _⟩ := I.list h'
  rw [e] at e'; cases e'
  rw [d] at d'
  injection d' with d1 _
  have : its = its' := by simpa using congrArg Array.toList d1
  subst this
  exact r.inj r'
end
abbrev Cx.wish (X : Cx) (E : Value → Shared → Prop) : Cx := { X with xe := E }
abbrev Cx.nox (X : Cx) : Cx := X.wish fun _ _ => False
theorem Cx.Ok.wish {X : Cx} (ok : X.Ok) (E : Value → Shared → Prop) : (X.wish E).Ok :=
  ⟨ok.mod, ok.kind, ok.glob, ok.blt, ok.above, ok.inj, ok.has, ok.cab, ok.hd, ok.frames, ok.stk, ok.exf, ok.bs, ok.bsz, ok.noex, ok.exfs, ok.funs, ok.frf⟩
theorem Cx.Ok.unwish {X : Cx} {E : Value → Shared → Prop} (ok : (X.wish E).Ok) : X.Ok :=
  ⟨ok.mod, ok.kind, ok.glob, ok.blt, ok.above, ok.inj, ok.has, ok.cab, ok.hd, ok.frames, ok.stk, ok.exf, ok.bs, ok.bsz, ok.noex, ok.exfs, ok.funs, ok.frf⟩
section
variable {X : Cx} {pins : List (Addr × Obj)} {σ : St} {H : Hp} {s : Shared} {E : Value → Shared → Prop}
theorem Inv.wish (I : Inv X pins σ H s) (E : Value → Shared → Prop) : Inv (X.wish E) pins σ H s := ⟨I.ok.wish E, I.os, I.bare, I.base, I.loc, I.cell, I.free, I.freeC, I.pin, I.hok, I.len⟩
theorem Inv.unwish (I : Inv (X.wish E) pins σ H s) : Inv X pins σ H s := ⟨I.ok.unwish, I.os, I.bare, I.base, I.loc, I.cell, I.free, I.freeC, I.pin, I.hok, I.len⟩
theorem SP.unwish {D : Ends} {f : Flow} {s' : Shared} (h : SP (X.wish E) pins D f s') : SP X pins D f s' := by
  cases f with
  | next => obtain ⟨σ', H', I, q⟩ := h; exact ⟨σ', H', I.unwish, q⟩
  | brk => obtain ⟨σ', H', I, q⟩ := h; exact ⟨σ', H', I.unwish, q⟩
  | cont => obtain ⟨σ', H', I, q⟩ := h; exact ⟨σ', H', I.unwish, q⟩
  | ret u => obtain ⟨v, σ', H', I, r, q⟩ := h; exact ⟨v, σ', H', I.unwish, r, q⟩
theorem PE.nox {e : Expr} {t : TE} (h : PE X.nox e t) : PE X e t := fun pins s σ H Q I hw =>
  wpAny_mono (h pins s σ H Q (I.wish _) hw) (fun _ _ ⟨v, H', I', r, q⟩ => ⟨v, H', I'.unwish, r, q⟩) fun _ _ z => False.elim z
theorem PT.nox {e : Expr} {t : TT} (h : PT X.nox e t) : PT X e t := fun pins s σ H Q I hw =>
  wpAny_mono (h pins s σ H Q (I.wish _) hw) (fun _ _ ⟨H', I', q⟩ => ⟨H', I'.unwish, q⟩) fun _ _ z => False.elim z
theorem PSs.nox {st : List Stmt} {t : TS} (h : PSs X.nox st t) : PSs X st t := fun pins s σ H D I hw =>
  wpAny_mono (h pins s σ H D (I.wish _) hw) (fun _ _ q => q.unwish) fun _ _ z => False.elim z
end
section
variable {X : Cx} {st : Stmt} {rest : List Stmt} {t u : TS} {e : Expr} {te : TE} {pos : Pos}
def tNext : TS := fun D σ H => D.nx σ H
def tSeq (t u : TS) : TS := fun D σ H => t { D with nx := u D } σ H
theorem pss_nil : PSs X [] tNext := fun _ _ σ H _ I h => wpAny_execs_nil ⟨σ, H, I, h⟩
theorem pss_cons (h1 : PS X st t) (h2 : PSs X rest u) : PSs X (st :: rest) (tSeq t u) := by
  intro pins s σ H D I h
  refine wpAny_execs_cons (thn (h1 pins s σ H { D with nx := u D } I h) fun f s1 q => ?_)
  cases f with
  | next =>
    obtain ⟨σ', H', I', q⟩ := q
    exact h2 pins s1 σ' H' D I' q
  | ret v => exact q
  | brk => exact q
  | cont => exact q
theorem pss_one (h1 : PS X st t) : PSs X [st] t := by
  intro pins s σ H D I h
  refine wpAny_execs_cons (thn (h1 pins s σ H D I h) fun f s1 q => ?_)
  cases f with
  | next => exact wpAny_execs_nil q
  | ret v => exact q
  | brk => exact q
  | cont => exact q
theorem Inv.quiet {pins : List (Addr × Obj)} {σ : St} {H : Hp} {s : Shared} (I : Inv X pins σ H s) : interactive X.env = false := by simp [interactive, I.ok.kind]
def tDrop (te : TE) : TS := fun D σ H => te σ H fun _ H1 => D.nx σ H1
theorem ps_expr (he : PE X e te) (hs : swapsWith e none pos.line X.env = pure false := by rfl) : PS X (.Expr e pos) (tDrop te) := by
  intro pins s σ H D I h
  exact wpAny_Expr_any (thn (he pins s σ H _ I h) fun v s1 ⟨x, H1, I1, r1, q1⟩ => ⟨σ, H1, I1, q1⟩) I.quiet hs
def tRet (te : TE) : TS := fun D σ H => te σ H D.rt
theorem ps_ret (he : PE X e te) : PS X (.Return (some e) pos) (tRet te) := by
  intro pins s σ H D I h
  exact wpAny_Return_some (thn (he pins s σ H _ I h) fun v s1 ⟨x, H1, I1, r1, q1⟩ => ⟨x, σ, H1, I1, r1, q1⟩)
def tIfS (c : TT) (t u : TS) : TS := fun D σ H => c σ H fun b H1 => if b = true then t D σ H1 else u D σ H1
theorem ps_if {c : Expr} {a b : List Stmt} {tc : TT} (hc : PT X c tc) (ha : PSs X a t) (hb : PSs X b u) : PS X (.If c a b pos) (tIfS tc t u) := by
  intro pins s σ H D I h
  refine wpAny_If (thn (hc pins s σ H _ I h) fun d s1 ⟨H1, I1, q1⟩ => ?_)
  cases d with
  | true => exact ha pins s1 σ H1 D I1 q1
  | false => exact hb pins s1 σ H1 D I1 q1
end
abbrev TG := V → St → Hp → (St → Hp → Prop) → Prop
abbrev TGs := List V → St → Hp → (St → Hp → Prop) → Prop
def PG (X : Cx) (target : Expr) (t : TG) : Prop :=
  ∀ (pins : List (Addr × Obj)) (s : Shared) (σ : St) (H : Hp) (v : V) (u : Value) (Q : St → Hp → Prop), Inv X pins σ H s → RelV v u → t v σ H Q →
    wpAny (model X.prog X.w) X.A (assign target X.env u) (fun _ s' => ∃ σ' H', Inv X pins σ' H' s' ∧ Q σ' H') X.xe s
def PGs (X : Cx) (ts : List Expr) (t : TGs) : Prop :=
  ∀ (pins : List (Addr × Obj)) (s : Shared) (σ : St) (H : Hp) (vs : List V) (us : List Value) (Q : St → Hp → Prop), Inv X pins σ H s → Vals vs us → t vs σ H Q →
    wpAny (model X.prog X.w) X.A (assignInOrder ((assignEach ts X.env).map (·.2)) us) (fun _ s' => ∃ σ' H', Inv X pins σ' H' s' ∧ Q σ' H') X.xe s
abbrev TSet := V → V → V → Hp → (Hp → Prop) → Prop
def PSet (X : Cx) (t : TSet) : Prop :=
  ∀ (pins : List (Addr × Obj)) (s : Shared) (σ : St) (H : Hp) (o i v : V) (ov iv u : Value) (Q : Hp → Prop), Inv X pins σ H s → RelV o ov → RelV i iv → RelV v u → t o i v H Q →
    wpAny (model X.prog X.w) X.A (setItem ov iv u) (fun _ s' => ∃ H', Inv X pins σ H' s' ∧ Q H') X.xe s
section
variable {X : Cx} {pos : Pos}
def gName (i : Nat) : TG := fun v σ H Q => Q (σ.set i (some v)) H
theorem pg_name {i : Nat} {x : Str} (hN : X.N.Nodup) (hi : X.N[i]? = some x) (hx : Loc X.env.scope x) (hf : X.fn x = true ∨ X.env.scope.names.lookup x = some .local := by first | exact .inl rfl | exact .inr rfl | assumption) : PG X (.Name x pos) (gName i) := by
  intro pins s σ H v u Q I r h
  exact wpAny_assign_Name (store_ok I hN hi hx r (fun s' I' => ⟨_, H, I', h⟩) hf)
def gNil : TGs := fun vs σ H Q => vs = [] ∧ Q σ H
def gCons (t : TG) (u : TGs) : TGs := fun vs σ H Q => ∃ v r, vs = v :: r ∧ t v σ H fun σ' H' => u r σ' H' Q
theorem pgs_nil : PGs X [] gNil := by
  intro pins s σ H vs us Q I r h
  obtain ⟨e, h⟩ := h
  subst e
  cases r
  exact assignInOrder_nil ⟨σ, H, I, h⟩
theorem pgs_cons {e : Expr} {es : List Expr} {t : TG} {u : TGs} (h1 : PG X e t) (h2 : PGs X es u)
    (hs : (assignEach (e :: es) X.env).map (·.2) = assign e X.env :: (assignEach es X.env).map (·.2) := by rfl) : PGs X (e :: es) (gCons t u) := by
  intro pins s σ H vs us Q I r h
  obtain ⟨v, vr, e1, h⟩ := h
  subst e1
  cases r with
  | cons r rr =>
    rw [hs]
    refine assignInOrder_cons (thn (h1 pins s σ H _ _ _ I r h) fun _ s1 ⟨σ1, H1, I1, q1⟩ => ?_)
    exact h2 pins s1 σ1 H1 _ _ Q I1 rr q1
def gTup (K : PySem.W.Frag) (n : Nat) (t : TGs) : TG := fun v σ H Q => ∃ a xs, v = .ref a ∧ SqT K H a xs ∧ xs.length = n ∧ t xs σ H Q
theorem pg_tup {es : List Expr} {k : Nat} {t : TGs} {n : Nat} (hc : X.calm = true) (h : PGs X es t)
    (hn : (assignEach es X.env).length = n := by rfl) (hst : (assignEach es X.env).findIdx? (·.1) = none := by rfl) : PG X (.Tuple es k pos) (gTup X.K n t) := by
  intro pins s σ H v u Q I r hw
  obtain ⟨a, xs, e1, hq, hl, hw⟩ := hw
  subst e1
  cases r
  obtain ⟨its, rv, ht, hz⟩ := I.tuple hq
  refine assign_Tuple_tuple (I.ok.hd hc) ht (by simp [hn, ← hl, rv.length]) hst fun h' hx => ?_
  have I1 : Inv X pins σ H { s with heap := h' } := I.kept (t' := s.toks) fun b o e => hx b o (Nat.ne_of_lt (Heap.lt_size e)) e
  exact h pins _ σ H xs _ Q I1 (by simpa using rv) hw
def gSub (to ti : TE) (t : TSet) : TG := fun v σ H Q => to σ H fun o H1 => ti σ H1 fun i H2 => t o i v H2 fun H3 => Q σ H3
theorem pg_sub {o i : Expr} {to ti : TE} {t : TSet} (ho : PE X o to) (hi : PE X i ti) (hs : PSet X t)
    (ha : ∀ v, assign (.Subscript o i pos) X.env v = (do
      let ov ← holding [v] (eval o X.env)
      let iv ← holding [v, ov] (eval i X.env)
      standAt pos
      holding [v, ov, iv] (setItem ov iv v)
      release [v, ov, iv] []) := by intro _; rfl) : PG X (.Subscript o i pos) (gSub to ti t) := by
  intro pins s σ H v u Q I r h
  rw [ha]
  refine wpAny_bind (wpAny_holding (thn (ho pins s σ H _ I h) fun ov s1 ⟨x, H1, I1, r1, q1⟩ => ?_))
  refine wpAny_bind (wpAny_holding (thn (hi pins s1 σ H1 _ I1 q1) fun iv s2 ⟨y, H2, I2, r2, q2⟩ => ?_))
  refine wpAny_bind (wpAny_standAt (wpAny_bind (wpAny_holding (thn (hs pins s2 σ H2 x y v ov iv u _ I2 r1 r2 r q2) fun _ s3 ⟨H3, I3, q3⟩ => ?_))))
  exact wpAny_release ⟨σ, H3, I3, q3⟩
def tAsg (te : TE) (g : TG) : TS := fun D σ H => te σ H fun x H1 => g x σ H1 D.nx
theorem ps_asg {tg e : Expr} {te : TE} {g : TG} (he : PE X e te) (hg : PG X tg g) (hs : swapsWithSole [tg] e pos.line X.env = pure false := by rfl) (hw : swappedStores [tg] e X.env = pure none := by rfl)
    (h1 : (assignEach [tg] X.env).map (·.2) = [assign tg X.env] := by rfl) : PS X (.Assign [tg] e pos) (tAsg te g) := by
  intro pins s σ H D I h
  refine wpAny_Assign_stores (thn (he pins s σ H _ I h) fun v s1 ⟨x, H1, I1, r1, q1⟩ => ?_) hs hw
  rw [h1]
  exact thn (hg pins s1 σ H1 x v _ I1 r1 q1) fun _ s2 q => q
theorem ps_set {i : Nat} {x : Str} {e : Expr} {te : TE} {pos' : Pos} (hN : X.N.Nodup) (hi : X.N[i]? = some x) (hx : Loc X.env.scope x) (he : PE X e te) (hs : swapsWith e (some (.Name x pos')) pos.line X.env = pure false := by rfl) (hf : X.fn x = true ∨ X.env.scope.names.lookup x = some .local := by first | exact .inl rfl | exact .inr rfl | assumption) :
    PS X (.Assign [.Name x pos'] e pos) (tAsg te (gName i)) := by
  intro pins s σ H D I h
  refine wpAny_Assign_Name (thn (he pins s σ H _ I h) fun v s1 ⟨y, H1, I1, r1, q1⟩ => ?_) hs
  exact store_ok I1 hN hi hx r1 (fun s2 I2 => ⟨_, H1, I2, q1⟩) hf
end
section
variable {X : Cx} {pos : Pos}
def tWhile (c : TT) (tb : TS) : TS := fun D σ H => ∃ W : Nat → St → Hp → Prop, (∃ m, W m σ H) ∧ ∀ m σ H, W m σ H →
  c σ H fun b H1 => if b = true then ∃ N : St → Hp → Prop, (∀ σ' H', N σ' H' → ∃ m', m' < m ∧ W m' σ' H') ∧ tb { D with nx := N, ct := N, bk := D.nx } σ H1 else D.nx σ H1
theorem ps_while {c : Expr} {body : List Stmt} {tc : TT} {tb : TS} (hp : PassesOwn (model X.prog X.w) X.A X.env X.xe) (hc : PT X c tc) (hb : PSs X body tb) : PS X (.While c body [] pos) (tWhile tc tb) := by
  intro pins s σ H D I h
  obtain ⟨W, ⟨m0, w0⟩, turn⟩ := h
  refine wpAny_While (codeAny_whileLoop (fun n s' => ∃ σ' H', Inv X pins σ' H' s' ∧ W n σ' H') ?_ m0 ⟨σ, H, I, w0⟩)
  rintro n s1 ⟨σ1, H1, I1, w1⟩
  refine wpAny_passesOwn hp (thn (hc pins s1 σ1 H1 _ I1 (turn n σ1 H1 w1)) fun b s2 ⟨H2, I2, q2⟩ => ?_)
  cases b with
  | true =>
    obtain ⟨N, hN, q2⟩ := q2
    rw [if_pos rfl]
    refine wpAny_passesOwn hp (thn (hb pins s2 σ1 H2 _ I2 q2) fun f s3 q3 => ?_)
    cases f with
    | next =>
      obtain ⟨σ3, H3, I3, n3⟩ := q3
      obtain ⟨m', hm, w3⟩ := hN σ3 H3 n3
      exact ⟨m', hm, σ3, H3, I3, w3⟩
    | cont =>
      obtain ⟨σ3, H3, I3, n3⟩ := q3
      obtain ⟨m', hm, w3⟩ := hN σ3 H3 n3
      exact ⟨m', hm, σ3, H3, I3, w3⟩
    | brk => exact q3
    | ret v => exact q3
  | false =>
    rw [if_neg Bool.false_ne_true]
    exact wpAny_execs_nil ⟨σ1, H2, I2, q2⟩
end
structure It where
  go : Nat → Hp → Prop
  yld : Nat → Hp → V → Hp → Prop
  stop : Nat → Hp → Prop
def FpOk (X : Cx) (pins : List (Addr × Obj)) (H : Hp) (b : Addr) : Prop :=
  H b = none ∧ b ≠ X.env.locals ∧ b ∉ X.fs ∧ (b ∈ X.ex ∨ X.s_0.heap.objs.size ≤ b) ∧ (∀ x c, X.env.cells.lookup x = some c → c ≠ b) ∧ ∀ p ∈ X.pn ++ pins, p.1 ≠ b
theorem Inv.fpOk {X : Cx} {pins : List (Addr × Obj)} {σ : St} {H H' : Hp} {s : Shared} {b : Addr} (I : Inv X pins σ H s) (hb : s.heap.objs.size ≤ b) (hn : H' b = none) : FpOk X pins H' b := by
  refine ⟨hn, Nat.ne_of_gt (Nat.lt_of_lt_of_le I.lt hb), I.nofs hb, .inr (Nat.le_trans I.sz hb), fun x c e z => ?_, fun p hp z => ?_⟩
  · obtain ⟨v, q⟩ := I.cell x c e
    exact absurd (Nat.lt_of_lt_of_le q.lt (by rw [z]; exact hb)) (Nat.lt_irrefl _)
  · exact absurd (Nat.lt_of_lt_of_le (Heap.lt_size (I.pin p hp).1) (by rw [z]; exact hb)) (Nat.lt_irrefl _)
structure Turn (P : Program) (w : World) (K : PySem.W.Frag) (tg : Expr) (J : It) (fp : List Addr) (it : Addr) (tn : Nat → Heap → Prop) : Prop where
  mem : it ∈ fp
  obj : ∀ i h, tn i h → ∀ b ∈ fp, ∃ o, h.get? b = some o ∧ ∀ v, o.data ≠ .cell v
  keep : ∀ i h h', tn i h → (∀ b ∈ fp, ∀ o, h.get? b = some o → h'.get? b = some o) → tn i h'
  item : ∀ (X : Cx), X.prog = P → X.w = w → X.K = K → X.calm = true → ∀ (i : Nat) (pins : List (Addr × Obj)) (s : Shared) (σ : St) (H : Hp) (E : Value → Shared → Prop), Inv X pins σ H s → (∀ b ∈ fp, FpOk X pins H b) → tn i s.heap → J.go i H →
    wpAny (model P w) X.A (pyNext (.ref it)) (fun r s1 => ∃ u, r = some u ∧
      wpAny (model P w) X.A (letOwnedTupleGo tg (.ref it) u) (fun _ s2 => ∃ x H', Inv X pins σ H' s2 ∧ RelV x u ∧ J.yld i H x H' ∧ tn (i + 1) s2.heap ∧ ∀ b ∈ fp, H' b = none) E s1) E s
  done : ∀ (X : Cx), X.prog = P → X.w = w → X.K = K → X.calm = true → ∀ (i : Nat) (pins : List (Addr × Obj)) (s : Shared) (σ : St) (H : Hp) (E : Value → Shared → Prop), Inv X pins σ H s → (∀ b ∈ fp, FpOk X pins H b) → tn i s.heap → J.stop i H →
    wpAny (model P w) X.A (pyNext (.ref it)) (fun r s1 => r = none ∧ Inv X pins σ H s1) E s
  self : ∀ (A : Around) (i : Nat) (s : Shared) (Q : Value → Shared → Prop) (E : Value → Shared → Prop), tn i s.heap → Q (.ref it) s → wpAny (model P w) A (pyIter (.ref it)) Q E s
abbrev TI := St → Hp → (It → Hp → Prop) → Prop
def PIE (X : Cx) (pins : List (Addr × Obj)) (σ : St) (tg : Expr) (R : It → Hp → Prop) (itv : Value) (s2 : Shared) : Prop :=
  ∃ (it : Addr) (fp : List Addr) (tn : Nat → Heap → Prop) (J : It) (H' : Hp), itv = .ref it ∧ Inv X pins σ H' s2 ∧ Turn X.prog X.w X.K tg J fp it tn ∧ tn 0 s2.heap ∧ (∀ b ∈ fp, FpOk X pins H' b) ∧ R J H'
def PI (X : Cx) (tg iter : Expr) (wi : TI) : Prop :=
  ∀ (pins : List (Addr × Obj)) (s : Shared) (σ : St) (H : Hp) (R : It → Hp → Prop), Inv X pins σ H s → wi σ H R →
    wpAny (model X.prog X.w) X.A (eval iter X.env) (fun v s1 => wpAny (model X.prog X.w) X.A (pyIter v) (PIE X pins σ tg R) X.xe s1) X.xe s
theorem go_of {M : Model} {A : Around} {E : Value → Shared → Prop} {s : Shared} {tg : Expr} {it : Addr} {u : Value} {o : Obj} {n : String} {vs : Array Value} {Q : Unit → Shared → Prop} (ho : s.heap.get? it = some o) (hc : o.cls = .type n) (hd : o.data = .fields vs)
    (hn : ["enumerate", "zip", "dict_itemiterator", "dict_reverseitemiterator", "odict_iterator", "itertools.zip_longest", "itertools.pairwise"].contains n = false) (hQ : Q () s) : wpAny M A (letOwnedTupleGo tg (.ref it) u) Q E s := by
  unfold letOwnedTupleGo
  cases tg <;> first
    | exact wpAny_pure hQ
    | (cases u <;> first
        | exact wpAny_pure hQ
        | (refine wpAny_bind (wpAny_load ho ?_)
           rw [hc, hd]
           show wpAny M A (if (["enumerate", "zip", "dict_itemiterator", "dict_reverseitemiterator", "odict_iterator", "itertools.zip_longest", "itertools.pairwise"].contains n && vs[0]? == some (rawInt _)) = true then _ else _) Q E s
           rw [if_neg (by intro h; rw [hn, Bool.false_and] at h; cases h)]
           exact wpAny_pure hQ))
def Itl (K : PySem.W.Frag) (a : Addr) : It :=
  ⟨fun i H => ∃ xs x, SqL K H a xs ∧ xs[i]? = some x, fun i H x H' => H' = H ∧ ∀ xs, SqL K H a xs → xs[i]? = some x, fun i H => ∃ xs, SqL K H a xs ∧ xs.length ≤ i⟩
def Itr (lo : Int) (n : Nat) : It := ⟨fun i _ => i < n, fun i H x H' => H' = H ∧ x = .int (lo + i), fun i _ => n ≤ i⟩
theorem turn_list {P : Program} {w : World} {K : PySem.W.Frag} {tg : Expr} (a it : Addr) : Turn P w K tg (Itl K a) [it] it (fun i h => h.IsListIter it a i) where
  mem := by simp
  obj := fun i h st b hb => by
    have e : b = it := by simpa using hb
    subst e
    obtain ⟨o, e, c, d⟩ := st
    exact ⟨o, e, fun v z => by rw [d] at z; cases z⟩
  keep := fun i h h' st k => st.at fun o e => k it (by simp) o e
  item := by
    intro X hP hw hK hc i pins s σ H E I hf st hg
    subst hP hw hK
    obtain ⟨xs, x, hq, hx⟩ := hg
    obtain ⟨its, rv, p, hz⟩ := I.list hq
    obtain ⟨u, hu, ru⟩ := rv.get hx
    obtain ⟨f0, f1, f2, f3, f4, f5⟩ := hf it (by simp)
    refine wpAny_pyNext_list_item st p.isList (x := u) (by simpa using hu) fun h' st' sb => ?_
    have I1 : Inv X pins σ H { s with heap := h' } := I.turned (t' := s.toks) (fun b o hb e => (sb.2 b hb).trans e) f0 f1 f3 f4 f5
    obtain ⟨o, e, c, d⟩ := id st'
    exact ⟨u, rfl, go_of (s := { s with heap := h' }) e c d (by decide) ⟨x, H, I1, ru, ⟨rfl, fun ys hy => by rw [I.list_inj hy hq]; exact hx⟩, st', fun b hb => (hf b hb).1⟩⟩
  done := by
    intro X hP hw hK hc i pins s σ H E I hf st hg
    subst hP hw hK
    obtain ⟨xs, hq, hx⟩ := hg
    obtain ⟨its, rv, p, hz⟩ := I.list hq
    obtain ⟨f0, f1, f2, f3, f4, f5⟩ := hf it (by simp)
    have hl := rv.length
    exact wpAny_pyNext_list_end (I.ok.hd hc) st p.isList (by simp; omega) fun h' eb => ⟨rfl, I.turned (t' := s.toks) (fun b o hb e => eb b o hb e) f0 f1 f3 f4 f5⟩
  self := fun _ _ _ _ _ st h => wpAny_pyIter_listiter st h
theorem turn_range {P : Program} {w : World} {K : PySem.W.Frag} {tg : Expr} (it : Addr) (lo : Int) (n : Nat) : Turn P w K tg (Itr lo n) [it] it (fun i h => IsRangeIter h it (lo + (i : Nat) * 1) ((n : Int) - (i : Nat)) 1) where
  mem := by simp
  obj := fun i h st b hb => by
    have e : b = it := by simpa using hb
    subst e
    exact ⟨_, st, fun v z => by
      have z' : Data.fields _ = Data.cell v := z
      cases z'⟩
  keep := fun i h h' st k => k it (by simp) _ st
  item := by
    intro X hP hw hK hc i pins s σ H E I hf st hg
    subst hP hw hK
    obtain ⟨f0, f1, f2, f3, f4, f5⟩ := hf it (by simp)
    have W := Walks.range (prog := X.prog) (w := X.w) (I.ok.hd hc) it lo 1 n
    refine W.item i s _ _ hg st fun v h' tk hv st' kk => ?_
    obtain ⟨t, rfl⟩ := hv
    have I1 : Inv X pins σ H { s with heap := h', toks := tk } := I.turned (fun b o hb e => kk b o (by simpa using hb) e) f0 f1 f3 f4 f5
    refine ⟨_, rfl, go_of (s := { s with heap := h', toks := tk }) (n := "range_iterator") st' rfl rfl (by decide) ⟨.int (lo + i), H, I1, ⟨t, ?_⟩, ⟨rfl, rfl⟩, st', fun b hb => (hf b hb).1⟩⟩
    rw [Int.mul_one]
  done := by
    intro X hP hw hK hc i pins s σ H E I hf st hg
    subst hP hw hK
    obtain ⟨f0, f1, f2, f3, f4, f5⟩ := hf it (by simp)
    exact wpAny_pyNext_range_end (I.ok.hd hc) st (by have : n ≤ i := hg; omega) fun h' eb => ⟨rfl, I.turned (t' := s.toks) (fun b o hb e => eb b o hb e) f0 f1 f3 f4 f5⟩
  self := fun _ _ _ _ _ st h => wpAny_pyIter_rangeiter st h
end L2
namespace L2
open PySem PySem.Spec PyProof.Rows
section
variable {X : Cx} {tg : Expr}
def iList (K : PySem.W.Frag) (tl : TE) : TI := fun σ H R => tl σ H fun x H1 => ∃ a, x = .ref a ∧ (∃ xs, SqL K H1 a xs) ∧ R (Itl K a) H1
theorem pi_list {l : Expr} {tl : TE} (hl : PE X l tl) : PI X tg l (iList X.K tl) := by
  intro pins s σ H R I h
  refine thn (hl pins s σ H _ I h) fun v s1 ⟨x, H1, I1, r1, q1⟩ => ?_
  obtain ⟨a, e, ⟨xs, hq⟩, q⟩ := q1
  subst e
  cases r1
  obtain ⟨its, rv, p, hz⟩ := I1.list hq
  refine wpAny_pyIter_list p.isList ?_
  refine ⟨s1.heap.objs.size, [s1.heap.objs.size], _, _, H1, rfl, I1.kept (t' := s1.toks) fun b o e => Heap.get?_push_of_some _ e, turn_list a _, ⟨_, Heap.get?_push_size _ rfl, rfl, rfl⟩, fun b hb => ?_, q⟩
  have e : b = s1.heap.objs.size := by simpa using hb
  subst e
  exact I1.fpOk (Nat.le_refl _) (I1.hok.fresh (Nat.le_refl _))
theorem range_it {pins : List (Addr × Obj)} {σ : St} {H : Hp} {s : Shared} {R : It → Hp → Prop} {E : Value → Shared → Prop} {lo hi : Int} {t u v : Tok} {tk : Nat} (I : Inv X pins σ H s) (h1 : -(2 ^ 62) ≤ lo) (h2 : lo < 2 ^ 62) (h3 : -(2 ^ 62) ≤ hi) (h4 : hi < 2 ^ 62)
    (q : R (Itr lo (hi - lo).toNat) H) : wpAny (model X.prog X.w) X.A (pyIter (.ref s.heap.objs.size)) (PIE X pins σ tg R) E { s with heap := s.heap.push { cls := .type "range", data := .fields #[.int lo t, .int hi u, .int 1 v] }, toks := tk } := by
  refine wpAny_pyIter_range (IsRange.new ..) (small_one h1 h2 h3 h4) ?_
  have I1 : Inv X pins σ H { s with heap := s.heap.push { cls := .type "range", data := .fields #[.int lo t, .int hi u, .int 1 v] }, toks := tk } := I.kept fun b o e => Heap.get?_push_of_some _ e
  refine ⟨(s.heap.push { cls := .type "range", data := .fields #[.int lo t, .int hi u, .int 1 v] }).objs.size, [(s.heap.push { cls := .type "range", data := .fields #[.int lo t, .int hi u, .int 1 v] }).objs.size], _, _, H, rfl,
    I1.kept (t' := tk) fun b o e => Heap.get?_push_of_some _ e, turn_range _ lo (hi - lo).toNat, ?_, fun b hb => ?_, q⟩
  · have e1 : lo + ((0 : Nat) : Int) * 1 = lo := by simp
    have e2 : (((hi - lo).toNat : Nat) : Int) - ((0 : Nat) : Int) = Builtin.Range.rangeSize lo hi 1 := by rw [rangeSize_one]; split <;> omega
    show IsRangeIter _ _ (lo + ((0 : Nat) : Int) * 1) ((((hi - lo).toNat : Nat) : Int) - ((0 : Nat) : Int)) 1
    rw [e1, e2]
    exact Heap.get?_push_size _ rfl
  · have e : b = (s.heap.push { cls := .type "range", data := .fields #[.int lo t, .int hi u, .int 1 v] }).objs.size := by simpa using hb
    subst e
    exact I1.fpOk (Nat.le_refl _) (I1.hok.fresh (Nat.le_refl _))
def iRng1 (ta : TA) : TI := fun σ H R => ta σ H fun vs H1 => ∃ j : Int, vs = [.int j] ∧ -(2 ^ 62) ≤ j ∧ j < 2 ^ 62 ∧ R (Itr 0 j.toNat) H1
theorem pi_range1 {a : Expr} {ta : TA} {p pos : Pos} (hg : Gl X "range") (hm : X.mg "range" = none) (ha : PA X [a] ta) (hs : starEach [a] X.env = [(false, eval a X.env)] := by rfl) : PI X tg (.Call (.Name "range" p) [a] [] pos) (iRng1 ta) := by
  intro pins s σ H R I h
  refine Call_ (ld_blt I hg hm boot_range (PyProof.Rows.callWith_type1 (thn (ha pos pins s σ H _ I h) fun us s1 ⟨vs, H1, I1, r1, q1⟩ => ?_) hs rfl))
  obtain ⟨j, e, q1, q2, q⟩ := q1
  subst e
  cases r1 with
  | cons r rr =>
    cases rr
    obtain ⟨t, rfl⟩ := r
    exact call_range_1 (range_it I1 (by omega) (by omega) q1 q2 (by simpa using q))
def tFor (wi : TI) (g : TG) (tb : TS) : TS := fun D σ H => wi σ H fun J H1 => ∃ W : Nat → Nat → St → Hp → Prop, (∃ m, W 0 m σ H1) ∧ ∀ i m σ H, W i m σ H →
  (J.stop i H ∧ D.nx σ H) ∨ (J.go i H ∧ ∃ N : St → Hp → Prop, (∀ σ' H', N σ' H' → ∃ m', m' < m ∧ W (i + 1) m' σ' H') ∧ ∀ x H', J.yld i H x H' → g x σ H' fun σ2 H2 => tb { D with nx := N, ct := N, bk := D.nx } σ2 H2)
def pinsAt (fp : List Addr) (h : Heap) : List (Addr × Obj) := fp.filterMap fun b => (h.get? b).map fun o => (b, o)
theorem mem_pinsAt {fp : List Addr} {h : Heap} {b : Addr} {o : Obj} (hb : b ∈ fp) (e : h.get? b = some o) : (b, o) ∈ pinsAt fp h := List.mem_filterMap.mpr ⟨b, hb, by rw [e]; rfl⟩
theorem of_pinsAt {fp : List Addr} {h : Heap} {p : Addr × Obj} (hp : p ∈ pinsAt fp h) : p.1 ∈ fp ∧ h.get? p.1 = some p.2 := by
  obtain ⟨b, hb, e⟩ := List.mem_filterMap.mp hp
  cases q : h.get? b with
  | none => rw [q] at e; cases e
  | some o =>
    rw [q] at e
    have e' : (b, o) = p := Option.some.inj e
    subst e'
    exact ⟨hb, q⟩
theorem Inv.pinned {pins : List (Addr × Obj)} {σ : St} {H : Hp} {s : Shared} {fp : List Addr} (I : Inv X pins σ H s) (hf : ∀ b ∈ fp, FpOk X pins H b) (ho : ∀ b ∈ fp, ∃ o, s.heap.get? b = some o ∧ ∀ v, o.data ≠ .cell v) : Inv X (pins ++ pinsAt fp s.heap) σ H s :=
  I.pins_of fun p hp => (List.mem_append.mp hp).elim (fun z => I.pin p (List.mem_append_right _ z)) fun z => by
    obtain ⟨hb, e⟩ := of_pinsAt z
    obtain ⟨f0, f1, f2, _⟩ := hf p.1 hb
    obtain ⟨o, e', d⟩ := ho p.1 hb
    rw [e] at e'; cases e'
    exact ⟨e, f0, f1, f2, d⟩
theorem Inv.unpinned {pins pl : List (Addr × Obj)} {σ : St} {H : Hp} {s : Shared} (I : Inv X (pins ++ pl) σ H s) : Inv X pins σ H s := I.pins_of fun p hp => I.pin p (List.mem_append_right _ (List.mem_append_left _ hp))
theorem ps_for {iter : Expr} {body : List Stmt} {wi : TI} {g : TG} {tb : TS} {pos : Pos} (hp : PassesOwn (model X.prog X.w) X.A X.env X.xe) (hc : X.calm = true) (hi : PI X tg iter wi) (hg : PG X tg g) (hb : PSs X body tb)
    (hs : ∀ x, foldedSetIterable iter X.env x = pure x := by intro _; rfl) : PS X (.For tg iter body [] pos) (tFor wi g tb) := by
  intro pins s σ H D I h
  refine wpAny_For (thn (hi pins s σ H _ I h) fun v s1 h1 => thn h1 fun itv s2 h2 => ?_) hs
  obtain ⟨it, fp, tn, J, H2, e, I2, T, st2, f2, W, ⟨m0, w0⟩, turn⟩ := h2
  subst e
  -- what stays true of the iterator's objects through the loop
  have stat : ∀ {H' : Hp}, (∀ b ∈ fp, H' b = none) → ∀ b ∈ fp, FpOk X pins H' b := fun hn b hb => ⟨hn b hb, (f2 b hb).2⟩
  refine codeAny_forLoop_any (fun n s' => ∃ i σ' H', Inv X pins σ' H' s' ∧ tn i s'.heap ∧ (∀ b ∈ fp, H' b = none) ∧ W i n σ' H') ?_ m0 ⟨0, σ, H2, I2, st2, fun b hb => (f2 b hb).1, w0⟩
  rintro n s3 ⟨i, σ3, H3, I3, st3, fr3, w3⟩
  rcases turn i n σ3 H3 w3 with ⟨stop, qn⟩ | ⟨go, N, hN, step⟩
  · refine wpAny_passesOwn hp (thn (T.done X rfl rfl rfl hc i pins s3 σ3 H3 X.xe I3 (stat fr3) st3 stop) fun r s4 ⟨hr, I4⟩ => ?_)
    subst hr
    exact wpAny_execs_nil ⟨σ3, H3, I4, qn⟩
  · refine wpAny_passesOwn hp (thn (T.item X rfl rfl rfl hc i pins s3 σ3 H3 X.xe I3 (stat fr3) st3 go) fun r s4 ⟨u, hr, h4⟩ => ?_)
    subst hr
    refine wpAny_passesOwn hp (thn h4 fun _ s5 ⟨x, H5, I5, r5, y5, st5, fr5⟩ => ?_)
    have I5' := I5.pinned (stat fr5) (T.obj _ _ st5)
    refine wpAny_passesOwn hp (thn (hg _ s5 σ3 H5 x u _ I5' r5 (step x H5 y5)) fun _ s6 ⟨σ6, H6, I6, q6⟩ => ?_)
    refine wpAny_passesOwn hp (thn (hb _ s6 σ6 H6 _ I6 q6) fun f s7 q7 => ?_)
    have again : ∀ {σ7 : St} {H7 : Hp}, Inv X (pins ++ pinsAt fp s5.heap) σ7 H7 s7 → N σ7 H7 → ∃ m, m < n ∧ ∃ i σ' H', Inv X pins σ' H' s7 ∧ tn i s7.heap ∧ (∀ b ∈ fp, H' b = none) ∧ W i m σ' H' := fun {σ7 H7} I7 n7 => by
      obtain ⟨m', hm, w7⟩ := hN σ7 H7 n7
      refine ⟨m', hm, i + 1, σ7, H7, I7.unpinned, T.keep _ _ _ st5 fun b hb o e => (I7.pin (b, o) (List.mem_append_right _ (List.mem_append_right _ (mem_pinsAt hb e)))).1, fun b hb => ?_, w7⟩
      obtain ⟨o, e, d⟩ := T.obj _ _ st5 b hb
      exact (I7.pin (b, o) (List.mem_append_right _ (List.mem_append_right _ (mem_pinsAt hb e)))).2.1
    cases f with
    | next => obtain ⟨σ7, H7, I7, n7⟩ := q7; exact again I7 n7
    | cont => obtain ⟨σ7, H7, I7, n7⟩ := q7; exact again I7 n7
    | brk => obtain ⟨σ7, H7, I7, q7⟩ := q7; exact ⟨σ7, H7, I7.unpinned, q7⟩
    | ret v => obtain ⟨x7, σ7, H7, I7, r7, q7⟩ := q7; exact ⟨x7, σ7, H7, I7.unpinned, r7, q7⟩
end
theorem for_range {lo : Int} {n : Nat} {g : TG} {tb : TS} {D : Ends} {σ : St} {H : Hp} (Pv : Nat → St → Hp → Prop) (h0 : Pv 0 σ H)
    (hs : ∀ i σ H, i < n → Pv i σ H → g (.int (lo + i)) σ H fun σ2 H2 => tb { D with nx := Pv (i + 1), ct := Pv (i + 1), bk := D.nx } σ2 H2) (hd : ∀ σ H, Pv n σ H → D.nx σ H) :
    ∃ W : Nat → Nat → St → Hp → Prop, (∃ m, W 0 m σ H) ∧ ∀ i m σ H, W i m σ H →
      ((Itr lo n).stop i H ∧ D.nx σ H) ∨ ((Itr lo n).go i H ∧ ∃ N : St → Hp → Prop, (∀ σ' H', N σ' H' → ∃ m', m' < m ∧ W (i + 1) m' σ' H') ∧ ∀ x H', (Itr lo n).yld i H x H' → g x σ H' fun σ2 H2 => tb { D with nx := N, ct := N, bk := D.nx } σ2 H2) := by
  refine ⟨fun i m σ H => m = n - i ∧ i ≤ n ∧ Pv i σ H, ⟨n, by simp, Nat.zero_le _, h0⟩, ?_⟩
  rintro i m σ H ⟨rfl, hi, p⟩
  by_cases hlt : i < n
  · refine .inr ⟨hlt, Pv (i + 1), fun σ' H' p' => ⟨n - (i + 1), by omega, rfl, hlt, p'⟩, fun x H' y => ?_⟩
    obtain ⟨e, y⟩ := y
    subst e y
    exact hs i σ _ hlt p
  · have e : i = n := by omega
    subst e
    exact .inl ⟨Nat.le_refl _, hd σ H p⟩
theorem while_by {c : TT} {tb : TS} {D : Ends} {σ : St} {H : Hp} (Pv : St → Hp → Prop) (μ : St → Hp → Nat) (h0 : Pv σ H)
    (hs : ∀ σ H, Pv σ H → c σ H fun b H1 => if b = true then tb { D with nx := fun σ' H' => Pv σ' H' ∧ μ σ' H' < μ σ H, ct := fun σ' H' => Pv σ' H' ∧ μ σ' H' < μ σ H, bk := D.nx } σ H1 else D.nx σ H1)
    (mono : ∀ σ H Q Q', (∀ b H1, Q b H1 → Q' b H1) → c σ H Q → c σ H Q') : tWhile c tb D σ H := by
  refine ⟨fun m σ H => m = μ σ H ∧ Pv σ H, ⟨_, rfl, h0⟩, ?_⟩
  rintro m σ H ⟨rfl, p⟩
  refine mono σ H _ _ (fun b H1 q => ?_) (hs σ H p)
  cases b with
  | true => exact ⟨_, fun σ' H' ⟨p', l⟩ => ⟨_, l, rfl, p'⟩, q⟩
  | false => exact q
end L2
namespace L2
open PySem PySem.Spec PyProof.Rows
abbrev R2 := V → V → Hp → VK → Prop
def OpR (X : Cx) (f : Value → Value → Sem Value) (r : R2) : Prop :=
  ∀ (pins : List (Addr × Obj)) (s : Shared) (σ : St) (H : Hp) (x y : V) (v u : Value) (Q : VK), Inv X pins σ H s → RelV x v → RelV y u → r x y H Q →
    wpAny (model X.prog X.w) X.A (f v u) (EP X pins σ Q) X.xe s
def CallR (X : Cx) (f : Value) (r : List V → Hp → VK → Prop) : Prop :=
  ∀ (pins : List (Addr × Obj)) (s : Shared) (σ : St) (H : Hp) (xs : List V) (us : List Value) (Q : VK), Inv X pins σ H s → Vals xs us → r xs H Q →
    wpAny (model X.prog X.w) X.A (call f us) (EP X pins σ Q) X.xe s
def tOp (r : R2) (ta tb : TE) : TE := fun σ H Q => ta σ H fun x H1 => tb σ H1 fun y H2 => r x y H2 Q
def rI (C : Int → Int → Prop) (g : Int → Int → V) : R2 := fun x y H Q => ∃ i j, x = .int i ∧ y = .int j ∧ C i j ∧ Q (g i j) H
def rI0 (g : Int → Int → V) : R2 := fun x y H Q => ∃ i j, x = .int i ∧ y = .int j ∧ Q (g i j) H
section
variable {X : Cx} {a b c : Expr} {ta tb tc : TE} {pos : Pos}
theorem binT (ha : PE X a ta) (hb : PE X b tb) {pins : List (Addr × Obj)} {s : Shared} {σ : St} {H : Hp} {R : V → V → Hp → Prop} (I : Inv X pins σ H s)
    (h : ta σ H fun x H1 => tb σ H1 fun y H2 => R x y H2) {Q : Value → Shared → Prop} {f : Value → Value → Sem Value}
    (hf : ∀ v u s2 x y H2, Inv X pins σ H2 s2 → RelV x v → RelV y u → R x y H2 → wpAny (model X.prog X.w) X.A (f v u) Q X.xe s2) :
    wpAny (model X.prog X.w) X.A (eval a X.env) (fun v s₁ => wpAny (model X.prog X.w) X.A (eval b X.env) (fun u s₂ => wpAny (model X.prog X.w) X.A (f v u) Q X.xe s₂) X.xe s₁) X.xe s := by
  refine thn (ha pins s σ H _ I h) fun v s1 ⟨x, H1, I1, r1, q1⟩ => ?_
  refine thn (hb pins s1 σ H1 _ I1 q1) fun u s2 ⟨y, H2, I2, r2, q2⟩ => ?_
  exact hf v u s2 x y H2 I2 r1 r2 q2
theorem pe_op {op : Operator} {r : R2} (ho : OpR X (binaryOp op) r) (ha : PE X a ta) (hb : PE X b tb) : PE X (.BinOp a op b pos) (tOp r ta tb) := by
  intro pins s σ H Q I h
  exact wpAny_BinOp (binT ha hb I h fun v u s2 x y H2 I2 rx ry q => ho pins s2 σ H2 x y v u Q I2 rx ry q)
theorem opI {f : Value → Value → Sem Value} {C : Int → Int → Prop} {g : Int → Int → Int}
    (rule : ∀ (i j : Int) (t u : Tok) (s : Shared) (Q : Value → Shared → Prop) (E : Value → Shared → Prop), C i j → Q (.int (g i j) s.toks) { s with toks := s.toks + 1 } → wpAny (model X.prog X.w) X.A (f (.int i t) (.int j u)) Q E s) :
    OpR X f (rI C fun i j => .int (g i j)) := by
  intro pins s σ H x y v u Q I rx ry h
  obtain ⟨i, j, rfl, rfl, hc, q⟩ := h
  obtain ⟨t, rfl⟩ := rx
  obtain ⟨t', rfl⟩ := ry
  exact rule i j t t' s _ _ hc ⟨.int (g i j), H, I.tok _, ⟨_, rfl⟩, q⟩
theorem opI0 {f : Value → Value → Sem Value} {g : Int → Int → Int}
    (rule : ∀ (i j : Int) (t u : Tok) (s : Shared) (Q : Value → Shared → Prop) (E : Value → Shared → Prop), Q (.int (g i j) s.toks) { s with toks := s.toks + 1 } → wpAny (model X.prog X.w) X.A (f (.int i t) (.int j u)) Q E s) :
    OpR X f (rI0 fun i j => .int (g i j)) := by
  intro pins s σ H x y v u Q I rx ry h
  obtain ⟨i, j, rfl, rfl, q⟩ := h
  obtain ⟨t, rfl⟩ := rx
  obtain ⟨t', rfl⟩ := ry
  exact rule i j t t' s _ _ ⟨.int (g i j), H, I.tok _, ⟨_, rfl⟩, q⟩
theorem opB0 {f : Value → Value → Sem Value} {g : Int → Int → Bool}
    (rule : ∀ (i j : Int) (t u : Tok) (s : Shared) (Q : Value → Shared → Prop) (E : Value → Shared → Prop), Q (.bool (g i j)) s → wpAny (model X.prog X.w) X.A (f (.int i t) (.int j u)) Q E s) :
    OpR X f (rI0 fun i j => .bl (g i j)) := by
  intro pins s σ H x y v u Q I rx ry h
  obtain ⟨i, j, rfl, rfl, q⟩ := h
  obtain ⟨t, rfl⟩ := rx
  obtain ⟨t', rfl⟩ := ry
  exact rule i j t t' s _ _ ⟨.bl (g i j), H, I, rfl, q⟩
def CMul (i j : Int) : Prop := (-(2 ^ 64) < i ∧ i < 2 ^ 64) ∨ (-(2 ^ 64) < j ∧ j < 2 ^ 64)
theorem CMul.ok {i j : Int} (h : CMul i j) : IntMulOk i j := by
  rcases h with ⟨h1, h2⟩ | ⟨h1, h2⟩
  · exact .of_left (intBits_le_64 h1 h2)
  · exact .of_right (intBits_le_64 h1 h2)
theorem op_add : OpR X (binaryOp .Add) (rI0 fun i j => .int (i + j)) := opI0 fun _ _ _ _ _ _ _ q => add_int q
theorem op_sub : OpR X (binaryOp .Sub) (rI0 fun i j => .int (i - j)) := opI0 fun _ _ _ _ _ _ _ q => sub_int q
theorem op_mul : OpR X (binaryOp .Mult) (rI CMul fun i j => .int (i * j)) := opI fun _ _ _ _ _ _ _ hc q => mul_int q hc.ok
end
def scal : V → V → Bool
  | .non, .non => true | .non, .int _ => true | .int _, .non => true | .non, .bl _ => true | .bl _, .non => true | .non, .str _ => true | .str _, .non => true
  | .int _, .int _ => true | .bl _, .bl _ => true | .str _, .str _ => true | .byt _, .byt _ => true
  | .int _, .str _ => true | .str _, .int _ => true | .bl _, .str _ => true | .str _, .bl _ => true
  | _, _ => false
def rEq : R2 := fun x y H Q => scal x y = true ∧ Q (.bl (decide (x = y))) H
def rNe : R2 := fun x y H Q => scal x y = true ∧ Q (.bl (!decide (x = y))) H
theorem dec_int {i j : Int} : decide (V.int i = V.int j) = (i == j) := by
  rw [Bool.eq_iff_iff]
  simp
theorem dec_bl {i j : Bool} : decide (V.bl i = V.bl j) = (i == j) := by
  rw [Bool.eq_iff_iff]
  simp
theorem dec_str {i j : Str} : decide (V.str i = V.str j) = (i == j) := by
  rw [Bool.eq_iff_iff]
  simp
theorem dec_byt {i j : Array UInt8} : decide (V.byt i = V.byt j) = (i.toList == j.toList) := by
  rw [Bool.eq_iff_iff]
  cases i
  cases j
  simp
section
variable {X : Cx} {a b c : Expr} {ta tb tc : TE} {pos : Pos}
theorem fin_bl {pins : List (Addr × Obj)} {σ : St} {H : Hp} {s : Shared} {Q : VK} {k k' : Bool} (I : Inv X pins σ H s) (q : Q (.bl k) H) (e : k = k') : EP X pins σ Q (.bool k') s := by
  subst e
  exact ⟨.bl k, H, I, rfl, q⟩
theorem op_eq : OpR X (compareOp .Eq) rEq := by
  intro pins s σ H x y v u Q I rx ry h
  obtain ⟨hs, q⟩ := h
  cases x with
  | non =>
    cases rx
    cases y with
    | non => cases ry; exact PySem.EqNone.eq_none_none (fin_bl I q (by simp))
    | bl j => cases ry; exact PySem.EqNone.eq_none_bool (fin_bl I q (by simp))
    | int j => obtain ⟨t', rfl⟩ := ry; exact PySem.EqNone.eq_none_int (fin_bl I q (by simp))
    | str j => obtain ⟨t', rfl⟩ := ry; exact PySem.EqNone.eq_none_str (fin_bl I q (by simp))
    | _ => exact absurd (show false = true from hs) Bool.false_ne_true
  | bl i =>
    cases rx
    cases y with
    | non => cases ry; exact PySem.EqNone.eq_bool_none (fin_bl I q (by simp))
    | bl j => cases ry; exact eq_bool (fin_bl I q dec_bl)
    | str j => obtain ⟨t', rfl⟩ := ry; exact PySem.EqMixed.eq_bool_str (fin_bl I q (by simp))
    | _ => exact absurd (show false = true from hs) Bool.false_ne_true
  | int i =>
    obtain ⟨t, rfl⟩ := rx
    cases y with
    | non => cases ry; exact PySem.EqNone.eq_int_none (fin_bl I q (by simp))
    | int j => obtain ⟨t', rfl⟩ := ry; exact eq_int (fin_bl I q dec_int)
    | str j => obtain ⟨t', rfl⟩ := ry; exact PySem.EqMixed.eq_int_str (fin_bl I q (by simp))
    | _ => exact absurd (show false = true from hs) Bool.false_ne_true
  | str i =>
    obtain ⟨t, rfl⟩ := rx
    cases y with
    | non => cases ry; exact PySem.EqNone.eq_str_none (fin_bl I q (by simp))
    | bl j => cases ry; exact PySem.EqMixed.eq_str_bool (fin_bl I q (by simp))
    | int j => obtain ⟨t', rfl⟩ := ry; exact PySem.EqMixed.eq_str_int (fin_bl I q (by simp))
    | str j => obtain ⟨t', rfl⟩ := ry; exact eq_str (fin_bl I q dec_str)
    | _ => exact absurd (show false = true from hs) Bool.false_ne_true
  | byt i =>
    obtain ⟨t, rfl⟩ := rx
    cases y with
    | byt j => obtain ⟨t', rfl⟩ := ry; exact PySem.W.eq_bytes (fin_bl I q dec_byt)
    | _ => exact absurd (show false = true from hs) Bool.false_ne_true
  | _ => cases y <;> exact absurd (show false = true from hs) Bool.false_ne_true
theorem op_ne : OpR X (compareOp .NotEq) rNe := by
  intro pins s σ H x y v u Q I rx ry h
  obtain ⟨hs, q⟩ := h
  cases x with
  | non =>
    cases rx
    cases y with
    | non => cases ry; exact PySem.EqNone.ne_none_none (fin_bl I q (by simp))
    | bl j => cases ry; exact PySem.EqNone.ne_none_bool (fin_bl I q (by simp))
    | int j => obtain ⟨t', rfl⟩ := ry; exact PySem.EqNone.ne_none_int (fin_bl I q (by simp))
    | str j => obtain ⟨t', rfl⟩ := ry; exact PySem.EqNone.ne_none_str (fin_bl I q (by simp))
    | _ => exact absurd (show false = true from hs) Bool.false_ne_true
  | bl i =>
    cases rx
    cases y with
    | non => cases ry; exact PySem.EqNone.ne_bool_none (fin_bl I q (by simp))
    | bl j => cases ry; exact ne_bool (fin_bl I q (congrArg not dec_bl))
    | str j => obtain ⟨t', rfl⟩ := ry; exact PySem.EqMixed.ne_bool_str (fin_bl I q (by simp))
    | _ => exact absurd (show false = true from hs) Bool.false_ne_true
  | int i =>
    obtain ⟨t, rfl⟩ := rx
    cases y with
    | non => cases ry; exact PySem.EqNone.ne_int_none (fin_bl I q (by simp))
    | int j => obtain ⟨t', rfl⟩ := ry; exact ne_int (fin_bl I q (congrArg not dec_int))
    | str j => obtain ⟨t', rfl⟩ := ry; exact PySem.EqMixed.ne_int_str (fin_bl I q (by simp))
    | _ => exact absurd (show false = true from hs) Bool.false_ne_true
  | str i =>
    obtain ⟨t, rfl⟩ := rx
    cases y with
    | non => cases ry; exact PySem.EqNone.ne_str_none (fin_bl I q (by simp))
    | bl j => cases ry; exact PySem.EqMixed.ne_str_bool (fin_bl I q (by simp))
    | int j => obtain ⟨t', rfl⟩ := ry; exact PySem.EqMixed.ne_str_int (fin_bl I q (by simp))
    | str j => obtain ⟨t', rfl⟩ := ry; exact ne_str (fin_bl I q (congrArg not dec_str))
    | _ => exact absurd (show false = true from hs) Bool.false_ne_true
  | byt i =>
    obtain ⟨t, rfl⟩ := rx
    cases y with
    | byt j => obtain ⟨t', rfl⟩ := ry; exact PySem.W.ne_bytes (fin_bl I q (congrArg not dec_byt))
    | _ => exact absurd (show false = true from hs) Bool.false_ne_true
  | _ => cases y <;> exact absurd (show false = true from hs) Bool.false_ne_true
theorem op_lt : OpR X (compareOp .Lt) (rI0 fun i j => .bl (decide (i < j))) := opB0 fun _ _ _ _ _ _ _ q => lt_int q
theorem op_le : OpR X (compareOp .LtE) (rI0 fun i j => .bl (decide (i ≤ j))) := opB0 fun _ _ _ _ _ _ _ q => le_int q
theorem op_gt : OpR X (compareOp .Gt) (rI0 fun i j => .bl (decide (j < i))) := opB0 fun _ _ _ _ _ _ _ q => gt_int q
theorem op_isN : OpR X (compareOp .Is) (fun x y H Q => y = .non ∧ Q (.bl (decide (x = .non))) H) := by
  intro pins s σ H x y v u Q I rx ry h
  obtain ⟨rfl, q⟩ := h
  cases ry
  refine is_none_gen (fin_bl I q ?_)
  cases x <;> first
    | (cases rx; rfl)
    | (obtain ⟨t, rfl⟩ := rx; rfl)
theorem OpR.or {f : Value → Value → Sem Value} {r r' : R2} (h : OpR X f r) (h' : OpR X f r') : OpR X f (fun x y H Q => r x y H Q ∨ r' x y H Q) := by
  intro pins s σ H x y v u Q I rx ry q
  rcases q with q | q
  · exact h pins s σ H x y v u Q I rx ry q
  · exact h' pins s σ H x y v u Q I rx ry q
theorem nomark (b : Expr) {op : CmpOp} (h : op ≠ .In := by decide) (h2 : op ≠ .NotIn := by decide) : behindInMarks op b = false := by
  have e1 : (op == CmpOp.In) = false := by cases op <;> first | rfl | exact absurd rfl h
  have e2 : (op == CmpOp.NotIn) = false := by cases op <;> first | rfl | exact absurd rfl h2
  cases b <;> simp [behindInMarks, e1, e2]
theorem pe_cmpR {op : CmpOp} {r : R2} (ho : OpR X (compareOp op) r) (ha : PE X a ta) (hb : PE X b tb) (hm : behindInMarks op b = false) : PE X (.Compare a [op] [b] pos) (tOp r ta tb) := by
  intro pins s σ H Q I h
  exact wpAny_Compare1 (binT ha hb I h fun v u s2 x y H2 I2 rx ry q => ho pins s2 σ H2 x y v u Q I2 rx ry q) hm
def tTest (t : TE) : TT := fun σ H Q => t σ H fun x H' => ∃ k, x = .bl k ∧ Q k H'
theorem pt_cmpR {op : CmpOp} {r : R2} (ho : OpR X (compareOp op) r) (ha : PE X a ta) (hb : PE X b tb) (hm : behindInMarks op b = false) : PT X (.Compare a [op] [b] pos) (tTest (tOp r ta tb)) := by
  intro pins s σ H Q I h
  refine wpAny_isTrue_Compare1 (thn (ha pins s σ H _ I h) fun v s1 ⟨x, H1, I1, r1, q1⟩ => thn (hb pins s1 σ H1 _ I1 q1) fun u s2 ⟨y, H2, I2, r2, q2⟩ =>
    thn (ho pins s2 σ H2 x y v u _ I2 r1 r2 q2) fun c s3 ⟨z, H3, I3, r3, k, e, q3⟩ => ?_) hm
  subst e
  cases r3
  exact wpAny_truthy_bool ⟨H3, I3, q3⟩
theorem line63 : (sizeLine : Nat) < 2 ^ 63 := by rw [sizeLine_eq]; decide
theorem vals1 {x : V} {us : List Value} (r : Vals [x] us) : ∃ u, us = [u] ∧ RelV x u := by
  cases r with
  | cons r1 r2 => cases r2; exact ⟨_, rfl, r1⟩
theorem vals2 {x y : V} {us : List Value} (r : Vals [x, y] us) : ∃ u w', us = [u, w'] ∧ RelV x u ∧ RelV y w' := by
  cases r with
  | cons r1 r2 =>
    cases r2 with
    | cons r3 r4 => cases r4; exact ⟨_, _, rfl, r1, r3⟩
theorem call_max2 (hc : X.calm = true) : CallR X (.builtin "max") (fun xs H Q => ∃ i j, xs = [.int i, .int j] ∧ Q (.int (if j > i then j else i)) H) := by
  intro pins s σ H xs us Q I r h
  obtain ⟨i, j, rfl, q⟩ := h
  obtain ⟨u, w', rfl, ⟨t, rfl⟩, ⟨t', rfl⟩⟩ := vals2 r
  refine max_two_ints (I.ok.hd hc) fun h' tk k => ⟨_, H, I.kept k, ?_, q⟩
  by_cases hj : j > i
  · rw [if_pos hj, if_pos hj]; exact ⟨_, rfl⟩
  · rw [if_neg hj, if_neg hj]; exact ⟨_, rfl⟩
theorem call_min2 (hc : X.calm = true) : CallR X (.builtin "min") (fun xs H Q => ∃ i j, xs = [.int i, .int j] ∧ Q (.int (if j < i then j else i)) H) := by
  intro pins s σ H xs us Q I r h
  obtain ⟨i, j, rfl, q⟩ := h
  obtain ⟨u, w', rfl, ⟨t, rfl⟩, ⟨t', rfl⟩⟩ := vals2 r
  refine min_two_ints (I.ok.hd hc) fun h' tk k => ⟨_, H, I.kept k, ?_, q⟩
  by_cases hj : j < i
  · rw [if_pos hj, if_pos hj]; exact ⟨_, rfl⟩
  · rw [if_neg hj, if_neg hj]; exact ⟨_, rfl⟩
end
end L2
namespace L2
open PySem PySem.Spec PyProof.Rows
structure ObjM (h : Heap) (x dx C : Addr) (mA : Str → Option Value) : Prop where
  obj : h.get? x = some (PySem.W.instObj C dx)
  ns : h.Ns1 dx mA
  ne : dx ≠ x
theorem lookIn_ns {h : Heap} {dx : Addr} {mA : Str → Option Value} (n : h.Ns1 dx mA) : ∃ od, h.get? dx = some od ∧ ∀ name, PySem.W.lookIn name od = some (mA name) := by
  obtain ⟨o, es, ep, ho, hd, hk, _, hm⟩ := n
  refine ⟨o, ho, fun name => ?_⟩
  have e := hm name
  unfold nsFind findBy at e
  rw [← Array.find?_toList] at e
  unfold PySem.W.lookIn
  rw [hd]
  dsimp only
  split
  · rename_i y q
    rw [q] at e
    exact congrArg some e
  · rename_i q
    rw [q] at e
    have a : es.toList.any (·.refKey) = false := by
      rw [List.any_eq_false]
      intro y hy
      obtain ⟨z, t, hkey⟩ := hk y (Array.mem_toList_iff.mp hy)
      simp [DictEntry.refKey, hkey]
    have a' : ¬ es.toList.any (·.refKey) = true := by rw [a]; exact Bool.false_ne_true
    rw [if_neg a']
    exact congrArg some e
theorem ObjM.look {h : Heap} {x dx C : Addr} {mA : Str → Option Value} (I : ObjM h x dx C mA) : ∃ od, PySem.W.InstAt h x (PySem.W.instObj C dx) C (some od) ∧ ∀ name, PySem.W.lookIn name od = some (mA name) :=
  let ⟨od, ho, hl⟩ := lookIn_ns I.ns
  ⟨od, ⟨I.obj, rfl, rfl, ho⟩, hl⟩
section
variable {prog : Program} {w : World} {A : Around} {E : Value → Shared → Prop} {s : Shared} {K : PySem.W.Frag} {x dx C f : Addr} {mA : Str → Option Value} {name : Str} {v : Value}
theorem get_map {expr : Bool} {Q : Value → Shared → Prop} (X : K.In s.heap) (I : ObjM s.heap x dx C mA) (hg : PySem.W.plainGet K C name = true) (hh : PySem.W.hasDictIn K C = true)
    (ha : PySem.W.findIn K (.ref C) name = some none) (hv : mA name = some v) (hv' : PySem.W.handedIn v = true) (h : Q v { s with toks := s.toks + 1 }) :
    wpAny (model prog w) A (getAttr (.ref x) name expr) Q E s := by
  obtain ⟨od, J, hl⟩ := I.look
  exact PySem.W.get_value X J (PySem.W.plainGet_of hg).1 (PySem.W.findObj_own hh ha rfl (by rw [hl, hv])) hv' h
theorem get_meth {pl : Sem Bool} {Q : Value × List Value → Shared → Prop} (X : K.In s.heap) (I : ObjM s.heap x dx C mA) (hg : PySem.W.plainGet K C name = true)
    (hf : PySem.W.findIn K (.ref C) name = some (some (.ref f))) (ht : PySem.W.isFn K (.ref f) = true) (hv : mA name = none) (h : Q (.ref f, [.ref x]) s) :
    wpAny (model prog w) A (getMethod (.ref x) name pl) Q E s := by
  obtain ⟨od, J, hl⟩ := I.look
  exact PySem.W.method_fn X J (PySem.W.plainGet_of hg).1 (PySem.W.plainGet_of hg).2 hf (beq_iff_eq.mp ht) (by show (PySem.W.lookIn name od).map (·.isSome) = some false; rw [hl, hv]; rfl) h
theorem set_map {ns : List Str} {Q : Unit → Shared → Prop} (X : K.In s.heap) (I : ObjM s.heap x dx C mA)
    (hs : PySem.W.findIn K (.ref C) "__setattr__" = some (some (.builtin "object.__setattr__"))) (hp : PySem.W.plainOver K C = true) (ht : PySem.W.takerIn K C name = some none) (hh : PySem.W.hasDictIn K C = true)
    (hw : PySem.Within mA ns) (hsz : ns.length ≤ sizeLine)
    (h : ∀ h', ObjM h' x dx C (fun y => if y = name then some v else mA y) → Heap.SameBut dx s.heap h' → Q () { s with heap := h', toks := s.toks + 2 }) :
    wpAny (model prog w) A (setAttr (.ref x) name v) Q E s := by
  obtain ⟨od, J, hl⟩ := I.look
  refine PySem.W.set_plain X J hs (PySem.W.osa_open (s := { s with toks := s.toks + 1 }) (r := none) X J hp ht fun b => ?_)
  obtain ⟨cd, hc, hd'⟩ := PySem.W.any_some hh
  have hx : s.heap.get? x = some ⟨.ref C, some dx, .plain, #[]⟩ := I.obj
  refine wpAny_bind (wpAny_pure (wpAny_bind (wpAny_bind (wpAny_loadPart hx (wpAny_bind (PySem.W.Looks.here (s := { s with toks := s.toks + 1 }) (PySem.W.looks_clsIn X hc) ?_))))))
  rw [hd']
  refine wpAny_pure (a := some dx) (wpAny_bind (wpAny_pure (wpAny_bind ?_)))
  refine wpAny_nsSet1 (s := { s with toks := s.toks + 1 }) I.ns fun h' hn2 hs2 => ?_
  obtain ⟨oD, esD, epD, hoD, hdD, hcD⟩ := hn2.count (PySem.Within.cons name v hw)
  refine wpAny_bind (wpAny_lookBehind hoD (by rw [hdD]; exact pastItsLine_dict (Nat.le_trans hcD (by rw [List.length_cons]; omega))) ?_)
  exact wpAny_pure (h _ ⟨(hs2.2 _ (Ne.symm I.ne)).trans I.obj, hn2, I.ne⟩ hs2)
theorem make_map {R : Result → Shared → Prop} {vs : List Value} {kw : List (Str × Value)} (X : K.In s.heap) (hm : PySem.W.makesIn K C = true)
    (hi : PySem.W.findIn K (.ref C) "__init__" = some (some (.ref f))) (hf : PySem.W.typeIn K (.ref f) = some (.type "function"))
    (h : codeAny (model prog w) (A.under (.builtin "type.__call__" ⟨.ref C :: vs, kw⟩)) (.call (.ref f) ⟨.ref (s.heap.objs.size + 1) :: vs, kw⟩) (PySem.W.InitBack (s.heap.objs.size + 1) R)
      { s with heap := (s.heap.push PySem.W.emptyDict).push (PySem.W.instObj C s.heap.objs.size) }) :
    codeAny (model prog w) A (.call (.ref C) ⟨vs, kw⟩) R s := by
  obtain ⟨hh, g, d, t, os⟩ := s
  exact PySem.W.make_core (PySem.W.makes_of X hm) (PySem.W.looks_findIn X hi) (fun self => PySem.W.bind_fn X self hf) (.inl rfl) h
end
def putF (f : Str) (v : V) : List (Str × V) → List (Str × V)
  | [] => [(f, v)]
  | (g, x) :: r => if g = f then (g, v) :: r else (g, x) :: putF f v r
theorem lookup_putF (f g : Str) (v : V) : ∀ fs : List (Str × V), (putF f v fs).lookup g = if g = f then some v else fs.lookup g
  | [] => by
    show List.lookup g [(f, v)] = _
    by_cases h : g = f
    · have hb : (g == f) = true := beq_iff_eq.mpr h
      simp only [List.lookup, hb, if_pos h]
    · have hb : (g == f) = false := beq_eq_false_iff_ne.mpr h
      simp only [List.lookup, hb, if_neg h]
  | (k, x) :: r => by
    have ih := lookup_putF f g v r
    rw [show putF f v ((k, x) :: r) = (if k = f then (k, v) :: r else (k, x) :: putF f v r) from rfl]
    by_cases hk : k = f
    · rw [if_pos hk]
      by_cases h : g = k
      · have hb : (g == k) = true := beq_iff_eq.mpr h
        simp only [List.lookup, hb, if_pos (h.trans hk)]
      · have hb : (g == k) = false := beq_eq_false_iff_ne.mpr h
        simp only [List.lookup, hb, if_neg (fun e : g = f => h (e.trans hk.symm))]
    · rw [if_neg hk]
      by_cases h : g = k
      · have hb : (g == k) = true := beq_iff_eq.mpr h
        simp only [List.lookup, hb, if_neg (fun e : g = f => hk (h.symm.trans e))]
      · have hb : (g == k) = false := beq_eq_false_iff_ne.mpr h
        simp only [List.lookup, hb]
        exact ih
theorem keys_putF (f : Str) (v : V) : ∀ fs : List (Str × V), f ∈ (putF f v fs).map (·.1) ∧ ∀ g, g ∈ fs.map (·.1) → g ∈ (putF f v fs).map (·.1)
  | [] => ⟨by simp [putF], fun g h => by simp at h⟩
  | (k, x) :: r => by
    obtain ⟨i1, i2⟩ := keys_putF f v r
    rw [show putF f v ((k, x) :: r) = (if k = f then (k, v) :: r else (k, x) :: putF f v r) from rfl]
    by_cases hk : k = f
    · rw [if_pos hk]
      subst hk
      exact ⟨by simp, fun g h => by simpa using h⟩
    · rw [if_neg hk]
      refine ⟨?_, fun g h => ?_⟩
      · rw [List.map_cons]
        exact List.mem_cons_of_mem _ i1
      · rw [List.map_cons] at h ⊢
        rcases List.mem_cons.mp h with e | e
        · exact List.mem_cons.mpr (.inl e)
        · exact List.mem_cons_of_mem _ (i2 g e)
theorem length_putF (f : Str) (v : V) : ∀ fs : List (Str × V), (putF f v fs).length ≤ fs.length + 1
  | [] => by simp [putF]
  | (k, x) :: r => by
    have ih := length_putF f v r
    rw [show putF f v ((k, x) :: r) = (if k = f then (k, v) :: r else (k, x) :: putF f v r) from rfl]
    by_cases hk : k = f
    · rw [if_pos hk, List.length_cons, List.length_cons]; omega
    · rw [if_neg hk, List.length_cons, List.length_cons]; omega
theorem RelO.some_of {v : V} {o : Option Value} (r : RelO (some v) o) : ∃ u, o = some u ∧ RelV v u := by
  cases o with
  | none => exact (show False from r).elim
  | some u => exact ⟨u, rfl, r⟩
theorem RelO.none_of {o : Option Value} (r : RelO none o) : o = none := by
  cases o with
  | none => rfl
  | some u => exact (show False from r).elim
theorem handed_of {v : V} {u : Value} (r : RelV v u) : PySem.W.handedIn u = true := by
  cases v with
  | non => cases (show u = Value.none from r); rfl
  | bl b => cases (show u = Value.bool b from r); rfl
  | int i => obtain ⟨t, e⟩ := (show ∃ t, u = Value.int i t from r); cases e; rfl
  | str x => obtain ⟨t, e⟩ := (show ∃ t, u = Value.str x t from r); cases e; rfl
  | byt b => obtain ⟨t, e⟩ := (show ∃ t, u = Value.bytes b t from r); cases e; rfl
  | flt b => obtain ⟨t, e⟩ := (show ∃ t, u = Value.float b t from r); cases e; rfl
  | ref a => cases (show u = Value.ref a from r); rfl
  | ty n => cases (show u = Value.type n from r); rfl
section
variable {P : Program} {w : World} {H H' : Hp} {h h' : Heap} {a C dx : Addr} {fs fs' : List (Str × V)}
theorem ins_get (hok : HOk P w H h) (e : H a = some (.ins C dx fs)) : ∃ mA, ObjM h a dx C mA ∧ (∀ f, RelO (fs.lookup f) (mA f)) ∧ PySem.Within mA (fs.map (·.1)) ∧ fs.length ≤ 1000 ∧ H dx = some (.own a) := by
  obtain ⟨d, z, ne, ob, mA, n, r, q⟩ := (show ObjOk P w H h a (.ins C dx fs) from hok a _ e)
  exact ⟨mA, ⟨ob, n, ne⟩, r, q, z, d⟩
end
structure Cls (K : PySem.W.Frag) (C : Addr) : Prop where
  pg : PySem.W.plainGet K C Str.empty = true
  hd : PySem.W.hasDictIn K C = true
  po : PySem.W.plainOver K C = true
  sa : PySem.W.findIn K (.ref C) "__setattr__" = some (some (.builtin "object.__setattr__"))
theorem Cls.get {K : PySem.W.Frag} {C : Addr} (c : Cls K C) (f : Str) : PySem.W.plainGet K C f = true := c.pg
def NoAttr (K : PySem.W.Frag) (C : Addr) (f : Str) : Prop := PySem.W.findIn K (.ref C) f = some none
theorem NoAttr.taker {K : PySem.W.Frag} {C : Addr} {f : Str} (n : NoAttr K C f) : PySem.W.takerIn K C f = some none := by
  unfold PySem.W.takerIn
  rw [show PySem.W.findIn K (.ref C) f = some none from n]
  rfl
structure Con (K : PySem.W.Frag) (C : Addr) (f : Str) (v : V) (u : Value) : Prop where
  at_ : PySem.W.findIn K (.ref C) f = some (some u)
  rel : RelV v u
  get : PySem.W.specialIn K u "__get__" = some none
  cp : PySem.W.copiedNames.contains f = false
structure Meth (K : PySem.W.Frag) (C : Addr) (m : Str) (f : Addr) : Prop where
  at_ : PySem.W.findIn K (.ref C) m = some (some (.ref f))
  fn : PySem.W.isFn K (.ref f) = true
  kp : PySem.W.keepIn K (.ref f) = true
section
variable {X : Cx} {pins : List (Addr × Obj)} {σ : St} {H : Hp} {s : Shared} {a C dx : Addr} {fs : List (Str × V)} {f : Str} {v : V} {A : Around} {E : Value → Shared → Prop}
theorem getattr_ok {b : Bool} {Q : Value → Shared → Prop} (I : Inv X pins σ H s) (e : H a = some (.ins C dx fs)) (c : Cls X.K C) (n : NoAttr X.K C f) (l : fs.lookup f = some v)
    (h : ∀ u s', Inv X pins σ H s' → RelV v u → Q u s') : wpAny (model X.prog X.w) A (getAttr (.ref a) f b) Q E s := by
  obtain ⟨mA, O, r, _, _, _⟩ := ins_get I.hok e
  obtain ⟨u, hu, ru⟩ := RelO.some_of (v := v) (o := mA f) (by rw [← l]; exact r f)
  exact get_map I.kIn O (c.get f) c.hd n hu (handed_of ru) (h u _ (I.tok _) ru)
theorem getmeth_ok {m : Str} {g : Addr} {pl : Sem Bool} {Q : Value × List Value → Shared → Prop} (I : Inv X pins σ H s) (e : H a = some (.ins C dx fs)) (c : Cls X.K C) (k : Meth X.K C m g) (l : fs.lookup m = none)
    (h : Q (.ref g, [.ref a]) s) : wpAny (model X.prog X.w) A (getMethod (.ref a) m pl) Q E s := by
  obtain ⟨mA, O, r, _, _, _⟩ := ins_get I.hok e
  have hn : mA m = none := RelO.none_of (by rw [← l]; exact r m)
  exact get_meth I.kIn O (c.get m) k.at_ k.fn hn h
theorem setattr_ok {y : V} {u : Value} {Q : Unit → Shared → Prop} (I : Inv X pins σ H s) (e : H a = some (.ins C dx fs)) (c : Cls X.K C) (n : NoAttr X.K C f) (hl : fs.length < 1000) (ry : RelV y u)
    (h : ∀ s', Inv X pins σ (upd H a (.ins C dx (putF f y fs))) s' → Q () s') : wpAny (model X.prog X.w) A (setAttr (.ref a) f u) Q E s := by
  obtain ⟨mA, O, r, wi, _, ho⟩ := ins_get I.hok e
  have hz : (fs.map (·.1)).length ≤ sizeLine := by rw [List.length_map, sizeLine_eq]; omega
  refine set_map I.kIn O c.sa c.po n.taker c.hd wi hz fun h' O' sb => h _ ?_
  have hd : ∃ o, h'.get? dx = some o := let ⟨o, _, _, e', _⟩ := O'.ns; ⟨o, e'⟩
  refine I.write (x := a) (e := dx) (by rw [e]; exact True.intro) (.inr ho) (fun b q hb z => (sb.2 b hb).trans z) hd ?_
  refine ⟨by rw [upd_ne O.ne]; exact ho, ?_, O.ne, O'.obj, _, O'.ns, fun g => ?_, fun g hg => ?_⟩
  · have := length_putF f y fs; omega
  · show RelO ((putF f y fs).lookup g) (if g = f then some u else mA g)
    rw [lookup_putF]
    by_cases q : g = f
    · rw [if_pos q, if_pos q]; exact ry
    · rw [if_neg q, if_neg q]; exact r g
  · by_cases q : g = f
    · rw [q]; exact (keys_putF f y fs).1
    · refine (keys_putF f y fs).2 g (wi g fun z => hg ?_)
      show (if g = f then some u else mA g) = none
      rw [if_neg q]; exact z
theorem Inv.made (I : Inv X pins σ H s) : Inv X pins σ (upd (upd H s.heap.objs.size (.own (s.heap.objs.size + 1))) (s.heap.objs.size + 1) (.ins C s.heap.objs.size []))
    { s with heap := (s.heap.push PySem.W.emptyDict).push (PySem.W.instObj C s.heap.objs.size) } := by
  have e1 : (s.heap.push PySem.W.emptyDict).get? s.heap.objs.size = some PySem.W.emptyDict := Heap.get?_push_size s.heap rfl
  have e2 : ((s.heap.push PySem.W.emptyDict).push (PySem.W.instObj C s.heap.objs.size)).get? (s.heap.objs.size + 1) = some (PySem.W.instObj C s.heap.objs.size) := by
    have := Heap.get?_push_size (s.heap.push PySem.W.emptyDict) (o := PySem.W.instObj C s.heap.objs.size) rfl
    rwa [Heap.size_push] at this
  have e3 : (s.heap.push PySem.W.emptyDict).Ns s.heap.objs.size (fun _ => none) := ⟨PySem.W.emptyDict, #[], _, e1, rfl, (fun e he => absurd he (by simp)), fun _ => rfl⟩
  have I1 := I.laid (a := s.heap.objs.size) (o := .own (s.heap.objs.size + 1)) (h' := s.heap.push PySem.W.emptyDict) (t' := s.toks) (fun b u q => Heap.get?_push_of_some _ q) (Nat.le_refl _) ⟨_, e1⟩
  refine I1.laid (a := s.heap.objs.size + 1) (o := .ins C s.heap.objs.size []) (t' := s.toks) (fun b u q => Heap.get?_push_of_some _ q) (Nat.le_of_eq (Heap.size_push _ _)) ?_
  have ne : s.heap.objs.size ≠ s.heap.objs.size + 1 := Nat.ne_of_lt (Nat.lt_succ_self _)
  refine ⟨by rw [upd_ne ne, upd_same], Nat.zero_le _, ne, e2, fun _ => none, (Heap.Ns1.of_empty e3).at fun o q => Heap.get?_push_of_some _ q, fun _ => True.intro, fun y hy => absurd rfl hy⟩
theorem attr_of {prog : Program} {w : World} {env : Env} {e : Expr} {f : Str} {pos : Pos} {s : Shared} {Q : Value → Shared → Prop} (hb : attributeBase e f env (eval e env) = eval e env)
    (h : wpAny (model prog w) A (eval e env) (fun o s₁ => wpAny (model prog w) A (getAttr o f true) Q E s₁) E s) : wpAny (model prog w) A (eval (.Attribute e f pos) env) Q E s :=
  Attribute_any_ h (by rw [arm_eval_Attribute, hb])
end
def tFld (K : PySem.W.Frag) (ta : TE) (f : Str) : TE := fun σ H Q => ta σ H fun x H1 => ∃ a C dx fs v, x = .ref a ∧ H1 a = some (.ins C dx fs) ∧ Cls K C ∧ NoAttr K C f ∧ fs.lookup f = some v ∧ Q v H1
def sFld (K : PySem.W.Frag) (ta tv : TE) (f : Str) : TS := fun D σ H => tv σ H fun y H1 => ta σ H1 fun x H2 => ∃ a C dx fs, x = .ref a ∧ H2 a = some (.ins C dx fs) ∧ Cls K C ∧ NoAttr K C f ∧ fs.length < 1000 ∧
  D.nx σ (upd H2 a (.ins C dx (putF f y fs)))
section
variable {X : Cx} {o e value : Expr} {f : Str} {pos pos' tpos : Pos} {ta tv : TE}
theorem pe_fld (he : PE X e ta) (hb : attributeBase e f X.env (eval e X.env) = eval e X.env) : PE X (.Attribute e f pos) (tFld X.K ta f) := by
  intro pins s σ H Q I h
  refine attr_of hb (thn (he pins s σ H _ I h) fun u s1 ⟨x, H1, I1, rx, a, C, dx, fs, v, ex, ea, c, n, l, q⟩ => ?_)
  subst ex
  obtain rfl : u = Value.ref a := rx
  exact getattr_ok I1 ea c n l fun u' s2 I2 ru => ⟨v, H1, I2, ru, q⟩
theorem ps_fld (ha : PE X o ta) (hv : PE X value tv) (hs : swapsWith value (some (.Attribute o f pos')) pos.line X.env = pure false) : PS X (.Assign [.Attribute o f pos'] value pos) (sFld X.K ta tv f) := by
  intro pins s σ H D I h
  refine plainObj_wpAny_Assign_Attribute (thn (hv pins s σ H _ I h) fun u s1 ⟨y, H1, I1, ry, q⟩ => thn (ha pins s1 σ H1 _ I1 q) fun ov s2 ⟨x, H2, I2, rx, a, C, dx, fs, ex, ea, c, n, l, q2⟩ => ?_) hs
  subst ex
  obtain rfl : ov = Value.ref a := rx
  exact setattr_ok I2 ea c n l ry fun s3 I3 => ⟨σ, _, I3, q2⟩
end
section
variable {X : Cx} {pins : List (Addr × Obj)} {σ : St} {H : Hp} {s : Shared} {A : Around} {E : Value → Shared → Prop} {Q : Value → Shared → Prop} {c : Value} {b : Bool}
inductive TyOf (K : PySem.W.Frag) (H : Hp) : V → Value → Prop where
  | non : TyOf K H .non (.type "NoneType")
  | bl (x : Bool) : TyOf K H (.bl x) (.type "bool")
  | int (i : Int) : TyOf K H (.int i) (.type "int")
  | str (x : Str) : TyOf K H (.str x) (.type "str")
  | flt (x : UInt64) : TyOf K H (.flt x) (.type "float")
  | lst {a : Addr} {xs : List V} (e : H a = some (.lst xs)) : TyOf K H (.ref a) (.type "list")
  | frz {a : Addr} {o : Obj} {xs : List V} (e : H a = some (.frz o (.lst xs))) : TyOf K H (.ref a) (.type "list")
  | tup {a : Addr} {xs : List V} (e : H a = some (.tup xs)) : TyOf K H (.ref a) (.type "tuple")
  | dK {a : Addr} {kvs : List (Key × V)} (e : H a = some (.dK kvs)) : TyOf K H (.ref a) (.type "dict")
  | dT {a : Addr} {kvs : List (List Key × V)} (e : H a = some (.dT kvs)) : TyOf K H (.ref a) (.type "dict")
  | ins {a C dx : Addr} {fs : List (Str × V)} (e : H a = some (.ins C dx fs)) (cl : Cls K C) (ha : PySem.W.findIn K (.ref C) "__class__" = some (some (.builtin "object.__class__")))
      (hn : PySem.W.specialIn K (.builtin "object.__class__") "__get__" = some (some (.builtin "getset_descriptor.__get__"))) (htk : PySem.W.takesIn K (.builtin "object.__class__") = some true)
      (hm : PySem.W.mroIn K C (.type "object") = some true) : TyOf K H (.ref a) (.ref C)
end
end L2
namespace L2
open PySem PySem.Spec PyProof.Rows
structure Room (k : Nat) (A : Around) : Prop where
  hd : A.handled = none
  dp : A.depth + 3 * k + 5 < recursionLimit
  un : A.units + 16 * k + 200 < cLine
theorem Room.mono {j k : Nat} {A : Around} (r : Room k A) (h : j ≤ k) : Room j A := ⟨r.hd, by have := r.dp; omega, by have := r.un; omega⟩
theorem Room.deeper {k : Nat} {A : Around} (r : Room (k + 1) A) (env : Env) : Room k (A.deeper env) :=
  ⟨r.hd, by have := r.dp; show A.depth + 1 + 3 * k + 5 < _; omega, by have := r.un; show A.units + 3 + 16 * k + 200 < _; omega⟩
theorem Room.in1 {k : Nat} {A : Around} (r : Room (k + 1) A) : Room k A.in1 :=
  ⟨r.hd, by have := r.dp; show A.depth + 3 * k + 5 < _; omega, by have := r.un; show A.units + 1 + 16 * k + 200 < _; omega⟩
theorem make_depth {A : Around} {C : Addr} {us : List Value} {kw : List (Str × Value)} : (A.under (.builtin "type.__call__" ⟨.ref C :: us, kw⟩)).depth = A.depth + 1 := by
  first | rfl | simp [Around.under, Code.weight, Code.isCreation, Code.isGuard, Code.isCaller, Code.frames, Code.isFrame, guardIds]
theorem make_units {A : Around} {C : Addr} {us : List Value} {kw : List (Str × Value)} : (A.under (.builtin "type.__call__" ⟨.ref C :: us, kw⟩)).units = A.units + 1 := by
  first | rfl | simp [Around.under, Code.cUnits, Code.frames, Code.isFrame]
theorem Room.make {k : Nat} {A : Around} (r : Room (k + 1) A) (C : Addr) (us : List Value) (kw : List (Str × Value)) : Room k (A.under (.builtin "type.__call__" ⟨.ref C :: us, kw⟩)) :=
  ⟨r.hd, by have := r.dp; rw [make_depth]; omega, by have := r.un; rw [make_units]; omega⟩
theorem Room.depth {k : Nat} {A : Around} (r : Room k A) : A.depth < recursionLimit := by have := r.dp; omega
theorem Room.units {k : Nat} {A : Around} (r : Room k A) : A.units + 64 < cLine := by have := r.un; omega
def tNil : TA := fun _ H Q => Q [] H
def tCons (ta : TE) (tr : TA) : TA := fun σ H Q => ta σ H fun x H1 => tr σ H1 fun xs H2 => Q (x :: xs) H2
section
variable {X : Cx} {e : Expr} {es : List Expr} {te : TE} {t : TA} {pos : Pos}
theorem pa_nil : PA X [] tNil := fun _ _ _ _ H Q I h => Calls.spliced_nil ⟨[], H, I, .nil, h⟩
theorem pa_cons (ha : PE X e te) (hr : PA X es t) (hs : starEach (e :: es) X.env = (false, eval e X.env) :: starEach es X.env := by rfl) : PA X (e :: es) (tCons te t) := by
  intro pos pins s σ H Q I h
  rw [hs]
  show wpAny _ _ (spliced ((false, eval e X.env) :: backTo pos (starEach es X.env))) _ _ s
  refine Calls.spliced_cons (thn (ha pins s σ H _ I h) fun u s1 ⟨x, H1, I1, r1, q1⟩ => ?_)
  exact thn (hr pos pins s1 σ H1 _ I1 q1) fun us s2 ⟨xs, H2, I2, r2, q2⟩ => ⟨x :: xs, H2, I2, .cons r1 r2, q2⟩
def tLst (t : TA) : TE := fun σ H Q => t σ H fun xs H1 => xs.length ≤ sizeLine ∧ ∀ p, H1 p = none → Q (.ref p) (upd H1 p (.lst xs))
theorem pe_lst (h : PA X es t) : PE X (.List es pos) (tLst t) := by
  intro pins s σ H Q I hq
  refine wpAny_List_spliced (thn (h pos pins s σ H _ I hq) fun us s1 ⟨xs, H1, I1, r, z, q⟩ => ⟨by rw [← r.length]; exact z, ?_⟩)
  have hf : H1 s1.heap.objs.size = none := I1.hok.fresh (Nat.le_refl _)
  refine ⟨.ref s1.heap.objs.size, upd H1 s1.heap.objs.size (.lst xs), I1.laid (t' := s1.toks) (fun b u e => Heap.get?_push_of_some _ e) (Nat.le_refl _) ?_, rfl, q _ hf⟩
  exact ⟨z, us, 0, r, Heap.get?_push_size _ rfl⟩
end
abbrev Sp := List V → Hp → VK → XK → Prop
abbrev CXT := List Env → Hp → Shared → XK → Value → Shared → Prop
structure Env0 (P : Program) (w : World) (K : PySem.W.Frag) (mg : Str → Option Value) (base : Heap) (A : Around) (outer : List Env) (s : Shared) (H : Hp) : Prop where
  frames : A.frames = some outer
  mod : Mod K mg base
  bs : ∀ b o, base.get? b = some o → s.heap.get? b = some o ∧ H b = none
  bsz : base.objs.size ≤ s.heap.objs.size
  funs : s.heap.FunFrames base outer
  frf : ∀ b ∈ frs outer, H b = none
  hok : HOk P w H s.heap
  bare : AllBare s.gens
def CE (outer : List Env) (P : Program) (w : World) (H : Hp) (s : Shared) (Q : VK) (u : Value) (s' : Shared) : Prop :=
  ∃ v H', s'.os = s.os ∧ AllBare s'.gens ∧ Un (frs outer) [] H H' s.heap s'.heap ∧ HOk P w H' s'.heap ∧ RelV v u ∧ Q v H'
def CR (CX : CXT) (outer : List Env) (P : Program) (w : World) (H : Hp) (s : Shared) (Q : VK) (E : XK) (r : Result) (s' : Shared) : Prop :=
  match r with
  | .ok (.ret u) => CE outer P w H s Q u s'
  | .ok _ => False
  | .error e => CX outer H s E e s'
structure FnOk (P : Program) (w : World) (K : PySem.W.Frag) (mg : Str → Option Value) (base : Heap) (CX : CXT) (k : Nat) (f : Addr) (fd : FuncData) (ps : List Str) (sp : Sp) : Prop where
  len : ∀ vs H Q E, sp vs H Q E → vs.length = ps.length
  run : ∀ (A : Around) (outer : List Env) (s : Shared) (H : Hp) (args : Args) (us : List Value) (vs : List V) (Q : VK) (E : XK), Room k A → Env0 P w K mg base A outer s H → BindsTo s fd args (ps.zip us) → Vals vs us → sp vs H Q E →
    codeAny (model P w) A (.call (.ref f) args) (CR CX outer P w H s Q E) s
theorem FnOk.mono {P : Program} {w : World} {K : PySem.W.Frag} {mg : Str → Option Value} {base : Heap} {CX : CXT} {j k : Nat} {f : Addr} {fd : FuncData} {ps : List Str} {sp : Sp} (F : FnOk P w K mg base CX j f fd ps sp) (h : j ≤ k) :
    FnOk P w K mg base CX k f fd ps sp := ⟨F.len, fun A outer s H args us vs Q E hr => F.run A outer s H args us vs Q E (hr.mono h)⟩
theorem FnOk.imp {P : Program} {w : World} {K : PySem.W.Frag} {mg : Str → Option Value} {base : Heap} {CX : CXT} {k : Nat} {f : Addr} {fd : FuncData} {ps : List Str} {sp sp' : Sp} (F : FnOk P w K mg base CX k f fd ps sp)
    (h : ∀ vs H Q E, sp' vs H Q E → sp vs H Q E) : FnOk P w K mg base CX k f fd ps sp' :=
  ⟨fun vs H Q E q => F.len vs H Q E (h _ _ _ _ q), fun A outer s H args us vs Q E hr he hb hv hs => F.run A outer s H args us vs Q E hr he hb hv (h _ _ _ _ hs)⟩
theorem Env0.make {P : Program} {w : World} {K : PySem.W.Frag} {mg : Str → Option Value} {base : Heap} {A : Around} {outer : List Env} {s : Shared} {H : Hp} (e : Env0 P w K mg base A outer s H) (C : Addr) (us : List Value) (kw : List (Str × Value)) :
    Env0 P w K mg base (A.under (.builtin "type.__call__" ⟨.ref C :: us, kw⟩)) outer s H := ⟨by first | exact e.frames | (simpa [Around.under, Code.envs, Code.isFrame, pushEnvs] using e.frames), e.mod, e.bs, e.bsz, e.funs, e.frf, e.hok, e.bare⟩
theorem Env0.in1 {P : Program} {w : World} {K : PySem.W.Frag} {mg : Str → Option Value} {base : Heap} {A : Around} {outer : List Env} {s : Shared} {H : Hp} (e : Env0 P w K mg base A outer s H) :
    Env0 P w K mg base A.in1 outer s H := ⟨e.frames, e.mod, e.bs, e.bsz, e.funs, e.frf, e.hok, e.bare⟩
section
variable {X : Cx} {pins : List (Addr × Obj)} {σ : St} {H : Hp} {s s' : Shared}
theorem Inv.env0 (I : Inv X pins σ H s) : Env0 X.prog X.w X.K X.mg X.base X.A X.stack s H :=
  ⟨I.ok.frames, I.ok.mod, I.bs, Nat.le_trans I.ok.bsz I.sz, I.stack, I.stkFree, I.hok, I.bare⟩
theorem Inv.after {Q : VK} {u : Value} (I : Inv X pins σ H s) (h : CE X.stack X.prog X.w H s Q u s') : EP X pins σ Q u s' := by
  obtain ⟨v, H', os, bare, un, hok, r, q⟩ := h
  obtain ⟨hh, g, d, t, os'⟩ := s'
  obtain rfl : os' = s.os := os
  exact ⟨v, H', I.call (h' := hh) (g' := g) (d' := d) (t' := t) (ch := []) un hok bare (fun b z => absurd z (by simp)), r, q⟩
end
def tCall (sp : Sp) (dvs : List V) (E : XK) (t : TA) : TE := fun σ H Q => t σ H fun vs H1 => sp (vs ++ dvs) H1 Q E
def tMeth (C : Addr) (m : Str) (sp : Sp) (dvs : List V) (E : XK) (ta : TE) (t : TA) : TE := fun σ H Q => ta σ H fun x H1 => ∃ a dx fs, x = .ref a ∧ H1 a = some (.ins C dx fs) ∧ fs.lookup m = none ∧
  t σ H1 fun vs H2 => sp (x :: (vs ++ dvs)) H2 Q E
def tMake (C : Addr) (sp : Sp) (dvs : List V) (E : XK) (t : TA) : TE := fun σ H Q => t σ H fun vs H1 => ∀ x dx, H1 x = none → H1 dx = none → dx ≠ x →
  sp (.ref x :: (vs ++ dvs)) (upd (upd H1 dx (.own x)) x (.ins C dx [])) (fun v H2 => v = .non ∧ Q (.ref x) H2) E
def Binds (K : PySem.W.Frag) (fd : FuncData) (ps : List Str) (ds : List Value) : Prop :=
  ∀ (s : Shared) (us : List Value), K.In s.heap → (us ++ ds).length = ps.length → BindsTo s fd ⟨us, []⟩ (ps.zip (us ++ ds))
theorem Binds.all {K : PySem.W.Frag} {fd : FuncData} {ps : List Str} (h : ∀ us : List Value, us.length = ps.length → bindArgs fd ⟨us, []⟩ = pure (ps.zip us)) : Binds K fd ps [] := fun s us _ hl => by
  rw [List.append_nil] at hl ⊢
  exact .of_eq (h us hl)
def Passes (CX : CXT) (X : Cx) (E : XK) : Prop := ∀ (pins : List (Addr × Obj)) (σ : St) (H : Hp) (s : Shared) (e : Value) (s' : Shared), Inv X pins σ H s → CX X.stack H s E e s' → X.xe e s'
section
variable {X : Cx} {CX : CXT} {k : Nat} {f C : Addr} {fd : FuncData} {ps : List Str} {sp : Sp} {dvs : List V} {ds : List Value} {E : XK} {x m : Str} {p pos apos : Pos} {e o : Expr} {es : List Expr} {ta : TE} {t : TA}
theorem run_fn {pins : List (Addr × Obj)} {σ : St} {H : Hp} {s : Shared} {Q : VK} {us : List Value} {vs : List V} (F : FnOk X.prog X.w X.K X.mg X.base CX k f fd ps sp) (hr : Room k X.A) (hb : Binds X.K fd ps ds) (hd : Vals dvs ds) (hx : Passes CX X E)
    (I : Inv X pins σ H s) (r : Vals vs us) (h : sp (vs ++ dvs) H Q E) : wpAny (model X.prog X.w) X.A (call (.ref f) us) (EP X pins σ Q) X.xe s := by
  have r2 : Vals (vs ++ dvs) (us ++ ds) := r.append hd
  have hl : (us ++ ds).length = ps.length := by rw [← r2.length]; exact F.len _ _ _ _ h
  refine wpAny_call (codeAny_mono (F.run X.A X.stack s H ⟨us, []⟩ (us ++ ds) (vs ++ dvs) Q E hr I.env0 (hb s us I.kIn hl) r2 h) fun r s' hq => ?_)
  cases r with
  | error e => exact hx pins σ H s e s' I hq
  | ok fl =>
    cases fl with
    | ret u => exact I.after hq
    | next => exact False.elim hq
    | brk => exact False.elim hq
    | cont => exact False.elim hq
theorem pe_call (F : FnOk X.prog X.w X.K X.mg X.base CX k f fd ps sp) (hr : Room k X.A) (hg : Gl X x) (hm : X.mg x = some (.ref f)) (hk : PySem.W.keepIn X.K (.ref f) = true) (hb : Binds X.K fd ps ds) (hd : Vals dvs ds) (hx : Passes CX X E)
    (ha : PA X (e :: es) t) (hdb : (x == ("__debug__" : Str)) = false := by decide) (he : starEach (e :: es) X.env = (false, eval e X.env) :: starEach es X.env := by rfl) (hpl : (backTo pos (starEach es X.env)).any (·.1) = false := by rfl) :
    PE X (.Call (.Name x p) (e :: es) [] pos) (tCall sp dvs E t) := by
  intro pins s σ H Q I h
  refine wpAny_Call_Name_kw (ld_glob I hg hm ?_ hdb)
  refine PySem.W.callWith_K (h₀ := X.base) I.ok.mod.kin hk (thn (ha pos pins s σ H _ I h) fun us s1 ⟨vs, H1, I1, r, q⟩ => ⟨I1.kIn, ?_⟩) he hpl
  exact run_fn F hr hb hd hx I1 r q
theorem pe_meth {pl : Sem Bool} (he : PE X o ta) (c : Cls X.K C) (hm : Meth X.K C m f) (F : FnOk X.prog X.w X.K X.mg X.base CX k f fd ps sp) (hr : Room k X.A) (hb : Binds X.K fd ps ds) (hd : Vals dvs ds) (hx : Passes CX X E) (ha : PA X (e :: es) t)
    (hst : starEach (e :: es) X.env = (false, eval e X.env) :: starEach es X.env := by rfl) (hpl : (backTo pos (starEach es X.env)).any (·.1) = false := by rfl)
    (ht : eval (.Call (.Attribute o m apos) (e :: es) [] pos) X.env = (do
      let ov ← eval o X.env
      standAt apos.atName
      let (f, first) ← holding [ov] (getMethod ov m pl)
      callWith pos f first (backTo pos (starEach (e :: es) X.env)) (backToKw pos (keywordEach [] X.env))) := by rfl) :
    PE X (.Call (.Attribute o m apos) (e :: es) [] pos) (tMeth C m sp dvs E ta t) := by
  intro pins s σ H Q I h
  refine PySem.W.methodCall_KW (pl := pl) (thn (he pins s σ H _ I h) fun u s1 ⟨x, H1, I1, rx, a, dx, fs, ex, ea, l, q⟩ => ?_) ht
  subst ex
  obtain rfl : u = Value.ref a := rx
  refine getmeth_ok I1 ea c hm l ?_
  refine PySem.W.callWith_K (first := [.ref a]) (h₀ := X.base) I.ok.mod.kin hm.kp (thn (ha pos pins s1 σ H1 _ I1 q) fun us s2 ⟨vs, H2, I2, r, q2⟩ => ⟨I2.kIn, ?_⟩) hst hpl
  exact run_fn (us := .ref a :: us) (vs := .ref a :: vs) F hr hb hd hx I2 (.cons rfl r) q2
theorem pe_meth0 {pl : Sem Bool} (he : PE X o ta) (c : Cls X.K C) (hm : Meth X.K C m f) (F : FnOk X.prog X.w X.K X.mg X.base CX k f fd ps sp) (hr : Room k X.A) (hb : Binds X.K fd ps ds) (hd : Vals dvs ds) (hx : Passes CX X E)
    (ht : eval (.Call (.Attribute o m apos) [] [] pos) X.env = (do
      let ov ← eval o X.env
      standAt apos.atName
      let (f, first) ← holding [ov] (getMethod ov m pl)
      callWith pos f first (backTo pos (starEach [] X.env)) (backToKw pos (keywordEach [] X.env))) := by rfl) :
    PE X (.Call (.Attribute o m apos) [] [] pos) (tMeth C m sp dvs E ta tNil) := by
  intro pins s σ H Q I h
  refine PySem.W.methodCall_KW (pl := pl) (thn (he pins s σ H _ I h) fun u s1 ⟨x, H1, I1, rx, a, dx, fs, ex, ea, l, q⟩ => ?_) ht
  subst ex
  obtain rfl : u = Value.ref a := rx
  refine getmeth_ok I1 ea c hm l ?_
  exact PySem.W.callWith_K0 (first := [.ref a]) I1.kIn hm.kp (run_fn (us := [.ref a]) (vs := [.ref a]) F hr hb hd hx I1 (.cons rfl .nil) q)
structure Mk (K : PySem.W.Frag) (C f : Addr) : Prop where
  makes : PySem.W.makesIn K C = true
  init : PySem.W.findIn K (.ref C) "__init__" = some (some (.ref f))
  fn : PySem.W.isFn K (.ref f) = true
  kp : PySem.W.keepIn K (.ref C) = true
theorem run_make {pins : List (Addr × Obj)} {σ : St} {H : Hp} {s : Shared} {Q : VK} {us : List Value} {vs : List V} (M : Mk X.K C f) (F : FnOk X.prog X.w X.K X.mg X.base CX k f fd ps sp) (hr : Room (k + 1) X.A) (hb : Binds X.K fd ps ds) (hd : Vals dvs ds)
    (hx : Passes CX X E) (I : Inv X pins σ H s) (r : Vals vs us)
    (h : ∀ x dx, H x = none → H dx = none → dx ≠ x → sp (.ref x :: (vs ++ dvs)) (upd (upd H dx (.own x)) x (.ins C dx [])) (fun v H2 => v = .non ∧ Q (.ref x) H2) E) :
    wpAny (model X.prog X.w) X.A (call (.ref C) us) (EP X pins σ Q) X.xe s := by
  have hq := h (s.heap.objs.size + 1) s.heap.objs.size (I.hok.fresh (Nat.le_succ _)) (I.hok.fresh (Nat.le_refl _)) (Nat.ne_of_lt (Nat.lt_succ_self _))
  have I2 := Inv.made (C := C) I
  have r2 : Vals (V.ref (s.heap.objs.size + 1) :: (vs ++ dvs)) (Value.ref (s.heap.objs.size + 1) :: (us ++ ds)) := .cons rfl (r.append hd)
  have hl : (Value.ref (s.heap.objs.size + 1) :: us ++ ds).length = ps.length := by
    have e := r2.length
    rw [F.len _ _ _ _ hq] at e
    exact e.symm
  refine wpAny_call (make_map (f := f) I.kIn M.makes M.init (beq_iff_eq.mp M.fn) (codeAny_mono (F.run _ X.stack _ _ ⟨Value.ref (s.heap.objs.size + 1) :: us, []⟩ (Value.ref (s.heap.objs.size + 1) :: (us ++ ds)) _ _ E (hr.make C us [])
    (I2.env0.make C us []) (hb _ (Value.ref (s.heap.objs.size + 1) :: us) I2.kIn hl) r2 hq) fun r s' hq' => ?_))
  cases r with
  | error e => exact hx pins σ _ _ e s' I2 hq'
  | ok fl =>
    cases fl with
    | ret u =>
      obtain ⟨v, H', I3, rv, ev, q3⟩ := I2.after hq'
      subst ev
      exact ⟨rv, ⟨V.ref (s.heap.objs.size + 1), H', I3, rfl, q3⟩⟩
    | next => exact False.elim hq'
    | brk => exact False.elim hq'
    | cont => exact False.elim hq'
theorem pe_make0 (M : Mk X.K C f) (F : FnOk X.prog X.w X.K X.mg X.base CX k f fd ps sp) (hr : Room (k + 1) X.A) (hg : Gl X x) (hm : X.mg x = some (.ref C)) (hb : Binds X.K fd ps ds) (hd : Vals dvs ds) (hx : Passes CX X E)
    (hdb : (x == ("__debug__" : Str)) = false := by decide) : PE X (.Call (.Name x p) [] [] pos) (tMake C sp dvs E tNil) := by
  intro pins s σ H Q I h
  refine wpAny_Call_Name_kw (ld_glob I hg hm ?_ hdb)
  exact PySem.W.callWith_K0 I.kIn M.kp (run_make (us := []) M F hr hb hd hx I .nil h)
end
section
variable {X : Cx} {CX : CXT} {k : Nat} {f C : Addr} {fd : FuncData} {ps ks : List Str} {sp : Sp} {E : XK} {x m : Str} {p pos apos kpos : Pos} {e o : Expr} {es : List Expr} {kws : List Keyword} {te ta : TE} {t tk : TA} {nm : Option Str}
structure KBinds (K : PySem.W.Frag) (fd : FuncData) (ps ks : List Str) (g : List Value → List Value → List Value) (gV : List V → List V → List V) : Prop where
  to : ∀ (s : Shared) (us ws : List Value), K.In s.heap → (g us ws).length = ps.length → BindsTo s fd ⟨us, ks.zip ws⟩ (ps.zip (g us ws))
  rel : ∀ {vs : List V} {us : List Value} {zs : List V} {ws : List Value}, Vals vs us → Vals zs ws → Vals (gV vs zs) (g us ws)
variable {g : List Value → List Value → List Value} {gV : List V → List V → List V}
end
structure FnScope (N P : List Str) (sc : Scope) : Prop where
  kind : sc.kind = .function
  co : sc.isCoroutine = false
  gen : sc.isGenerator = false
  nd : N.Nodup
  pre : N.take P.length = P
  par : ∀ x ∈ P, sc.names.lookup x = some .local ∨ sc.names.lookup x = some .cell
  nofree : ∀ y ∈ sc.names, y.2 ≠ .free
theorem bindL_out {kindOf : Str → Option NameKind} {x : Str} : ∀ {binds : List (Str × Value)} {m : Str → Option Value}, (∀ v, (x, v) ∉ binds) → bindL kindOf binds m x = m x
  | [], _, _ => rfl
  | (n, v) :: r, m, h => by
    unfold bindL
    rw [bindL_out fun w hw => h w (List.mem_cons_of_mem _ hw)]
    split
    · have : x ≠ n := by rintro rfl; exact h v List.mem_cons_self
      simp [this]
    · rfl
theorem bindC_out {kindOf : Str → Option NameKind} {x : Str} : ∀ {binds : List (Str × Value)} {m : Str → Option Value}, (∀ v, (x, v) ∉ binds) → bindC kindOf binds m x = m x
  | [], _, _ => rfl
  | (n, v) :: r, m, h => by
    unfold bindC
    rw [bindC_out fun w hw => h w (List.mem_cons_of_mem _ hw)]
    split
    · rfl
    · have : x ≠ n := by rintro rfl; exact h v List.mem_cons_self
      simp [this]
theorem bindL_get {kindOf : Str → Option NameKind} {x : Str} {v : Value} : ∀ {P : List Str} {vs : List Value} {i : Nat} {m : Str → Option Value}, P.Nodup → P[i]? = some x → vs[i]? = some v → kindOf x = some .local →
    bindL kindOf (P.zip vs) m x = some v
  | [], _, _, _, _, h, _, _ => by simp at h
  | _ :: _, [], _, _, _, _, h, _ => by simp at h
  | p :: P, w :: vs, 0, m, nd, h1, h2, hk => by
    simp at h1 h2; subst h1; subst h2
    show bindL kindOf ((p, w) :: P.zip vs) m p = _
    unfold bindL
    rw [bindL_out fun v hv => (List.nodup_cons.mp nd).1 (List.of_mem_zip hv).1, if_pos hk]
    simp
  | p :: P, w :: vs, i + 1, m, nd, h1, h2, hk => by
    show bindL kindOf ((p, w) :: P.zip vs) m x = _
    unfold bindL
    exact bindL_get (i := i) (List.nodup_cons.mp nd).2 (by simpa using h1) (by simpa using h2) hk
theorem bindC_get {kindOf : Str → Option NameKind} {x : Str} {v : Value} : ∀ {P : List Str} {vs : List Value} {i : Nat} {m : Str → Option Value}, P.Nodup → P[i]? = some x → vs[i]? = some v → kindOf x ≠ some .local →
    bindC kindOf (P.zip vs) m x = some v
  | [], _, _, _, _, h, _, _ => by simp at h
  | _ :: _, [], _, _, _, _, h, _ => by simp at h
  | p :: P, w :: vs, 0, m, nd, h1, h2, hk => by
    simp at h1 h2; subst h1; subst h2
    show bindC kindOf ((p, w) :: P.zip vs) m p = _
    unfold bindC
    rw [bindC_out fun v hv => (List.nodup_cons.mp nd).1 (List.of_mem_zip hv).1, if_neg hk]
    simp
  | p :: P, w :: vs, i + 1, m, nd, h1, h2, hk => by
    show bindC kindOf ((p, w) :: P.zip vs) m x = _
    unfold bindC
    exact bindC_get (i := i) (List.nodup_cons.mp nd).2 (by simpa using h1) (by simpa using h2) hk
def start (N : List Str) (vs : List V) : St := vs.map some ++ List.replicate (N.length - vs.length) none
def cxOf (CX : CXT) (P : Program) (w : World) (K : PySem.W.Frag) (mg : Str → Option Value) (base : Heap) (N : List Str) (qual : Str) (scope : Scope) (f : Addr) (cd : Value) (A : Around) (outer : List Env) (s : Shared) (H : Hp) (E : XK) : Cx where
  prog := P
  w := w
  K := K
  mg := mg
  base := base
  A := A.deeper (envOfC qual scope s.heap.objs.size f cd)
  N := N
  s_0 := s
  H_0 := H
  env := envOfC qual scope s.heap.objs.size f cd
  outer := outer
  stack := envOfC qual scope s.heap.objs.size f cd :: outer
  ex := []
  calm := true
  fn := fun _ => true
  pn := []
  xe := fun e s' => wpAny (model P w) (A.deeper (envOfC qual scope s.heap.objs.size f cd)) (leaving (envOfC qual scope s.heap.objs.size f cd) e) (fun _ s'' => CX outer H s E e s'') (fun e' s'' => CX outer H s E e' s'') s'
theorem cell_has {sc : Scope} {n : Nat} {x : Str} (h : sc.names.lookup x = some .cell) : ∃ c, (cellsFrom n sc.names []).lookup x = some c := by
  have q := PySem.W.cellsFrom_some sc.names n [] (.inl h)
  exact Option.isSome_iff_exists.mp q
theorem inv_start {CX : CXT} {P : Program} {w : World} {K : PySem.W.Frag} {mg : Str → Option Value} {base : Heap} {N ps : List Str} {qual : Str} {scope : Scope} {f : Addr} {cd : Value} {A : Around} {outer : List Env} {s s1 : Shared} {H : Hp} {E : XK} {us : List Value} {vs : List V}
    (S : FnScope N ps scope) (hd : A.handled = none) (e0 : Env0 P w K mg base A outer s H) (hl : vs.length = ps.length) (r : Vals vs us)
    (x : InCallC s s.heap.objs.size (bindL (envOfC qual scope s.heap.objs.size f cd).kindOf (ps.zip us) fun _ => none) (cellsFrom (s.heap.objs.size + 1) scope.names []) (bindC (envOfC qual scope s.heap.objs.size f cd).kindOf (ps.zip us) fun _ => none) s1) :
    Inv (cxOf CX P w K mg base N qual scope f cd A outer s H E) [] (start N vs) H s1 := by
  have hpl : ps.length ≤ N.length := by have := congrArg List.length S.pre; rw [List.length_take] at this; omega
  obtain ⟨h1, tk, rfl, hk⟩ := x.done
  have noA : ∀ b : Addr, b ∉ (cxOf CX P w K mg base N qual scope f cd A outer s H E).ex := fun b z => absurd (show b ∈ ([] : List Addr) from z) (by simp)
  refine ⟨⟨e0.mod, S.kind, rfl, rfl, Nat.le_refl _, fun y z c h1 h2 => ?_, fun y hy => ?_, fun y c _ h => ?_, fun _ => hd, Around.frames_deeper e0.frames, .inr ⟨rfl, rfl⟩, fun b z => absurd z (noA b), e0.bs, e0.bsz, fun b _ _ => noA b, fun b z => absurd z (noA b), e0.funs, e0.frf⟩,
    rfl, e0.bare, Un.kept hk, ⟨_, x.toInCall.ns, fun i y v h1 h2 h3 => ?_⟩, fun y c h => ⟨_, x.cell y c h⟩, e0.hok.fresh (Nat.le_refl _), fun y c h => ?_, fun p hp => absurd (show p ∈ ([] : List (Addr × Obj)) from hp) (by simp), e0.hok.kept hk, ?_⟩
  · exact name_of_addr x.apart (PySem.mem_of_lookup h1) (PySem.mem_of_lookup h2)
  · have hy : scope.names.lookup y = some .cell ∨ scope.names.lookup y = some .free := hy
    rcases hy with hy | hy
    · exact cell_has hy
    · exact absurd rfl (S.nofree _ (PySem.mem_of_lookup hy))
  · exact Nat.le_of_lt (x.above y c (PySem.mem_of_lookup h))
  · have hi : i < vs.length := by
      unfold start at h2
      by_cases hi : i < vs.length
      · exact hi
      · rw [List.getElem?_append_right (by simpa using hi)] at h2
        rw [List.getElem?_replicate] at h2
        split at h2 <;> cases h2
    have ha : vs[i]? = some v := by
      unfold start at h2
      rw [List.getElem?_append_left (by simpa using hi), List.getElem?_map] at h2
      cases e : vs[i]? with
      | none => rw [e] at h2; cases h2
      | some a => rw [e] at h2; cases h2; rfl
    obtain ⟨u, hu, rv⟩ := r.get ha
    have hp : ps[i]? = some y := by
      rw [← S.pre, List.getElem?_take_of_lt (by omega)]; exact h1
    have ndP : ps.Nodup := by rw [← S.pre]; exact S.nd.sublist (List.take_sublist _ _)
    refine ⟨u, rv, ?_⟩
    rcases S.par y (List.mem_of_getElem? hp) with k | k
    · exact .inl ⟨k, bindL_get ndP hp hu k⟩
    · obtain ⟨c, e⟩ := cell_has (n := s.heap.objs.size + 1) k
      refine .inr ⟨.inl k, c, e, ?_⟩
      have q := x.cell y c e
      rw [bindC_get ndP hp hu (by show scope.names.lookup y ≠ _; rw [k]; decide)] at q
      exact q
  · exact e0.hok.fresh (Nat.le_of_lt (x.above y c (PySem.mem_of_lookup h)))
  · unfold start
    show _ = N.length
    rw [List.length_append, List.length_map, List.length_replicate]
    omega
theorem fn_of {CX : CXT} {P : Program} {w : World} {K : PySem.W.Frag} {mg : Str → Option Value} {base : Heap} {k : Nat} {f : Addr} {name qual : Str} {params : Arguments} {body : List Stmt} {scope : Scope} {dV kV doc pm cdv ct oc : Value} {an od : Option Addr}
    {osl : Array (Option Value)} {N ps : List Str} {sp : Sp} (lk : K.lookup f = some ⟨oc, od, .func (PySem.W.fnOf name qual params body scope dV kV doc pm an cdv ct), osl⟩) (hcd : PySem.W.codeIn K cdv qual = true) (S : FnScope N ps scope)
    (len : ∀ vs H Q E, sp vs H Q E → vs.length = ps.length)
    (hbody : ∀ (A : Around) (outer : List Env) (s : Shared) (H : Hp) (vs : List V) (Q : VK) (E : XK), Room k (A.deeper (envOfC qual scope s.heap.objs.size f cdv)) → sp vs H Q E →
      ∃ t, PSs (cxOf CX P w K mg base N qual scope f cdv A outer s H E) body t ∧ t { nx := fun _ H' => Q .non H', rt := Q } (start N vs) H) :
    FnOk P w K mg base CX (k + 1) f (PySem.W.fnOf name qual params body scope dV kV doc pm an cdv ct) ps sp := by
  refine ⟨len, fun A outer s H args us vs Q E hr e0 hb r hsp => ?_⟩
  have hl := len _ _ _ _ hsp
  have KX : K.In s.heap := e0.mod.kin.keeps fun b o e => (e0.bs b o e).1
  have lim : s.heap.NoLimit := e0.mod.nolimit.keeps fun b o e => (e0.bs b o e).1
  have hkind : ∀ y ∈ ps.zip us, scope.names.lookup y.1 = some .local ∨ (scope.names.lookup y.1 = some .cell ∧ ((cellsFrom (s.heap.objs.size + 1) scope.names []).lookup y.1).isSome = true) := fun ⟨n, v⟩ hy => by
    rcases S.par n (List.of_mem_zip hy).1 with q | q
    · exact .inl q
    · exact .inr ⟨q, PySem.W.cellsFrom_some _ _ _ (.inl q)⟩
  refine codeAny_call_function hr.depth (KX _ _ lk) rfl S.co S.gen rfl (PySem.W.codeRec_of KX hcd) (hb _ _ _ _ ?_)
  refine wpAny_newFunctionEnv_cells S.kind hkind fun env he s1 x => ?_
  subst he
  refine ⟨lim.keeps x.toInCall.keep, codeAny_func ?_⟩
  obtain ⟨t, ht, hq⟩ := hbody A outer s H vs Q E (hr.deeper _) hsp
  have I : Inv (cxOf CX P w K mg base N qual scope f cdv A outer s H E) [] (start N vs) H s1 := inv_start S hr.hd e0 hl r x
  refine wpAny_mono (ht [] s1 (start N vs) H _ I hq) (fun fl s' hs => ?_) fun e s' hs => hs
  have fin : ∀ {σ' : St} {H' : Hp} {v : V} {u : Value}, Inv (cxOf CX P w K mg base N qual scope f cdv A outer s H E) [] σ' H' s' → RelV v u → Q v H' → CE outer P w H s Q u s' :=
    fun {σ' H' v u} J rv q => ⟨v, H', J.os, J.bare, J.base, J.hok, rv, q⟩
  cases fl with
  | ret u =>
    obtain ⟨v, σ', H', J, rv, q⟩ := hs
    exact fin J rv q
  | next =>
    obtain ⟨σ', H', J, q⟩ := hs
    exact fin (v := V.non) (u := Value.none) J rfl q
  | brk =>
    obtain ⟨_, _, _, q⟩ := hs
    exact False.elim q
  | cont =>
    obtain ⟨_, _, _, q⟩ := hs
    exact False.elim q
end L2
namespace L2
open PySem PySem.Spec PyProof.Rows
section
variable {X : Cx} {x : Str} {p pos : Pos} {e : Expr} {es : List Expr} {t : TA} {id T : String} {r : List V → Hp → VK → Prop}
def tCB (r : List V → Hp → VK → Prop) (t : TA) : TE := fun σ H Q => t σ H fun vs H1 => r vs H1 Q
theorem pe_callB (hc : CallR X (.builtin id) r) (hg : Gl X x) (hm : X.mg x = none) (hv : bootBuiltins x = some (.builtin id)) (ha : PA X (e :: es) t) (hn : x ≠ "__name__" := by decide) (hdb : (x == ("__debug__" : Str)) = false := by decide)
    (he : starEach (e :: es) X.env = (false, eval e X.env) :: starEach es X.env := by rfl) (hpl : (backTo pos (starEach es X.env)).any (·.1) = false := by rfl) : PE X (.Call (.Name x p) (e :: es) [] pos) (tCB r t) := by
  intro pins s σ H Q I h
  refine wpAny_Call_Name_kw (ld_blt I hg hm hv ?_ hn hdb)
  exact PyProof.Rows.callWith_builtin1 (thn (ha pos pins s σ H _ I h) fun us s1 ⟨vs, H1, I1, r1, q1⟩ => hc pins s1 σ H1 vs us Q I1 r1 q1) he hpl
theorem pe_callTy (hc : CallR X (.type T) r) (hg : Gl X x) (hm : X.mg x = none) (hv : bootBuiltins x = some (.type T)) (ha : PA X (e :: es) t) (hn : x ≠ "__name__" := by decide) (hdb : (x == ("__debug__" : Str)) = false := by decide)
    (he : starEach (e :: es) X.env = (false, eval e X.env) :: starEach es X.env := by rfl) (hpl : (backTo pos (starEach es X.env)).any (·.1) = false := by rfl) : PE X (.Call (.Name x p) (e :: es) [] pos) (tCB r t) := by
  intro pins s σ H Q I h
  refine wpAny_Call_Name_kw (ld_blt I hg hm hv ?_ hn hdb)
  exact PyProof.Rows.callWith_type1 (thn (ha pos pins s σ H _ I h) fun us s1 ⟨vs, H1, I1, r1, q1⟩ => hc pins s1 σ H1 vs us Q I1 r1 q1) he hpl
end
end L2
namespace HT
open PySem PyProof.Rows
section
open PySem.SeqAt
open PySem.AutoSeq1 (wpAny_loadPart')
open PySem.MeetsSeq PySem.MeetsSeq2 PySem.MeetsSeq3
end
section
variable {prog : Program} {w : World} {A : Around} {E : Value → Shared → Prop} {s : Shared}
def sIx (n d : Nat) : Option Int → Nat
  | none => d
  | some v => if v < 0 then (v + (n : Int)).toNat else min v.toNat n
theorem sIx_nat (n d k : Nat) : sIx n d (some (k : Int)) = min k n := by
  show (if (k : Int) < 0 then ((k : Int) + (n : Int)).toNat else min (k : Int).toNat n) = min k n
  rw [if_neg (by omega), Int.toNat_natCast]
end
end HT
namespace L2
open PySem PySem.Spec PyProof.Rows
abbrev TO := St → Hp → (Option Int → Hp → Prop) → Prop
def PO (X : Cx) (e : Option Expr) (t : TO) : Prop :=
  ∀ (pins : List (Addr × Obj)) (s : Shared) (σ : St) (H : Hp) (Q : Option Int → Hp → Prop), Inv X pins σ H s → t σ H Q →
    wpAny (model X.prog X.w) X.A (evalPart e X.env) (fun u s' => ∃ o H', Inv X pins σ H' s' ∧ IsPart u o ∧ Q o H') X.xe s
def tPart (t : TE) : TO := fun σ H Q => t σ H fun x H1 => ∃ i, x = .int i ∧ Q (some i) H1
section
variable {X : Cx} {e : Expr} {te : TE} {lo hi : Option Expr} {tl th : TO} {pos p2 : Pos}
theorem po_some (h : PE X e te) : PO X (some e) (tPart te) := by
  intro pins s σ H Q I hw
  rw [evalPart_some]
  refine thn (h pins s σ H _ I hw) fun u s1 ⟨x, H1, I1, r1, q1⟩ => ?_
  obtain ⟨i, rfl, q⟩ := q1
  obtain ⟨t, rfl⟩ := r1
  exact ⟨some i, H1, I1, .int i t, q⟩
def SlR (X : Cx) (r : V → Option Int → Option Int → Hp → VK → Prop) : Prop :=
  ∀ (pins : List (Addr × Obj)) (s : Shared) (σ : St) (H : Hp) (x : V) (v vl vu : Value) (lo hi : Option Int) (sl : Addr) (Q : VK), Inv X pins σ H s → RelV x v → s.heap.IsSliceOf sl vl vu .none → IsPart vl lo → IsPart vu hi → r x lo hi H Q →
    ∃ T id, typeLookup (.type T) "__getitem__" = pure (some (.builtin id)) ∧ s.TypeIs v T ∧ wpAny (model X.prog X.w) X.A (getItem v (.ref sl)) (EP X pins σ Q) X.xe s
theorem SlR.or {r r' : V → Option Int → Option Int → Hp → VK → Prop} (h : SlR X r) (h' : SlR X r') : SlR X (fun x lo hi H Q => r x lo hi H Q ∨ r' x lo hi H Q) := by
  intro pins s σ H x v vl vu lo hi sl Q I rx hs pl pu q
  rcases q with q | q
  · exact h pins s σ H x v vl vu lo hi sl Q I rx hs pl pu q
  · exact h' pins s σ H x v vl vu lo hi sl Q I rx hs pl pu q
def tSl (r : V → Option Int → Option Int → Hp → VK → Prop) (te : TE) (tl th : TO) : TE := fun σ H Q => te σ H fun x H1 => tl σ H1 fun l H2 => th σ H2 fun u H3 => r x l u H3 Q
theorem pe_slice {r : V → Option Int → Option Int → Hp → VK → Prop} (hr : SlR X r) (he : PE X e te) (hl : PO X lo tl) (hu : PO X hi th) : PE X (.Subscript e (.Slice lo hi none p2) pos) (tSl r te tl th) := by
  intro pins s σ H Q I h
  refine Subscript_ (thn (he pins s σ H _ I h) fun v s1 ⟨x, H1, I1, r1, q1⟩ => ?_)
  refine wpAny_Slice (thn (hl pins s1 σ H1 _ I1 q1) fun vl s2 ⟨l, H2, I2, pl, q2⟩ => thn (hu pins s2 σ H2 _ I2 q2) fun vu s3 ⟨u, H3, I3, pu, q3⟩ => ?_)
  rw [evalPart_none]
  refine wpAny_pure ?_
  have I4 : Inv X pins σ H3 { s3 with heap := s3.heap.push { cls := .type "slice", data := .fields #[vl, vu, .none] } } := I3.kept (t' := s3.toks) fun b ob q => Heap.get?_push_of_some _ q
  obtain ⟨T, id, hT, ht, hg⟩ := hr pins { s3 with heap := s3.heap.push { cls := .type "slice", data := .fields #[vl, vu, .none] } } σ H3 x v vl vu l u s3.heap.objs.size Q I4 r1 (Heap.IsSliceOf.new ..) pl pu q3
  show wpAny (model X.prog X.w) X.A (subscriptTail e (.Slice lo hi none p2) v (.ref s3.heap.objs.size)) (EP X pins σ Q) X.xe { s3 with heap := s3.heap.push { cls := .type "slice", data := .fields #[vl, vu, .none] } }
  exact tail_any (ops := [.ref s3.heap.objs.size, v]) ht hT hg (by with_unfolding_all rfl)
def cutV (xs : List V) (lo hi : Option Int) : List V := (xs.drop (HT.sIx xs.length 0 lo)).take (HT.sIx xs.length xs.length hi - HT.sIx xs.length 0 lo)
theorem cutV_length (xs : List V) (lo hi : Option Int) : (cutV xs lo hi).length ≤ xs.length := by
  unfold cutV
  rw [List.length_take, List.length_drop]
  omega
end
end L2
namespace L2
open PySem PySem.Spec PyProof.Rows
def ixN (n : Nat) (i : Int) : Option Nat := if 0 ≤ i then (if i < n then some i.toNat else none) else if -(n : Int) ≤ i then some (i + n).toNat else none
def atI {α : Type} (xs : List α) (i : Int) : Option α := (ixN xs.length i).bind fun j => xs[j]?
theorem ixN_seq {n : Nat} {i : Int} {j : Nat} (h : ixN n i = some j) : seqIndex? i n = some j ∧ j < n ∧ -(n : Int) ≤ i ∧ i < n := by
  unfold ixN at h
  by_cases h0 : 0 ≤ i
  · rw [if_pos h0] at h
    by_cases h1 : i < n
    · rw [if_pos h1] at h
      have e : i.toNat = j := Option.some.inj h
      exact ⟨by rw [seqIndex_of h0 h1, e], by omega, by omega, h1⟩
    · rw [if_neg h1] at h; cases h
  · rw [if_neg h0] at h
    by_cases h1 : -(n : Int) ≤ i
    · rw [if_pos h1] at h
      have e : (i + n).toNat = j := Option.some.inj h
      exact ⟨by rw [seqIndex_neg (by omega) h1, e], by omega, h1, by omega⟩
    · rw [if_neg h1] at h; cases h
theorem atI_get {α : Type} {xs : List α} {i : Int} {v : α} (h : atI xs i = some v) : ∃ j, seqIndex? i xs.length = some j ∧ xs[j]? = some v ∧ j < xs.length ∧ -(xs.length : Int) ≤ i ∧ i < xs.length := by
  unfold atI at h
  cases e : ixN xs.length i with
  | none => rw [e] at h; cases h
  | some j =>
    rw [e] at h
    obtain ⟨h1, h2, h3, h4⟩ := ixN_seq e
    exact ⟨j, h1, h, h2, h3, h4⟩
theorem atI_nat {α : Type} {xs : List α} {j : Nat} {v : α} (h : xs[j]? = some v) : atI xs (j : Int) = some v := by
  have hj : j < xs.length := (List.getElem?_eq_some_iff.mp h).1
  have e : ixN xs.length (j : Int) = some j := by
    unfold ixN
    rw [if_pos (by omega), if_pos (by omega)]; simp
  unfold atI; rw [e]; exact h
def PlainIx (b : Expr) : Prop := ∀ o i, subscripted b false o i = operate [o, i] (getItem o i)
def IxR (X : Cx) (r : R2) : Prop :=
  ∀ (value slice : Expr) (pins : List (Addr × Obj)) (s : Shared) (σ : St) (H : Hp) (x y : V) (v u : Value) (Q : VK), Inv X pins σ H s → RelV x v → RelV y u → r x y H Q →
    subscripted slice false v u = operate [v, u] (getItem v u) → wpAny (model X.prog X.w) X.A (subscriptTail value slice v u) (EP X pins σ Q) X.xe s
def MtR (X : Cx) (id : String) (r : V → List V → Hp → VK → Prop) : Prop :=
  ∀ (pins : List (Addr × Obj)) (s : Shared) (σ : St) (H : Hp) (x : V) (xs : List V) (v : Value) (us : List Value) (Q : VK), Inv X pins σ H s → RelV x v → Vals xs us → r x xs H Q →
    wpAny (model X.prog X.w) X.A (call (.builtin id) (v :: us)) (EP X pins σ Q) X.xe s
section
variable {X : Cx} {a b : Expr} {ta tb : TE} {pos : Pos}
theorem IxR.or {r r' : R2} (h : IxR X r) (h' : IxR X r') : IxR X (fun x y H Q => r x y H Q ∨ r' x y H Q) := by
  intro value slice pins s σ H x y v u Q I rx ry q hs
  rcases q with q | q
  · exact h value slice pins s σ H x y v u Q I rx ry q hs
  · exact h' value slice pins s σ H x y v u Q I rx ry q hs
theorem MtR.or {id : String} {r r' : V → List V → Hp → VK → Prop} (h : MtR X id r) (h' : MtR X id r') : MtR X id (fun x xs H Q => r x xs H Q ∨ r' x xs H Q) := by
  intro pins s σ H x xs v us Q I rx rs q
  rcases q with q | q
  · exact h pins s σ H x xs v us Q I rx rs q
  · exact h' pins s σ H x xs v us Q I rx rs q
theorem pe_ix {r : R2} (hr : IxR X r) (ha : PE X a ta) (hb : PE X b tb) (hs : PlainIx b) : PE X (.Subscript a b pos) (tOp r ta tb) := by
  intro pins s σ H Q I h
  exact Subscript_ (binT ha hb I h fun v u s2 x y H2 I2 rx ry q => hr a b pins s2 σ H2 x y v u Q I2 rx ry q (hs _ _))
def rIxL (K : PySem.W.Frag) : R2 := fun x y H Q => ∃ p xs i v, x = .ref p ∧ y = .int i ∧ SqL K H p xs ∧ atI xs i = some v ∧ Q v H
theorem ix_list : IxR X (rIxL X.K) := by
  intro value slice pins s σ H x y v u Q I rx ry h hs
  obtain ⟨p, xs, i, z, rfl, rfl, hq, he, q⟩ := h
  cases rx
  obtain ⟨t, rfl⟩ := ry
  obtain ⟨its, r, pl, hz⟩ := I.list hq
  obtain ⟨j, h1, h2, h3, h4, h5⟩ := atI_get he
  obtain ⟨w, ew, rw'⟩ := r.get h2
  have hl := r.length
  have hn := line63
  have fin : EP X pins σ Q w s := ⟨z, H, I, rw', q⟩
  by_cases h0 : 0 ≤ i
  · have hj : i.toNat = j := by
      rw [seqIndex_of h0 h5] at h1
      exact Option.some.inj h1
    exact item_listR pl.isList h0 (by omega) (by rw [hj]; simpa using ew) fin hs
  · have hj : (i + (its.toArray.size : Int)).toNat = j := by
      rw [seqIndex_neg (by omega) h4] at h1
      rw [List.size_toArray, ← hl]
      exact Option.some.inj h1
    exact subscriptTail_builtinR (x := w) pl.isList.typeIs slot_list_getitem.lookup
      (wpAny_getItem_list_neg (Q := fun r s' => r = w ∧ EP X pins σ Q r s') pl.isList (by omega) (by rw [List.size_toArray] <;> omega) (by omega) (by rw [hj]; simpa using ew) ⟨rfl, fin⟩) hs
theorem mapSeq_set (its : List Value) (n j : Nat) (u : Value) : Obj.mapSeq (·.setIfInBounds j u) { cls := .type "list", data := .seq its.toArray n } = { cls := .type "list", data := .seq (its.set j u).toArray n } := by
  simp [Obj.mapSeq]
theorem Inv.lst {pins : List (Addr × Obj)} {σ : St} {H : Hp} {s : Shared} {p : Addr} {xs : List V} (I : Inv X pins σ H s) (h : H p = some (.lst xs)) :
    ∃ (its : List Value) (n : Nat), Vals xs its ∧ s.heap.get? p = some { cls := .type "list", data := .seq its.toArray n } ∧ xs.length ≤ sizeLine := by
  obtain ⟨z, its, n, r, e⟩ := I.hok p _ h
  exact ⟨its, n, r, e, z⟩
theorem Inv.lstUpd {pins : List (Addr × Obj)} {σ : St} {H : Hp} {s : Shared} {p : Addr} {xs ys : List V} {its its' : List Value} {n n' : Nat} {f : Obj → Obj} (I : Inv X pins σ H s) (h : H p = some (.lst xs))
    (ho : s.heap.get? p = some { cls := .type "list", data := .seq its.toArray n }) (hf : f { cls := .type "list", data := .seq its.toArray n } = { cls := .type "list", data := .seq its'.toArray n' }) (r : Vals ys its') (hz : ys.length ≤ sizeLine) (t : Nat) :
    Inv X pins σ (upd H p (.lst ys)) { s with heap := s.heap.update p f, toks := t } := by
  have e : (s.heap.update p f).get? p = some { cls := .type "list", data := .seq its'.toArray n' } := by
    rw [Heap.get?_update_self f ho (by rw [hf] <;> rfl), hf]
  refine I.write (x := p) (e := p) (by rw [h]; trivial) (.inl rfl) (fun b u hb q => (Heap.get?_update_other _ _ (Ne.symm hb)).trans q) ⟨_, e⟩ ?_
  exact ⟨hz, its', n', r, e⟩
def rSetL : V → V → V → Hp → (Hp → Prop) → Prop := fun o i v H Q => ∃ p xs k j, o = .ref p ∧ i = .int k ∧ H p = some (.lst xs) ∧ ixN xs.length k = some j ∧ Q (upd H p (.lst (xs.set j v)))
theorem set_list : PSet X rSetL := by
  intro pins s σ H o i v ov iv u Q I ro ri rv h
  obtain ⟨p, xs, k, j, rfl, rfl, hp, hj, q⟩ := h
  cases ro
  obtain ⟨t, rfl⟩ := ri
  obtain ⟨its, n, r, ho, hz⟩ := I.lst hp
  obtain ⟨h1, h2, h3, h4⟩ := ixN_seq hj
  have hl := r.length
  have hn := line63
  have I' : Inv X pins σ (upd H p (.lst (xs.set j v))) { s with heap := s.heap.update p (Obj.mapSeq (·.setIfInBounds j u)) } :=
    I.lstUpd hp ho (mapSeq_set its n j u) (r.set rv j) (by rw [List.length_set]; exact hz) s.toks
  by_cases h0 : 0 ≤ k
  · have hk : k.toNat = j := by
      rw [seqIndex_of h0 h4] at h1
      exact Option.some.inj h1
    exact PySem.W.ki_setAt ho h0 (by omega) (by rw [List.size_toArray, ← hl]; exact h4) (by rw [hk]; exact ⟨_, I', q⟩)
  · have hk : (k + (its.toArray.size : Int)).toNat = j := by
      rw [seqIndex_neg (by omega) h3] at h1
      rw [List.size_toArray, ← hl]
      exact Option.some.inj h1
    exact PySem.W.ki_setBack ho (by omega) (by rw [List.size_toArray, ← hl]; exact h3) (by omega) (by rw [hk]; exact ⟨_, I', q⟩)
theorem slice_bounds (lo hi : Option Int) (n : Nat) : (sliceBounds lo hi none n).1 = ((HT.sIx n 0 lo : Nat) : Int) ∧ (sliceBounds lo hi none n).2.1 = ((HT.sIx n n hi : Nat) : Int) ∧ (sliceBounds lo hi none n).2.2 = 1 := by
  refine ⟨?_, ?_, rfl⟩
  · cases lo with
    | none => simp [sliceBounds, HT.sIx]
    | some i =>
      simp only [sliceBounds, HT.sIx, Option.getD_none, show (1 : Int) > 0 by decide, if_true]
      by_cases h : i < 0
      · simp only [h, if_true] <;> omega
      · simp only [h, if_false] <;> omega
  · cases hi with
    | none => simp [sliceBounds, HT.sIx]
    | some i =>
      simp only [sliceBounds, HT.sIx, Option.getD_none, show (1 : Int) > 0 by decide, if_true]
      by_cases h : i < 0
      · simp only [h, if_true] <;> omega
      · simp only [h, if_false] <;> omega
theorem slicePick_cut (its : List Value) (lo hi : Option Int) : slicePick its.toArray lo hi none = ((its.drop (HT.sIx its.length 0 lo)).take (HT.sIx its.length its.length hi - HT.sIx its.length 0 lo)).toArray := by
  obtain ⟨h1, h2, h3⟩ := slice_bounds lo hi its.toArray.size
  unfold slicePick
  rw [h1, h2, h3]
  simp only [sliceRange_one, pick_run, List.size_toArray] <;> rfl
def rSlL (K : PySem.W.Frag) : V → Option Int → Option Int → Hp → VK → Prop := fun x lo hi H Q => ∃ a xs, x = .ref a ∧ SqL K H a xs ∧ ∀ p, H p = none → Q (.ref p) (upd H p (.lst (cutV xs lo hi)))
theorem sl_list : SlR X (rSlL X.K) := by
  intro pins s σ H x v vl vu lo hi sl Q I rx hs pl pu h
  obtain ⟨a, xs, rfl, hx, q⟩ := h
  cases rx
  obtain ⟨its, r, ht, hz⟩ := I.list hx
  have hlen := r.length
  refine ⟨"list", _, slot_list_getitem.lookup, ht.isList.typeIs, ?_⟩
  refine wpAny_getItem_list_slice ht.isList hs pl pu .none (by simp) ?_ (by rw [List.size_toArray] <;> omega)
  rw [slicePick_cut, ← hlen]
  refine ⟨.ref s.heap.objs.size, _, I.laid (t' := s.toks) (o := .lst (cutV xs lo hi)) (fun b ob q => Heap.get?_push_of_some _ q) (Nat.le_refl _) ?_, rfl, q _ (I.hok.fresh (Nat.le_refl _))⟩
  exact ⟨Nat.le_trans (cutV_length xs lo hi) hz, _, 0, (r.drop (HT.sIx xs.length 0 lo)).take (HT.sIx xs.length xs.length hi - HT.sIx xs.length 0 lo), Heap.get?_push_size _ rfl⟩
def flatV : V → Bool
  | .non => true
  | .bl _ => true
  | .int _ => true
  | .str _ => true
  | _ => false
def eqV : V → V → Bool
  | .non, .non => true
  | .bl a, .bl b => a == b
  | .bl a, .int b => (if a then 1 else 0) == b
  | .int a, .bl b => a == (if b then 1 else 0)
  | .int a, .int b => a == b
  | .str a, .str b => a == b
  | _, _ => false
theorem eqAt_V {A : Around} {s : Shared} {y x : V} {u v : Value} (ry : RelV y u) (rx : RelV x v) (fy : flatV y = true) (fx : flatV x = true) : SeqAt.EqAt A s u v (eqV y x) := by
  cases y with
  | non =>
    cases ry
    cases x with
    | non => cases rx; exact SeqAt.EqAt.same _
    | bl b => cases rx; exact SeqAt.EqAt.none_bool b
    | int b => obtain ⟨t, rfl⟩ := rx; exact SeqAt.EqAt.none_int b t
    | str b => obtain ⟨t, rfl⟩ := rx; exact SeqAt.EqAt.none_str b t
    | _ => exact absurd (show false = true from fx) Bool.false_ne_true
  | bl a =>
    cases ry
    cases x with
    | non => cases rx; exact SeqAt.EqAt.bool_none a
    | bl b => cases rx; exact SeqAt.EqAt.bool_bool a b
    | int b => obtain ⟨t, rfl⟩ := rx; exact SeqAt.EqAt.bool_int a b t
    | str b => obtain ⟨t, rfl⟩ := rx; exact SeqAt.EqAt.bool_str a b t
    | _ => exact absurd (show false = true from fx) Bool.false_ne_true
  | int a =>
    obtain ⟨t', rfl⟩ := ry
    cases x with
    | non => cases rx; exact SeqAt.EqAt.int_none a t'
    | bl b => cases rx; exact SeqAt.EqAt.int_bool a t' b
    | int b => obtain ⟨t, rfl⟩ := rx; exact SeqAt.EqAt.int_int a t' b t
    | str b => obtain ⟨t, rfl⟩ := rx; exact SeqAt.EqAt.int_str a t' b t
    | _ => exact absurd (show false = true from fx) Bool.false_ne_true
  | str a =>
    obtain ⟨t', rfl⟩ := ry
    cases x with
    | non => cases rx; exact SeqAt.EqAt.str_none a t'
    | bl b => cases rx; exact SeqAt.EqAt.str_bool a t' b
    | int b => obtain ⟨t, rfl⟩ := rx; exact SeqAt.EqAt.str_int a t' b t
    | str b => obtain ⟨t, rfl⟩ := rx; exact SeqAt.EqAt.str_str a t' b t
    | _ => exact absurd (show false = true from fx) Bool.false_ne_true
  | _ => exact absurd (show false = true from fy) Bool.false_ne_true
def eqU (x : V) (u : Value) : Bool := match u with
  | .none => eqV .non x
  | .bool b => eqV (.bl b) x
  | .int i _ => eqV (.int i) x
  | .str z _ => eqV (.str z) x
  | _ => false
theorem eqU_of {x y : V} {u : Value} (r : RelV y u) (f : flatV y = true) : eqU x u = eqV y x := by
  cases y with
  | non => cases r; rfl
  | bl b => cases r; rfl
  | int i => obtain ⟨t, rfl⟩ := r; rfl
  | str z => obtain ⟨t, rfl⟩ := r; rfl
  | _ => exact absurd (show false = true from f) Bool.false_ne_true
theorem any_eqU {x : V} : ∀ {xs : List V} {us : List Value}, Vals xs us → xs.all flatV = true → us.any (eqU x) = xs.any fun y => eqV y x
  | _, _, .nil, _ => rfl
  | y :: xs, u :: us, .cons r t, f => by
    rw [List.all_cons, Bool.and_eq_true] at f
    rw [List.any_cons, List.any_cons, eqU_of r f.1, any_eqU t f.2]
theorem mem_eqAt {A : Around} {s : Shared} {x : V} {v : Value} (rx : RelV x v) (fx : flatV x = true) : ∀ {xs : List V} {us : List Value}, Vals xs us → xs.all flatV = true → ∀ u ∈ us, SeqAt.EqAt A s u v (eqU x u)
  | _, _, .nil, _ => fun u hu => by cases hu
  | y :: xs, u :: us, .cons r t, f => fun u' hu => by
    rw [List.all_cons, Bool.and_eq_true] at f
    rcases List.mem_cons.mp hu with rfl | hu
    · rw [eqU_of r f.1]; exact eqAt_V r rx f.1 fx
    · exact mem_eqAt rx fx t f.2 u' hu
def inV (x : V) (xs : List V) : Bool := xs.any fun y => eqV y x
def rIn (K : PySem.W.Frag) (neg : Bool) : R2 := fun x y H Q => ∃ p xs, y = .ref p ∧ (SqL K H p xs ∨ SqT K H p xs) ∧ flatV x = true ∧ xs.all flatV = true ∧ Q (.bl (if neg then !inV x xs else inV x xs)) H
theorem op_in_seq : OpR X (compareOp .In) (rIn X.K false) := by
  intro pins s σ H x y v u Q I rx ry h
  obtain ⟨p, xs, rfl, hq, fx, fs, q⟩ := h
  cases ry
  rcases hq with hq | hq
  · obtain ⟨its, r, pl, hz⟩ := I.list hq
    refine SeqAt.in_listAt (eqU x) pl.isList (fun w hw => mem_eqAt rx fx r fs w (by simpa using hw)) ⟨.bl _, H, I, rfl, ?_⟩
    rw [show its.toArray.any (eqU x) = its.any (eqU x) by simp, any_eqU r fs]
    exact q
  · obtain ⟨its, r, pl, hz⟩ := I.tuple hq
    refine SeqAt.in_tupleAt (eqU x) pl (fun w hw => mem_eqAt rx fx r fs w (by simpa using hw)) ⟨.bl _, H, I, rfl, ?_⟩
    rw [show its.toArray.any (eqU x) = its.any (eqU x) by simp, any_eqU r fs]
    exact q
theorem call_len_seq : CallR X (.builtin "len") (fun xs H Q => ∃ p ys, xs = [.ref p] ∧ (SqL X.K H p ys ∨ SqT X.K H p ys) ∧ Q (.int ys.length) H) := by
  intro pins s σ H xs us Q I r h
  obtain ⟨p, ys, rfl, hq, q⟩ := h
  obtain ⟨u, rfl, rx⟩ := vals1 r
  cases rx
  have hn := line63
  rcases hq with hq | hq
  · obtain ⟨its, r', pl, hz⟩ := I.list hq
    have hlen := r'.length
    exact Calls.call_len_list pl.isList (by simp only [List.size_toArray] <;> omega) ⟨.int ys.length, H, I.tok _, ⟨s.toks + 1, by rw [List.size_toArray, hlen]⟩, q⟩
  · obtain ⟨its, r', pl, hz⟩ := I.tuple hq
    have hlen := r'.length
    exact len_tuple pl (by simp only [List.size_toArray] <;> omega) ⟨.int ys.length, H, I.tok _, ⟨s.toks + 1, by rw [List.size_toArray, hlen]⟩, q⟩
theorem CallR.or {f : Value} {r r' : List V → Hp → VK → Prop} (h : CallR X f r) (h' : CallR X f r') : CallR X f (fun xs H Q => r xs H Q ∨ r' xs H Q) := by
  intro pins s σ H xs us Q I rs q
  rcases q with q | q
  · exact h pins s σ H xs us Q I rs q
  · exact h' pins s σ H xs us Q I rs q
theorem call_list_of : CallR X (.type "list") (fun xs H Q => ∃ p ys, xs = [.ref p] ∧ (SqL X.K H p ys ∨ SqT X.K H p ys) ∧ ∀ l, H l = none → Q (.ref l) (upd H l (.lst ys))) := by
  intro pins s σ H xs us Q I r h
  obtain ⟨p, ys, rfl, hq, q⟩ := h
  obtain ⟨u, rfl, rx⟩ := vals1 r
  cases rx
  have fin : ∀ (its : List Value), Vals ys its → ys.length ≤ sizeLine → ∀ (h' : Heap) (c' : Nat), (∀ b o', s.heap.get? b = some o' → h'.get? b = some o') →
      h'.get? s.heap.objs.size = some { cls := .type "list", dict := none, data := .seq its.toArray c', slots := #[] } → EP X pins σ Q (.ref s.heap.objs.size) { s with heap := h' } := fun its r' hz h' c' kp e =>
    ⟨.ref s.heap.objs.size, _, I.laid (t' := s.toks) kp (Nat.le_refl _) (show ObjOk X.prog X.w _ h' _ (.lst ys) from ⟨hz, its, c', r', e⟩), rfl, q _ (I.hok.fresh (Nat.le_refl _))⟩
  rcases hq with hq | hq
  · obtain ⟨its, r', pl, hz⟩ := I.list hq
    have hlen := r'.length
    obtain ⟨o, ho, hc, n, hd⟩ := pl.isList
    exact call_list_seq p (.inl rfl) ho hc hd (fun h' c' kp e => fin its r' hz h' c' kp e) (by simp only [List.size_toArray] <;> omega)
  · obtain ⟨its, r', pl, hz⟩ := I.tuple hq
    have hlen := r'.length
    obtain ⟨o, ho, hc, n, hd⟩ := pl
    exact call_list_seq p (.inr rfl) ho hc hd (fun h' c' kp e => fin its r' hz h' c' kp e) (by simp only [List.size_toArray] <;> omega)
def tyV (K : PySem.W.Frag) (T : String) (x : V) (H : Hp) : Prop := match x with
  | .str _ => T = "str"
  | .int _ => T = "int"
  | .ref p => (T = "list" ∧ ∃ xs, SqL K H p xs) ∨ (T = "tuple" ∧ ∃ o, K.lookup p = some o ∧ o.cls = .type "tuple" ∧ o.dict = none) ∨
      (T = "dict" ∧ ((∃ kvs, H p = some (.dK kvs)) ∨ ∃ kvs, H p = some (.dT kvs))) ∨ (T = "set" ∧ ∃ S n, H p = some (.set S n))
  | _ => False
theorem tyV_is {pins : List (Addr × Obj)} {σ : St} {H : Hp} {s : Shared} {T : String} {x : V} {v : Value} (I : Inv X pins σ H s) (r : RelV x v) (ty : tyV X.K T x H) :
    s.TypeIs v T ∧ ∀ a, v = .ref a → ∃ ob, s.heap.get? a = some ob ∧ ob.dict = none := by
  cases x with
  | str z =>
    obtain ⟨t, rfl⟩ := r
    cases (show T = "str" from ty)
    exact ⟨typeIs_str s z t, fun _ e => nomatch e⟩
  | int i =>
    obtain ⟨t, rfl⟩ := r
    cases (show T = "int" from ty)
    exact ⟨typeIs_int s i t, fun _ e => nomatch e⟩
  | ref p =>
    cases r
    rcases ty with ⟨rfl, xs, hq⟩ | ⟨rfl, o, hk, hc, hd⟩ | ⟨rfl, hk⟩ | ⟨rfl, S, n, hk⟩
    · obtain ⟨its, _, pl, _⟩ := I.list hq
      refine ⟨pl.isList.typeIs, fun a e => ?_⟩
      cases e
      obtain ⟨o, n, e, c, hd, _⟩ := pl
      exact ⟨o, e, hd⟩
    · refine ⟨⟨o, I.kIn p o hk, hc⟩, fun a e => ?_⟩
      cases e
      exact ⟨o, I.kIn _ o hk, hd⟩
    · have z : ∃ o, s.heap.get? p = some o ∧ o.ExactDict := by
        rcases hk with ⟨kvs, hk⟩ | ⟨kvs, hk⟩
        · obtain ⟨_, _, _, _, o, _, _, e, ex, _⟩ := I.hok p _ hk
          exact ⟨o, e, ex⟩
        · obtain ⟨_, _, _, _, o, _, _, e, ex, _⟩ := I.hok p _ hk
          exact ⟨o, e, ex⟩
      obtain ⟨o, e, ex⟩ := z
      refine ⟨⟨o, e, ex.1⟩, fun a e2 => ?_⟩
      cases e2
      exact ⟨o, e, ex.2.1⟩
    · obtain ⟨o, _, _, _, e, ex, _⟩ := I.hok p _ hk
      refine ⟨⟨o, e, ex.1⟩, fun a e2 => ?_⟩
      cases e2
      exact ⟨o, e, ex.2.1⟩
  | _ => exact False.elim ty
def tBM (K : PySem.W.Frag) (T : String) (r : V → List V → Hp → VK → Prop) (to : TE) (t : TA) : TE := fun σ H Q => to σ H fun x H1 => tyV K T x H1 ∧ t σ H1 fun xs H2 => r x xs H2 Q
variable {o e : Expr} {es : List Expr} {to : TE} {t : TA} {name : Str} {apos cpos : Pos} {T id : String} {r : V → List V → Hp → VK → Prop}
theorem pe_bm (pa : PlainAttrs T) (slot : Slot T name id) (hty : typeOf (.builtin id) = pure (.type "method_descriptor")) (hm : MtR X id r) (ho : PE X o to) (ha : PA X (e :: es) t)
    (hbase : attributeBase o name X.env (eval o X.env) = eval o X.env := by rfl)
    (hfew : ((backTo cpos (starEach (e :: es) X.env)).all (fun x => !x.1) && (backToKw cpos (keywordEach [] X.env)).all (fun x => x.1.isSome)
      && decide ((e :: es).length + ([] : List Keyword).length + (if ([] : List Keyword).isEmpty then 0 else 1) < 30)) = true := by rfl)
    (hline : (apos.endLine == cpos.line) = true := by rfl) (hs : starEach (e :: es) X.env = (false, eval e X.env) :: starEach es X.env := by rfl) (hplain : (backTo cpos (starEach es X.env)).any (·.1) = false := by rfl) :
    PE X (.Call (.Attribute o name apos) (e :: es) [] cpos) (tBM X.K T r to t) := by
  intro pins s σ H Q I h
  refine wpAny_Call_method_late hbase hfew hline rfl (thn (ho pins s σ H _ I h) fun v s1 ⟨x, H1, I1, r1, ty, q1⟩ => ?_)
  obtain ⟨h1, h2⟩ := tyV_is I1 r1 ty
  refine ⟨T, id, pa, slot, hty, h1, h2, ?_⟩
  have hA := ha cpos pins s1 σ H1 _ I1 q1
  rw [hs] at hA ⊢
  refine Calls.callWith_builtin (by show (false || (backTo cpos (starEach es X.env)).any (·.1)) = false; rw [hplain] <;> rfl) (Calls.evalArgs_plain ?_)
  exact thn hA fun us s2 ⟨vs, H2, I2, r2, q2⟩ => hm pins s2 σ H2 x vs v us Q I2 r1 r2 q2
end
end L2
namespace L2
open PySem PySem.Spec PyProof.Rows
def MtM (X : Cx) (id : String) (r : V → List V → Hp → VK → Prop) : Prop :=
  ∀ (pins : List (Addr × Obj)) (s : Shared) (σ : St) (H : Hp) (x : V) (xs : List V) (v : Value) (us : List Value) (Q : VK), Inv X pins σ H s → RelV x v → Vals xs us → r x xs H Q →
    wpAny (model X.prog X.w) X.A (call (.builtin id) (v :: us)) (EP X pins σ Q) X.xe s
theorem Vals.one : ∀ {x : V} {us : List Value}, Vals [x] us → ∃ u, us = [u] ∧ RelV x u
  | _, _, .cons r .nil => ⟨_, rfl, r⟩
theorem Vals.two : ∀ {x y : V} {us : List Value}, Vals [x, y] us → ∃ u v, us = [u, v] ∧ RelV x u ∧ RelV y v
  | _, _, _, .cons r (.cons q .nil) => ⟨_, _, rfl, r, q⟩
theorem Vals.zero : ∀ {us : List Value}, Vals [] us → us = []
  | _, .nil => rfl
section
variable {X : Cx} {pins : List (Addr × Obj)} {σ : St} {H : Hp} {s : Shared} {l b : Addr} {xs ys zs : List V}
theorem Inv.lset {its its' : List Value} {n : Nat} {f : Array Value → Array Value} {t' : Nat} (I : Inv X pins σ H s) (hH : H l = some (.lst xs))
    (e : s.heap.get? l = some { cls := .type "list", data := .seq its.toArray n }) (hf : f its.toArray = its'.toArray) (hv : Vals ys its') (hz : ys.length ≤ sizeLine) :
    Inv X pins σ (upd H l (.lst ys)) { s with heap := s.heap.update l (Obj.mapSeq f), toks := t' } := by
  have q := PySem.IsL.update e f
  rw [hf] at q
  refine I.write (x := l) (e := l) (by rw [hH]; exact trivial) (.inl rfl) (fun b' u hb hu => (Heap.get?_update_other s.heap (Obj.mapSeq f) (Ne.symm hb)).trans hu) ⟨_, q⟩ ?_
  exact ⟨hz, its', _, hv, q⟩
theorem Inv.lnew {its : List Value} {t' : Nat} (I : Inv X pins σ H s) (hv : Vals ys its) (hz : ys.length ≤ sizeLine) :
    Inv X pins σ (upd H s.heap.objs.size (.lst ys)) { s with heap := s.heap.push { cls := .type "list", data := .seq its.toArray }, toks := t' } :=
  I.laid (fun _ _ q => Heap.get?_push_of_some _ q) (Nat.le_refl _) ⟨hz, its, 0, hv, Heap.get?_push_size _ rfl⟩
theorem Inv.fresh (I : Inv X pins σ H s) : H s.heap.objs.size = none := I.hok.fresh (Nat.le_refl _)
theorem Inv.lstM (I : Inv X pins σ H s) (hH : H l = some (.lst xs)) : xs.length ≤ sizeLine ∧ ∃ (its : List Value) (n : Nat), Vals xs its ∧ xs.length = its.length ∧ s.heap.get? l = some { cls := .type "list", data := .seq its.toArray n } := by
  obtain ⟨z, its, n, r, e⟩ := I.hok l _ hH
  exact ⟨z, its, n, r, r.length, e⟩
theorem notLongL {n : Nat} (h : n ≤ sizeLine) : Builtin.List.listTooLong n = false := by
  unfold Builtin.List.listTooLong
  exact decide_eq_false (by omega)
end
section
variable {X : Cx}
def rAppend : V → List V → Hp → VK → Prop := fun x vs H Q => ∃ l xs y, x = .ref l ∧ vs = [y] ∧ H l = some (.lst xs) ∧ xs.length < sizeLine ∧ Q .non (upd H l (.lst (xs ++ [y])))
theorem mt_append : MtM X "list.append" rAppend := by
  intro pins s σ H x vs v us Q I rx rv h
  obtain ⟨l, xs, y, rfl, rfl, hH, hz, q⟩ := h
  cases rx
  obtain ⟨u, rfl, ru⟩ := rv.one
  obtain ⟨z, its, n, r, hl, e⟩ := I.lstM hH
  refine call_meets F.slot_list_append ⟨_, e, rfl⟩ F.entry_list_append (F.args_list_append_2 _ _) (PySem.list_append l its.toArray n u (by rw [List.size_toArray]; omega)) ⟨e, ?_⟩
  refine ⟨.non, _, I.lset (its' := its ++ [u]) hH e (by simp) (r.append (.cons ru .nil)) ?_, rfl, q⟩
  rw [List.length_append, List.length_singleton]
  omega
def rExtend : V → List V → Hp → VK → Prop := fun x vs H Q => ∃ l b xs zs, x = .ref l ∧ vs = [.ref b] ∧ H l = some (.lst xs) ∧ H b = some (.lst zs) ∧ xs.length + zs.length ≤ sizeLine ∧ Q .non (upd H l (.lst (xs ++ zs)))
theorem mt_extend : MtM X "list.extend" rExtend := by
  intro pins s σ H x vs v us Q I rx rv h
  obtain ⟨l, b, xs, zs, rfl, rfl, hH, hB, hz, q⟩ := h
  cases rx
  obtain ⟨u, rfl, ru⟩ := rv.one
  cases ru
  obtain ⟨z, its, n, r, hl, e⟩ := I.lstM hH
  obtain ⟨z2, its2, n2, r2, hl2, e2⟩ := I.lstM hB
  have hsz : its.toArray.size + its2.toArray.size ≤ sizeLine := by rw [List.size_toArray, List.size_toArray]; omega
  have hlong : ¬ (!its.toArray.isEmpty && Builtin.List.listTooLong (its.toArray.size + its2.toArray.size)) = true := by
    rw [notLongL hsz, Bool.and_false]
    exact Bool.false_ne_true
  refine call_meets F.slot_list_extend ⟨_, e, rfl⟩ F.entry_list_extend (F.args_list_extend_2 _ _)
    (AutoSeq1.list_extend_list_list_0 l its.toArray n b its2.toArray n2 hlong (by rw [List.size_toArray]; omega) (by omega)) ⟨e, e2, ?_⟩
  refine ⟨.non, _, I.lset (its' := its ++ its2) hH e (by simp) (r.append r2) ?_, rfl, q⟩
  rw [List.length_append]
  omega
def rCat : R2 := fun x y H Q => ∃ l b xs zs, x = .ref l ∧ y = .ref b ∧ H l = some (.lst xs) ∧ H b = some (.lst zs) ∧ xs.length + zs.length ≤ sizeLine ∧ ∀ p, H p = none → Q (.ref p) (upd H p (.lst (xs ++ zs)))
theorem op_cat : OpR X (binaryOp .Add) rCat := by
  intro pins s σ H x y v u Q I rx ry h
  obtain ⟨l, b, xs, zs, rfl, rfl, hH, hB, hz, q⟩ := h
  cases rx
  cases ry
  obtain ⟨z, its, n, r, hl, e⟩ := I.lstM hH
  obtain ⟨z2, its2, n2, r2, hl2, e2⟩ := I.lstM hB
  refine PySem.P.add_list e e2 ?_ (by rw [List.size_toArray, List.size_toArray]; omega)
  have ea : its.toArray ++ its2.toArray = (its ++ its2).toArray := by simp
  rw [ea]
  exact ⟨.ref _, _, I.lnew (t' := s.toks) (r.append r2) (by rw [List.length_append]; omega), rfl, q _ I.fresh⟩
end
section
variable {prog : Program} {w : World} {A : Around} {E : Value → Shared → Prop} {s : Shared}
set_option maxRecDepth 100000 in
end
section
variable {X : Cx}
end
end L2
namespace L2
open PySem PySem.Spec PyProof.Rows
theorem Vals.ints : ∀ {ns : List Int} {us : List Value}, Vals (ns.map V.int) us → IntsAre us ns
  | [], us, h => by
    rw [List.map_nil] at h
    cases h
    exact IntsAre.nil
  | n :: ns, us, h => by
    rw [List.map_cons] at h
    cases h with
    | cons r t =>
      obtain ⟨k, rfl⟩ := r
      exact IntsAre.cons n k (Vals.ints t)
theorem Vals.bls : ∀ {bs : List Bool} {us : List Value}, Vals (bs.map V.bl) us → us = bs.map Value.bool
  | [], us, h => by
    rw [List.map_nil] at h
    cases h
    rfl
  | b :: bs, us, h => by
    rw [List.map_cons] at h
    cases h with
    | cons r t =>
      cases r
      rw [Vals.bls t, List.map_cons]
theorem Vals.ref1 {a : Addr} {us : List Value} (r : Vals [V.ref a] us) : us = [Value.ref a] := by
  cases r with
  | cons r t =>
    cases t
    cases r
    rfl
section
variable {prog : Program} {w : World} {A : Around} {E : Value → Shared → Prop} {s : Shared} {l : Addr} {its : List Value} {ns : List Int} {Q : Value → Shared → Prop}
theorem sum_raw (hh : A.handled = none) (hl : s.heap.IsList l its.toArray) (hi : IntsAre its ns)
    (h : ∀ h' tk t', (∀ b o, s.heap.get? b = some o → h'.get? b = some o) → Q (.int ns.sum t') { s with heap := h', toks := tk }) : wpAny (model prog w) A (call (.builtin "sum") [.ref l]) Q E s := by
  obtain ⟨xs, e⟩ := hi.allInts.items
  have hn : numsOf (intItems xs).toList = ns := by rw [← e]; exact hi.numsOf
  rw [nums_intItems] at hn
  rw [e] at hl
  refine PySem.sum_intListG hh hl fun h' tk t' hk => ?_
  have := h h' tk t' hk
  rw [preSum_eq, List.take_of_length_le (by simp), hn]; exact this
theorem max_raw (hh : A.handled = none) (hl : s.heap.IsList l its.toArray) (hi : IntsAre its ns) (hne : 0 < ns.length)
    (h : ∀ h' tk M t', (∀ b o, s.heap.get? b = some o → h'.get? b = some o) → M ∈ ns → (∀ a, a ∈ ns → a ≤ M) → Q (.int M t') { s with heap := h', toks := tk }) : wpAny (model prog w) A (call (.builtin "max") [.ref l]) Q E s := by
  obtain ⟨xs, e⟩ := hi.allInts.items
  have hn : numsOf (intItems xs).toList = ns := by rw [← e]; exact hi.numsOf
  rw [nums_intItems] at hn
  subst hn
  rw [e] at hl
  have hsz : 0 < xs.size := by simpa using hne
  refine PySem.max_intList hh hl hsz fun v h' tk hv hk => ?_
  obtain ⟨t, rfl⟩ := intItems_at hv
  obtain ⟨h1, h2⟩ := argBest_gt (numAt xs) (xs.size - 1)
  refine h h' tk _ t hk ?_ fun a ha => ?_
  · rw [numAt_eq]; exact PySem.getD_mem (by rw [List.length_map, Array.length_toList]; omega)
  · obtain ⟨j, hj, rfl⟩ := mem_getD ha
    rw [List.length_map, Array.length_toList] at hj
    rw [← numAt_eq]; exact h2 j (by omega)
theorem min_raw (hh : A.handled = none) (hl : s.heap.IsList l its.toArray) (hi : IntsAre its ns) (hne : 0 < ns.length)
    (h : ∀ h' tk M t', (∀ b o, s.heap.get? b = some o → h'.get? b = some o) → M ∈ ns → (∀ a, a ∈ ns → M ≤ a) → Q (.int M t') { s with heap := h', toks := tk }) : wpAny (model prog w) A (call (.builtin "min") [.ref l]) Q E s := by
  obtain ⟨xs, e⟩ := hi.allInts.items
  have hn : numsOf (intItems xs).toList = ns := by rw [← e]; exact hi.numsOf
  rw [nums_intItems] at hn
  subst hn
  rw [e] at hl
  have hsz : 0 < xs.size := by simpa using hne
  refine PySem.min_intList hh hl hsz fun v h' tk hv hk => ?_
  obtain ⟨t, rfl⟩ := intItems_at hv
  obtain ⟨h1, h2⟩ := argBest_lt (numAt xs) (xs.size - 1)
  refine h h' tk _ t hk ?_ fun a ha => ?_
  · rw [numAt_eq]; exact PySem.getD_mem (by rw [List.length_map, Array.length_toList]; omega)
  · obtain ⟨j, hj, rfl⟩ := mem_getD ha
    rw [List.length_map, Array.length_toList] at hj
    rw [← numAt_eq]; exact h2 j (by omega)
end
section
variable {X : Cx}
def rSum (K : PySem.W.Frag) : List V → Hp → VK → Prop := fun vs H Q => ∃ (a : Addr) (ns : List Int), vs = [V.ref a] ∧ SqL K H a (ns.map V.int) ∧ Q (.int ns.sum) H
def rMax (K : PySem.W.Frag) : List V → Hp → VK → Prop := fun vs H Q => ∃ (a : Addr) (ns : List Int), vs = [V.ref a] ∧ SqL K H a (ns.map V.int) ∧ 0 < ns.length ∧ ∀ m, m ∈ ns → (∀ y, y ∈ ns → y ≤ m) → Q (.int m) H
def rMin (K : PySem.W.Frag) : List V → Hp → VK → Prop := fun vs H Q => ∃ (a : Addr) (ns : List Int), vs = [V.ref a] ∧ SqL K H a (ns.map V.int) ∧ 0 < ns.length ∧ ∀ m, m ∈ ns → (∀ y, y ∈ ns → m ≤ y) → Q (.int m) H
theorem cr_sum (hc : X.calm = true) : CallR X (.builtin "sum") (rSum X.K) := by
  intro pins s σ H vs us Q I r h
  obtain ⟨a, ns, rfl, hs, q⟩ := h
  obtain ⟨its, rv, hl, _⟩ := I.list hs
  rw [Vals.ref1 r]
  exact sum_raw (I.ok.hd hc) hl.isList rv.ints fun h' tk t' hk => ⟨.int _, H, I.kept hk, ⟨_, rfl⟩, q⟩
theorem cr_max (hc : X.calm = true) : CallR X (.builtin "max") (rMax X.K) := by
  intro pins s σ H vs us Q I r h
  obtain ⟨a, ns, rfl, hs, hne, q⟩ := h
  obtain ⟨its, rv, hl, _⟩ := I.list hs
  rw [Vals.ref1 r]
  exact max_raw (I.ok.hd hc) hl.isList rv.ints hne fun h' tk m t' hk h1 h2 => ⟨.int _, H, I.kept hk, ⟨_, rfl⟩, q m h1 h2⟩
theorem cr_min (hc : X.calm = true) : CallR X (.builtin "min") (rMin X.K) := by
  intro pins s σ H vs us Q I r h
  obtain ⟨a, ns, rfl, hs, hne, q⟩ := h
  obtain ⟨its, rv, hl, _⟩ := I.list hs
  rw [Vals.ref1 r]
  exact min_raw (I.ok.hd hc) hl.isList rv.ints hne fun h' tk m t' hk h1 h2 => ⟨.int _, H, I.kept hk, ⟨_, rfl⟩, q m h1 h2⟩
end
section
variable {X : Cx}
def rIndex (K : PySem.W.Frag) : V → List V → Hp → VK → Prop := fun x xs H Q => ∃ (a : Addr) (ys : List V) (y : V) (j : Nat) (z : V), x = V.ref a ∧ xs = [y] ∧ SqL K H a ys ∧ flatV y = true ∧ ys.all flatV = true ∧ ys[j]? = some z ∧ eqV z y = true ∧
  (∀ (m : Nat) (z' : V), m < j → ys[m]? = some z' → eqV z' y = false) ∧ Q (.int (j : Nat)) H
theorem flat_at {ys : List V} (f : ys.all flatV = true) {j : Nat} {z : V} (h : ys[j]? = some z) : flatV z = true := List.all_eq_true.mp f z (List.mem_of_getElem? h)
theorem mt_index : MtR X "list.index" (rIndex X.K) := by
  intro pins s σ H x xs v us Q I rx rxs h
  obtain ⟨a, ys, y, j, z, rfl, rfl, hs, fy, fys, hz, hzj, hno, q⟩ := h
  cases rx
  cases rxs with
  | cons ry rt =>
    rename_i uy ut
    cases rt
    obtain ⟨its, rv, ⟨⟨cls, dd, data, sl⟩, n, ho, hc, hdn, hd⟩, hlen⟩ := I.list hs
    simp only at hc hd
    subst hc hd
    obtain ⟨u, hu, ru⟩ := rv.get hz
    obtain ⟨hjl, hje⟩ := List.getElem?_eq_some_iff.mp hu
    have hvl := rv.length
    have hj : j < its.toArray.size := by simpa using hjl
    have hsl := sizeLine_eq
    refine call_meets PySem.F.slot_list_index ⟨_, ho, rfl⟩ PySem.F.entry_list_index (PySem.F.args_list_index_2 _ _)
      (SeqAt.list_indexAt a its.toArray n dd sl uy (eqU y) j hj (by omega) ?_ ?_) ⟨ho, fun u' hu' => mem_eqAt ry fy rv fys u' (by simpa using hu'), ?_⟩
    · have e1 : its.toArray[j] = u := by simpa using hje
      rw [e1, eqU_of ru (flat_at fys hz)]
      exact hzj
    · intro m hm hmj
      have hml : m < its.length := by simpa using hm
      have hmy : m < ys.length := by omega
      have hy' : ys[m]? = some ys[m] := List.getElem?_eq_getElem hmy
      obtain ⟨u2, hu2, ru2⟩ := rv.get hy'
      obtain ⟨_, hme⟩ := List.getElem?_eq_some_iff.mp hu2
      have e1 : its.toArray[m] = u2 := by simpa using hme
      rw [e1, eqU_of ru2 (flat_at fys hy')]
      exact hno m _ hmj hy'
    · exact ⟨.int (j : Nat), H, I.tok _, ⟨_, rfl⟩, q⟩
end
section
variable {X : Cx}
end
theorem iter_any {prog : Program} {w : World} {A : Around} {E : Value → Shared → Prop} {s : Shared} {l : Addr} {items : Array Value} {Q : Value → Shared → Prop} (hl : s.heap.IsList l items)
    (h : ∀ s₂ : Shared, s₂ = { s with heap := s.heap.push { cls := .type "list_iterator", data := .fields #[.ref l, .int 0 0] } } →
      (s₂.heap.IsListIter s.heap.objs.size l 0 ∧ s₂.heap.IsList l items) → l ≠ s.heap.objs.size → Q (.ref s.heap.objs.size) s₂) : wpAny (model prog w) A (pyIter (.ref l)) Q E s := by
  have hlt : l < s.heap.objs.size := by obtain ⟨_, e, _⟩ := hl; exact Heap.lt_size e
  exact wpAny_pyIter_list hl (h _ rfl ⟨⟨_, Heap.get?_push_size _ rfl, rfl, rfl⟩, hl.push _⟩ (Nat.ne_of_lt hlt))
theorem truth_bools {prog : Program} {w : World} {A : Around} {bs : List Bool} {its : List Value} (e : its = bs.map Value.bool) :
    TruthOf prog w A (fun i v => its.toArray[i]? = some v) (fun i => bs.getD i false) := fun i v s Q E hv hq => by
  have hv' : its[i]? = some v := by simpa using hv
  rw [e, List.getElem?_map] at hv'
  obtain ⟨b, hb, rfl⟩ := Option.map_eq_some_iff.mp hv'
  have hg : bs.getD i false = b := by rw [List.getD_eq_getElem?_getD, hb] <;> rfl
  have hq' : Q (bs.getD i false) s := hq
  rw [hg] at hq'
  exact wpAny_truthy_bool hq'
theorem any_range : ∀ bs : List Bool, (List.range bs.length).any (fun i => bs.getD i false) = bs.any id
  | [] => rfl
  | b :: bs => by
    rw [List.length_cons, List.range_succ_eq_map, List.any_cons, List.any_map, List.any_cons, ← any_range bs]
    all_goals rfl
theorem all_range : ∀ bs : List Bool, (List.range bs.length).all (fun i => bs.getD i false) = bs.all id
  | [] => rfl
  | b :: bs => by
    rw [List.length_cons, List.range_succ_eq_map, List.all_cons, List.all_map, List.all_cons, ← all_range bs]
    all_goals rfl
section
variable {X : Cx}
def rAny (K : PySem.W.Frag) : List V → Hp → VK → Prop := fun vs H Q => ∃ (a : Addr) (bs : List Bool), vs = [V.ref a] ∧ SqL K H a (bs.map V.bl) ∧ Q (.bl (bs.any id)) H
def rAll (K : PySem.W.Frag) : List V → Hp → VK → Prop := fun vs H Q => ∃ (a : Addr) (bs : List Bool), vs = [V.ref a] ∧ SqL K H a (bs.map V.bl) ∧ Q (.bl (bs.all id)) H
theorem cr_any (hc : X.calm = true) : CallR X (.builtin "any") (rAny X.K) := by
  intro pins s σ H vs us Q I r h
  obtain ⟨a, bs, rfl, hs, q⟩ := h
  obtain ⟨its, rv, hl, _⟩ := I.list hs
  rw [Vals.ref1 r]
  have hb := rv.bls
  refine call_any_walk (iter_any hl.isList fun s₂ e2 st hne => ?_)
  subst e2
  refine ⟨_, _, _, _, _, _, _, rfl, Walks.list (A := X.A.in1) (I.ok.hd hc) _ a hne its.toArray, st, truth_bools hb, fun h' tk hk => ?_⟩
  refine ⟨.bl _, H, I.kept fun b o eo => hk b o (fun hmem => ?_) (Heap.get?_push_of_some _ eo), ?_, q⟩
  · rcases List.mem_cons.mp hmem with e1 | hmem
    · exact absurd (e1 ▸ Heap.lt_size eo) (Nat.lt_irrefl _)
    · cases hmem
  · show Value.bool _ = Value.bool _
    rw [← any_range, hb, List.size_toArray, List.length_map]
theorem cr_all (hc : X.calm = true) : CallR X (.builtin "all") (rAll X.K) := by
  intro pins s σ H vs us Q I r h
  obtain ⟨a, bs, rfl, hs, q⟩ := h
  obtain ⟨its, rv, hl, _⟩ := I.list hs
  rw [Vals.ref1 r]
  have hb := rv.bls
  refine call_all_walk (iter_any hl.isList fun s₂ e2 st hne => ?_)
  subst e2
  refine ⟨_, _, _, _, _, _, _, rfl, Walks.list (A := X.A.in1) (I.ok.hd hc) _ a hne its.toArray, st, truth_bools hb, fun h' tk hk => ?_⟩
  refine ⟨.bl _, H, I.kept fun b o eo => hk b o (fun hmem => ?_) (Heap.get?_push_of_some _ eo), ?_, q⟩
  · rcases List.mem_cons.mp hmem with e1 | hmem
    · exact absurd (e1 ▸ Heap.lt_size eo) (Nat.lt_irrefl _)
    · cases hmem
  · show Value.bool _ = Value.bool _
    rw [← all_range, hb, List.size_toArray, List.length_map]
end
mutual
inductive Dp (K : PySem.W.Frag) (H : Hp) : V → PyData → Prop
  | non : Dp K H .non .none
  | bl (b : Bool) : Dp K H (.bl b) (.bool b)
  | int (i : Int) : Dp K H (.int i) (.int i)
  | str (x : Str) : Dp K H (.str x) (.str x)
  | lst {a : Addr} {xs : List V} {ds : List PyData} : SqL K H a xs → DpAll K H xs ds → Dp K H (.ref a) (.list ds)
  | tup {a : Addr} {xs : List V} {ds : List PyData} : SqT K H a xs → DpAll K H xs ds → Dp K H (.ref a) (.tuple ds)
inductive DpAll (K : PySem.W.Frag) (H : Hp) : List V → List PyData → Prop
  | nil : DpAll K H [] []
  | cons {v : V} {vs : List V} {d : PyData} {ds : List PyData} : Dp K H v d → DpAll K H vs ds → DpAll K H (v :: vs) (d :: ds)
end
section
variable {X : Cx} {pins : List (Addr × Obj)} {σ : St} {H : Hp} {s : Shared}
mutual
theorem Dp.reads (I : Inv X pins σ H s) : ∀ (d : PyData) (v : V) (u : Value), Dp X.K H v d → RelV v u → ∃ as, Reads s.heap u d as
  | .none, _, _, h, r => by
    cases h
    cases r
    exact ⟨_, Reads.none⟩
  | .bool b, _, _, h, r => by
    cases h
    cases r
    exact ⟨_, Reads.bool b⟩
  | .int i, _, _, h, r => by
    cases h
    obtain ⟨t, rfl⟩ := r
    exact ⟨_, Reads.int i t⟩
  | .str x, _, _, h, r => by
    cases h
    obtain ⟨t, rfl⟩ := r
    exact ⟨_, Reads.str x t⟩
  | .list ds, _, _, h, r => by
    cases h with
    | lst hs ha =>
      cases r
      obtain ⟨its, rv, ⟨o, n, ho, hc, _, hd⟩, _⟩ := I.list hs
      obtain ⟨as, hr⟩ := Dp.readsAll I ds _ its ha rv
      exact ⟨_, Reads.list ho hc hd hr⟩
  | .tuple ds, _, _, h, r => by
    cases h with
    | tup hs ha =>
      cases r
      obtain ⟨its, rv, ⟨o, ho, hc, n, hd⟩, _⟩ := I.tuple hs
      obtain ⟨as, hr⟩ := Dp.readsAll I ds _ its ha rv
      exact ⟨_, Reads.tuple ho hc hd hr⟩
  | .dict _, _, _, h, _ => by cases h
theorem Dp.readsAll (I : Inv X pins σ H s) : ∀ (ds : List PyData) (vs : List V) (us : List Value), DpAll X.K H vs ds → Vals vs us → ∃ as, ReadsAll s.heap us ds as
  | [], _, _, h, r => by
    cases h
    cases r
    exact ⟨_, ReadsAll.nil⟩
  | d :: ds, _, _, h, r => by
    cases h with
    | cons h1 h2 =>
      cases r with
      | cons r1 r2 =>
        obtain ⟨as, q1⟩ := Dp.reads I d _ _ h1 r1
        obtain ⟨bs, q2⟩ := Dp.readsAll I ds _ _ h2 r2
        exact ⟨_, ReadsAll.cons q1 q2⟩
end
end
section
variable {X : Cx}
end
end L2
namespace L2
open PySem PySem.Spec PyProof.Rows
abbrev CellAt (h : Heap) (c : Addr) (v : Option Value) : Prop := h.IsCell c v
def relS (scope sc : Scope) : Scope :=
  { scope with names := scope.names.map fun (n, k) => if (k == .free && sc.kind == .function && sc.names.lookup n == some .cell) then (n, .cell) else (n, k) }
def cloFrom (cells : List (Str × Addr)) : List (Str × NameKind) → List (Str × Addr) → List (Str × Addr)
  | [], acc => acc
  | (n, k) :: r, acc => if k == .free then cloFrom cells r ((n, (cells.lookup n).getD 0) :: acc) else cloFrom cells r acc
theorem closure_loop (env : Env) (f : Str × NameKind → List (Str × Addr) → Sem (ForInStep (List (Str × Addr))))
    (hf : ∀ n k c, f (n, k) c = if k == .free then (do let a ← cellOf env n; pure (.yield ((n, a) :: c))) else pure (.yield c)) :
    ∀ (names : List (Str × NameKind)) (acc : List (Str × Addr)), (∀ y ∈ names, y.2 = .free → ∃ c, env.cells.lookup y.1 = some c) → forIn names acc f = pure (cloFrom env.cells names acc)
  | [], acc, _ => by rw [List.forIn_nil]; rfl
  | (n, k) :: r, acc, h => by
    rw [List.forIn_cons, hf]
    have ih := fun acc => closure_loop env f hf r acc fun y hy => h y (List.mem_cons_of_mem _ hy)
    unfold cloFrom
    by_cases hk : (k == NameKind.free) = true
    · rw [if_pos hk, if_pos hk]
      obtain ⟨c, hc⟩ := h (n, k) List.mem_cons_self (by simpa using hk)
      have e : cellOf env n = pure c := by unfold cellOf; rw [hc]
      rw [e]
      have e2 : (env.cells.lookup n).getD 0 = c := by rw [hc]; rfl
      rw [e2]
      exact ih _
    · rw [if_neg hk, if_neg hk]
      exact ih _
theorem closure_ok {scope : Scope} {env : Env} (h : ∀ y ∈ scope.names, y.2 = .free → ∃ c, env.cells.lookup y.1 = some c) : closureFor scope env = pure (cloFrom env.cells scope.names []) := by
  simp only [closureFor]
  rw [closure_loop env _ (fun n k c => rfl) scope.names [] h]
  rfl
theorem mem_lookup {α : Type} : ∀ {l : List (Str × α)} {n : Str} {c : α}, (n, c) ∈ l → ∃ c', l.lookup n = some c'
  | (k, v) :: r, n, c, h => by
    rw [List.lookup_cons]
    cases hb : n == k with
    | true => exact ⟨_, rfl⟩
    | false =>
      rcases List.mem_cons.mp h with e | h
      · cases e; simp at hb
      · exact mem_lookup h
theorem cloFrom_mem {cells : List (Str × Addr)} : ∀ {names : List (Str × NameKind)} {acc : List (Str × Addr)} {n : Str} {c : Addr}, (n, c) ∈ cloFrom cells names acc → (n, c) ∈ acc ∨ ((n, .free) ∈ names ∧ c = (cells.lookup n).getD 0)
  | [], _, _, _, h => .inl h
  | (m, k) :: r, acc, n, c, h => by
    unfold cloFrom at h
    split at h
    · rename_i hk
      have hk : k = .free := by simpa using hk
      rcases cloFrom_mem h with h | ⟨h1, h2⟩
      · rcases List.mem_cons.mp h with e | h
        · cases e; exact .inr ⟨hk ▸ List.mem_cons_self, rfl⟩
        · exact .inl h
      · exact .inr ⟨List.mem_cons_of_mem _ h1, h2⟩
    · rcases cloFrom_mem h with h | ⟨h1, h2⟩
      · exact .inl h
      · exact .inr ⟨List.mem_cons_of_mem _ h1, h2⟩
theorem cloFrom_acc {cells : List (Str × Addr)} : ∀ {names : List (Str × NameKind)} {acc : List (Str × Addr)} {p : Str × Addr}, p ∈ acc → p ∈ cloFrom cells names acc
  | [], _, _, h => h
  | (m, k) :: r, acc, p, h => by
    unfold cloFrom
    split
    · exact cloFrom_acc (List.mem_cons_of_mem _ h)
    · exact cloFrom_acc h
theorem cloFrom_has {cells : List (Str × Addr)} : ∀ {names : List (Str × NameKind)} {acc : List (Str × Addr)} {n : Str}, (n, .free) ∈ names → (n, (cells.lookup n).getD 0) ∈ cloFrom cells names acc
  | (m, k) :: r, acc, n, h => by
    unfold cloFrom
    rcases List.mem_cons.mp h with e | h
    · cases e
      exact cloFrom_acc List.mem_cons_self
    · split
      · exact cloFrom_has h
      · exact cloFrom_has h
theorem cells_mem : ∀ {names : List (Str × NameKind)} {h : Heap} {acc : List (Str × Addr)} {x : Str} {c : Addr}, (x, c) ∈ cellsFrom h.objs.size names acc →
    (x, c) ∈ acc ∨ ((x, .cell) ∈ names ∧ h.objs.size ≤ c ∧ CellAt (pushCells h names) c none)
  | [], _, _, _, _, h => .inl h
  | (n, k) :: r, h, acc, x, c, hm => by
    unfold cellsFrom at hm
    unfold pushCells
    split at hm
    · rename_i hk
      rw [if_pos hk]
      have hk : k = .cell := by simpa using hk
      rw [← Heap.size_push h { cls := .type "cell", data := .cell none }] at hm
      rcases cells_mem hm with hm | ⟨h1, h2, h3⟩
      · rcases List.mem_cons.mp hm with e | hm
        · cases e
          exact .inr ⟨hk ▸ List.mem_cons_self, Nat.le_refl _, _, pushCells_keeps r _ _ _ (Heap.get?_push_size _ rfl), rfl⟩
        · exact .inl hm
      · rw [Heap.size_push] at h2
        exact .inr ⟨List.mem_cons_of_mem _ h1, Nat.le_of_succ_le h2, h3⟩
    · rename_i hk
      rw [if_neg hk]
      rcases cells_mem hm with hm | ⟨h1, h2, h3⟩
      · exact .inl hm
      · exact .inr ⟨List.mem_cons_of_mem _ h1, h2, h3⟩
theorem cells_acc : ∀ {names : List (Str × NameKind)} {n : Nat} {acc : List (Str × Addr)} {p : Str × Addr}, p ∈ acc → p ∈ cellsFrom n names acc
  | [], _, _, _, h => h
  | (m, k) :: r, n, acc, p, h => by
    unfold cellsFrom
    split
    · exact cells_acc (List.mem_cons_of_mem _ h)
    · exact cells_acc h
theorem cells_has : ∀ {names : List (Str × NameKind)} {n : Nat} {acc : List (Str × Addr)} {x : Str}, (x, .cell) ∈ names → ∃ c, (x, c) ∈ cellsFrom n names acc
  | (m, k) :: r, n, acc, x, h => by
    unfold cellsFrom
    rcases List.mem_cons.mp h with e | h
    · cases e
      exact ⟨n, cells_acc List.mem_cons_self⟩
    · split
      · exact cells_has h
      · exact cells_has h
theorem cells_inj : ∀ {names : List (Str × NameKind)} {h : Heap} {acc : List (Str × Addr)} {x y : Str} {c : Addr}, (∀ p ∈ acc, p.2 < h.objs.size) → (∀ x y c, (x, c) ∈ acc → (y, c) ∈ acc → x = y) →
    (x, c) ∈ cellsFrom h.objs.size names acc → (y, c) ∈ cellsFrom h.objs.size names acc → x = y
  | [], _, _, _, _, _, _, hi, h1, h2 => hi _ _ _ h1 h2
  | (n, k) :: r, h, acc, x, y, c, hl, hi, h1, h2 => by
    unfold cellsFrom at h1 h2
    split at h1
    · rename_i hk
      rw [if_pos hk] at h2
      rw [← Heap.size_push h { cls := .type "cell", data := .cell none }] at h1 h2
      refine cells_inj (h := h.push _) (fun p hp => ?_) (fun x y c a b => ?_) h1 h2
      · rw [Heap.size_push]
        rcases List.mem_cons.mp hp with rfl | hp
        · exact Nat.lt_succ_self _
        · exact Nat.lt_succ_of_lt (hl p hp)
      · rcases List.mem_cons.mp a with e | a <;> rcases List.mem_cons.mp b with e' | b
        · cases e; cases e'; rfl
        · cases e; exact absurd (hl _ b) (Nat.lt_irrefl _)
        · cases e'; exact absurd (hl _ a) (Nat.lt_irrefl _)
        · exact hi _ _ _ a b
    · rename_i hk
      rw [if_neg hk] at h2
      exact cells_inj hl hi h1 h2
theorem newEnv_comp {M : Model} {A : Around} {E : Value → Shared → Prop} {s : Shared} {scope : Scope} {globals : Addr} {closure : List (Str × Addr)} {qual : Str} {func : Option Addr} {code : Value} {around : Env} {builtins : Addr} {Q : Env → Shared → Prop}
    (h : Q (newEnv scope s.heap.objs.size globals (cellsFrom (s.heap.objs.size + 1) scope.names closure) qual func code (some around) builtins)
      { s with heap := pushCells (s.heap.push { cls := .type "dict", data := .dict #[] }) scope.names }) :
    wpAny M A (newFunctionEnv scope globals closure [] qual func code (some around) builtins) Q E s := by
  simp only [newFunctionEnv, Option.isSome_some, if_true]
  refine wpAny_bind (wpAny_alloc ?_)
  refine wpAny_bind (wpAny_layCells _ (fun n k c => rfl) scope.names closure _ _ ?_)
  rw [show ({ s with heap := s.heap.push { cls := .type "dict", data := .dict #[] } } : Shared).heap.objs.size = s.heap.objs.size + 1 from Heap.size_push ..]
  rw [List.forIn_nil]
  exact wpAny_bind (wpAny_pure (wpAny_pure h))
theorem lookup_relS {sc : Scope} : ∀ {names : List (Str × NameKind)} {x : Str} {k : NameKind},
    (names.map fun (n, k) => if (k == NameKind.free && sc.kind == .function && sc.names.lookup n == some .cell) then (n, NameKind.cell) else (n, k)).lookup x = some k →
    ∃ k', names.lookup x = some k' ∧ (k = k' ∨ (k' = .free ∧ k = .cell))
  | [], _, _, h => by simp at h
  | (n, k₀) :: r, x, k, h => by
    have ih := @lookup_relS sc r x k
    have h' : List.lookup x ((if (k₀ == NameKind.free && sc.kind == .function && sc.names.lookup n == some .cell) = true then (n, NameKind.cell) else (n, k₀)) :: (r.map _)) = some k := h
    cases hx : x == n with
    | true =>
      simp only [List.lookup_cons, hx]
      by_cases hc : (k₀ == NameKind.free && sc.kind == .function && sc.names.lookup n == some .cell) = true
      · rw [if_pos hc] at h'
        simp only [List.lookup_cons, hx] at h'
        cases h'
        simp only [Bool.and_eq_true, beq_iff_eq] at hc
        exact ⟨k₀, rfl, .inr ⟨hc.1.1, rfl⟩⟩
      · rw [if_neg hc] at h'
        simp only [List.lookup_cons, hx] at h'
        cases h'
        exact ⟨_, rfl, .inl rfl⟩
    | false =>
      simp only [List.lookup_cons, hx]
      by_cases hc : (k₀ == NameKind.free && sc.kind == .function && sc.names.lookup n == some .cell) = true
      · rw [if_pos hc] at h'
        simp only [List.lookup_cons, hx] at h'
        exact ih h'
      · rw [if_neg hc] at h'
        simp only [List.lookup_cons, hx] at h'
        exact ih h'
structure BlkOk (N : List Str) (sc scope : Scope) (own : List (Str × Nat)) : Prop where
  kind : scope.kind = .function
  uniq : ∀ y ∈ scope.names, scope.names.lookup y.1 = some y.2
  ix : ∀ p ∈ own, N[p.2]? = some p.1
  free : ∀ y ∈ scope.names, y.2 = .free → sc.names.lookup y.1 = some .cell ∨ sc.names.lookup y.1 = some .free
  own : ∀ y ∈ scope.names, y.2 = .local ∨ y.2 = .cell → y.1 ∈ own.map (·.1) ∨ y.1 ∉ N
def wipe (σ : St) : List Nat → St
  | [] => σ
  | v :: vs => (wipe σ vs).set v none
theorem wipe_length (σ : St) : ∀ vs : List Nat, (wipe σ vs).length = σ.length
  | [] => rfl
  | v :: vs => by unfold wipe; rw [List.length_set, wipe_length σ vs]
theorem wipe_some {σ : St} {i : Nat} {x : V} : ∀ {vs : List Nat}, (wipe σ vs)[i]? = some (some x) → σ[i]? = some (some x) ∧ i ∉ vs
  | [], h => ⟨h, by simp⟩
  | v :: vs, h => by
    unfold wipe at h
    by_cases hi : v = i
    · subst hi
      by_cases hv : v < (wipe σ vs).length
      · rw [List.getElem?_set_self hv] at h; cases h
      · rw [List.getElem?_eq_none (by simpa using hv)] at h; cases h
    · rw [List.getElem?_set_ne hi] at h
      obtain ⟨h1, h2⟩ := wipe_some h
      exact ⟨h1, by simp only [List.mem_cons, not_or]; exact ⟨fun e => hi e.symm, h2⟩⟩
abbrev Cx.blk (X : Cx) (s : Shared) (H : Hp) (scope : Scope) (cenv : Env) (fp : List Addr) : Cx := { X with s_0 := s, H_0 := H, env := cenv, outer := X.stack, ex := fp, fn := fun x => scope.names.lookup x == some .cell, pn := [], xe := fun _ _ => False }
section
variable {X : Cx} {pins : List (Addr × Obj)} {σ : St} {H : Hp} {s : Shared}
theorem block_start {scope : Scope} {own : List (Str × Nat)} {fp : List Addr} (I : Inv X pins σ H s) (ok : BlkOk X.N X.env.scope scope own) (hN : X.N.Nodup) (hfp : ∀ b ∈ fp, FpOk X pins H b ∧ b < s.heap.objs.size) :
    Inv (X.blk s H scope (compEnvC scope (cellsFrom (s.heap.objs.size + 1) scope.names (cloFrom X.env.cells scope.names [])) s.heap.objs.size X.env) fp) [] (wipe σ (own.map (·.2))) H { s with heap := pushCells (s.heap.push { cls := .type "dict", data := .dict #[] }) scope.names } := by
  have hfree : ∀ y ∈ scope.names, y.2 = .free → ∃ c, X.env.cells.lookup y.1 = some c := fun y hy e => by
    rcases ok.free y hy e with k | k
    · exact I.ok.has _ (.inl k)
    · exact I.ok.has _ (.inr k)
  generalize hcenv : compEnvC scope (cellsFrom (s.heap.objs.size + 1) scope.names (cloFrom X.env.cells scope.names [])) s.heap.objs.size X.env = cenv
  have kp : ∀ b o, s.heap.get? b = some o → (pushCells (s.heap.push { cls := .type "dict", data := .dict #[] }) scope.names).get? b = some o := fun b o e => pushCells_keeps _ _ _ _ (Heap.get?_push_of_some _ e)
  have hL : cenv.locals = s.heap.objs.size := by rw [← hcenv]; rfl
  have hcl : cenv.cells = cellsFrom (s.heap.objs.size + 1) scope.names (cloFrom X.env.cells scope.names []) := by rw [← hcenv]; rfl
  have hsc : cenv.scope = relS scope X.env.scope := by rw [← hcenv]; rfl
  rw [← Heap.size_push s.heap { cls := .type "dict", data := .dict #[] }] at hcl
  have cm : ∀ {y c}, (y, c) ∈ cloFrom X.env.cells scope.names [] → X.env.cells.lookup y = some c ∧ c < s.heap.objs.size := fun {y c} hm => by
    rcases cloFrom_mem hm with hm | ⟨h1, rfl⟩
    · cases hm
    · obtain ⟨c, hc⟩ := hfree _ h1 rfl
      rw [hc]
      obtain ⟨w, z⟩ := I.cell _ _ hc
      exact ⟨rfl, z.lt⟩
  have mem : ∀ {y c}, cenv.cells.lookup y = some c → (X.env.cells.lookup y = some c ∧ c < s.heap.objs.size) ∨ (s.heap.objs.size + 1 ≤ c ∧ CellAt (pushCells (s.heap.push { cls := .type "dict", data := .dict #[] }) scope.names) c none) := fun {y c} e => by
    rw [hcl] at e
    rcases cells_mem (PySem.mem_of_lookup e) with hm | ⟨_, h2, h3⟩
    · exact .inl (cm hm)
    · rw [Heap.size_push] at h2; exact .inr ⟨h2, h3⟩
  have look : ∀ {y}, scope.names.lookup y = some .free → ∃ c, cenv.cells.lookup y = some c ∧ X.env.cells.lookup y = some c := fun {y} hl => by
    have hy : (y, NameKind.free) ∈ scope.names := PySem.mem_of_lookup hl
    obtain ⟨c', e'⟩ := mem_lookup (cells_acc (names := scope.names) (n := (s.heap.push { cls := .type "dict", data := .dict #[] }).objs.size) (cloFrom_has (cells := X.env.cells) (acc := []) hy))
    rw [← hcl] at e'
    refine ⟨c', e', ?_⟩
    rw [hcl] at e'
    rcases cells_mem (PySem.mem_of_lookup e') with hm | ⟨h1, _, _⟩
    · exact (cm hm).1
    · have := ok.uniq _ h1
      rw [hl] at this; cases this
  have okB : (X.blk s H scope cenv fp).Ok := by
    refine ⟨I.ok.mod, by show cenv.scope.kind = _; rw [hsc]; exact ok.kind, by show cenv.globals = _; rw [← hcenv]; exact I.ok.glob, by show cenv.builtins = _; rw [← hcenv]; exact I.ok.blt, by show s.heap.objs.size ≤ cenv.locals; rw [hL]; exact Nat.le_refl _,
      fun y z c e1 e2 => ?_, fun y hy => ?_, fun y c z e => ?_, I.ok.hd, I.ok.frames, .inl rfl, fun b hb => ⟨?_, fun y c e z => ?_⟩, I.bs, Nat.le_trans I.ok.bsz I.sz, fun b o e hb => ?_, fun b hb z => ?_, I.stack, I.stkFree⟩
    · have e1 : cenv.cells.lookup y = some c := e1
      have e2 : cenv.cells.lookup z = some c := e2
      rw [hcl] at e1 e2
      refine cells_inj (fun p hp => ?_) (fun y z c a b => I.ok.inj y z c (cm a).1 (cm b).1) (PySem.mem_of_lookup e1) (PySem.mem_of_lookup e2)
      rw [Heap.size_push]
      exact Nat.lt_succ_of_lt (cm (y := p.1) (c := p.2) hp).2
    · show ∃ c, cenv.cells.lookup y = some c
      have key : ∀ k, cenv.kindOf y = some k → (k = .cell ∨ k = .free) → ∃ c, cenv.cells.lookup y = some c := fun k hk hk' => by
        unfold Env.kindOf at hk
        rw [hsc] at hk
        obtain ⟨k', e, r⟩ := lookup_relS hk
        have : k' = .cell ∨ k' = .free := by
          rcases r with rfl | ⟨rfl, _⟩
          · exact hk'
          · exact .inr rfl
        rcases this with rfl | rfl
        · obtain ⟨c, hm⟩ := cells_has (n := (s.heap.push { cls := .type "dict", data := .dict #[] }).objs.size) (acc := cloFrom X.env.cells scope.names []) (PySem.mem_of_lookup e)
          obtain ⟨c', e'⟩ := mem_lookup hm
          exact ⟨c', by rw [hcl]; exact e'⟩
        · obtain ⟨c, h1, _⟩ := look e
          exact ⟨c, h1⟩
      rcases hy with hy | hy
      · exact key _ hy (.inl rfl)
      · exact key _ hy (.inr rfl)
    · have z : (scope.names.lookup y == some NameKind.cell) = true := z
      have z : scope.names.lookup y = some .cell := by simpa using z
      have e : cenv.cells.lookup y = some c := e
      rw [hcl] at e
      rcases cells_mem (PySem.mem_of_lookup e) with hm | ⟨_, h2, _⟩
      · rcases cloFrom_mem hm with hm | ⟨h1, _⟩
        · cases hm
        · have q := ok.uniq _ h1
          rw [z] at q; cases q
      · rw [Heap.size_push] at h2
        exact Nat.le_of_succ_le h2
    · show b ≠ cenv.locals
      rw [hL]; exact Nat.ne_of_lt (hfp b hb).2
    · have e : cenv.cells.lookup y = some c := e
      rcases mem e with ⟨h1, _⟩ | ⟨h1, _⟩
      · exact (hfp b hb).1.2.2.2.2.1 y c h1 z
      · have h2 : s.heap.objs.size + 1 ≤ b := by rw [← z]; exact h1
        exact absurd (Nat.lt_of_lt_of_le (hfp b hb).2 (Nat.le_of_succ_le h2)) (Nat.lt_irrefl _)
    · rcases (hfp b hb).1.2.2.2.1 with z | z
      · exact I.ok.noex b o e z
      · exact absurd (Nat.lt_of_lt_of_le (Heap.lt_size e) (Nat.le_trans I.ok.bsz z)) (Nat.lt_irrefl _)
    · rcases List.mem_cons.mp (I.stkSub b z) with z | z
      · exact (hfp b hb).1.2.1 z
      · exact (hfp b hb).1.2.2.1 z
  refine ⟨okB, rfl, I.bare, Un.kept kp, ⟨fun _ => none, ?_, fun i y av e1 e2 e3 => ?_⟩, fun y c e => ?_, ?_, fun y c e => ?_, fun p hp => ?_, I.hok.kept kp, by rw [wipe_length]; exact I.len⟩
  · show Heap.Ns _ cenv.locals _
    rw [hL]
    exact Heap.Ns.keeps (Heap.Ns.new ..) fun b o e => pushCells_keeps _ _ _ _ e
  · obtain ⟨e2, hne⟩ := wipe_some e2
    have hfr : scope.names.lookup y = some .free ∧ (cenv.kindOf y = some .cell ∨ cenv.kindOf y = some .free) := by
      have key : ∀ k, cenv.scope.names.lookup y = some k → k = .local ∨ k = .cell ∨ k = .free → scope.names.lookup y = some .free ∧ (cenv.kindOf y = some .cell ∨ cenv.kindOf y = some .free) := fun k hk hk' => by
        have hk0 := hk
        rw [hsc] at hk
        obtain ⟨k', e, r⟩ := lookup_relS hk
        have no : ¬ (k' = .local ∨ k' = .cell) := fun hh => by
          rcases ok.own _ (PySem.mem_of_lookup e) hh with e' | e'
          · obtain ⟨p, hp, hpy⟩ := List.mem_map.mp e'
            have e3 := ok.ix p hp
            have : p.1 = y := hpy
            rw [this] at e3
            exact hne (List.mem_map.mpr ⟨p, hp, nodup_ix hN e3 e1⟩)
          · exact e' (List.mem_of_getElem? e1)
        rcases r with rfl | ⟨rfl, rfl⟩
        · rcases hk' with rfl | rfl | rfl
          · exact absurd (.inl rfl) no
          · exact absurd (.inr rfl) no
          · exact ⟨e, .inr hk0⟩
        · exact ⟨e, .inl hk0⟩
      have e3 : Vis cenv.scope y := e3
      rcases e3 with e3 | e3 | e3
      · exact key _ e3 (.inl rfl)
      · exact key _ e3 (.inr (.inl rfl))
      · exact key _ e3 (.inr (.inr rfl))
    obtain ⟨m, hn, hl⟩ := I.loc
    have hvis : Vis X.env.scope y := (ok.free _ (PySem.mem_of_lookup hfr.1) rfl).elim (fun k => .inr (.inl k)) (fun k => .inr (.inr k))
    obtain ⟨w, r, q⟩ := hl i y av e1 e2 hvis
    refine ⟨w, r, .inr ⟨hfr.2, ?_⟩⟩
    obtain ⟨c, h1, h2⟩ := look hfr.1
    rcases q with ⟨k, _⟩ | ⟨_, c', e', z⟩
    · have k : X.env.scope.names.lookup y = some .local := k
      rcases ok.free _ (PySem.mem_of_lookup hfr.1) rfl with k' | k' <;> rw [show X.env.scope.names.lookup y = _ from k'] at k <;> cases k
    · rw [h2] at e'; cases e'
      exact ⟨c, h1, z.keeps kp⟩
  · have e : cenv.cells.lookup y = some c := e
    rcases mem e with ⟨h1, _⟩ | ⟨_, z⟩
    · obtain ⟨w, z⟩ := I.cell y c h1
      exact ⟨w, z.keeps kp⟩
    · exact ⟨_, z⟩
  · show H cenv.locals = none
    rw [hL]; exact I.hok.fresh (Nat.le_refl _)
  · have e : cenv.cells.lookup y = some c := e
    rcases mem e with ⟨h1, _⟩ | ⟨h1, _⟩
    · exact I.freeC y c h1
    · exact I.hok.fresh (Nat.le_of_succ_le h1)
  · exact absurd (show p ∈ ([] : List (Addr × Obj)) ++ [] from hp) (by simp)
theorem app_ok {E : Value → Shared → Prop} {D : Addr} {xs : List V} {y : V} {v : Value} {Q : Value → Shared → Prop} (I : Inv X pins σ H s) (hD : H D = some (.lst xs)) (hz : xs.length < sizeLine) (r : RelV y v)
    (h : ∀ s', Inv X pins σ (upd H D (.lst (xs ++ [y]))) s' → Q .none s') : wpAny (model X.prog X.w) X.A (call (.builtin "list.append") [.ref D, v]) Q E s := by
  obtain ⟨hz', its, n, ri, e⟩ := I.hok D _ hD
  have hl := ri.length
  refine append_at (hsz := by rw [List.size_toArray]; omega) e fun h' sb ho' => ?_
  refine h { s with heap := h' } (I.write (t' := s.toks) (by rw [hD]; trivial) (.inl rfl) (fun b u hb q => (sb.2 b hb).trans q) ⟨_, ho'⟩ ⟨by rw [List.length_append]; exact hz, its ++ [v], n + 1, ri.append (.cons r .nil), ?_⟩)
  rw [ho']
  simp
def PTs (X : Cx) (ifs : List Expr) (t : TT) : Prop :=
  ∀ (pins : List (Addr × Obj)) (s : Shared) (σ : St) (H : Hp) (Q : Bool → Hp → Prop), Inv X pins σ H s → t σ H Q →
    wpAny (model X.prog X.w) X.A (forIn ifs true fun c r => if r = true then do let ok ← isTrue c X.env (eval c X.env); pure (ForInStep.yield ok) else pure (ForInStep.yield r)) (TP X pins σ Q) X.xe s
def tYes : TT := fun _ H Q => Q true H
theorem pts_nil : PTs X [] tYes := fun _ _ _ H _ I h => wpAny_tests_nil ⟨H, I, h⟩
end
theorem thnF {α : Type} {t : Sem α} {Q Q' : α → Shared → Prop} {M : Model} {A : Around} {E : Value → Shared → Prop} {s : Shared} (h : wpAny M A t Q (fun _ _ => False) s) (hQ : ∀ a s, Q a s → Q' a s) : wpAny M A t Q' E s := wpAny_mono h hQ fun _ _ z => False.elim z
theorem compLoop_any {prog : Program} {w : World} {A : Around} {R : Result → Shared → Prop} {s : Shared} {elt target iter : Expr} {ifs : List Expr} {scope : Scope} {pos : Pos} {it acc : Value} {env : Env} (I : Nat → Shared → Prop)
    (turn : ∀ n s, I n s → wpAny (model prog w) A (pyNext it) (fun r s₁ => match r with
      | none => R (.ok .next) s₁
      | some v => wpAny (model prog w) A (letOwnedTupleGo target it v) (fun _ s₁' => wpAny (model prog w) A (assign target env v) (fun _ s₂ =>
          wpAny (model prog w) A (forIn ifs true fun c r => if r = true then do let ok ← isTrue c env (eval c env); pure (ForInStep.yield ok) else pure (ForInStep.yield r)) (fun ok s₃ =>
            if ok = true then wpAny (model prog w) A (eval elt env) (fun x s₄ =>
              wpAny (model prog w) A (call (.builtin "list.append") [acc, x]) (fun _ s₅ => ∃ m, m < n ∧ I m s₅) (notedBy (model prog w) A env fun e s' => R (.error e) s') s₄) (notedBy (model prog w) A env fun e s' => R (.error e) s') s₃
            else ∃ m, m < n ∧ I m s₃) (notedBy (model prog w) A env fun e s' => R (.error e) s') s₂) (notedBy (model prog w) A env fun e s' => R (.error e) s') s₁') (notedBy (model prog w) A env fun e s' => R (.error e) s') s₁) (notedBy (model prog w) A env fun e s' => R (.error e) s') s)
    (n : Nat) (h : I n s) :
    codeAny (model prog w) A (.compLoop (.ListComp elt [⟨target, iter, ifs, 0⟩] scope pos) 0 it acc env) R s := by
  refine codeAny_loop rfl I (fun n s hI => ?_) n h
  show wpAny _ A ((compTurn (.ListComp elt [⟨target, iter, ifs, 0⟩] scope pos) 0 it acc env).onRaise (fun x => do noteFrame x env; theTreesLotGoes x)) _ _ s
  refine wpAny_noted ?_
  rw [compTurn_list]
  refine wpAny_bind (wpAny_standAt (wpAny_bind (wpAny_mono (turn n s hI) (fun r s₁ h₁ => ?_) fun _ _ h' => h')))
  cases r with
  | none => exact wpAny_pure h₁
  | some v =>
    refine wpAny_bind (wpAny_mono h₁ (fun _ s₁' h₁' => ?_) fun _ _ h' => h')
    refine wpAny_bind (wpAny_mono h₁' (fun _ s₂ h₂ => wpAny_bind (wpAny_mono h₂ (fun ok s₃ h₃ => ?_) fun _ _ h' => h')) fun _ _ h' => h')
    cases ok with
    | false => exact wpAny_pure ⟨rfl, h₃⟩
    | true =>
      exact wpAny_bind (wpAny_bind (wpAny_mono h₃ (fun x s₄ h₄ => wpAny_bind (wpAny_mono h₄ (fun _ s₅ h₅ => wpAny_pure (wpAny_pure ⟨rfl, h₅⟩)) fun _ _ h' => h')) fun _ _ h' => h'))
section
variable {X : Cx}
def tLc (wi : TI) (g : TG) (tt : TT) (te : TE) (vs : List Nat) : TE := fun σ H Q => wi σ H fun J H1 => ∀ D, H1 D = none → ∃ W : Nat → Nat → Hp → Prop, (∃ m, W 0 m (upd H1 D (.lst []))) ∧ ∀ i m H, W i m H →
  (J.stop i H ∧ Q (.ref D) H) ∨ (J.go i H ∧ ∃ Nx : Hp → Prop, (∀ H', Nx H' → ∃ m', m' < m ∧ W (i + 1) m' H') ∧ ∀ x H', J.yld i H x H' → g x (wipe σ vs) H' fun σ2 H2 => wipe σ2 vs = wipe σ vs ∧ tt σ2 H2 fun b H3 =>
    if b = true then te σ2 H3 fun y H4 => ∃ acc, H4 D = some (.lst acc) ∧ acc.length < sizeLine ∧ Nx (upd H4 D (.lst (acc ++ [y]))) else Nx H3)
theorem lc_core {pins : List (Addr × Obj)} {s : Shared} {σ : St} {H : Hp} {Q : VK} {elt tg iter : Expr} {ifs : List Expr} {scope : Scope} {own : List (Str × Nat)} {pos pos' : Pos} {wi : TI} {g : TG} {tt : TT} {te : TE} {use : Option (Value → Sem Unit)} {Qf : Value → Shared → Prop}
    (hc : X.calm = true) (hN : X.N.Nodup) (I : Inv X pins σ H s) (hi : PI X tg iter wi) (ok : BlkOk X.N X.env.scope scope own)
    (hg : ∀ (s : Shared) (H : Hp) (C : Addr) (cl : List (Str × Addr)) (fp : List Addr), PG (X.blk s H scope (compEnvC scope cl C X.env) fp) tg g) (ht : ∀ (s : Shared) (H : Hp) (C : Addr) (cl : List (Str × Addr)) (fp : List Addr), PTs (X.blk s H scope (compEnvC scope cl C X.env) fp) ifs tt)
    (he : ∀ (s : Shared) (H : Hp) (C : Addr) (cl : List (Str × Addr)) (fp : List Addr), PE (X.blk s H scope (compEnvC scope cl C X.env) fp) elt te) (hs : ∀ x, foldedSetIterable iter X.env x = pure x)
    (h : tLc wi g tt te (own.map (·.2)) σ H Q)
    (hRR : ∀ D C s' m H', Inv X pins σ H' s' → Q (.ref D) H' → s'.heap.Ns C m → FpOk X pins H' C → compPost (model X.prog X.w) X.A X.xe use Qf (.ref D) C (.ok .next) s') :
    wpAny (model X.prog X.w) X.A (comprehension (.ListComp elt [⟨tg, iter, ifs, 0⟩] scope pos) scope X.env pos' (newList []) false (eval iter X.env) use) Qf X.xe s := by
  have hfree : ∀ y ∈ scope.names, y.2 = .free → ∃ c, X.env.cells.lookup y.1 = some c := fun y hy e => by
    rcases ok.free y hy e with k | k
    · exact I.ok.has _ (.inl k)
    · exact I.ok.has _ (.inr k)
  refine wpAny_comprehension_free (use := use) rfl hs (closure_ok hfree) ok.kind (fun y hy e => by rw [ok.uniq y hy, e])
    (thn (hi pins s σ H _ I h) fun xv s1 hx => thn hx fun itv s2 h2 => ?_)
  obtain ⟨it, fp, tn, J, H2, e, I2, T, st2, f2, q⟩ := h2
  subst e
  refine wpAny_newObj_type (newEnv_comp ?_) (by show 0 ≤ sizeLine; decide)
  generalize hD : s2.heap.objs.size = D
  have hDn : H2 D = none := I2.hok.fresh (Nat.le_of_eq hD)
  obtain ⟨W, ⟨m0, w0⟩, turn⟩ := q D hDn
  -- the new list
  generalize hs3 : ({ s2 with heap := s2.heap.push { cls := .type "list", data := .seq ([] : List Value).toArray } } : Shared) = s3
  have I3 : Inv X pins σ (upd H2 D (.lst [])) s3 := by
    rw [← hs3]
    refine I2.laid (t' := s2.toks) (fun b o e => Heap.get?_push_of_some _ e) (Nat.le_of_eq hD) ⟨Nat.zero_le _, [], 0, .nil, ?_⟩
    rw [← hD]
    exact Heap.get?_push_size _ rfl
  have h3 : s3.heap = s2.heap.push { cls := .type "list", data := .seq ([] : List Value).toArray } := by rw [← hs3]
  have sz : ∀ b ∈ fp, b < s2.heap.objs.size := fun b hb => by
    obtain ⟨o, e, _⟩ := T.obj _ _ st2 b hb
    exact Heap.lt_size e
  have f3 : ∀ b ∈ fp, FpOk X pins (upd H2 D (.lst [])) b ∧ b < s3.heap.objs.size := fun b hb => by
    have hlt := sz b hb
    refine ⟨⟨?_, (f2 b hb).2⟩, by rw [h3, Heap.size_push]; exact Nat.lt_succ_of_lt hlt⟩
    rw [upd_ne (by rw [← hD]; exact Nat.ne_of_lt hlt)]
    exact (f2 b hb).1
  have st3 : tn 0 s3.heap := T.keep _ _ _ st2 fun b _ o e => by rw [h3]; exact Heap.get?_push_of_some _ e
  have I4 := block_start I3 ok hN f3
  have pg := hg s3 (upd H2 D (.lst [])) s3.heap.objs.size (cellsFrom (s3.heap.objs.size + 1) scope.names (cloFrom X.env.cells scope.names [])) fp
  have pt := ht s3 (upd H2 D (.lst [])) s3.heap.objs.size (cellsFrom (s3.heap.objs.size + 1) scope.names (cloFrom X.env.cells scope.names [])) fp
  have pe := he s3 (upd H2 D (.lst [])) s3.heap.objs.size (cellsFrom (s3.heap.objs.size + 1) scope.names (cloFrom X.env.cells scope.names [])) fp
  show codeAny _ _ (.compStart (.ListComp elt [⟨tg, iter, ifs, 0⟩] scope pos) 0 (.ref it) (.ref D) (compEnvC scope (cellsFrom (s3.heap.objs.size + 1) scope.names (cloFrom X.env.cells scope.names [])) s3.heap.objs.size X.env)) (compPost (model X.prog X.w) X.A X.xe use Qf (.ref D) s3.heap.objs.size) { s3 with heap := pushCells (s3.heap.push { cls := .type "dict", data := .dict #[] }) scope.names }
  have nfp : ∀ b ∈ fp, (upd H2 D (.lst [])) b = none := fun b hb => (f3 b hb).1.1
  generalize hce : compEnvC scope (cellsFrom (s3.heap.objs.size + 1) scope.names (cloFrom X.env.cells scope.names [])) s3.heap.objs.size X.env = ce at I4 pg pt pe ⊢
  have cL : ce.locals = s3.heap.objs.size := by subst hce; rfl
  generalize hH3 : upd H2 D (.lst []) = H3 at I3 I4 pg pt pe w0 nfp f3
  generalize hs4 : ({ s3 with heap := pushCells (s3.heap.push { cls := .type "dict", data := .dict #[] }) scope.names } : Shared) = s4 at I4 ⊢
  have st4 : tn 0 s4.heap := T.keep _ _ _ st3 fun b _ o e => by rw [← hs4]; exact pushCells_keeps _ _ _ _ (Heap.get?_push_of_some _ e)
  have stat : ∀ {σ' : St} {H' : Hp} {s' : Shared}, Inv (X.blk s3 H3 scope ce fp) [] σ' H' s' → (∀ b ∈ fp, H' b = none) → ∀ b ∈ fp, FpOk (X.blk s3 H3 scope ce fp) [] H' b := fun {σ' H' s'} I' hn b hb =>
    ⟨hn b hb, (I'.ok.exf b hb).1, I'.ok.exfs b hb, .inl hb, fun x c e => (I'.ok.exf b hb).2 x c e, fun p hp => absurd (show p ∈ ([] : List (Addr × Obj)) ++ [] from hp) (by simp)⟩
  have loop : codeAny (model X.prog X.w) X.A (.compLoop (.ListComp elt [⟨tg, iter, ifs, 0⟩] scope pos) 0 (.ref it) (.ref D) ce) (compPost (model X.prog X.w) X.A X.xe use Qf (.ref D) s3.heap.objs.size) s4 := by
    refine compLoop_any (fun n s' => ∃ i H', Inv (X.blk s3 H3 scope ce fp) [] (wipe σ (own.map (·.2))) H' s' ∧ tn i s'.heap ∧ (∀ b ∈ fp, H' b = none) ∧ W i n H') ?_ m0 ⟨0, H3, I4, st4, nfp, w0⟩
    rintro n s5 ⟨i, H5, I5, st5, n5, w5⟩
    rcases turn i n H5 w5 with ⟨stop, qq⟩ | ⟨go, Nx, hNx, step⟩
    · have td := T.done (X.blk s3 H3 scope ce fp) rfl rfl rfl hc i [] s5 _ H5 (fun _ _ => False) I5 (stat I5 n5) st5 stop
      refine thnF td fun r s6 ⟨hr, I6⟩ => ?_
      subst hr
      -- back in the def's context
      have I7 : Inv X pins σ H5 s6 := I3.call' (ch := fp) I6.os I6.base I6.hok I6.bare fun b hb => ⟨(f3 b hb).1.2.2.2.1, (f3 b hb).1.2.1, (f3 b hb).1.2.2.2.2.1, (f3 b hb).1.2.2.2.2.2⟩
      have nC : H5 s3.heap.objs.size = none := by
        have z : H5 ce.locals = none := I6.free
        rw [cL] at z
        exact z
      obtain ⟨m, hn, _⟩ := I6.loc
      have hn : s6.heap.Ns ce.locals m := hn
      rw [cL] at hn
      exact hRR D s3.heap.objs.size s6 m H5 I7 qq hn (I3.fpOk (Nat.le_refl _) nC)
    · have ti := T.item (X.blk s3 H3 scope ce fp) rfl rfl rfl hc i [] s5 _ H5 (fun _ _ => False) I5 (stat I5 n5) st5 go
      refine thnF ti fun r s6 ⟨u, hr, h6⟩ => ?_
      subst hr
      refine thnF h6 fun _ s7 ⟨x, H7, I7, r7, y7, st7, n7⟩ => ?_
      have I7' := I7.pinned (stat I7 n7) (T.obj _ _ st7)
      refine thnF (pg _ s7 _ H7 x u _ I7' r7 (step x H7 y7)) fun _ s8 ⟨σ8, H8, I8, hw8, q8⟩ => ?_
      refine thnF (pt _ s8 σ8 H8 _ I8 q8) fun b s9 ⟨H9, I9, q9⟩ => ?_
      -- the turn's end
      have fin : ∀ {s' : Shared} {H' : Hp}, Inv (X.blk s3 H3 scope ce fp) ([] ++ pinsAt fp s7.heap) σ8 H' s' → Nx H' → ∃ m, m < n ∧ ∃ i H', Inv (X.blk s3 H3 scope ce fp) [] (wipe σ (own.map (·.2))) H' s' ∧ tn i s'.heap ∧ (∀ b ∈ fp, H' b = none) ∧ W i m H' := fun {s' H'} I' nx => by
        obtain ⟨m', hm, w'⟩ := hNx H' nx
        have pin' : ∀ b ∈ fp, ∀ o, s7.heap.get? b = some o → s'.heap.get? b = some o ∧ H' b = none := fun b hb o e =>
          let z := I'.pin (b, o) (List.mem_append_right _ (List.mem_append_right _ (mem_pinsAt hb e)))
          ⟨z.1, z.2.1⟩
        have hl : (wipe σ (own.map (·.2))).length = σ8.length := by rw [← hw8, wipe_length]
        refine ⟨m', hm, i + 1, H', (I'.unpinned (pins := [])).weak hl (fun j v e => ?_), T.keep _ _ _ st7 fun b hb o e => (pin' b hb o e).1, fun b hb => ?_, w'⟩
        · rw [← hw8] at e
          exact (wipe_some e).1
        · obtain ⟨o, e, _⟩ := T.obj _ _ st7 b hb
          exact (pin' b hb o e).2
      cases b with
      | false =>
        simp only [Bool.false_eq_true, if_false] at q9 ⊢
        exact fin I9 q9
      | true =>
        simp only [if_true] at q9 ⊢
        refine thnF (pe _ s9 σ8 H9 _ I9 q9) fun z s10 ⟨yv, H10, I10, r10, acc, hD10, hz10, nx⟩ => ?_
        exact app_ok (X := X.blk s3 H3 scope ce fp) I10 hD10 hz10 r10 fun s11 I11 => fin I11 nx
  exact codeAny_compStart_list loop (T.self X.A 0 _ _ _ st4 loop)
theorem pe_lc {elt tg iter : Expr} {ifs : List Expr} {scope : Scope} {own : List (Str × Nat)} {pos : Pos} {wi : TI} {g : TG} {tt : TT} {te : TE} (hc : X.calm = true) (hN : X.N.Nodup) (hi : PI X tg iter wi) (ok : BlkOk X.N X.env.scope scope own)
    (hg : ∀ (s : Shared) (H : Hp) (C : Addr) (cl : List (Str × Addr)) (fp : List Addr), PG (X.blk s H scope (compEnvC scope cl C X.env) fp) tg g) (ht : ∀ (s : Shared) (H : Hp) (C : Addr) (cl : List (Str × Addr)) (fp : List Addr), PTs (X.blk s H scope (compEnvC scope cl C X.env) fp) ifs tt)
    (he : ∀ (s : Shared) (H : Hp) (C : Addr) (cl : List (Str × Addr)) (fp : List Addr), PE (X.blk s H scope (compEnvC scope cl C X.env) fp) elt te) (hs : ∀ x, foldedSetIterable iter X.env x = pure x := by intro _; rfl) :
    PE X (.ListComp elt [⟨tg, iter, ifs, 0⟩] scope pos) (tLc wi g tt te (own.map (·.2))) := by
  intro pins s σ H Q I h
  rw [eval_ListComp]
  refine lc_core hc hN I hi ok hg ht he hs h fun D C s' m H' I' q hn f => ⟨m, hn, fun h'' sb => ?_⟩
  obtain ⟨f0, f1, f2, f3, f4, f5⟩ := f
  exact ⟨.ref D, H', I'.turned (t' := s'.toks) (fun b o hb e => (sb.2 b hb).trans e) f0 f1 f3 f4 f5, rfl, q⟩
theorem ps_setLc {i : Nat} {y : Str} {py : Pos} {elt tg iter : Expr} {ifs : List Expr} {scope : Scope} {own : List (Str × Nat)} {pos spos : Pos} {wi : TI} {g : TG} {tt : TT} {te : TE} (hc : X.calm = true) (hN : X.N.Nodup) (hy : X.N[i]? = some y) (hyl : X.env.scope.names.lookup y = some .local)
    (hsw : swapsWith (.ListComp elt [⟨tg, iter, ifs, 0⟩] scope pos) (some (.Name y py)) spos.line X.env = pure true) (hi : PI X tg iter wi) (ok : BlkOk X.N X.env.scope scope own)
    (hg : ∀ (s : Shared) (H : Hp) (C : Addr) (cl : List (Str × Addr)) (fp : List Addr), PG (X.blk s H scope (compEnvC scope cl C X.env) fp) tg g) (ht : ∀ (s : Shared) (H : Hp) (C : Addr) (cl : List (Str × Addr)) (fp : List Addr), PTs (X.blk s H scope (compEnvC scope cl C X.env) fp) ifs tt)
    (he : ∀ (s : Shared) (H : Hp) (C : Addr) (cl : List (Str × Addr)) (fp : List Addr), PE (X.blk s H scope (compEnvC scope cl C X.env) fp) elt te) (hs : ∀ x, foldedSetIterable iter X.env x = pure x := by intro _; rfl) :
    PS X (.Assign [.Name y py] (.ListComp elt [⟨tg, iter, ifs, 0⟩] scope pos) spos) (tAsg (tLc wi g tt te (own.map (·.2))) (gName i)) := by
  intro pins s σ H D I h
  rw [exec_Assign_Name_used _ _ _ _ hsw]
  refine wpAny_bind (wpAny_standAt (wpAny_bind ?_))
  show wpAny _ X.A (do let _ ← comprehension (.ListComp elt [⟨tg, iter, ifs, 0⟩] scope pos) scope X.env (firstIterPos [⟨tg, iter, ifs, 0⟩] pos) (newList []) false (eval iter X.env) (some (assign (.Name y py) X.env))) _ _ s
  have h : tLc wi g tt te (own.map (·.2)) σ H (fun x H1 => gName i x σ H1 D.nx) := h
  refine wpAny_bind (thn (lc_core (Qf := fun _ s' => SP X pins D .next s') hc hN I hi ok hg ht he hs h fun L C s' m H' I' q hn f => ?_) fun _ s' hq => wpAny_pure (wpAny_pure hq))
  show wpAny _ _ (assign (.Name y py) X.env (.ref L)) _ _ _
  refine wpAny_assign_Name (store_ok2 (v := V.ref L) I' hN hy (.inl hyl) rfl (fun s2 I2 ⟨a, sb, ha⟩ => ?_) (.inr hyl))
  obtain ⟨f0, f1, f2, f3, f4, f5⟩ := f
  have haC : C ≠ a := by
    rcases ha with z | z
    · rw [z]; exact f1
    · exact fun e => f4 y a z e.symm
  refine ⟨m, hn.sameBut sb haC, fun h3 sb3 => ?_⟩
  exact ⟨_, H', I2.turned (t' := s2.toks) (fun b o hb e => (sb3.2 b hb).trans e) f0 f1 f3 f4 f5, q⟩
end
theorem lc_range {lo : Int} {n : Nat} {g : TG} {tt : TT} {te : TE} {vs : List Nat} {σ : St} {H1 : Hp} {D : Addr} {Qd : Hp → Prop} (Pv : Nat → Hp → Prop) (h0 : Pv 0 (upd H1 D (.lst [])))
    (hs : ∀ i H, i < n → Pv i H → g (.int (lo + i)) (wipe σ vs) H fun σ2 H2 => wipe σ2 vs = wipe σ vs ∧ tt σ2 H2 fun b H3 =>
      if b = true then te σ2 H3 fun y H4 => ∃ acc, H4 D = some (.lst acc) ∧ acc.length < sizeLine ∧ Pv (i + 1) (upd H4 D (.lst (acc ++ [y]))) else Pv (i + 1) H3) (hd : ∀ H, Pv n H → Qd H) :
    ∃ W : Nat → Nat → Hp → Prop, (∃ m, W 0 m (upd H1 D (.lst []))) ∧ ∀ i m H, W i m H →
      ((Itr lo n).stop i H ∧ Qd H) ∨ ((Itr lo n).go i H ∧ ∃ Nx : Hp → Prop, (∀ H', Nx H' → ∃ m', m' < m ∧ W (i + 1) m' H') ∧ ∀ x H', (Itr lo n).yld i H x H' → g x (wipe σ vs) H' fun σ2 H2 => wipe σ2 vs = wipe σ vs ∧ tt σ2 H2 fun b H3 =>
        if b = true then te σ2 H3 fun y H4 => ∃ acc, H4 D = some (.lst acc) ∧ acc.length < sizeLine ∧ Nx (upd H4 D (.lst (acc ++ [y]))) else Nx H3) := by
  refine ⟨fun i m H => m = n - i ∧ i ≤ n ∧ Pv i H, ⟨n, by simp, Nat.zero_le _, h0⟩, ?_⟩
  rintro i m H ⟨rfl, hi, p⟩
  by_cases hlt : i < n
  · refine .inr ⟨hlt, Pv (i + 1), fun H' p' => ⟨n - (i + 1), by omega, rfl, hlt, p'⟩, fun x H' y => ?_⟩
    obtain ⟨e, y⟩ := y
    subst e y
    exact hs i _ hlt p
  · have e : i = n := by omega
    subst e
    exact .inl ⟨Nat.le_refl _, hd H p⟩
theorem lc_list {K : PySem.W.Frag} {a : Addr} {xs : List V} {g : TG} {tt : TT} {te : TE} {vs : List Nat} {σ : St} {H1 : Hp} {D : Addr} {Qd : Hp → Prop} (Pv : Nat → Hp → Prop) (h0 : Pv 0 (upd H1 D (.lst []))) (hl : ∀ i H, i ≤ xs.length → Pv i H → SqL K H a xs)
    (hs : ∀ i x H, xs[i]? = some x → Pv i H → g x (wipe σ vs) H fun σ2 H2 => wipe σ2 vs = wipe σ vs ∧ tt σ2 H2 fun b H3 =>
      if b = true then te σ2 H3 fun y H4 => ∃ acc, H4 D = some (.lst acc) ∧ acc.length < sizeLine ∧ Pv (i + 1) (upd H4 D (.lst (acc ++ [y]))) else Pv (i + 1) H3) (hd : ∀ H, Pv xs.length H → Qd H) :
    ∃ W : Nat → Nat → Hp → Prop, (∃ m, W 0 m (upd H1 D (.lst []))) ∧ ∀ i m H, W i m H →
      ((Itl K a).stop i H ∧ Qd H) ∨ ((Itl K a).go i H ∧ ∃ Nx : Hp → Prop, (∀ H', Nx H' → ∃ m', m' < m ∧ W (i + 1) m' H') ∧ ∀ x H', (Itl K a).yld i H x H' → g x (wipe σ vs) H' fun σ2 H2 => wipe σ2 vs = wipe σ vs ∧ tt σ2 H2 fun b H3 =>
        if b = true then te σ2 H3 fun y H4 => ∃ acc, H4 D = some (.lst acc) ∧ acc.length < sizeLine ∧ Nx (upd H4 D (.lst (acc ++ [y]))) else Nx H3) := by
  refine ⟨fun i m H => m = xs.length - i ∧ i ≤ xs.length ∧ Pv i H, ⟨xs.length, by simp, Nat.zero_le _, h0⟩, ?_⟩
  rintro i m H ⟨rfl, hi, p⟩
  have q := hl i H hi p
  by_cases hlt : i < xs.length
  · refine .inr ⟨⟨xs, xs[i], q, by simp [hlt]⟩, Pv (i + 1), fun H' p' => ⟨xs.length - (i + 1), by omega, rfl, hlt, p'⟩, fun x H' y => ?_⟩
    obtain ⟨e, y⟩ := y
    subst e
    exact hs i x _ (y xs q) p
  · have e : i = xs.length := by omega
    subst e
    exact .inl ⟨⟨xs, q, Nat.le_refl _⟩, hd H p⟩
def blkC (N : List Str) (sc scope : Scope) (own : List (Str × Nat)) : Bool :=
  (match scope.kind with | .function => true | _ => false) && (scope.names.all fun y => decide (scope.names.lookup y.1 = some y.2)) && (own.all fun p => decide (N[p.2]? = some p.1)) &&
    (scope.names.all fun y => match y.2 with
      | .free => (match sc.names.lookup y.1 with | some .cell => true | some .free => true | _ => false)
      | .local => decide (y.1 ∈ own.map (·.1)) || decide (y.1 ∉ N)
      | .cell => decide (y.1 ∈ own.map (·.1)) || decide (y.1 ∉ N)
      | _ => true)
theorem blkOk_by {N : List Str} {sc scope : Scope} {own : List (Str × Nat)} (h : blkC N sc scope own = true) : BlkOk N sc scope own := by
  unfold blkC at h
  simp only [Bool.and_eq_true, List.all_eq_true, decide_eq_true_eq] at h
  obtain ⟨⟨⟨h1, h2⟩, h3⟩, h4⟩ := h
  refine ⟨?_, h2, h3, fun y hy e => ?_, fun y hy e => ?_⟩
  · split at h1
    · assumption
    · cases h1
  · have q := h4 y hy
    simp only [e] at q
    split at q <;> first | exact .inl (by assumption) | exact .inr (by assumption) | cases q
  · have q := h4 y hy
    rcases e with e | e <;> (simp only [e, Bool.or_eq_true, decide_eq_true_eq] at q; exact q)
end L2
namespace L2
open PySem PySem.Spec PyProof.Rows
section
variable {prog : Program} {w : World} {A : Around} {R : Result → Shared → Prop} {s : Shared} {elt t0 i0 t1 i1 : Expr} {ifs0 ifs1 : List Expr} {scope : Scope} {pos : Pos} {it acc : Value} {env : Env}
end
section
variable {X : Cx}
end
end L2
namespace L2
open PySem PySem.Spec PyProof.Rows
section
variable {κ : Type} [DecidableEq κ]
def valV (kvs : List (κ × V)) (k : κ) : Option V := (kvs.find? fun kv => decide (kv.1 = k)).map (·.2)
def putK (kvs : List (κ × V)) (k : κ) (v : V) : List (κ × V) :=
  if (kvs.any fun kv => decide (kv.1 = k)) = true then kvs.map (fun kv => if kv.1 = k then (kv.1, v) else kv) else kvs ++ [(k, v)]
def dropK (kvs : List (κ × V)) (k : κ) : List (κ × V) := kvs.filter fun kv => decide (kv.1 ≠ k)
theorem valV_pos {p : κ × V} {r : List (κ × V)} {k : κ} (e : p.1 = k) : valV (p :: r) k = some p.2 := by simp [valV, List.find?_cons, e]
theorem valV_neg {p : κ × V} {r : List (κ × V)} {k : κ} (e : ¬ p.1 = k) : valV (p :: r) k = valV r k := by simp [valV, List.find?_cons, e]
theorem valV_any (k : κ) : ∀ kvs : List (κ × V), (kvs.any fun kv => decide (kv.1 = k)) = (valV kvs k).isSome
  | [] => rfl
  | p :: r => by
    rw [List.any_cons]
    by_cases e : p.1 = k
    · simp only [valV_pos e, decide_eq_true e, Bool.true_or, Option.isSome_some]
    · rw [valV_neg e, decide_eq_false e, Bool.false_or]; exact valV_any k r
theorem RelO.isSome_eq {o : Option V} {u : Option Value} (r : RelO o u) : o.isSome = u.isSome := by
  cases o with
  | none => cases u with
    | none => rfl
    | some _ => exact (show False from r).elim
  | some _ => cases u with
    | none => exact (show False from r).elim
    | some _ => rfl
theorem RelO.getD {o : Option V} {u : Option Value} {d : V} {d' : Value} (r : RelO o u) (rd : RelV d d') : RelV (o.getD d) (u.getD d') := by
  cases o with
  | none => cases u with
    | none => exact rd
    | some _ => exact (show False from r).elim
  | some _ => cases u with
    | none => exact (show False from r).elim
    | some _ => exact r
theorem KV.val {kvs : List (κ × V)} {vs : List (κ × Value)} (r : KV kvs vs) (k : κ) : RelO (valV kvs k) (valueAt vs k) := by
  unfold KV at r
  induction r with
  | nil => exact True.intro
  | @cons p q ps qs h t ih =>
    obtain ⟨h1, h2⟩ := h
    by_cases e : p.1 = k
    · have e' : q.1 = k := h1.symm.trans e
      have b : valueAt (q :: qs) k = some q.2 := by simp [valueAt, List.find?_cons, e']
      rw [valV_pos e, b]; exact h2
    · have e' : ¬ q.1 = k := fun z => e (h1.trans z)
      have b : valueAt (q :: qs) k = valueAt qs k := by simp [valueAt, List.find?_cons, e']
      rw [valV_neg e, b]; exact ih
theorem KV.any {kvs : List (κ × V)} {vs : List (κ × Value)} (r : KV kvs vs) (k : κ) : (kvs.any fun kv => decide (kv.1 = k)) = vs.any fun kv => decide (kv.1 = k) := by
  unfold KV at r
  induction r with
  | nil => rfl
  | cons h t ih => rw [List.any_cons, List.any_cons, ih, h.1]
theorem KV.repl {kvs : List (κ × V)} {vs : List (κ × Value)} (r : KV kvs vs) (k : κ) {y : V} {u : Value} (ry : RelV y u) :
    KV (kvs.map fun kv => if kv.1 = k then (kv.1, y) else kv) (vs.map fun kv => if kv.1 = k then (kv.1, u) else kv) := by
  unfold KV at r ⊢
  induction r with
  | nil => exact .nil
  | @cons p q ps qs h t ih =>
    rw [List.map_cons, List.map_cons]
    refine .cons ?_ ih
    obtain ⟨h1, h2⟩ := h
    by_cases e : p.1 = k
    · rw [if_pos e, if_pos (h1.symm.trans e)]; exact ⟨h1, ry⟩
    · rw [if_neg e, if_neg (fun z => e (h1.trans z))]; exact ⟨h1, h2⟩
theorem KV.put {kvs : List (κ × V)} {vs : List (κ × Value)} (r : KV kvs vs) (k : κ) {y : V} {u : Value} (ry : RelV y u) : KV (putK kvs k y) (stored vs k u) := by
  unfold putK stored
  rw [r.any k]
  by_cases e : (vs.any fun kv => decide (kv.1 = k)) = true
  · rw [if_pos e, if_pos e]; exact r.repl k ry
  · rw [if_neg e, if_neg e]; exact Paired.snoc r ⟨rfl, ry⟩
theorem KV.drop {kvs : List (κ × V)} {vs : List (κ × Value)} (r : KV kvs vs) (k : κ) : KV (dropK kvs k) (without vs k) := by
  unfold KV at r ⊢
  unfold dropK without
  induction r with
  | nil => exact .nil
  | @cons p q ps qs h t ih =>
    obtain ⟨h1, h2⟩ := h
    rw [List.filter_cons, List.filter_cons]
    by_cases e : p.1 = k
    · have a : ¬ decide (p.1 ≠ k) = true := by simp [e]
      have b : ¬ decide (q.1 ≠ k) = true := by simp [h1.symm.trans e]
      rw [if_neg a, if_neg b]; exact ih
    · have e' : ¬ q.1 = k := fun z => e (h1.trans z)
      have a : decide (p.1 ≠ k) = true := by simp [e]
      have b : decide (q.1 ≠ k) = true := by simp [e']
      rw [if_pos a, if_pos b]; exact .cons ⟨h1, h2⟩ ih
theorem KV.keys {kvs : List (κ × V)} {vs : List (κ × Value)} (r : KV kvs vs) : kvs.map (·.1) = vs.map (·.1) := by
  unfold KV at r
  induction r with
  | nil => rfl
  | cons h t ih => rw [List.map_cons, List.map_cons, ih, h.1]
theorem KV.length {kvs : List (κ × V)} {vs : List (κ × Value)} (r : KV kvs vs) : kvs.length = vs.length := Paired.length r
end
abbrev KT (H : Hp) : List (List Key × V) → List (List Key × Addr × Value) → Prop := Paired fun p q => p.1 = q.1 ∧ H q.2.1 = some (.tup (p.1.map kV)) ∧ RelV p.2 q.2.2
theorem KT.val {H : Hp} {kvs : List (List Key × V)} {xs : List (List Key × Addr × Value)} (r : KT H kvs xs) (k : List Key) : RelO (valV kvs k) ((atKey xs k).map (·.2)) := by
  induction r with
  | nil => exact True.intro
  | @cons p q ps qs h t ih =>
    obtain ⟨h1, _, h2⟩ := h
    by_cases e : p.1 = k
    · have e' : q.1 = k := h1.symm.trans e
      have b : atKey (q :: qs) k = some q.2 := by simp [atKey, List.find?_cons, e']
      rw [valV_pos e, b]; exact h2
    · have e' : ¬ q.1 = k := fun z => e (h1.trans z)
      have b : atKey (q :: qs) k = atKey qs k := by simp [atKey, List.find?_cons, e']
      rw [valV_neg e, b]; exact ih
theorem KT.repl {H : Hp} {kvs : List (List Key × V)} {xs : List (List Key × Addr × Value)} (r : KT H kvs xs) (k : List Key) {y : V} {u : Value} (ry : RelV y u) :
    KT H (kvs.map fun kv => if kv.1 = k then (kv.1, y) else kv) (xs.map (putAt k u)) := by
  induction r with
  | nil => exact .nil
  | @cons p q ps qs h t ih =>
    rw [List.map_cons, List.map_cons]
    refine .cons ?_ ih
    obtain ⟨h1, h2, h3⟩ := h
    unfold putAt
    by_cases e : p.1 = k
    · rw [if_pos e, if_pos (h1.symm.trans e)]; exact ⟨h1, h2, ry⟩
    · rw [if_neg e, if_neg (fun z => e (h1.trans z))]; exact ⟨h1, h2, h3⟩
theorem KT.put {H : Hp} {kvs : List (List Key × V)} {xs : List (List Key × Addr × Value)} (r : KT H kvs xs) (k : List Key) {b : Addr} {y : V} {u : Value} (hb : H b = some (.tup (k.map kV))) (ry : RelV y u) :
    KT H (putK kvs k y) (storedH xs k b u) := by
  have e : (kvs.any fun kv => decide (kv.1 = k)) = (atKey xs k).isSome := by
    rw [valV_any, (r.val k).isSome_eq, Option.isSome_map]
  unfold putK storedH
  rw [e]
  by_cases q : (atKey xs k).isSome = true
  · rw [if_pos q, if_pos q]; exact r.repl k ry
  · rw [if_neg q, if_neg q]; exact Paired.snoc r ⟨rfl, hb, ry⟩
theorem KT.keeps {H H' : Hp} {kvs : List (List Key × V)} {xs : List (List Key × Addr × Value)} (r : KT H kvs xs) (ht : ∀ b ys, H b = some (.tup ys) → H' b = some (.tup ys)) : KT H' kvs xs :=
  Paired.mapP r fun _ _ z => ⟨z.1, ht _ _ z.2.1, z.2.2⟩
section
variable {P : Program} {w : World} {H : Hp} {h : Heap} {a : Addr}
end
def DGet (H : Hp) (a : Addr) (y : V) (r : Option V) : Prop :=
  (∃ kvs k, Rd H a (.dK kvs) ∧ y = kV k ∧ r = valV kvs k) ∨ ∃ kvs k b, Rd H a (.dT kvs) ∧ y = .ref b ∧ H b = some (.tup (k.map kV)) ∧ r = valV kvs k
def DPut (H : Hp) (a : Addr) (y v : V) (H' : Hp) : Prop :=
  (∃ kvs k, H a = some (.dK kvs) ∧ y = kV k ∧ kvs.length < sizeLine ∧ H' = upd H a (.dK (putK kvs k v))) ∨
  ∃ kvs k b, H a = some (.dT kvs) ∧ y = .ref b ∧ H b = some (.tup (k.map kV)) ∧ kvs.length < sizeLine ∧ H' = upd H a (.dT (putK kvs k v))
theorem DGet.k {H : Hp} {a : Addr} {kvs : List (Key × V)} {k : Key} (e : H a = some (.dK kvs)) : DGet H a (kV k) (valV kvs k) := .inl ⟨kvs, k, .inl e, rfl, rfl⟩
theorem DGet.t {H : Hp} {a b : Addr} {kvs : List (List Key × V)} {k : List Key} (e : H a = some (.dT kvs)) (eb : H b = some (.tup (k.map kV))) : DGet H a (.ref b) (valV kvs k) := .inr ⟨kvs, k, b, .inl e, rfl, eb, rfl⟩
theorem DPut.k {H : Hp} {a : Addr} {kvs : List (Key × V)} {k : Key} {v : V} (e : H a = some (.dK kvs)) (hl : kvs.length < sizeLine) : DPut H a (kV k) v (upd H a (.dK (putK kvs k v))) := .inl ⟨kvs, k, e, rfl, hl, rfl⟩
theorem DPut.t {H : Hp} {a b : Addr} {kvs : List (List Key × V)} {k : List Key} {v : V} (e : H a = some (.dT kvs)) (eb : H b = some (.tup (k.map kV))) (hl : kvs.length < sizeLine) :
    DPut H a (.ref b) v (upd H a (.dT (putK kvs k v))) := .inr ⟨kvs, k, b, e, rfl, eb, hl, rfl⟩
section
variable {X : Cx} {pins : List (Addr × Obj)} {σ : St} {H : Hp} {s : Shared} {a : Addr} {y v : V} {u r : Value} {o : Option V} {A : Around} {E : Value → Shared → Prop}
end
section
variable {X : Cx} {pins : List (Addr × Obj)} {σ : St} {H : Hp} {s : Shared} {a : Addr} {kvs : List (Key × V)} {k : Key} {u : Value} {A : Around} {E : Value → Shared → Prop}
end
def NoSl (i : Expr) : Prop := ∀ ov iv, subscripted i false ov iv = operate [ov, iv] (getItem ov iv)
theorem subD_of {prog : Program} {w : World} {A : Around} {E : Value → Shared → Prop} {s : Shared} {env : Env} {value slice : Expr} {pos : Pos} {T id : String} {Q : Value → Shared → Prop}
    (hl : typeLookup (.type T) "__getitem__" = pure (some (.builtin id))) (hs : NoSl slice)
    (h : wpAny (model prog w) A (eval value env) (fun o s₁ => wpAny (model prog w) A (eval slice env) (fun i s₂ => s₂.TypeIs o T ∧ wpAny (model prog w) A (getItem o i) Q E s₂) E s₁) E s) :
    wpAny (model prog w) A (eval (.Subscript value slice pos) env) Q E s := by
  refine Subscript_ (wpAny_mono h (fun o s₁ h₁ => wpAny_mono h₁ (fun i s₂ h₂ => ?_) fun _ _ x => x) fun _ _ x => x)
  obtain ⟨hT, h₂⟩ := h₂
  unfold subscriptTail
  refine wpAny_bind ?_
  rw [getitemInPython_of_ne hT.not_modules]
  refine wpAny_bind (wpAny_specialOf hT hl ?_)
  have fin : wpAny (model prog w) A (subscripted slice false o i) (fun r s₃ => wpAny (model prog w) A (letTemporaryGo value o r >>= fun _ => pure r) Q E s₃) E s₂ := by
    rw [hs o i]
    exact wpAny_operating (wpAny_mono h₂ (fun r s₃ h₃ => wpAny_bind (wpAny_letTemporaryGo (wpAny_pure h₃))) fun _ _ x => x)
  first
    | exact wpAny_pure (wpAny_bind fin)
    | exact wpAny_bind (wpAny_pure (wpAny_bind fin))
    | exact wpAny_bind fin
section
variable {X : Cx} {o i e value : Expr} {pos pos' tpos : Pos} {td ty tv : TE}
end
section
variable {X : Cx} {pos : Pos}
end
structure M1 (X : Cx) (o : Expr) (m : Str) (apos : Pos) (e : Expr) (cpos : Pos) : Prop where
  base : attributeBase o m X.env (eval o X.env) = eval o X.env
  few : ((backTo cpos (starEach [e] X.env)).all (fun x => !x.1) && (backToKw cpos (keywordEach [] X.env)).all (fun x => x.1.isSome)
    && decide (([e] : List Expr).length + ([] : List Keyword).length + (if ([] : List Keyword).isEmpty then 0 else 1) < 30)) = true
  line : (apos.endLine == cpos.line) = true
  trees : backTo cpos (starEach [e] X.env) = [(false, eval e X.env)]
structure M2 (X : Cx) (o : Expr) (m : Str) (apos : Pos) (e f : Expr) (cpos : Pos) : Prop where
  base : attributeBase o m X.env (eval o X.env) = eval o X.env
  few : ((backTo cpos (starEach [e, f] X.env)).all (fun x => !x.1) && (backToKw cpos (keywordEach [] X.env)).all (fun x => x.1.isSome)
    && decide (([e, f] : List Expr).length + ([] : List Keyword).length + (if ([] : List Keyword).isEmpty then 0 else 1) < 30)) = true
  line : (apos.endLine == cpos.line) = true
  trees : backTo cpos (starEach [e, f] X.env) = [(false, eval e X.env), (false, eval f X.env)]
section
variable {X : Cx} {pins : List (Addr × Obj)} {σ : St} {H : Hp} {s : Shared} {a : Addr} {y d : V} {u r : Value} {o : Option V} {A : Around} {E : Value → Shared → Prop}
end
section
variable {X : Cx} {o e f : Expr} {apos cpos : Pos} {td ty tx : TE}
end
section
variable {X : Cx} {pins : List (Addr × Obj)} {σ : St} {H : Hp} {s : Shared} {a : Addr} {kvs : List (Key × V)} {A : Around} {E : Value → Shared → Prop}
end
section
variable {X : Cx} {pins : List (Addr × Obj)} {σ : St} {H : Hp} {s : Shared} {a : Addr} {y : V} {u : Value} {A : Around} {E : Value → Shared → Prop}
end
end L2
namespace L2
open PySem PySem.Spec PyProof.Rows
section
variable {prog : Program} {w : World} {A : Around} {E : Value → Shared → Prop}
end
section
variable {X : Cx}
end
end L2
namespace L2
open PySem PySem.Spec PyProof.Rows
section
variable {X : Cx} {pins : List (Addr × Obj)} {σ : St} {H : Hp} {s : Shared} {h' : Heap}
theorem Inv.turnedL {t' : Nat} {ch : List Addr} (I : Inv X pins σ H s) (k : ∀ b o, b ∉ ch → s.heap.get? b = some o → h'.get? b = some o) (hf : ∀ b ∈ ch, FpOk X pins H b) : Inv X pins σ H { s with heap := h', toks := t' } := by
  have nit : ∀ b u, H b = some u → b ∉ ch := fun b u e z => by
    have q := (hf b z).1
    rw [q] at e; cases e
  refine I.step (g' := s.gens) (d' := s.drawn) (ch := ch) (fun b hb => ⟨(hf b hb).2.2.2.1, (hf b hb).2.1, (hf b hb).2.2.2.2.1, (hf b hb).2.2.2.2.2⟩) (fun b o _ _ hc e _ => k b o hc e) (fun b o _ _ hc e _ => ⟨o.slots, k b o hc e⟩)
    (fun _ _ _ _ n => n) (fun b o hc e => ⟨o, k b o hc e⟩) (fun _ _ e => e) (fun _ _ _ e => e) (fun b ps e => ⟨#[], by rw [e]; simp⟩) (fun m hm => ?_) (fun b u e => ?_) I.bare
  · obtain ⟨o, es, ep, ho, r⟩ := hm
    exact ⟨o, es, ep, k _ o (fun z => (hf _ z).2.1 rfl) ho, r⟩
  · refine (I.hok b u e).stay (fun c v hc q => k c v ?_ q) (fun _ q => q) fun _ _ q => q
    rcases hc with z | z
    · rw [z]; exact nit b u e
    · exact nit c _ z
theorem Inv.turnedNew {t' : Nat} {ch : List Addr} {T : Addr} {ob : HO} (I : Inv X pins σ H s) (k : ∀ b o, b ∉ ch → s.heap.get? b = some o → h'.get? b = some o) (hf : ∀ b ∈ ch, FpOk X pins H b) (hT : s.heap.objs.size ≤ T)
    (new : ObjOk X.prog X.w (upd H T ob) h' T ob) : Inv X pins σ (upd H T ob) { s with heap := h', toks := t' } := by
  have hn : H T = none := I.hok.fresh hT
  have nit : ∀ b u, H b = some u → b ∉ ch := fun b u e z => by
    have q := (hf b z).1
    rw [q] at e; cases e
  refine I.step (g' := s.gens) (d' := s.drawn) (ch := ch) (fun b hb => ⟨(hf b hb).2.2.2.1, (hf b hb).2.1, (hf b hb).2.2.2.2.1, (hf b hb).2.2.2.2.2⟩) (fun b o _ _ hc e _ => k b o hc e) (fun b o _ _ hc e _ => ⟨o.slots, k b o hc e⟩)
    (fun b o _ e n => ?_) (fun b o hc e => ⟨o, k b o hc e⟩) (fun b xs e => ?_) (fun b o u e => ?_) (fun b ps e => ⟨#[], ?_⟩) (fun m hm => ?_) (fun b u e => ?_) I.bare
  · rw [upd_ne (Nat.ne_of_lt (Nat.lt_of_lt_of_le (Heap.lt_size e) hT))]; exact n
  · rw [upd_ne (ne_of_none e hn)]; exact e
  · rw [upd_ne (ne_of_none e hn)]; exact e
  · rw [upd_ne (ne_of_none e hn), e]; simp
  · obtain ⟨o, es, ep, ho, r⟩ := hm
    exact ⟨o, es, ep, k _ o (fun z => (hf _ z).2.1 rfl) ho, r⟩
  · by_cases hb : b = T
    · subst hb
      rw [upd_same] at e
      cases e
      exact new
    · rw [upd_ne hb] at e
      refine (I.hok b u e).stay (fun c v hc q => k c v ?_ q) (fun c q => by rw [upd_ne (ne_of_none q hn)]; exact q) fun c xs q => by rw [upd_ne (ne_of_none q hn)]; exact q
      rcases hc with z | z
      · rw [z]; exact nit b u e
      · exact nit c _ z
theorem Inv.lock {d : Addr} {u : HO} (I : Inv X pins σ H s) (h : H d = some u) (mu : Mut (some u)) : ∃ od, Inv X pins σ (upd H d (.frz od u)) s := by
  have x := I.hok d u h
  have ex : ∃ od, s.heap.get? d = some od := by
    cases u with
    | lst xs => obtain ⟨_, _, _, _, e⟩ := x; exact ⟨_, e⟩
    | dK kvs => obtain ⟨_, _, _, _, o, _, _, e, _⟩ := x; exact ⟨o, e⟩
    | dT kvs => obtain ⟨_, _, _, _, o, _, _, e, _⟩ := x; exact ⟨o, e⟩
    | set S n => obtain ⟨o, _, _, _, e, _⟩ := x; exact ⟨o, e⟩
    | ins C dx fs => obtain ⟨_, _, _, e, _⟩ := x; exact ⟨_, e⟩
    | ext φ => obtain ⟨_, ⟨_, e⟩, _⟩ := x; exact ⟨_, e⟩
    | _ => exact False.elim mu
  obtain ⟨od, e⟩ := ex
  have new : ObjOk X.prog X.w (upd H d (.frz od u)) s.heap d (.frz od u) := by
    refine ⟨e, x.stay (fun b v _ q => q) (fun b q => ?_) fun b xs q => ?_⟩
    · rw [upd_ne (fun z => by rw [z, h] at q; cases q; exact mu)]; exact q
    · rw [upd_ne (fun z => by rw [z, h] at q; cases q; exact mu)]; exact q
  exact ⟨od, I.write (x := d) (e := d) (t' := s.toks) (h' := s.heap) (by rw [h]; exact mu) (.inl rfl) (fun b v _ q => q) ⟨od, e⟩ new⟩
theorem Inv.nofrz {d : Addr} {u : HO} (I : Inv X pins σ H s) (h : H d = some u) (mu : Mut (some u)) : ∀ o' u', X.H_0 d ≠ some (.frz o' u') := fun o' u' e => by
  have q := I.base.frzs d o' u' e
  rw [h] at q
  cases q
  exact mu
theorem Inv.unlock {d : Addr} {od : Obj} {u : HO} (I : Inv X pins σ H s) (h : H d = some (.frz od u)) (hn : ∀ o' u', X.H_0 d ≠ some (.frz o' u')) : Inv X pins σ (upd H d u) s := by
  have neH : ∀ b o, H b = some o → (∀ o' u', o ≠ .frz o' u') → b ≠ d := fun b o e hne z => by
    rw [z, h] at e
    cases e
    exact hne _ _ rfl
  have neN : ∀ b, H b = none → b ≠ d := fun b e z => by rw [z, h] at e; cases e
  refine ⟨I.ok, I.os, I.bare, ⟨I.base.keep, I.base.slot, fun b o e n hx => ?_, I.base.there, fun b xs e => ?_, fun b o x e => ?_, fun b ps e => ?_⟩, I.loc, I.cell, ?_, fun x c e => ?_, fun p hp => ?_, fun b o e => ?_, I.len⟩
  · rw [upd_ne (neN b (I.base.free b o e n hx))]; exact I.base.free b o e n hx
  · have q := I.base.tups b xs e
    rw [upd_ne (neH b _ q (fun _ _ z => nomatch z))]; exact q
  · have q := I.base.frzs b o x e
    rw [upd_ne (fun z => by rw [z] at e; exact hn _ _ e)]; exact q
  · obtain ⟨m, q⟩ := I.base.tbls b ps e
    exact ⟨m, by rw [upd_ne (neH b _ q (fun _ _ z => nomatch z))]; exact q⟩
  · rw [upd_ne (neN _ I.free)]; exact I.free
  · rw [upd_ne (neN c (I.freeC x c e))]; exact I.freeC x c e
  · obtain ⟨e, n, r⟩ := I.pin p hp
    exact ⟨e, by rw [upd_ne (neN _ n)]; exact n, r⟩
  · by_cases hb : b = d
    · rw [hb, upd_same] at e
      cases e
      rw [hb]
      obtain ⟨_, x⟩ := I.hok d _ h
      exact x.stay (fun c v _ q => q) (fun c q => by rw [upd_ne (neH c _ q (fun _ _ z => nomatch z))]; exact q) fun c xs q => by rw [upd_ne (neH c _ q (fun _ _ z => nomatch z))]; exact q
    · rw [upd_ne hb] at e
      exact (I.hok b o e).stay (fun c v _ q => q) (fun c q => by rw [upd_ne (neH c _ q (fun _ _ z => nomatch z))]; exact q) fun c xs q => by rw [upd_ne (neH c _ q (fun _ _ z => nomatch z))]; exact q
end
def tLock (t : TS) : TS := fun D σ H => ∃ d u, H d = some u ∧ Mut (some u) ∧ ∀ od, t ⟨fun σ' H' => H' d = some (.frz od u) ∧ D.nx σ' (upd H' d u), fun v H' => H' d = some (.frz od u) ∧ D.rt v (upd H' d u), fun σ' H' => H' d = some (.frz od u) ∧ D.bk σ' (upd H' d u), fun σ' H' => H' d = some (.frz od u) ∧ D.ct σ' (upd H' d u)⟩ σ (upd H d (.frz od u))
section
variable {X : Cx}
theorem ps_lock {st : Stmt} {t : TS} (h : PS X st t) : PS X st (tLock t) := by
  intro pins s σ H D I hw
  obtain ⟨d, u, hd, mu, hw⟩ := hw
  obtain ⟨od, I1⟩ := I.lock hd mu
  refine thn (h pins s σ _ _ I1 (hw od)) fun f s1 q => ?_
  cases f with
  | next => obtain ⟨σ', H', I2, e, q⟩ := q; exact ⟨σ', _, I2.unlock e (I.nofrz hd mu), q⟩
  | brk => obtain ⟨σ', H', I2, e, q⟩ := q; exact ⟨σ', _, I2.unlock e (I.nofrz hd mu), q⟩
  | cont => obtain ⟨σ', H', I2, e, q⟩ := q; exact ⟨σ', _, I2.unlock e (I.nofrz hd mu), q⟩
  | ret v => obtain ⟨x, σ', H', I2, r, e, q⟩ := q; exact ⟨x, σ', _, I2.unlock e (I.nofrz hd mu), r, q⟩
end
def RgC (i j c : Int) (n : Nat) : Prop := c ≠ 0 ∧ c.natAbs < 1073741824 ∧ Builtin.Range.small i j c = true ∧ Builtin.Range.rangeSize i j c = n
theorem RgC.neg {i j : Int} (ha : -(2 ^ 62) ≤ i) (ha' : i < 2 ^ 62) (hb : -(2 ^ 62) ≤ j) (hb' : j < 2 ^ 62) : RgC i j (-1) (i - j).toNat :=
  ⟨by decide, by decide, PySem.W.small_down ha ha' hb hb', PySem.W.rangeSize_downNat i j⟩
section
variable {X : Cx} {tg : Expr}
end
section
variable {X : Cx} {tg : Expr}
end
section
variable {prog : Program} {w : World} {A : Around} {E : Value → Shared → Prop} {s : Shared}
end
section
variable {X : Cx} {pins : List (Addr × Obj)} {σ : St} {H : Hp} {s : Shared} {d : Addr} {o : Obj}
end
section
variable {P : Program} {w : World} {K : PySem.W.Frag} {tg : Expr} {d : Addr} {o : Obj} {es : Array DictEntry} {ep : Nat}
end
section
variable {X : Cx} {tg e : Expr} {td : TE} {apos cpos : Pos}
end
def Ite (K : PySem.W.Frag) (a : Addr) : It :=
  ⟨fun i H => ∃ (xs : List V) (x : V), SqL K H a xs ∧ xs[i]? = some x, fun i H v H' => ∃ T x, v = .ref T ∧ H T = none ∧ H' = upd H T (.tup [.int (i : Nat), x]) ∧ ∀ xs, SqL K H a xs → xs[i]? = some x, fun i H => ∃ xs : List V, SqL K H a xs ∧ xs.length ≤ i⟩
theorem turn_enum {P : Program} {w : World} {K : PySem.W.Frag} {elts : List Expr} {kk : Nat} {tpos : Pos} (a e it : Addr) :
    Turn P w K (.Tuple elts kk tpos) (Ite K a) [e, it] e (fun i h => (∃ old, IsEnum h e it ((i : Nat) : Int) old) ∧ h.IsListIter it a i ∧ e ≠ it) where
  mem := by simp
  obj := fun i h st b hb => by
    obtain ⟨⟨old, he⟩, ⟨o, ho, hc, hd⟩, _⟩ := st
    have e' : b = e ∨ b = it := by simpa using hb
    rcases e' with z | z
    · rw [z]; exact ⟨_, he, fun v q => nomatch q⟩
    · rw [z]; exact ⟨o, ho, fun v q => by rw [hd] at q; cases q⟩
  keep := fun i h h' st k => let ⟨⟨old, he⟩, hi, hne⟩ := st; ⟨⟨old, k e (by simp) _ he⟩, hi.at fun o q => k it (by simp) o q, hne⟩
  item := by
    intro X hP hw hK hc i pins s σ H E I hf st hg
    subst hP hw hK
    obtain ⟨⟨old, he⟩, hit, hne⟩ := st
    obtain ⟨xs, x, hq, hx⟩ := hg
    obtain ⟨its, rv, p, hz⟩ := I.list hq
    obtain ⟨u, hu, ru⟩ := rv.get hx
    have hel : e < s.heap.objs.size := Heap.lt_size he
    have hil : it < s.heap.objs.size := by obtain ⟨_, q, _⟩ := hit; exact Heap.lt_size q
    refine wpAny_pyNext_enum_item he hit p.isList (x := u) (by simpa using hu) hne fun h' ho hit' hT hsz hk => ?_
    refine ⟨_, rfl, wpAny_letOwnedTupleGo_enum (s := { s with heap := h', toks := s.toks + 1 }) ho fun h'' he' sb => ?_⟩
    have hT2 : h''.get? s.heap.objs.size = some { cls := .type "tuple", data := .seq #[.int i s.toks, u] } := (sb.2 _ (Nat.ne_of_gt hel)).trans hT
    have new : ObjOk X.prog X.w (upd H s.heap.objs.size (.tup [.int (i : Nat), x])) h'' s.heap.objs.size (.tup [.int (i : Nat), x]) :=
      ⟨by show 2 ≤ sizeLine; decide, [.int i s.toks, u], .cons ⟨_, rfl⟩ (.cons ru .nil), ⟨_, hT2, rfl, _, rfl⟩⟩
    have I1 : Inv X pins σ (upd H s.heap.objs.size (.tup [.int (i : Nat), x])) { s with heap := h'', toks := s.toks + 1 } :=
      I.turnedNew (ch := [e, it]) (fun b ob hb q => (sb.2 b (fun z => hb (by simp [z]))).trans (hk b ob (fun z => hb (by simp [z])) (fun z => hb (by simp [z])) q)) hf (Nat.le_refl _) new
    refine ⟨.ref s.heap.objs.size, _, I1, rfl, ⟨_, x, rfl, I.hok.fresh (Nat.le_refl _), rfl, fun ys hy => by rw [I.list_inj hy hq]; exact hx⟩, ⟨⟨u, ?_⟩, hit'.at fun o q => (sb.2 it (Ne.symm hne)).trans q, hne⟩, fun b hb => ?_⟩
    · have e1 : ((i + 1 : Nat) : Int) = (i : Int) + 1 := by omega
      rw [e1]; exact he'
    · have hb' : b < s.heap.objs.size := by
        have e' : b = e ∨ b = it := by simpa using hb
        rcases e' with z | z
        · rw [z]; exact hel
        · rw [z]; exact hil
      rw [upd_ne (Nat.ne_of_lt hb')]
      exact (hf b hb).1
  done := by
    intro X hP hw hK hc i pins s σ H E I hf st hg
    subst hP hw hK
    obtain ⟨⟨old, he⟩, hit, hne⟩ := st
    obtain ⟨xs, hq, hx⟩ := hg
    obtain ⟨its, rv, p, hz⟩ := I.list hq
    obtain ⟨f0, f1, f2, f3, f4, f5⟩ := hf it (by simp)
    have hl := rv.length
    exact wpAny_pyNext_enum_end (I.ok.hd hc) he hit p.isList (by simp; omega) fun h' eb => ⟨rfl, I.turned (t' := s.toks) (fun b o hb q => eb b o hb q) f0 f1 f3 f4 f5⟩
  self := fun A i s Q E st h => let ⟨⟨_, he⟩, _⟩ := st; wpAny_pyIter_enum he h
def iEnum (K : PySem.W.Frag) (ta : TA) : TI := fun σ H R => ta σ H fun vs H1 => ∃ a xs, vs = [.ref a] ∧ SqL K H1 a xs ∧ R (Ite K a) H1
theorem pi_enum {X : Cx} {e : Expr} {ta : TA} {p pos tpos : Pos} {elts : List Expr} {kk : Nat} (hg : Gl X "enumerate") (hm : X.mg "enumerate" = none) (ha : PA X [e] ta) (hs : starEach [e] X.env = [(false, eval e X.env)] := by rfl) :
    PI X (.Tuple elts kk tpos) (.Call (.Name "enumerate" p) [e] [] pos) (iEnum X.K ta) := by
  intro pins s σ H R I h
  refine Call_ (ld_blt I hg hm boot_enumerate (PyProof.Rows.callWith_type1 (thn (ha pos pins s σ H _ I h) fun us s1 ⟨vs, H1, I1, r1, q1⟩ => ?_) hs rfl))
  obtain ⟨a, xs, ex, hq, q⟩ := q1
  subst ex
  cases r1 with
  | cons r rr =>
    cases rr
    cases r
    obtain ⟨its, rv, p', hz⟩ := I1.list hq
    refine call_enumerate_list p'.isList fun h' he hit hsz hk => wpAny_pyIter_enum he ?_
    have I2 : Inv X pins σ H1 { s1 with heap := h' } := I1.kept (t' := s1.toks) hk
    refine ⟨s1.heap.objs.size + 1, [s1.heap.objs.size + 1, s1.heap.objs.size], _, _, H1, rfl, I2, turn_enum a (s1.heap.objs.size + 1) s1.heap.objs.size, ⟨⟨.none, he⟩, hit, Nat.succ_ne_self _⟩, fun b hb => ?_, q⟩
    have e' : b = s1.heap.objs.size + 1 ∨ b = s1.heap.objs.size := by simpa using hb
    have hle : s1.heap.objs.size ≤ b := by
      rcases e' with z | z
      · rw [z]; exact Nat.le_add_right _ _
      · rw [z]; exact Nat.le_refl _
    exact I1.fpOk hle (I1.hok.fresh hle)
theorem boot_zip5 : bootBuiltins "zip" = some (.type "zip") := by decide +kernel
def Itz (K : PySem.W.Frag) (a b : Addr) : It :=
  ⟨fun i H => ∃ (xs ys : List V) (x y : V), SqL K H a xs ∧ SqL K H b ys ∧ xs[i]? = some x ∧ ys[i]? = some y,
    fun i H v H' => ∃ T x y, v = .ref T ∧ H T = none ∧ H' = upd H T (.tup [x, y]) ∧ (∀ xs, SqL K H a xs → xs[i]? = some x) ∧ ∀ ys, SqL K H b ys → ys[i]? = some y,
    fun i H => ∃ xs ys : List V, SqL K H a xs ∧ SqL K H b ys ∧ (xs.length ≤ i ∨ ys.length ≤ i)⟩
theorem turn_zip {P : Program} {w : World} {K : PySem.W.Frag} {elts : List Expr} {kk : Nat} {tpos : Pos} {a b z TI TO i1 i2 : Addr} (D : ZipApart z TI TO i1 i2 a b) :
    Turn P w K (.Tuple elts kk tpos) (Itz K a b) [z, TI, TO, i1, i2] z (fun i h => IsZip h z TI TO .none ∧ IsPair h TI (.ref i1) (.ref i2) ∧ (∃ x y, IsPair h TO x y) ∧ h.IsListIter i1 a i ∧ h.IsListIter i2 b i) where
  mem := by simp
  obj := fun i h st c hc => by
    obtain ⟨hz, hTI, ⟨x, y, hTO⟩, ⟨o1, e1, _, d1⟩, ⟨o2, e2, _, d2⟩⟩ := st
    have e' : c = z ∨ c = TI ∨ c = TO ∨ c = i1 ∨ c = i2 := by simpa using hc
    rcases e' with q | q | q | q | q
    · rw [q]; exact ⟨_, hz, fun v q => nomatch q⟩
    · rw [q]; exact ⟨_, hTI, fun v q => nomatch q⟩
    · rw [q]; exact ⟨_, hTO, fun v q => nomatch q⟩
    · rw [q]; exact ⟨o1, e1, fun v q => by rw [d1] at q; cases q⟩
    · rw [q]; exact ⟨o2, e2, fun v q => by rw [d2] at q; cases q⟩
  keep := fun i h h' st k => by
    obtain ⟨hz, hTI, ⟨x, y, hTO⟩, h1, h2⟩ := st
    exact ⟨k z (by simp) _ hz, k TI (by simp) _ hTI, ⟨x, y, k TO (by simp) _ hTO⟩, h1.at fun o q => k i1 (by simp) o q, h2.at fun o q => k i2 (by simp) o q⟩
  item := by
    intro X hP hw hK hc i pins s σ H E I hf st hg
    subst hP hw hK
    obtain ⟨hz, hTI, ⟨x0, y0, hTO⟩, h1, h2⟩ := st
    obtain ⟨xs, ys, x, y, hqx, hqy, hx, hy⟩ := hg
    obtain ⟨its, rv, p, _⟩ := I.list hqx
    obtain ⟨its2, rv2, p2, _⟩ := I.list hqy
    obtain ⟨u, hu, ru⟩ := rv.get hx
    obtain ⟨u2, hu2, ru2⟩ := rv2.get hy
    have hzl : z < s.heap.objs.size := Heap.lt_size hz
    refine wpAny_pyNext_zip_item D hz hTI hTO h1 h2 p.isList p2.isList (x := u) (y := u2) (by simpa using hu) (by simpa using hu2) fun h' z' TO' h1' h2' hT hsz hk => ?_
    refine ⟨_, rfl, wpAny_letOwnedTupleGo_zip (s := { s with heap := h' }) z' fun h'' z'' sb => ?_⟩
    have hT2 : h''.get? s.heap.objs.size = some { cls := .type "tuple", data := .seq #[u, u2] } := (sb.2 _ (Nat.ne_of_gt hzl)).trans hT
    have new : ObjOk X.prog X.w (upd H s.heap.objs.size (.tup [x, y])) h'' s.heap.objs.size (.tup [x, y]) :=
      ⟨by show 2 ≤ sizeLine; decide, [u, u2], .cons ru (.cons ru2 .nil), ⟨_, hT2, rfl, _, rfl⟩⟩
    have I1 : Inv X pins σ (upd H s.heap.objs.size (.tup [x, y])) { s with heap := h'' } :=
      I.turnedNew (t' := s.toks) (ch := [z, TI, TO, i1, i2]) (fun c o hb q => (sb.2 c (fun q' => hb (by simp [q']))).trans (hk c o (fun q' => hb (by simp [q'])) (fun q' => hb (by simp [q'])) (fun q' => hb (by simp [q'])) (fun q' => hb (by simp [q'])) q)) hf (Nat.le_refl _) new
    refine ⟨.ref s.heap.objs.size, _, I1, rfl, ⟨_, x, y, rfl, I.hok.fresh (Nat.le_refl _), rfl, fun l hl => by rw [I.list_inj hl hqx]; exact hx, fun l hl => by rw [I.list_inj hl hqy]; exact hy⟩, ⟨z'', ?_, ⟨u, u2, ?_⟩, ?_, ?_⟩, fun c hcm => ?_⟩
    · exact (sb.2 _ D.TIz).trans (hk _ _ D.TIz D.TITO D.TIi1 D.TIi2 hTI)
    · exact (sb.2 _ D.TOz).trans TO'
    · exact h1'.at fun o q => (sb.2 _ D.i1z).trans q
    · exact h2'.at fun o q => (sb.2 _ D.i2z).trans q
    · have hlt : c < s.heap.objs.size := by
        have e' : c = z ∨ c = TI ∨ c = TO ∨ c = i1 ∨ c = i2 := by simpa using hcm
        rcases e' with q | q | q | q | q
        · rw [q]; exact hzl
        · rw [q]; exact Heap.lt_size hTI
        · rw [q]; exact Heap.lt_size hTO
        · rw [q]; obtain ⟨_, e1, _⟩ := h1; exact Heap.lt_size e1
        · rw [q]; obtain ⟨_, e2, _⟩ := h2; exact Heap.lt_size e2
      rw [upd_ne (Nat.ne_of_lt hlt)]
      exact (hf c hcm).1
  done := by
    intro X hP hw hK hc i pins s σ H E I hf st hg
    subst hP hw hK
    obtain ⟨hz, hTI, ⟨x0, y0, hTO⟩, h1, h2⟩ := st
    obtain ⟨xs, ys, hqx, hqy, hend⟩ := hg
    obtain ⟨its, rv, p, _⟩ := I.list hqx
    obtain ⟨its2, rv2, p2, _⟩ := I.list hqy
    have l1 := rv.length
    have l2 := rv2.length
    have he : its.toArray[i]? = none ∨ its2.toArray[i]? = none := by
      rcases hend with q | q
      · exact .inl (by simp; omega)
      · exact .inr (by simp; omega)
    exact wpAny_pyNext_zip_end (I.ok.hd hc) D hz hTI hTO h1 h2 p.isList p2.isList he fun h' hk => ⟨rfl, I.turnedL (t' := s.toks) (ch := [z, TI, TO, i1, i2]) (fun c o hb q =>
      hk c o (fun q' => hb (by simp [q'])) (fun q' => hb (by simp [q'])) (fun q' => hb (by simp [q'])) (fun q' => hb (by simp [q'])) q) hf⟩
  self := fun A i s Q E st h => wpAny_pyIter_zip st.1 h
def iZip (K : PySem.W.Frag) (ta : TA) : TI := fun σ H R => ta σ H fun vs H1 => ∃ a b xs ys, vs = [.ref a, .ref b] ∧ SqL K H1 a xs ∧ SqL K H1 b ys ∧ R (Itz K a b) H1
theorem pi_zip {X : Cx} {e e2 : Expr} {ta : TA} {p pos tpos : Pos} {elts : List Expr} {kk : Nat} (hg : Gl X "zip") (hm : X.mg "zip" = none) (ha : PA X [e, e2] ta)
    (hs : starEach [e, e2] X.env = (false, eval e X.env) :: starEach [e2] X.env := by rfl) (hpl : (backTo pos (starEach [e2] X.env)).any (·.1) = false := by rfl) :
    PI X (.Tuple elts kk tpos) (.Call (.Name "zip" p) [e, e2] [] pos) (iZip X.K ta) := by
  intro pins s σ H R I h
  refine Call_ (ld_blt I hg hm boot_zip5 (PyProof.Rows.callWith_type1 (thn (ha pos pins s σ H _ I h) fun us s1 ⟨vs, H1, I1, r1, q1⟩ => ?_) hs hpl))
  obtain ⟨a, b, xs, ys, ex, hqx, hqy, q⟩ := q1
  subst ex
  cases r1 with
  | cons r rr =>
    cases rr with
    | cons r' rr =>
      cases rr
      cases r
      cases r'
      obtain ⟨its, rv, p1, _⟩ := I1.list hqx
      obtain ⟨its2, rv2, p2, _⟩ := I1.list hqy
      have la : a < s1.heap.objs.size := p1.lt
      have lb : b < s1.heap.objs.size := p2.lt
      refine call_zip_2 p1.isList p2.isList fun h' hz hTI hTO h1 h2 hsz hk => wpAny_pyIter_zip hz ?_
      have I2 : Inv X pins σ H1 { s1 with heap := h' } := I1.kept (t' := s1.toks) hk
      refine ⟨s1.heap.objs.size + 4, [s1.heap.objs.size + 4, s1.heap.objs.size + 2, s1.heap.objs.size + 3, s1.heap.objs.size, s1.heap.objs.size + 1], _, _, H1, rfl, I2, turn_zip (PySem.W.ktu_apart s1.heap.objs.size a b la lb), ⟨hz, hTI, ⟨_, _, hTO⟩, h1, h2⟩, fun c hcm => ?_, q⟩
      have e' : c = s1.heap.objs.size + 4 ∨ c = s1.heap.objs.size + 2 ∨ c = s1.heap.objs.size + 3 ∨ c = s1.heap.objs.size ∨ c = s1.heap.objs.size + 1 := by simpa using hcm
      have hle : s1.heap.objs.size ≤ c := by
        rcases e' with z | z | z | z | z
        · rw [z]; exact Nat.le_add_right _ _
        · rw [z]; exact Nat.le_add_right _ _
        · rw [z]; exact Nat.le_add_right _ _
        · rw [z]; exact Nat.le_refl _
        · rw [z]; exact Nat.le_add_right _ _
      exact I1.fpOk hle (I1.hok.fresh hle)
end L2
section 
namespace Bits
open PySem PyProof.Rows
end Bits
end 
section 
namespace TL
open PySem PySem.Builtin PySem.Builtin.Str PySem.StrLaws
abbrev tl (x : Str) : List Nat := x.cps.toList
theorem len_tl (x : Str) : x.length = (tl x).length := by simp [tl, Str.length]
def pre (S l : List Nat) : Bool := l.take S.length == S
def par (S : List Nat) : List Nat → List Nat → Option (List Nat × List Nat)
  | _, [] => none
  | acc, c :: r => if pre S (c :: r) = true then some (acc, (c :: r).drop S.length) else par S (acc ++ [c]) r
theorem len1 {y : Str} (hy : tl y ≠ []) : 1 ≤ y.length := by
  have e2 : 0 < (tl y).length := List.length_pos_iff.mpr hy
  rw [len_tl y]
  exact e2
end TL
end 
namespace L2
open PySem PySem.Spec PyProof.Rows
section
variable {X : Cx} {pins : List (Addr × Obj)} {σ : St} {H : Hp} {s : Shared} {Q : VK}
end
section
variable {X : Cx}
end
section
variable {X : Cx} {o e : Expr} {to te : TE}
end
end L2
namespace L2
open PySem PySem.Spec PyProof.Rows
section
variable {X : Cx}
end
end L2
namespace Att
open PySem PySem.W PySem.Calls PyProof.Rows
section
variable {prog : Program} {w : World} {A : Around} {E : Value → Shared → Prop} {s : Shared} {K : Frag}
end
end Att
namespace L2
open PySem PySem.Spec PyProof.Rows
end L2
namespace L2
open PySem PySem.Spec PyProof.Rows
end L2
namespace L2
open PySem PySem.Spec PyProof.Rows
def inClass (s : Stmt) (j : Nat) : Stmt := match s with
  | .ClassDef _ _ _ body _ _ _ _ _ _ _ => body.getD j (.Pass ⟨0, 0, 0, 0⟩)
  | _ => .Pass ⟨0, 0, 0, 0⟩
def defArgs (s : Stmt) : Arguments := match s with
  | .FunctionDef _ a _ _ _ _ _ _ _ _ => a
  | _ => { posonlyargs := [], args := [], vararg := none, kwonlyargs := [], kw_defaults := [], kwarg := none, defaults := [] }
def defBody (s : Stmt) : List Stmt := match s with
  | .FunctionDef _ _ b _ _ _ _ _ _ _ => b
  | _ => []
def defScope (s : Stmt) : Scope := match s with
  | .FunctionDef _ _ _ _ _ _ sc _ _ _ => sc
  | _ => { kind := .function, names := [], isGenerator := false, isCoroutine := false }
abbrev CX0 : CXT := fun _ _ _ _ _ _ => False
abbrev E0 : XK := fun _ _ _ => False
theorem pass0 {X : Cx} : Passes CX0 X E0 := fun _ _ _ _ _ _ _ h => h.elim
structure Fun (K : PySem.W.Frag) (x qual : Str) (st : Stmt) (f : Addr) (fd : FuncData) : Prop where
  ex : ∃ (oc : Value) (od : Option Addr) (kV doc pm : Value) (an : Option Addr) (cdv ct : Value) (osl : Array (Option Value)),
    fd = PySem.W.fnOf x qual (defArgs st) (defBody st) (defScope st) .none kV doc pm an cdv ct ∧ K.lookup f = some ⟨oc, od, .func fd, osl⟩ ∧ PySem.W.codeIn K cdv qual = true
  kp : PySem.W.keepIn K (.ref f) = true
section
variable {P : Program} {w : World} {K : PySem.W.Frag} {mg : Str → Option Value} {base : Heap}
theorem Fun.ok {x qual : Str} {st : Stmt} {f : Addr} {fd : FuncData} {N ps : List Str} {k : Nat} {sp : Sp} (F : Fun K x qual st f fd) (S : FnScope N ps (defScope st)) (len : ∀ vs H Q E, sp vs H Q E → vs.length = ps.length)
    (hbody : ∀ (cdv : Value) (A : Around) (outer : List Env) (s : Shared) (H : Hp) (vs : List V) (Q : VK) (E : XK), Room k (A.deeper (envOfC qual (defScope st) s.heap.objs.size f cdv)) → sp vs H Q E →
      ∃ t, PSs (cxOf CX0 P w K mg base N qual (defScope st) f cdv A outer s H E).nox (defBody st) t ∧ t { nx := fun _ H' => Q .non H', rt := Q } (start N vs) H) : FnOk P w K mg base CX0 (k + 1) f fd ps sp := by
  obtain ⟨oc, od, kV, doc, pm, an, cdv, ct, osl, rfl, lk, hcd⟩ := F.ex
  refine fn_of lk hcd S len fun A outer s H vs Q E hr hsp => ?_
  obtain ⟨t, h, q⟩ := hbody cdv A outer s H vs Q E hr hsp
  exact ⟨t, h.nox, q⟩
theorem Fun.binds {x qual : Str} {st : Stmt} {f : Addr} {fd : FuncData} {ps : List Str} (F : Fun K x qual st f fd)
    (h : ∀ (kV doc pm : Value) (an : Option Addr) (cdv ct : Value) (us : List Value), us.length = ps.length → bindArgs (PySem.W.fnOf x qual (defArgs st) (defBody st) (defScope st) .none kV doc pm an cdv ct) ⟨us, []⟩ = pure (ps.zip us)) : Binds K fd ps [] := by
  obtain ⟨oc, od, kV, doc, pm, an, cdv, ct, osl, rfl, lk, hcd⟩ := F.ex
  exact .all (h kV doc pm an cdv ct)
theorem fun_mk {x qual : Str} {st : Stmt} {f : Addr} {oc : Value} {od an : Option Addr} {osl : Array (Option Value)} {kV doc pm cdv ct : Value} (l : K.lookup f = some ⟨oc, od, .func (PySem.W.fnOf x qual (defArgs st) (defBody st) (defScope st) .none kV doc pm an cdv ct), osl⟩)
    (c : PySem.W.codeIn K cdv qual = true) (k : PySem.W.keepIn K (.ref f) = true) : Fun K x qual st f (PySem.W.fnOf x qual (defArgs st) (defBody st) (defScope st) .none kV doc pm an cdv ct) := ⟨⟨oc, od, kV, doc, pm, an, cdv, ct, osl, rfl, l, c⟩, k⟩
end
theorem small1000 {n : Nat} (h : n ≤ 1000) : n < sizeLine := Nat.lt_of_le_of_lt h (by decide)
section
variable {X : Cx}
theorem pv (i : Nat) {x : Str} {pos : Pos} (hN : X.N[i]? = some x := by rfl) (hv : Vis X.env.scope x := by first | exact Or.inl rfl | exact Or.inr (Or.inl rfl) | exact Or.inr (Or.inr rfl)) (hd : (x == ("__debug__" : Str)) = false := by decide)
    (hcd : (x == ("__classdict__" : Str)) = false := by decide) : PE X (.Name x pos) (tVar i) := pe_var hN hv hd hcd
end
theorem iteF {A B : Prop} (h : B) : if false = true then A else B := by
  rw [if_neg Bool.false_ne_true]
  exact h
theorem iteT {A B : Prop} (h : A) : if true = true then A else B := by
  rw [if_pos rfl]
  exact h
def Same (H H' : Hp) : Prop := ∀ b o, H b = some o → H' b = some o
theorem Same.refl (H : Hp) : Same H H := fun _ _ h => h
theorem Same.trans {H H1 H2 : Hp} (a : Same H H1) (b : Same H1 H2) : Same H H2 := fun c o h => b c o (a c o h)
theorem Same.free {H H' : Hp} (e : Same H H') {l : Addr} (h : H' l = Option.none) : H l = Option.none := by
  cases q : H l with
  | none => rfl
  | some o =>
    rw [e l o q] at h
    cases h
theorem Same.seq {K : PySem.W.Frag} {H H' : Hp} {a : Addr} {xs : List V} (e : Same H H') (h : SqL K H a xs) : SqL K H' a xs := by
  rcases h with (h | ⟨o, h⟩) | h
  · exact .inl (.inl (e _ _ h))
  · exact .inl (.inr ⟨o, e _ _ h⟩)
  · exact .inr h
section
variable {κ : Type} [DecidableEq κ]
end
theorem at_of {xs : List V} {z : Int} {j : Nat} {v : V} (e : z = (j : Int)) (h : xs[j]? = some v) : atI xs z = some v := by
  rw [e]
  exact atI_nat h
theorem Same.made {H H1 : Hp} {x dx C : Addr} (nx : H x = Option.none) (nd : H dx = Option.none) (k : ∀ b o, (upd (upd H dx (.own x)) x (.ins C dx [])) b = some o → b ≠ x → H1 b = some o) : Same H H1 := fun b o e =>
  k b o (by rw [upd_ne (ne_of_none e nx), upd_ne (ne_of_none e nd)]; exact e) (ne_of_none e nx)
end L2
section
set_option Elab.async false
set_option linter.all false
set_option maxRecDepth 100000
set_option maxHeartbeats 2000000
namespace L2
open PySem PySem.Spec PyProof.Rows
open PySem.W (WData Codec OpenSpec Well WellAll ReadsW ReadsAllW)
mutual
/-- x stands for the datum d, lists and tuples all the way -/
inductive Dw (K : PySem.W.Frag) (H : Hp) : V → WData → Prop
  | non : Dw K H .non .none
  | bl (b : Bool) : Dw K H (.bl b) (.bool b)
  | int (i : Int) : Dw K H (.int i) (.int i)
  | str (x : Str) : Dw K H (.str x) (.str x)
  | byt (b : Array UInt8) : Dw K H (.byt b) (.bytes b.toList)
  | lst {a : Addr} {xs : List V} {ds : List WData} : SqL K H a xs → DwAll K H xs ds → Dw K H (.ref a) (.list ds)
  | tup {a : Addr} {xs : List V} {ds : List WData} : SqT K H a xs → DwAll K H xs ds → Dw K H (.ref a) (.tuple ds)
inductive DwAll (K : PySem.W.Frag) (H : Hp) : List V → List WData → Prop
  | nil : DwAll K H [] []
  | cons {v : V} {vs : List V} {d : WData} {ds : List WData} : Dw K H v d → DwAll K H vs ds → DwAll K H (v :: vs) (d :: ds)
end
theorem dw_ints {K : PySem.W.Frag} {H : Hp} : ∀ ns : List Int, DwAll K H (ns.map V.int) (ns.map WData.int)
  | [] => .nil
  | n :: r => .cons (.int n) (dw_ints r)
theorem ints_dw {K : PySem.W.Frag} {H : Hp} : ∀ (ns : List Int) (xs : List V), DwAll K H xs (ns.map WData.int) → xs = ns.map V.int
  | [], xs, h => by
    cases h
    rfl
  | n :: r, xs, h => by
    cases h with
    | cons h1 h2 =>
      cases h1
      rw [ints_dw r _ h2] <;> rfl
section
variable {P : Program} {w : World} {K : PySem.W.Frag} {H : Hp} {h : Heap} {R : PySem.W.WRecords} {cl : Str → Option Addr}
theorem sqL_at {a : Addr} {xs : List V} (hok : HOk P w H h) (KX : K.In h) (q : SqL K H a xs) : ∃ (its : List Value) (o : Obj) (n : Nat), Vals xs its ∧ h.get? a = some o ∧ o.cls = .type "list" ∧ o.data = .seq its.toArray n := by
  rcases q with q | ⟨o, its, n, e, hc, _, hd, _, hv⟩
  · obtain ⟨_, its, n, hv, e⟩ := (show ObjOk P w H h a (.lst xs) from q.ok hok)
    exact ⟨its, _, n, hv, e, rfl, rfl⟩
  · exact ⟨its.toList, o, n, hv, KX _ _ e, hc, by simp [hd]⟩
theorem sqT_at {a : Addr} {xs : List V} (hok : HOk P w H h) (KX : K.In h) (q : SqT K H a xs) : ∃ (its : List Value) (o : Obj) (n : Nat), Vals xs its ∧ h.get? a = some o ∧ o.cls = .type "tuple" ∧ o.data = .seq its.toArray n := by
  rcases q with q | ⟨o, its, n, e, hc, hd, _, hv⟩
  · obtain ⟨_, its, hv, o, e, hc, n, hd⟩ := (show ObjOk P w H h a (.tup xs) from q.ok hok)
    exact ⟨its, o, n, hv, e, hc, hd⟩
  · exact ⟨its.toList, o, n, hv, KX _ _ e, hc, by simp [hd]⟩
mutual
theorem Dw.reads (hok : HOk P w H h) (KX : K.In h) : ∀ (d : WData) (v : V) (u : Value), Dw K H v d → RelV v u → ∃ as, ReadsW R cl h u d as
  | .none, _, _, x, r => by
    cases x
    cases r
    exact ⟨_, ReadsW.none⟩
  | .bool b, _, _, x, r => by
    cases x
    cases r
    exact ⟨_, ReadsW.bool b⟩
  | .int i, _, _, x, r => by
    cases x
    obtain ⟨t, rfl⟩ := r
    exact ⟨_, ReadsW.int i t⟩
  | .str s, _, _, x, r => by
    cases x
    obtain ⟨t, rfl⟩ := r
    exact ⟨_, ReadsW.str s t⟩
  | .bytes b, _, _, x, r => by
    cases x
    obtain ⟨t, rfl⟩ := r
    exact ⟨_, ReadsW.bytes _ t⟩
  | .list ds, _, _, x, r => by
    cases x with
    | lst hs ha =>
      cases r
      obtain ⟨its, o, n, rv, ho, hc, hd⟩ := sqL_at hok KX hs
      obtain ⟨as, hr⟩ := Dw.readsAll hok KX ds _ its ha rv
      exact ⟨_, ReadsW.list ho hc hd hr⟩
  | .tuple ds, _, _, x, r => by
    cases x with
    | tup hs ha =>
      cases r
      obtain ⟨its, o, n, rv, ho, hc, hd⟩ := sqT_at hok KX hs
      obtain ⟨as, hr⟩ := Dw.readsAll hok KX ds _ its ha rv
      exact ⟨_, ReadsW.tuple ho hc hd hr⟩
  | .float _, _, _, x, _ => by cases x
  | .dict _, _, _, x, _ => by cases x
  | .bytearray _, _, _, x, _ => by cases x
  | .set _, _, _, x, _ => by cases x
  | .frozenset _, _, _, x, _ => by cases x
  | .obj _ _, _, _, x, _ => by cases x
theorem Dw.readsAll (hok : HOk P w H h) (KX : K.In h) : ∀ (ds : List WData) (vs : List V) (us : List Value), DwAll K H vs ds → Vals vs us → ∃ as, ReadsAllW R cl h us ds as
  | [], _, _, x, r => by
    cases x
    cases r
    exact ⟨_, ReadsAllW.nil⟩
  | d :: ds, _, _, x, r => by
    cases x with
    | cons h1 h2 =>
      cases r with
      | cons r1 r2 =>
        obtain ⟨as, q1⟩ := Dw.reads hok KX d _ _ h1 r1
        obtain ⟨bs, q2⟩ := Dw.readsAll hok KX ds _ _ h2 r2
        exact ⟨_, ReadsAllW.cons q1 q2⟩
end
end
mutual
/-- data that a codec tells -/
def plW : WData → Bool
  | .none => true
  | .bool _ => true
  | .int _ => true
  | .str _ => true
  | .bytes _ => true
  | .list xs => plWs xs
  | .tuple xs => plWs xs
  | _ => false
def plWs : List WData → Bool
  | [] => true
  | x :: r => plW x && plWs r
end
theorem plWs_map {α : Type} {f : α → WData} (h : ∀ a, plW (f a) = true) : ∀ l : List α, plWs (l.map f) = true
  | [] => rfl
  | x :: r => by
    show (plW (f x) && plWs (r.map f)) = true
    rw [h x, plWs_map h r] <;> rfl
theorem pl_enc : ∀ (c : Codec) (a : c.denote), plW (c.enc a) = true
  | .unit, _ => rfl
  | .bool, _ => rfl
  | .int _ _, _ => rfl
  | .nat _ _, _ => rfl
  | .u8, _ => rfl
  | .bytes _ _, _ => rfl
  | .text _ _ _ _, _ => rfl
  | .list _ _ c, a => plWs_map (fun x => pl_enc c x) a
  | .pair c d, a => by
    show (plW (c.enc a.1) && (plW (d.enc a.2) && true)) = true
    rw [pl_enc c a.1, pl_enc d a.2] <;> rfl
  | .triple c d e, a => by
    show (plW (c.enc a.1) && (plW (d.enc a.2.1) && (plW (e.enc a.2.2) && true))) = true
    rw [pl_enc c a.1, pl_enc d a.2.1, pl_enc e a.2.2] <;> rfl
  | .option c, none => rfl
  | .option c, some x => pl_enc c x
theorem pl_encAll : ∀ (cs : List Codec) (a : Codec.denoteAll cs), plWs (Codec.encAll cs a) = true
  | [], _ => rfl
  | c :: cs, a => by
    show (plW (c.enc a.1) && plWs (Codec.encAll cs a.2)) = true
    rw [pl_enc c a.1, pl_encAll cs a.2] <;> rfl
theorem weight_mem : ∀ {xs : List WData} {d : WData}, d ∈ xs → d.weight ≤ WData.weightAll xs
  | [], d, h => absurd h (by simp)
  | x :: r, d, h => by
    show d.weight ≤ x.weight + 1 + WData.weightAll r
    rcases List.mem_cons.mp h with e | m
    · rw [e]
      omega
    · have z := weight_mem m
      omega
def toV : Value → V
  | .none => .non
  | .bool b => .bl b
  | .int i _ => .int i
  | .str x _ => .str x
  | .bytes b _ => .byt b
  | .ref a => .ref a
  | _ => .non
def OkU (A : List Addr) : Value → Prop
  | .none => True
  | .bool _ => True
  | .int _ _ => True
  | .str _ _ => True
  | .bytes _ _ => True
  | .ref a => a ∈ A
  | _ => False
theorem OkU.mono {A B : List Addr} (h : ∀ a ∈ A, a ∈ B) : ∀ {u : Value}, OkU A u → OkU B u := fun {u} x => by
  cases u with
  | ref a => exact h a x
  | none => trivial
  | bool b => trivial
  | int i t => trivial
  | str s t => trivial
  | bytes b t => trivial
  | _ => exact False.elim x
theorem relV_toV {A : List Addr} {u : Value} (x : OkU A u) : RelV (toV u) u := by
  cases u with
  | ref a => rfl
  | none => rfl
  | bool b => rfl
  | int i t => exact ⟨t, rfl⟩
  | str s t => exact ⟨t, rfl⟩
  | bytes b t => exact ⟨t, rfl⟩
  | _ => exact False.elim x
theorem vals_toV {A : List Addr} : ∀ {vs : List Value}, (∀ u ∈ vs, OkU A u) → Vals (vs.map toV) vs
  | [], _ => .nil
  | u :: r, h => .cons (relV_toV (h u (List.mem_cons_self ..))) (vals_toV fun x hx => h x (List.mem_cons_of_mem _ hx))
def ArgOb (h : Heap) (A : List Addr) (a : Addr) : Prop := ∃ vs : List Value, vs.length ≤ sizeLine ∧ (∀ u ∈ vs, OkU A u) ∧
  (h.get? a = some { cls := .type "list", data := .seq vs.toArray } ∨ h.get? a = some { cls := .type "tuple", data := .seq vs.toArray })
theorem ArgOb.mono {h : Heap} {A B : List Addr} {a : Addr} (k : ∀ a ∈ A, a ∈ B) (x : ArgOb h A a) : ArgOb h B a := by
  obtain ⟨vs, h1, h2, h3⟩ := x
  exact ⟨vs, h1, fun u hu => (h2 u hu).mono k, h3⟩
theorem wellAll_len {P : Params} {h : Heap} : ∀ {vs : List Value} {ds : List WData}, WellAll P h vs ds → vs.length = ds.length
  | _, _, .nil => rfl
  | _, _, .cons _ b => by
    show _ + 1 = _ + 1
    rw [wellAll_len b]
theorem well_list {P : Params} {h : Heap} {v : Value} {ds : List WData} (x : Well P h v (.list ds)) : ∃ (a : Addr) (vs : List Value), v = .ref a ∧ h.get? a = some { cls := .type "list", data := .seq vs.toArray } ∧ WellAll P h vs ds := by
  cases x with
  | list ho hall => exact ⟨_, _, rfl, ho, hall⟩
theorem well_tuple {P : Params} {h : Heap} {v : Value} {ds : List WData} (x : Well P h v (.tuple ds)) : ∃ (a : Addr) (vs : List Value), v = .ref a ∧ h.get? a = some { cls := .type "tuple", data := .seq vs.toArray } ∧ WellAll P h vs ds := by
  cases x with
  | tuple ho hall => exact ⟨_, _, rfl, ho, hall⟩
theorem well_cons {P : Params} {h : Heap} {us : List Value} {d : WData} {ds : List WData} (x : WellAll P h us (d :: ds)) : ∃ (v : Value) (vs : List Value), us = v :: vs ∧ Well P h v d ∧ WellAll P h vs ds := by
  cases x with
  | cons a b => exact ⟨_, _, rfl, a, b⟩
theorem line_of {n : Nat} (h : n ≤ 1048576) : n ≤ sizeLine := Nat.le_trans h (by decide)
section
variable {P : Params} {h : Heap}
mutual
theorem area_one : ∀ (d : WData) (v : Value), Well P h v d → plW d = true → d.weight ≤ 1048576 → ∃ A : List Addr, OkU A v ∧ ∀ a ∈ A, ArgOb h A a
  | .none, _, x, _, _ => by
    cases x
    exact ⟨[], trivial, fun a m => absurd m (by simp)⟩
  | .bool b, _, x, _, _ => by
    cases x
    exact ⟨[], trivial, fun a m => absurd m (by simp)⟩
  | .int i, _, x, _, _ => by
    cases x
    exact ⟨[], trivial, fun a m => absurd m (by simp)⟩
  | .str s, _, x, _, _ => by
    cases x
    exact ⟨[], trivial, fun a m => absurd m (by simp)⟩
  | .bytes b, _, x, _, _ => by
    cases x
    exact ⟨[], trivial, fun a m => absurd m (by simp)⟩
  | .list ds, _, x, p, z => by
    obtain ⟨a, vs, rfl, ho, hall⟩ := well_list x
    have z2 : WData.weightAll ds ≤ 1048576 := z
    obtain ⟨A, h1, h2⟩ := area_all ds _ hall p fun d hd => Nat.le_trans (weight_mem hd) z2
    have k : ∀ b ∈ A, b ∈ a :: A := fun b hb => List.mem_cons_of_mem _ hb
    refine ⟨a :: A, List.mem_cons_self .., fun b hb => ?_⟩
    rcases List.mem_cons.mp hb with e | m
    · rw [e]
      exact ⟨vs, line_of (by rw [wellAll_len hall]; exact Nat.le_trans (PySem.W.length_le_weightAllW ds) z2), fun u hu => (h1 u hu).mono k, .inl ho⟩
    · exact (h2 b m).mono k
  | .tuple ds, _, x, p, z => by
    obtain ⟨a, vs, rfl, ho, hall⟩ := well_tuple x
    have z2 : WData.weightAll ds ≤ 1048576 := z
    obtain ⟨A, h1, h2⟩ := area_all ds _ hall p fun d hd => Nat.le_trans (weight_mem hd) z2
    have k : ∀ b ∈ A, b ∈ a :: A := fun b hb => List.mem_cons_of_mem _ hb
    refine ⟨a :: A, List.mem_cons_self .., fun b hb => ?_⟩
    rcases List.mem_cons.mp hb with e | m
    · rw [e]
      exact ⟨vs, line_of (by rw [wellAll_len hall]; exact Nat.le_trans (PySem.W.length_le_weightAllW ds) z2), fun u hu => (h1 u hu).mono k, .inr ho⟩
    · exact (h2 b m).mono k
  | .float _, _, _, p, _ => Bool.noConfusion (show false = true from p)
  | .dict _, _, _, p, _ => Bool.noConfusion (show false = true from p)
  | .bytearray _, _, _, p, _ => Bool.noConfusion (show false = true from p)
  | .set _, _, _, p, _ => Bool.noConfusion (show false = true from p)
  | .frozenset _, _, _, p, _ => Bool.noConfusion (show false = true from p)
  | .obj _ _, _, _, p, _ => Bool.noConfusion (show false = true from p)
theorem area_all : ∀ (ds : List WData) (vs : List Value), WellAll P h vs ds → plWs ds = true → (∀ d ∈ ds, d.weight ≤ 1048576) → ∃ A : List Addr, (∀ u ∈ vs, OkU A u) ∧ ∀ a ∈ A, ArgOb h A a
  | [], _, x, _, _ => by
    cases x
    exact ⟨[], fun u m => absurd m (by simp), fun a m => absurd m (by simp)⟩
  | d :: ds, _, x, p, z => by
    obtain ⟨v, vs, rfl, x1, x2⟩ := well_cons x
    have q : plW d = true ∧ plWs ds = true := Bool.and_eq_true_iff.mp p
    obtain ⟨A, a1, a2⟩ := area_one d v x1 q.1 (z d (List.mem_cons_self ..))
    obtain ⟨B, b1, b2⟩ := area_all ds vs x2 q.2 fun e he => z e (List.mem_cons_of_mem _ he)
    have kA : ∀ b ∈ A, b ∈ A ++ B := fun b hb => List.mem_append.mpr (.inl hb)
    have kB : ∀ b ∈ B, b ∈ A ++ B := fun b hb => List.mem_append.mpr (.inr hb)
    refine ⟨A ++ B, fun u hu => ?_, fun b hb => ?_⟩
    · rcases List.mem_cons.mp hu with e | m
      · rw [e]
        exact a1.mono kA
      · exact (b1 u m).mono kB
    · rcases List.mem_append.mp hb with m | m
      · exact (a2 b m).mono kA
      · exact (b2 b m).mono kB
end
end
def hoOf (o : Obj) : Option HO := match o.data with
  | .seq vs _ => if (o.cls == Value.type "list") = true then some (.frz o (.lst (vs.toList.map toV))) else some (.frz o (.tup (vs.toList.map toV)))
  | _ => none
def argH (K : PySem.W.Frag) (h : Heap) (A : List Addr) : Hp := fun b => if b ∈ A then (if (K.lookup b).isNone = true then (h.get? b).bind hoOf else none) else none
def OnlyF (H : Hp) : Prop := ∀ b, H b = none ∨ ∃ o u, H b = some (.frz o u)
theorem hoOf_lst (vs : List Value) : hoOf { cls := .type "list", data := .seq vs.toArray } = some (.frz { cls := .type "list", data := .seq vs.toArray } (.lst (vs.map toV))) := by
  show (if (Value.type "list" == Value.type "list") = true then some (HO.frz { cls := .type "list", data := .seq vs.toArray } (.lst (vs.toArray.toList.map toV))) else some (HO.frz { cls := .type "list", data := .seq vs.toArray } (.tup (vs.toArray.toList.map toV)))) = _
  rw [if_pos (beq_self_eq_true _)]
theorem hoOf_tup (vs : List Value) : hoOf { cls := .type "tuple", data := .seq vs.toArray } = some (.frz { cls := .type "tuple", data := .seq vs.toArray } (.tup (vs.map toV))) := by
  show (if (Value.type "tuple" == Value.type "list") = true then some (HO.frz { cls := .type "tuple", data := .seq vs.toArray } (.lst (vs.toArray.toList.map toV))) else some (HO.frz { cls := .type "tuple", data := .seq vs.toArray } (.tup (vs.toArray.toList.map toV)))) = _
  rw [if_neg (by decide)]
section
variable {P : Program} {w : World} {K : PySem.W.Frag} {h : Heap} {A : List Addr}
theorem argH_at {b : Addr} {o : Obj} (hb : b ∈ A) (hk : K.lookup b = none) (e : h.get? b = some o) : argH K h A b = hoOf o := by
  unfold argH
  rw [if_pos hb, hk, if_pos (show (none : Option Obj).isNone = true from rfl), e] <;> rfl
theorem of_argH {b : Addr} {u : HO} (q : argH K h A b = some u) : b ∈ A ∧ K.lookup b = none := by
  unfold argH at q
  by_cases hb : b ∈ A
  · rw [if_pos hb] at q
    cases hk : K.lookup b with
    | none => exact ⟨hb, rfl⟩
    | some o =>
      rw [hk, if_neg (by simp)] at q
      cases q
  · rw [if_neg hb] at q
    cases q
theorem argH_is (ar : ∀ a ∈ A, ArgOb h A a) {b : Addr} {u : HO} (q : argH K h A b = some u) : K.lookup b = none ∧ ∃ vs : List Value, vs.length ≤ sizeLine ∧ (∀ u ∈ vs, OkU A u) ∧
    ((h.get? b = some { cls := .type "list", data := .seq vs.toArray } ∧ u = .frz { cls := .type "list", data := .seq vs.toArray } (.lst (vs.map toV))) ∨
     (h.get? b = some { cls := .type "tuple", data := .seq vs.toArray } ∧ u = .frz { cls := .type "tuple", data := .seq vs.toArray } (.tup (vs.map toV)))) := by
  obtain ⟨hb, hk⟩ := of_argH q
  obtain ⟨vs, h1, h2, h3⟩ := ar b hb
  refine ⟨hk, vs, h1, h2, ?_⟩
  rcases h3 with e | e
  · rw [argH_at hb hk e, hoOf_lst] at q
    exact .inl ⟨e, (Option.some.inj q).symm⟩
  · rw [argH_at hb hk e, hoOf_tup] at q
    exact .inr ⟨e, (Option.some.inj q).symm⟩
theorem argH_only (ar : ∀ a ∈ A, ArgOb h A a) : OnlyF (argH K h A) := fun b => by
  cases q : argH K h A b with
  | none => exact .inl rfl
  | some u =>
    obtain ⟨_, vs, _, _, ⟨_, e⟩ | ⟨_, e⟩⟩ := argH_is ar q
    · exact .inr ⟨_, _, by rw [e]⟩
    · exact .inr ⟨_, _, by rw [e]⟩
theorem argH_ok (ar : ∀ a ∈ A, ArgOb h A a) : HOk P w (argH K h A) h := fun b u q => by
  obtain ⟨_, vs, h1, h2, ⟨e, rfl⟩ | ⟨e, rfl⟩⟩ := argH_is ar q
  · exact ⟨e, by rw [List.length_map]; exact h1, vs, _, vals_toV h2, e⟩
  · exact ⟨e, by rw [List.length_map]; exact h1, vs, vals_toV h2, _, e, rfl, _, rfl⟩
theorem seq_inj {c c' : Value} {vs us : List Value} (e : (some { cls := c, data := .seq vs.toArray } : Option Obj) = some { cls := c', data := .seq us.toArray }) : c = c' ∧ vs = us := by
  have e1 := Option.some.inj e
  have e2 : c = c' := congrArg Obj.cls e1
  have e3 : Data.seq vs.toArray = Data.seq us.toArray := congrArg Obj.data e1
  injection e3 with e4
  refine ⟨e2, ?_⟩
  have e5 := congrArg Array.toList e4
  simpa using e5
theorem argL (KX : K.In h) (ar : ∀ a ∈ A, ArgOb h A a) {a : Addr} {vs : List Value} (ha : a ∈ A) (e : h.get? a = some { cls := .type "list", data := .seq vs.toArray }) : (∀ u ∈ vs, OkU A u) ∧ SqL K (argH K h A) a (vs.map toV) := by
  obtain ⟨us, h1, h2, h3⟩ := ar a ha
  have hu : us = vs := by
    rcases h3 with q | q
    · rw [e] at q
      exact (seq_inj q).2.symm
    · rw [e] at q
      exact absurd (Value.type.inj (seq_inj q).1) (by decide)
  subst hu
  refine ⟨h2, ?_⟩
  cases hk : K.lookup a with
  | none => exact .inl (.inr ⟨_, by rw [argH_at ha hk e, hoOf_lst]⟩)
  | some o =>
    have e2 := KX a o hk
    rw [e] at e2
    obtain rfl := Option.some.inj e2
    exact .inr ⟨_, us.toArray, _, hk, rfl, rfl, rfl, by rw [List.size_toArray]; exact h1, by simpa using vals_toV h2⟩
theorem argT (KX : K.In h) (ar : ∀ a ∈ A, ArgOb h A a) {a : Addr} {vs : List Value} (ha : a ∈ A) (e : h.get? a = some { cls := .type "tuple", data := .seq vs.toArray }) : (∀ u ∈ vs, OkU A u) ∧ SqT K (argH K h A) a (vs.map toV) := by
  obtain ⟨us, h1, h2, h3⟩ := ar a ha
  have hu : us = vs := by
    rcases h3 with q | q
    · rw [e] at q
      exact absurd (Value.type.inj (seq_inj q).1) (by decide)
    · rw [e] at q
      exact (seq_inj q).2.symm
  subst hu
  refine ⟨h2, ?_⟩
  cases hk : K.lookup a with
  | none => exact .inl (.inr ⟨_, by rw [argH_at ha hk e, hoOf_tup]⟩)
  | some o =>
    have e2 := KX a o hk
    rw [e] at e2
    obtain rfl := Option.some.inj e2
    exact .inr ⟨_, us.toArray, _, hk, rfl, rfl, by rw [List.size_toArray]; exact h1, by simpa using vals_toV h2⟩
mutual
theorem dw_one {Pm : Params} (KX : K.In h) (ar : ∀ a ∈ A, ArgOb h A a) : ∀ (d : WData) (v : Value), Well Pm h v d → plW d = true → OkU A v → Dw K (argH K h A) (toV v) d
  | .none, _, x, _, _ => by
    cases x
    exact .non
  | .bool b, _, x, _, _ => by
    cases x
    exact .bl b
  | .int i, _, x, _, _ => by
    cases x
    exact .int i
  | .str s, _, x, _, _ => by
    cases x
    exact .str s
  | .bytes b, _, x, _, _ => by
    cases x
    have z := Dw.byt (K := K) (H := argH K h A) b.toArray
    exact z
  | .list ds, _, x, p, hu => by
    obtain ⟨a, vs, rfl, ho, hall⟩ := well_list x
    obtain ⟨h2, hs⟩ := argL KX ar hu ho
    exact .lst hs (dw_all KX ar ds _ hall p h2)
  | .tuple ds, _, x, p, hu => by
    obtain ⟨a, vs, rfl, ho, hall⟩ := well_tuple x
    obtain ⟨h2, hs⟩ := argT KX ar hu ho
    exact .tup hs (dw_all KX ar ds _ hall p h2)
  | .float _, _, _, p, _ => Bool.noConfusion (show false = true from p)
  | .dict _, _, _, p, _ => Bool.noConfusion (show false = true from p)
  | .bytearray _, _, _, p, _ => Bool.noConfusion (show false = true from p)
  | .set _, _, _, p, _ => Bool.noConfusion (show false = true from p)
  | .frozenset _, _, _, p, _ => Bool.noConfusion (show false = true from p)
  | .obj _ _, _, _, p, _ => Bool.noConfusion (show false = true from p)
theorem dw_all {Pm : Params} (KX : K.In h) (ar : ∀ a ∈ A, ArgOb h A a) : ∀ (ds : List WData) (vs : List Value), WellAll Pm h vs ds → plWs ds = true → (∀ u ∈ vs, OkU A u) → DwAll K (argH K h A) (vs.map toV) ds
  | [], _, x, _, _ => by
    cases x
    exact .nil
  | d :: ds, _, x, p, hu => by
    obtain ⟨v, vs, rfl, x1, x2⟩ := well_cons x
    have q : plW d = true ∧ plWs ds = true := Bool.and_eq_true_iff.mp p
    exact .cons (dw_one KX ar d v x1 q.1 (hu _ (List.mem_cons_self ..))) (dw_all KX ar ds vs x2 q.2 fun u m => hu u (List.mem_cons_of_mem _ m))
end
end
theorem spec_call {P : Program} {w : World} {K : PySem.W.Frag} {mg mb : Str → Option Value} {CX : CXT} {k : Nat} {fa : Addr} {fd : FuncData} {ps : List Str} {sp : Sp} {s₁ : Shared} {vals : List Value} {ds : List WData} {R : PySem.W.WRecords} {cl : Str → Option Addr} {d0 : WData}
    (KX : K.In s₁.heap) (hns : s₁.heap.Ns mainGlobals mg) (hb : s₁.heap.Ns builtinsNs mb) (hbb : ∀ x : Str, x ≠ "__name__" → mb x = bootBuiltins x) (hlim : s₁.heap.NoLimit) (hg : s₁.gens = #[])
    (hwl : WellAll w.params s₁.heap vals ds) (hpl : plWs ds = true) (hwt : ∀ d ∈ ds, d.weight ≤ 1048576) (hr : Room k callerA)
    (F : ∀ base : Heap, K.In base → base.Ns mainGlobals mg → FnOk P w K mg base CX k fa fd ps sp) (hbind : ∀ (s : Shared) (us : List Value), us.length = ps.length → BindsTo s fd ⟨us, []⟩ (ps.zip us)) (hlen : ds.length = ps.length)
    (hsp : ∀ (H : Hp) (xs : List V), OnlyF H → DwAll K H xs ds → sp xs H (fun v H' => Dw K H' v d0) fun _ _ _ => False)
    (hCX : ∀ H e s', CX [] H s₁ (fun _ _ _ => False) e s' → False) :
    codeAny (model P w) callerA (.call (.ref fa) ⟨vals, []⟩) (fun r s' => ∃ u as, r = .ok (.ret u) ∧ ReadsW R cl s'.heap u d0 as ∧ OldK s₁.heap s'.heap ∧ s'.os = s₁.os ∧ AllBare s'.gens) s₁ := by
  obtain ⟨A, ho, ar⟩ := area_all ds vals hwl hpl hwt
  have hO : OnlyF (argH K s₁.heap A) := argH_only ar
  have hok : HOk P w (argH K s₁.heap A) s₁.heap := argH_ok ar
  have hS := dw_all KX ar ds vals hwl hpl ho
  have hV := vals_toV ho
  have hK : ∀ b u, argH K s₁.heap A b = some u → K.lookup b = none := fun b u q => (argH_is ar q).1
  have noA : ∀ {b : Addr} {o : Obj} {es : Array DictEntry} {ep : Nat}, s₁.heap.get? b = some o → o.data = .dict es ep → argH K s₁.heap A b = none := fun {b o es ep} e d => by
    cases q : argH K s₁.heap A b with
    | none => rfl
    | some u =>
      obtain ⟨_, vs, _, _, ⟨e2, _⟩ | ⟨e2, _⟩⟩ := argH_is ar q
      · rw [e2] at e
        cases e
        have d' : Data.seq vs.toArray _ = Data.dict es ep := d
        cases d'
      · rw [e2] at e
        cases e
        have d' : Data.seq vs.toArray _ = Data.dict es ep := d
        cases d'
  generalize argH K s₁.heap A = H at hO hok hS hK noA
  have base_of : ∀ {b : Addr} {o : Obj}, s₁.heap.get? b = some o → H b = none → (hidT s₁.heap H).get? b = some o := fun e n => hidT_get e n
  have nsK : ∀ {b : Addr} {m : Str → Option Value}, s₁.heap.Ns b m → (hidT s₁.heap H).Ns b m := fun {b m} ⟨o, es, ep, e, d, r⟩ => ⟨o, es, ep, base_of e (noA e d), d, r⟩
  have nK : ∀ b o, K.lookup b = some o → H b = none := fun b o e => by
    cases q : H b with
    | none => rfl
    | some u =>
      rw [hK b u q] at e
      cases e
  have hKb : K.In (hidT s₁.heap H) := fun b o e => base_of (KX b o e) (nK b o e)
  have hM : Mod K mg (hidT s₁.heap H) := ⟨hKb, nsK hns, ⟨mb, nsK hb, hbb⟩, let ⟨mc, h1, h2⟩ := hlim; ⟨mc, nsK h1, h2⟩⟩
  have e0 : Env0 P w K mg (hidT s₁.heap H) callerA [] s₁ H := ⟨rfl, hM, fun b o e => of_hidT e, Nat.le_of_eq (hidT_size _ _), trivial, fun b hb => absurd (show b ∈ ([] : List Addr) from hb) (by simp), hok, .of_eq hg⟩
  have hl : vals.length = ps.length := by rw [wellAll_len hwl]; exact hlen
  refine codeAny_mono ((F _ hKb (nsK hns)).run callerA [] s₁ H ⟨vals, []⟩ vals (vals.map toV) _ _ hr e0 (hbind s₁ vals hl) hV (hsp H _ hO hS)) fun r s' x => ?_
  cases r with
  | error e => exact (hCX H e s' x).elim
  | ok fl =>
    cases fl with
    | next => exact False.elim x
    | brk => exact False.elim x
    | cont => exact False.elim x
    | ret u =>
      obtain ⟨v, H', os, bare, un, hok', r', q⟩ := x
      have kept : ∀ b o, s₁.heap.get? b = some o → s'.heap.get? b = some o := fun b o e => by
        cases q2 : H b with
        | none => exact un.keep b o e q2 (by intro z; exact absurd (show b ∈ ([] : List Addr) from z) (by simp)) (by simp)
        | some u2 =>
          rcases hO b with z | ⟨ob, u3, z⟩
          · rw [q2] at z
            cases z
          · have z2 := un.frzs b ob _ z
            obtain ⟨e1, _⟩ := hok b _ z
            obtain ⟨e2, _⟩ := hok' b _ z2
            rw [e] at e1
            cases e1
            exact e2
      have KX' : K.In s'.heap := fun b o e => kept b o (KX b o e)
      obtain ⟨as, hrd⟩ := Dw.reads (R := R) (cl := cl) hok' KX' d0 v u q r'
      exact ⟨u, as, rfl, hrd, OldK.of_keep kept, os, bare⟩
theorem layable_weight {ds : List WData} (h : WData.layableAll ds = true) : ∀ d ∈ ds, d.weight ≤ 1048576 := fun d hd =>
  (PySem.W.layableW_iff.mp (List.all_eq_true.mp h d hd)).2.2
theorem encAll_len : ∀ (cs : List Codec) (a : Codec.denoteAll cs), (Codec.encAll cs a).length = cs.length
  | [], _ => rfl
  | c :: cs, a => by
    show (Codec.encAll cs a.2).length + 1 = cs.length + 1
    rw [encAll_len cs a.2]
theorem walk_spec {r : OpenSpec} {k : Nat} {q : Program} {loose : List Str} {XP : (Str → Option Value) → Heap → Prop} {YP : World → Heap → Prop} {d : DefRec} {K : Params → PySem.W.Frag} {CX : World → CXT} {ps : List Str} {sp : World → Sp}
    (hwell : r.wellSaid = true) (hdf : d.params.defaults = []) (hlen : r.args.length = ps.length) (hr : Room k callerA)
    (hY : ∀ (w : World) (h : Heap), YP w h → (K w.params).In h)
    (F : ∀ (w : World) (mg : Str → Option Value) (fa : Addr) (h : Heap), YP w h → (K w.params).In h → h.Ns mainGlobals mg → mg d.name = some (.ref fa) →
      ∃ fd : FuncData, (∀ (s : Shared) (us : List Value), us.length = ps.length → BindsTo s fd ⟨us, []⟩ (ps.zip us)) ∧
        ∀ base : Heap, (K w.params).In base → base.Ns mainGlobals mg → FnOk r.prog w (K w.params) mg base (CX w) k fa fd ps (sp w))
    (hsp : ∀ (w : World) (H : Hp) (xs : List V) (a : Codec.denoteAll r.args), OnlyF H → Codec.withinAll r.args a = true → Codec.app r.args r.asked a = true → DwAll (K w.params) H xs (Codec.encAll r.args a) →
      sp w xs H (fun v H' => Dw (K w.params) H' v (r.ret.enc (Codec.app r.args r.f a))) fun _ _ _ => False)
    (hCX : ∀ (w : World) (H : Hp) (s : Shared) (e : Value) (s' : Shared), CX w [] H s (fun _ _ _ => False) e s' → False) :
    PySem.W.WalkOS q loose XP YP r d [] (fun f vs => PySem.call f vs) := by
  intro w s_0 s₁ mg mb G Y fa o pm cd doc dV kV ho hd hcd hD hmg hg args vals as hpre hlay hrd hwl hlo
  obtain ⟨a, e1, e2⟩ := PySem.W.os_pre_some hpre
  obtain ⟨e3, hwi⟩ := Codec.encAll_of_decAll r.args args a e1
  subst e3
  have KX := hY w _ Y
  obtain ⟨fd, hb, hF⟩ := F w mg fa _ Y KX G.T.g hmg
  refine PySem.W.enter_call (codeAny_mono (spec_call (R := []) (cl := classAt s_0.heap) (d0 := r.ret.enc (Codec.app r.args r.f a)) KX G.T.g G.T.b G.T.builtins G.T.nolimit hg hwl (pl_encAll _ _) (layable_weight hlay) hr hF hb (by rw [encAll_len]; exact hlen)
    (fun H xs hO hS => hsp w H xs a hO hwi e2 hS) fun H e s' => hCX w H s₁ e s') fun r' s' hq => ?_)
  obtain ⟨u, as', rfl, h1, h2, h3, h4⟩ := hq
  exact ⟨.inl ⟨u, _, as', rfl, fun _ => rfl, h1, (OpenSpec.post_iff hwell hwi _ _).mpr rfl, fun z => Bool.noConfusion (show false = true from z)⟩, h2, h3, h4⟩
theorem walk_specK {r : OpenSpec} {k : Nat} {q : Program} {loose : List Str} {XP : (Str → Option Value) → Heap → Prop} {YP : World → Heap → Prop} {d : DefRec} {K : Params → PySem.W.Frag} {CX : CXT} {ps : List Str} {sp : PySem.W.Frag → Sp}
    (hwell : r.wellSaid = true) (hdf : d.params.defaults = []) (hlen : r.args.length = ps.length) (hr : Room k callerA)
    (hY : ∀ (w : World) (h : Heap), YP w h → (K w.params).In h)
    (F : ∀ (w : World) (mg : Str → Option Value) (fa : Addr) (h : Heap), YP w h → (K w.params).In h → h.Ns mainGlobals mg → mg d.name = some (.ref fa) →
      ∃ fd : FuncData, (∀ (s : Shared) (us : List Value), us.length = ps.length → BindsTo s fd ⟨us, []⟩ (ps.zip us)) ∧
        ∀ base : Heap, (K w.params).In base → base.Ns mainGlobals mg → FnOk r.prog w (K w.params) mg base CX k fa fd ps (sp (K w.params)))
    (hsp : ∀ (K : PySem.W.Frag) (H : Hp) (xs : List V) (a : Codec.denoteAll r.args), OnlyF H → Codec.withinAll r.args a = true → Codec.app r.args r.asked a = true → DwAll K H xs (Codec.encAll r.args a) →
      sp K xs H (fun v H' => Dw K H' v (r.ret.enc (Codec.app r.args r.f a))) fun _ _ _ => False)
    (hCX : ∀ (H : Hp) (s : Shared) (e : Value) (s' : Shared), CX [] H s (fun _ _ _ => False) e s' → False) :
    PySem.W.WalkOS q loose XP YP r d [] (fun f vs => PySem.call f vs) :=
  walk_spec (K := K) (CX := fun _ => CX) (sp := fun w => sp (K w.params)) hwell hdf hlen hr hY F (fun w H xs a h1 h2 h3 h4 => hsp (K w.params) H xs a h1 h2 h3 h4) fun _ H s e s' => hCX H s e s'
end L2
end

/-! The mathematics: lists of ints as the program has them, and the specification's groups. -/
namespace EvM
open Kqb5
/-! ### least and greatest of ints -/
def minI (l : List Int) : Int := l.foldl min (l.headD 0)
def maxI (l : List Int) : Int := l.foldl max (l.headD 0)
theorem foldl_min_le (l : List Int) : ∀ a : Int, l.foldl min a ≤ a ∧ ∀ y ∈ l, l.foldl min a ≤ y := by
  induction l with
  | nil => intro a; exact ⟨Int.le_refl _, fun y h => nomatch h⟩
  | cons x r ih =>
    intro a
    have h := ih (min a x)
    refine ⟨by show r.foldl min (min a x) ≤ a; have := h.1; omega, fun y hy => ?_⟩
    show r.foldl min (min a x) ≤ y
    rcases List.mem_cons.mp hy with e | e
    · subst e; have := h.1; omega
    · exact h.2 y e
theorem foldl_min_mem (l : List Int) : ∀ a : Int, l.foldl min a = a ∨ l.foldl min a ∈ l := by
  induction l with
  | nil => intro a; exact .inl rfl
  | cons x r ih =>
    intro a
    show r.foldl min (min a x) = a ∨ r.foldl min (min a x) ∈ x :: r
    rcases ih (min a x) with h | h
    · rw [h]
      by_cases c : a ≤ x
      · left; omega
      · right; rw [show min a x = x by omega]; exact List.mem_cons_self
    · exact .inr (List.mem_cons_of_mem _ h)
theorem foldl_max_ge (l : List Int) : ∀ a : Int, a ≤ l.foldl max a ∧ ∀ y ∈ l, y ≤ l.foldl max a := by
  induction l with
  | nil => intro a; exact ⟨Int.le_refl _, fun y h => nomatch h⟩
  | cons x r ih =>
    intro a
    have h := ih (max a x)
    refine ⟨by show a ≤ r.foldl max (max a x); have := h.1; omega, fun y hy => ?_⟩
    show y ≤ r.foldl max (max a x)
    rcases List.mem_cons.mp hy with e | e
    · subst e; have := h.1; omega
    · exact h.2 y e
theorem foldl_max_mem (l : List Int) : ∀ a : Int, l.foldl max a = a ∨ l.foldl max a ∈ l := by
  induction l with
  | nil => intro a; exact .inl rfl
  | cons x r ih =>
    intro a
    show r.foldl max (max a x) = a ∨ r.foldl max (max a x) ∈ x :: r
    rcases ih (max a x) with h | h
    · rw [h]
      by_cases c : x ≤ a
      · left; omega
      · right; rw [show max a x = x by omega]; exact List.mem_cons_self
    · exact .inr (List.mem_cons_of_mem _ h)
theorem minI_le {l : List Int} {y : Int} (h : y ∈ l) : minI l ≤ y := (foldl_min_le l _).2 y h
theorem le_maxI {l : List Int} {y : Int} (h : y ∈ l) : y ≤ maxI l := (foldl_max_ge l _).2 y h
theorem minI_mem {l : List Int} (h : 0 < l.length) : minI l ∈ l := by
  rcases foldl_min_mem l (l.headD 0) with e | e
  · match l, h with
    | x :: r, _ => show minI (x :: r) ∈ x :: r; unfold minI; rw [e]; exact List.mem_cons_self
  · exact e
theorem maxI_mem {l : List Int} (h : 0 < l.length) : maxI l ∈ l := by
  rcases foldl_max_mem l (l.headD 0) with e | e
  · match l, h with
    | x :: r, _ => show maxI (x :: r) ∈ x :: r; unfold maxI; rw [e]; exact List.mem_cons_self
  · exact e
theorem minI_is {l : List Int} {m : Int} (h : m ∈ l) (a : ∀ y, y ∈ l → m ≤ y) : m = minI l := by
  have h1 := minI_le h
  have h2 := a _ (minI_mem (List.length_pos_of_mem h))
  omega
theorem maxI_is {l : List Int} {m : Int} (h : m ∈ l) (a : ∀ y, y ∈ l → y ≤ m) : m = maxI l := by
  have h1 := le_maxI h
  have h2 := a _ (maxI_mem (List.length_pos_of_mem h))
  omega
/-! ### casts of the specification's -/
theorem foldl_min_cast (l : List Nat) : ∀ a : Nat, (l.map fun (x : Nat) => (x : Int)).foldl min (a : Int) = ((l.foldl min a : Nat) : Int) := by
  induction l with
  | nil => intro a; rfl
  | cons x r ih =>
    intro a
    show (r.map fun (x : Nat) => (x : Int)).foldl min (min (a : Int) (x : Int)) = ((r.foldl min (min a x) : Nat) : Int)
    rw [← ih (min a x)]
    congr 1
    omega
theorem foldl_max_cast (l : List Nat) : ∀ a : Nat, (l.map fun (x : Nat) => (x : Int)).foldl max (a : Int) = ((l.foldl max a : Nat) : Int) := by
  induction l with
  | nil => intro a; rfl
  | cons x r ih =>
    intro a
    show (r.map fun (x : Nat) => (x : Int)).foldl max (max (a : Int) (x : Int)) = ((r.foldl max (max a x) : Nat) : Int)
    rw [← ih (max a x)]
    congr 1
    omega
abbrev up (l : List Nat) : List Int := l.map fun (x : Nat) => (x : Int)
theorem minI_up (l : List Nat) : minI (up l) = (least l : Int) := by
  match l with
  | [] => rfl
  | x :: r => exact foldl_min_cast (x :: r) x
theorem maxI_up (l : List Nat) : maxI (up l) = (greatest l : Int) := by
  match l with
  | [] => rfl
  | x :: r =>
    show (up (x :: r)).foldl max ((x : Nat) : Int) = ((greatest (x :: r) : Nat) : Int)
    rw [foldl_max_cast (x :: r) x]
    show ((r.foldl max (max x x) : Nat) : Int) = ((r.foldl max (max 0 x) : Nat) : Int)
    rw [show max x x = x by omega, show max 0 x = x by omega]
theorem sum_up (l : List Nat) : (up l).sum = (Kqb5.sum l : Int) := by
  induction l with
  | nil => rfl
  | cons x r ih =>
    show (((x : Nat) : Int) :: up r).sum = ((x + Kqb5.sum r : Nat) : Int)
    rw [List.sum_cons, ih]
    omega
theorem up_length (l : List Nat) : (up l).length = l.length := List.length_map ..
theorem least_mem {l : List Nat} (h : 0 < l.length) : least l ∈ l := by
  have h1 := minI_mem (l := up l) (by rw [up_length]; exact h)
  rw [minI_up] at h1
  obtain ⟨x, hx, e⟩ := List.mem_map.mp h1
  have e' : x = least l := by omega
  rw [← e']; exact hx
theorem least_le {l : List Nat} {y : Nat} (h : y ∈ l) : least l ≤ y := by
  have h1 := minI_le (l := up l) (y := (y : Int)) (List.mem_map.mpr ⟨y, h, rfl⟩)
  rw [minI_up] at h1
  omega
theorem greatest_ge {l : List Nat} {y : Nat} (h : y ∈ l) : y ≤ greatest l := by
  have h1 := le_maxI (l := up l) (y := (y : Int)) (List.mem_map.mpr ⟨y, h, rfl⟩)
  rw [maxI_up] at h1
  omega
theorem greatest_mem {l : List Nat} (h : 0 < l.length) : greatest l ∈ l := by
  have h1 := maxI_mem (l := up l) (by rw [up_length]; exact h)
  rw [maxI_up] at h1
  obtain ⟨x, hx, e⟩ := List.mem_map.mp h1
  have e' : x = greatest l := by omega
  rw [← e']; exact hx
/-! ### lists by places -/
theorem range_zip {α β γ : Type} (f : α → β → γ) (d : β) : ∀ (gs : List α) (l : List β), l.length = gs.length →
    (List.range l.length).filterMap (fun i => (gs[i]?).map fun g => f g (l.getD i d)) = List.zipWith f gs l
  | [], l, h => by
    have e : l = [] := List.length_eq_zero_iff.mp h
    subst e; rfl
  | g :: gs, [], h => by simp at h
  | g :: gs, x :: l, h => by
    have ih := range_zip f d gs l (by simpa using h)
    rw [List.length_cons, List.range_succ_eq_map, List.filterMap_cons]
    show f g x :: List.filterMap _ (List.map Nat.succ (List.range l.length)) = f g x :: List.zipWith f gs l
    rw [List.filterMap_map, ← ih]
    rfl
theorem range_any {α β : Type} (f : Option α → β → Bool) (d : β) : ∀ (gs : List α) (l : List β), l.length = gs.length →
    (List.range l.length).any (fun i => f (gs[i]?) (l.getD i d)) = (List.zipWith (fun g x => f (some g) x) gs l).any id
  | [], l, h => by
    have e : l = [] := List.length_eq_zero_iff.mp h
    subst e; rfl
  | g :: gs, [], h => by simp at h
  | g :: gs, x :: l, h => by
    have ih := range_any f d gs l (by simpa using h)
    rw [List.length_cons, List.range_succ_eq_map, List.any_cons]
    show (f (some g) x || List.any (List.map Nat.succ (List.range l.length)) _) = (f (some g) x || (List.zipWith _ gs l).any id)
    rw [List.any_map, ← ih]
    rfl
theorem zip_map2 {α β γ δ : Type} (f : β → γ → δ) (g : α → β) (h : α → γ) (l : List α) : List.zipWith f (l.map g) (l.map h) = l.map fun x => f (g x) (h x) := by
  induction l with
  | nil => rfl
  | cons x r ih => show f (g x) (h x) :: _ = _ :: _; rw [← ih]
/-! ### the pack -/
theorem gives_eq {l : List Group} (h : 0 < l.length) : gives l = least (helds l) + least (lacks l) := by
  unfold gives
  have e : helds (fillBy l (least (lacks l))) = (helds l).map (· + least (lacks l)) := by
    unfold helds fillBy
    rw [List.map_map, List.map_map]
    rfl
  rw [e]
  generalize least (lacks l) = k
  have h1 : 0 < (helds l).length := by unfold helds; rw [List.length_map]; exact h
  have h2 : 0 < ((helds l).map (· + k)).length := by rw [List.length_map]; exact h1
  obtain ⟨x, hx, ex⟩ := List.mem_map.mp (least_mem h2)
  have a := least_le hx
  have b := least_le (List.mem_map.mpr ⟨_, least_mem h1, rfl⟩ : least (helds l) + k ∈ (helds l).map (· + k))
  omega
theorem mark_eq {l : List Group} (h : 0 < l.length) (t : Nat) : ((mark l t : Nat) : Int) = max (least (lacks l) : Int) ((t : Int) - (least (helds l) : Int)) := by
  unfold mark
  have h1 : 0 < (helds l).length := by unfold helds; rw [List.length_map]; exact h
  have h2 : 0 < (l.map fun g => t - g.held).length := by rw [List.length_map]; exact h
  obtain ⟨g, hg, eg⟩ := List.mem_map.mp (greatest_mem h2)
  obtain ⟨g2, hg2, eg2⟩ := List.mem_map.mp (show least (helds l) ∈ l.map (fun g => g.held) from least_mem h1)
  have a : least (helds l) ≤ g.held := least_le (List.mem_map.mpr ⟨g, hg, rfl⟩)
  have b : t - g2.held ≤ greatest (l.map fun g => t - g.held) := greatest_ge (List.mem_map.mpr ⟨g2, hg2, rfl⟩)
  have eg2' : g2.held = least (helds l) := eg2
  have eg' : t - g.held = greatest (l.map fun g => t - g.held) := eg
  omega
end EvM

/-! The calls as one list: how the specification cuts it. -/
namespace EvP
open EvM
/-- a call written out -/
def enc : List (List Int) → List Int
  | [] => []
  | h :: rows => h ++ rows.flatMap fun r => (r.length : Int) :: r
theorem rows_enc : ∀ (k : Nat) (l : List Int) (xs : List (List Int)) (t : List Int), PyFlat.rows k l = some (xs, t) → xs.length = k ∧ l = (xs.flatMap fun r => (r.length : Int) :: r) ++ t
  | 0, l, xs, t, h => by
    unfold PyFlat.rows at h
    cases h
    exact ⟨rfl, rfl⟩
  | k + 1, l, xs, t, h => by
    unfold PyFlat.rows at h
    split at h
    · cases h
    · rename_i x s hr
      split at h
      · cases h
      · rename_i ys u hrs
        cases h
        obtain ⟨e1, e2⟩ := rows_enc k s ys t hrs
        unfold PyFlat.row at hr
        split at hr
        · cases hr
        · rename_i n r
          split at hr
          · rename_i hc
            cases hr
            refine ⟨by rw [List.length_cons, e1], ?_⟩
            rw [List.flatMap_cons, List.append_assoc, ← e2]
            have hl : ((r.take n.toNat).length : Int) = n := by
              rw [List.length_take]
              omega
            rw [hl]
            show n :: r = n :: (r.take n.toNat ++ r.drop n.toNat)
            rw [List.take_append_drop]
          · cases hr
/-- a call of the shape -/
def Shaped (c : List (List Int)) : Prop := ∃ p xs rows, c = (p :: xs) :: rows ∧ PyKqb5.shape p = some (xs.length, rows.length)
theorem call_enc {l : List Int} {c : List (List Int)} {t : List Int} (h : PyFlat.call PyKqb5.shape l = some (c, t)) : Shaped c ∧ l = enc c ++ t := by
  unfold PyFlat.call at h
  split at h
  · cases h
  · rename_i p r
    split at h
    · cases h
    · rename_i n k hs
      split at h
      · cases h
      · rename_i hn
        split at h
        · cases h
        · rename_i xs u hr
          cases h
          obtain ⟨e1, e2⟩ := rows_enc k _ xs t hr
          refine ⟨⟨p, r.take n, xs, rfl, ?_⟩, ?_⟩
          · rw [hs, e1, List.length_take, show min n r.length = n by omega]
          · show p :: r = (p :: r.take n ++ xs.flatMap _) ++ t
            rw [List.append_assoc, ← e2]
            show p :: r = p :: (r.take n ++ r.drop n)
            rw [List.take_append_drop]
theorem calls_enc : ∀ (f : Nat) (l : List Int) (cs : List (List (List Int))), PyFlat.calls PyKqb5.shape f l = some cs → (∀ c ∈ cs, Shaped c) ∧ l = cs.flatMap enc
  | f, [], cs, h => by
    unfold PyFlat.calls at h
    cases h
    exact ⟨(fun _ hc => nomatch hc), rfl⟩
  | 0, p :: r, cs, h => by
    unfold PyFlat.calls at h
    cases h
  | f + 1, p :: r, cs, h => by
    unfold PyFlat.calls at h
    split at h
    · cases h
    · rename_i c t hc
      split at h
      · cases h
      · rename_i ds hd
        cases h
        obtain ⟨a1, a2⟩ := call_enc hc
        obtain ⟨b1, b2⟩ := calls_enc f t ds hd
        refine ⟨fun x hx => ?_, ?_⟩
        · rcases List.mem_cons.mp hx with e | e
          · rw [e]; exact a1
          · exact b1 x e
        · rw [List.flatMap_cons, ← b2]
          exact a2
/-! ### the machine, call by call -/
abbrev St := Option Kqb5.Pack
/-- the state behind the calls -/
def run (s : St) : List (List (List Int)) → St
  | [] => s
  | c :: r => run (Kqb5Neutral.step s c).1 r
theorem run_snoc (c : List (List Int)) : ∀ (s : St) (cs : List (List (List Int))), run s (cs ++ [c]) = (Kqb5Neutral.step (run s cs) c).1
  | _, [] => rfl
  | _, _ :: r => run_snoc c _ r
theorem played_snoc (c : List (List Int)) : ∀ (s : St) (cs : List (List (List Int))), PyFlat.played Kqb5Neutral.step s (cs ++ [c]) = PyFlat.played Kqb5Neutral.step s cs ++ [(Kqb5Neutral.step (run s cs) c).2]
  | s, [] => rfl
  | s, d :: r => by
    show _ :: PyFlat.played Kqb5Neutral.step _ (r ++ [c]) = _ :: _
    rw [played_snoc c _ r]
    rfl
def told (s : St) (cs : List (List (List Int))) : List Int := PyFlat.told (PyFlat.played Kqb5Neutral.step s cs)
theorem told_snoc (s : St) (cs : List (List (List Int))) (c : List (List Int)) : told s (cs ++ [c]) = told s cs ++ (((Kqb5Neutral.step (run s cs) c).2.length : Int) :: (Kqb5Neutral.step (run s cs) c).2) := by
  unfold told
  rw [played_snoc]
  unfold PyFlat.told
  rw [List.flatMap_append]
  simp
/-! ### what is asked of each call -/
def num32 (z : Int) : Prop := 0 ≤ z ∧ z ≤ 4294967295
theorem within_iff {z : Int} : PyInside.within 0 4294967295 z = true ↔ num32 z := by
  unfold PyInside.within num32
  rw [Bool.and_eq_true, decide_eq_true_eq, decide_eq_true_eq]
/-- one call in its place: the place's number, its numbers, its rows; the bounds -/
inductive Call1 : List (List Int) → Prop
  | row (p : Int) (r : List Int) : (p = 0 ∨ p = 1 ∨ p = 2) → r.length ≤ 60 → (∀ z ∈ r, num32 z) → Call1 [[p], r]
  | n0 (p : Int) : (p = 6 ∨ p = 7 ∨ p = 10 ∨ p = 11 ∨ p = 12 ∨ p = 13 ∨ p = 14 ∨ p = 20 ∨ p = 22) → Call1 [[p]]
  | n1 (p a : Int) : (p = 3 ∨ p = 4 ∨ p = 8 ∨ p = 9 ∨ p = 15 ∨ p = 16 ∨ p = 19 ∨ p = 21) → num32 a → Call1 [[p, a]]
  | n2 (p a b : Int) : (p = 5 ∨ p = 18) → num32 a → num32 b → Call1 [[p, a, b]]
  | n3 (p a b c : Int) : p = 17 → num32 a → num32 b → num32 c → Call1 [[p, a, b, c]]

theorem whole_call {c : List (List Int)} (h : Call1 c) : PyKqb5.whole c = c := by
  cases h with
  | row p r hp _ _ => rcases hp with rfl | rfl | rfl <;> rfl
  | n0 p hp => rcases hp with rfl | rfl | rfl | rfl | rfl | rfl | rfl | rfl | rfl <;> rfl
  | n1 p a hp _ => rcases hp with rfl | rfl | rfl | rfl | rfl | rfl | rfl | rfl <;> rfl
  | n2 p a b hp _ _ => rcases hp with rfl | rfl <;> rfl
  | n3 p a b c hp _ _ _ => subst hp; rfl
theorem map_whole {cs : List (List (List Int))} (h : ∀ c ∈ cs, Call1 c) : cs.map PyKqb5.whole = cs :=
  (List.map_congr_left (g := id) fun c hc => whole_call (h c hc)).trans (List.map_id _)
theorem answers_told {l : List Int} {cs : List (List (List Int))} (h : PyFlat.calls PyKqb5.shape l.length l = some cs) (h1 : ∀ c ∈ cs, Call1 c) : PyKqb5.answers l = told none cs := by
  unfold PyKqb5.answers PyKqb5.calls
  rw [h]
  show PyFlat.told (PyFlat.played _ _ (cs.map PyKqb5.whole)) = _
  rw [map_whole h1]
  rfl
theorem len0 {α : Type} {l : List α} (h : l.length = 0) : l = [] := List.length_eq_zero_iff.mp h
theorem len1 {α : Type} {l : List α} (h : l.length = 1) : ∃ a, l = [a] := List.length_eq_one_iff.mp h
theorem len2 {α : Type} : ∀ {l : List α}, l.length = 2 → ∃ a b, l = [a, b]
  | [a, b], _ => ⟨a, b, rfl⟩
theorem len3 {α : Type} : ∀ {l : List α}, l.length = 3 → ∃ a b c, l = [a, b, c]
  | [a, b, c], _ => ⟨a, b, c, rfl⟩
theorem shape_cases {p : Int} {n k : Nat} (h : PyKqb5.shape p = some (n, k)) :
    ((p = 0 ∨ p = 1 ∨ p = 2) ∧ n = 0 ∧ k = 1 ∧ PyKqb5.bound p = ([], [(0, 4294967295, 0, 60)])) ∨
    ((p = 6 ∨ p = 7 ∨ p = 10 ∨ p = 11 ∨ p = 12 ∨ p = 13 ∨ p = 14 ∨ p = 20 ∨ p = 22) ∧ n = 0 ∧ k = 0) ∨
    ((p = 3 ∨ p = 4 ∨ p = 8 ∨ p = 9 ∨ p = 15 ∨ p = 16 ∨ p = 19 ∨ p = 21) ∧ n = 1 ∧ k = 0 ∧ PyKqb5.bound p = ([(0, 4294967295)], [])) ∨
    ((p = 5 ∨ p = 18) ∧ n = 2 ∧ k = 0 ∧ PyKqb5.bound p = ([(0, 4294967295), (0, 4294967295)], [])) ∨
    (p = 17 ∧ n = 3 ∧ k = 0 ∧ PyKqb5.bound p = ([(0, 4294967295), (0, 4294967295), (0, 4294967295)], [])) := by
  by_cases hp : 0 ≤ p ∧ p ≤ 22
  · have e : p = ((p.toNat : Nat) : Int) := by omega
    have hlt : p.toNat < 23 := by omega
    generalize p.toNat = q at e hlt
    subst e
    match q, hlt, h with
    | 0, _, h => cases h; exact .inl ⟨.inl rfl, rfl, rfl, rfl⟩
    | 1, _, h => cases h; exact .inl ⟨.inr (.inl rfl), rfl, rfl, rfl⟩
    | 2, _, h => cases h; exact .inl ⟨.inr (.inr rfl), rfl, rfl, rfl⟩
    | 3, _, h => cases h; exact .inr (.inr (.inl ⟨by decide, rfl, rfl, rfl⟩))
    | 4, _, h => cases h; exact .inr (.inr (.inl ⟨by decide, rfl, rfl, rfl⟩))
    | 5, _, h => cases h; exact .inr (.inr (.inr (.inl ⟨by decide, rfl, rfl, rfl⟩)))
    | 6, _, h => cases h; exact .inr (.inl ⟨by decide, rfl, rfl⟩)
    | 7, _, h => cases h; exact .inr (.inl ⟨by decide, rfl, rfl⟩)
    | 8, _, h => cases h; exact .inr (.inr (.inl ⟨by decide, rfl, rfl, rfl⟩))
    | 9, _, h => cases h; exact .inr (.inr (.inl ⟨by decide, rfl, rfl, rfl⟩))
    | 10, _, h => cases h; exact .inr (.inl ⟨by decide, rfl, rfl⟩)
    | 11, _, h => cases h; exact .inr (.inl ⟨by decide, rfl, rfl⟩)
    | 12, _, h => cases h; exact .inr (.inl ⟨by decide, rfl, rfl⟩)
    | 13, _, h => cases h; exact .inr (.inl ⟨by decide, rfl, rfl⟩)
    | 14, _, h => cases h; exact .inr (.inl ⟨by decide, rfl, rfl⟩)
    | 15, _, h => cases h; exact .inr (.inr (.inl ⟨by decide, rfl, rfl, rfl⟩))
    | 16, _, h => cases h; exact .inr (.inr (.inl ⟨by decide, rfl, rfl, rfl⟩))
    | 17, _, h => cases h; exact .inr (.inr (.inr (.inr ⟨rfl, rfl, rfl, rfl⟩)))
    | 18, _, h => cases h; exact .inr (.inr (.inr (.inl ⟨by decide, rfl, rfl, rfl⟩)))
    | 19, _, h => cases h; exact .inr (.inr (.inl ⟨by decide, rfl, rfl, rfl⟩))
    | 20, _, h => cases h; exact .inr (.inl ⟨by decide, rfl, rfl⟩)
    | 21, _, h => cases h; exact .inr (.inr (.inl ⟨by decide, rfl, rfl, rfl⟩))
    | 22, _, h => cases h; exact .inr (.inl ⟨by decide, rfl, rfl⟩)
    | q + 23, hlt, _ => omega
  · unfold PyKqb5.shape at h
    simp only [show ¬ p = 0 by omega, show ¬ p = 1 by omega, show ¬ p = 2 by omega, show ¬ p = 3 by omega, show ¬ p = 4 by omega, show ¬ p = 5 by omega, show ¬ p = 6 by omega, show ¬ p = 7 by omega, show ¬ p = 8 by omega, show ¬ p = 9 by omega, show ¬ p = 10 by omega, show ¬ p = 11 by omega, show ¬ p = 12 by omega, show ¬ p = 13 by omega, show ¬ p = 14 by omega, show ¬ p = 15 by omega, show ¬ p = 16 by omega, show ¬ p = 17 by omega, show ¬ p = 18 by omega, show ¬ p = 19 by omega, show ¬ p = 20 by omega, show ¬ p = 21 by omega, show ¬ p = 22 by omega, if_false] at h
    cases h
theorem call1_of {c : List (List Int)} (h : Shaped c) (b : PyInside.call PyKqb5.bound c = true) : Call1 c := by
  obtain ⟨p, xs, rows, rfl, hs⟩ := h
  have b : (PyInside.each (PyKqb5.bound p).1 xs && PyInside.lists (PyKqb5.bound p).2 rows) = true := b
  rw [Bool.and_eq_true] at b
  obtain ⟨b1, b2⟩ := b
  rcases shape_cases hs with ⟨hp, n, k, e⟩ | ⟨hp, n, k⟩ | ⟨hp, n, k, e⟩ | ⟨hp, n, k, e⟩ | ⟨hp, n, k, e⟩
  · have e1 := len0 n
    obtain ⟨r, e2⟩ := len1 k
    subst e1 e2
    rw [e] at b2
    have b2 : (decide (0 ≤ r.length) && decide (r.length ≤ 60) && r.all (PyInside.within 0 4294967295) && true) = true := b2
    rw [Bool.and_true, Bool.and_eq_true, Bool.and_eq_true, decide_eq_true_eq, decide_eq_true_eq, List.all_eq_true] at b2
    exact .row p r hp b2.1.2 fun z hz => within_iff.mp (b2.2 z hz)
  · have e1 := len0 n
    have e2 := len0 k
    subst e1 e2
    exact .n0 p hp
  · obtain ⟨a, e1⟩ := len1 n
    have e2 := len0 k
    subst e1 e2
    rw [e] at b1
    have b1 : (PyInside.within 0 4294967295 a && true) = true := b1
    rw [Bool.and_true] at b1
    exact .n1 p a hp (within_iff.mp b1)
  · obtain ⟨a, a2, e1⟩ := len2 n
    have e2 := len0 k
    subst e1 e2
    rw [e] at b1
    have b1 : (PyInside.within 0 4294967295 a && (PyInside.within 0 4294967295 a2 && true)) = true := b1
    rw [Bool.and_true, Bool.and_eq_true] at b1
    exact .n2 p a a2 hp (within_iff.mp b1.1) (within_iff.mp b1.2)
  · obtain ⟨a, a2, a3, e1⟩ := len3 n
    have e2 := len0 k
    subst e1 e2
    rw [e] at b1
    have b1 : (PyInside.within 0 4294967295 a && (PyInside.within 0 4294967295 a2 && (PyInside.within 0 4294967295 a3 && true))) = true := b1
    rw [Bool.and_true, Bool.and_eq_true, Bool.and_eq_true] at b1
    exact .n3 p a a2 a3 hp (within_iff.mp b1.1) (within_iff.mp b1.2.1) (within_iff.mp b1.2.2)
/-- what the request is: its calls, each in its place; few of them -/
theorem asked_calls {l : List Int} (h : PyKqb5.answers_asked l = true) : ∃ cs, PyKqb5.answers l = told none cs ∧ l = cs.flatMap enc ∧ (∀ c ∈ cs, Call1 c) ∧ (told none cs).length ≤ 10000000 := by
  unfold PyKqb5.answers_asked at h
  split at h
  · cases h
  · rename_i cs hc
    rw [Bool.and_eq_true, Bool.and_eq_true, Bool.and_eq_true, Bool.and_eq_true] at h
    obtain ⟨⟨⟨⟨_, _⟩, h3⟩, _⟩, h5⟩ := h
    obtain ⟨a, b⟩ := calls_enc _ _ _ hc
    have h1 : ∀ c ∈ cs, Call1 c := fun c hm => call1_of (a c hm) (List.all_eq_true.mp h3 c hm)
    refine ⟨cs, answers_told hc h1, b, h1, ?_⟩
    rw [← answers_told hc h1]
    exact of_decide_eq_true h5
end EvP

/-! The program's pack as plain lists of ints, each def as a plain function of it; and that they do what the specification does. -/
namespace EvS
open EvM EvP Kqb5
structure PS where
  rooms : List Int
  held : List Int
  leaks : List Int
  put : Int
  filled : Int
  drawn : Int
  bled : Int
  leaked : Int
def mn (i j : Int) : Int := if j < i then j else i
def mx (i j : Int) : Int := if j > i then j else i
theorem mn_eq (i j : Int) : mn i j = min i j := by unfold mn; split <;> omega
theorem mx_eq (i j : Int) : mx i j = max i j := by unfold mx; split <;> omega
/-! ### the methods -/
def PS.lacksH (s : PS) (held : List Int) : List Int := List.zipWith (fun r h => r - h) s.rooms held
def PS.lacks (s : PS) : List Int := s.lacksH s.held
def PS.givesH (s : PS) (held : List Int) : Int := minI held + minI (s.lacksH held)
def PS.gives (s : PS) : Int := s.givesH s.held
def PS.most (s : PS) : Int := minI s.rooms
def PS.got (s : PS) (n : Int) : Int := mn n (minI s.lacks)
def PS.gave (s : PS) (n : Int) : Int := mn n (minI s.held)
def PS.fill (s : PS) (n : Int) : PS := { s with held := s.held.map (fun h => h + s.got n), filled := s.filled + s.got n * s.held.length }
def PS.draw (s : PS) (n : Int) : PS := { s with held := s.held.map (fun h => h - s.gave n), drawn := s.drawn + s.gave n * s.held.length }
def PS.bleedEach (s : PS) (am : List Int) : PS := { s with held := List.zipWith (fun h a => h - a) s.held am, bled := s.bled + am.sum }
def PS.canBleed (s : PS) (am : List Int) : Bool := (List.zipWith (fun h a => decide (a ≤ h)) s.held am).all id
def PS.ofOne (s : PS) (g n : Int) : List Int := (List.range s.held.length).map fun (i : Nat) => if (i : Int) = g then n else 0
def PS.toLack (s : PS) (mark : Int) : List Int := s.lacks.map fun l => mx 0 (mark - l)
def PS.toEven (s : PS) : List Int := s.toLack (maxI s.lacks)
def PS.toGive (s : PS) (t : Int) : List Int := s.toLack (mx (minI s.lacks) (t - minI s.held))
def beginP (rooms : List Int) : PS := ⟨rooms, rooms.map fun _ => 0, rooms.map fun _ => 0, (rooms.map fun _ => (0 : Int)).sum, 0, 0, 0, 0⟩
def PS.putP (s : PS) (held : List Int) : PS := { s with held := held, put := held.sum, filled := 0, drawn := 0, bled := 0, leaked := 0 }
/-! ### the state of the specification as the program has it -/
abbrev roomsI (l : List Group) : List Int := l.map fun g => (g.room : Int)
abbrev heldI (l : List Group) : List Int := l.map fun g => (g.held : Int)
abbrev leaksI (l : List Group) : List Int := l.map fun g => (g.leak : Int)
def absP (p : Pack) : PS := ⟨roomsI p.groups, heldI p.groups, leaksI p.groups, p.put, p.filled, p.drawn, p.bled, p.leaked⟩
def abs : Option Pack → PS
  | none => ⟨[], [], [], 0, 0, 0, 0, 0⟩
  | some p => absP p
structure GoodG (g : Group) : Prop where
  r1 : 1 ≤ g.room
  r2 : g.room ≤ 10000
  h : g.held ≤ g.room
  l : g.leak ≤ 1000
structure Good (l : List Group) : Prop where
  pos : 0 < l.length
  ten : l.length ≤ 10
  all : ∀ g ∈ l, GoodG g
def GoodO : Option Pack → Prop
  | none => True
  | some p => Good p.groups
/-! ### lists -/
theorem up_map (f : Group → Nat) (l : List Group) : up (l.map f) = l.map fun g => (f g : Int) := by
  unfold up
  rw [List.map_map]
  rfl
theorem lacks_eq {l : List Group} (G : ∀ g ∈ l, GoodG g) : List.zipWith (fun r h => r - h) (roomsI l) (heldI l) = up (Kqb5.lacks l) := by
  unfold Kqb5.lacks
  rw [up_map, zip_map2]
  refine List.map_congr_left fun g hg => ?_
  have h := (G g hg).h
  unfold Kqb5.lack
  omega
theorem lacksP {p : Pack} (G : Good p.groups) : (absP p).lacks = up (Kqb5.lacks p.groups) := lacks_eq G.all
theorem heldP (p : Pack) : (absP p).held = up (helds p.groups) := by
  unfold helds
  rw [up_map]
  rfl
theorem givesP {p : Pack} (G : Good p.groups) : (absP p).gives = (Kqb5.gives p.groups : Int) := by
  show minI (absP p).held + minI (absP p).lacks = _
  rw [lacksP G, heldP, minI_up, minI_up, gives_eq G.pos]
  omega
theorem mostP (p : Pack) : (absP p).most = (Kqb5.most p.groups : Int) := by
  show minI (roomsI p.groups) = _
  unfold Kqb5.most
  rw [← minI_up, up_map]
/-! ### calls: the numbers and the specification's -/
theorem toNat_up {r : List Int} (h : ∀ z ∈ r, num32 z) : up (r.map Kqb5Neutral.n) = r := by
  unfold up Kqb5Neutral.n
  rw [List.map_map]
  refine (List.map_congr_left (g := id) fun z hz => ?_).trans (List.map_id _)
  have := (h z hz).1
  show ((z.toNat : Nat) : Int) = z
  omega
abbrev stp (s : Option Pack) (c : List (List Int)) : PS × List Int := (abs (Kqb5Neutral.step s c).1, (Kqb5Neutral.step s c).2)
theorem stp_of {s : Option Pack} {c : List (List Int)} {x : Kqb5.Call} {S : Option Pack} {a : Ans} (h : Kqb5Neutral.callOf c = some x) (h2 : Kqb5.step s x = (S, a)) : stp s c = (abs S, Kqb5Neutral.tell a) := by
  unfold stp Kqb5Neutral.step
  rw [h]
  dsimp only
  rw [h2]
/-! start -/
def isRoom (z : Int) : Bool := decide (1 ≤ z) && decide (z ≤ 10000)
def fStart (s : PS) (r : List Int) : PS × List Int :=
  if (r.length : Int) < 1 ∨ (r.length : Int) > 10 then (s, [-22]) else if (!(r.map isRoom).all id) = true then (s, [-22]) else (beginP r, [(r.length : Int)])
theorem okRooms_iff {r : List Int} (h : ∀ z ∈ r, num32 z) : okRooms (r.map Kqb5Neutral.n) = true ↔ ¬ ((r.length : Int) < 1 ∨ (r.length : Int) > 10) ∧ ¬ (!(r.map isRoom).all id) = true := by
  unfold okRooms
  rw [Bool.and_eq_true, Bool.and_eq_true, decide_eq_true_eq, decide_eq_true_eq, List.length_map, Bool.not_eq_true', Bool.not_eq_false, List.all_eq_true, List.all_eq_true]
  constructor
  · rintro ⟨⟨a, b⟩, c⟩
    refine ⟨by omega, fun x hx => ?_⟩
    obtain ⟨z, hz, rfl⟩ := List.mem_map.mp hx
    have q := c _ (List.mem_map.mpr ⟨z, hz, rfl⟩)
    rw [Bool.and_eq_true, decide_eq_true_eq, decide_eq_true_eq] at q
    show (decide (1 ≤ z) && decide (z ≤ 10000)) = true
    rw [Bool.and_eq_true, decide_eq_true_eq, decide_eq_true_eq]
    have := h z hz
    unfold Kqb5Neutral.n at q
    omega
  · rintro ⟨a, b⟩
    refine ⟨⟨by omega, by omega⟩, fun x hx => ?_⟩
    obtain ⟨z, hz, rfl⟩ := List.mem_map.mp hx
    rw [Bool.and_eq_true, decide_eq_true_eq, decide_eq_true_eq]
    have q : (decide (1 ≤ z) && decide (z ≤ 10000)) = true := b _ (List.mem_map.mpr ⟨z, hz, rfl⟩)
    rw [Bool.and_eq_true, decide_eq_true_eq, decide_eq_true_eq] at q
    unfold Kqb5Neutral.n
    omega
theorem sum_zero {α : Type} (l : List α) : (l.map fun _ => (0 : Int)).sum = 0 := by
  induction l with
  | nil => rfl
  | cons x r ih => rw [List.map_cons, List.sum_cons, ih]; rfl
theorem start_ok (s : Option Pack) {r : List Int} (h : ∀ z ∈ r, num32 z) : fStart (abs s) r = stp s [[0], r] := by
  have e2 : Kqb5.step s (.start (r.map Kqb5Neutral.n)) = if okRooms (r.map Kqb5Neutral.n) = false then (s, .num (-22)) else (some ⟨(r.map Kqb5Neutral.n).map fun c => ⟨c, 0, 0⟩, 0, 0, 0, 0, 0⟩, .num (r.map Kqb5Neutral.n).length) := by
    cases s <;> rfl
  have q := okRooms_iff h
  unfold fStart
  cases ok : okRooms (r.map Kqb5Neutral.n) with
  | false =>
    rw [ok, if_pos rfl] at e2
    rw [ok] at q
    rw [stp_of rfl e2]
    by_cases c1 : (r.length : Int) < 1 ∨ (r.length : Int) > 10
    · rw [if_pos c1]; rfl
    · by_cases c2 : (!(r.map isRoom).all id) = true
      · rw [if_neg c1, if_pos c2]; rfl
      · exact absurd (q.mpr ⟨c1, c2⟩) (by decide)
  | true =>
    rw [ok, if_neg (show ¬ true = false by decide)] at e2
    rw [stp_of rfl e2]
    obtain ⟨c1, c2⟩ := q.mp ok
    rw [if_neg c1, if_neg c2]
    have e3 : roomsI ((r.map Kqb5Neutral.n).map fun c => (⟨c, 0, 0⟩ : Group)) = r := by
      refine Eq.trans ?_ (toNat_up h)
      unfold roomsI up
      rw [List.map_map]
      rfl
    show (beginP r, [(r.length : Int)]) = (PS.mk (roomsI _) (heldI _) (leaksI _) _ _ _ _ _, [(((r.map Kqb5Neutral.n).length : Nat) : Int)])
    rw [e3, List.length_map]
    unfold beginP heldI leaksI
    rw [sum_zero, List.map_map, List.map_map, List.map_map, List.map_map]
    rfl
theorem ps_ext {p : Pack} {s : PS} (h1 : s.rooms = roomsI p.groups) (h2 : s.held = heldI p.groups) (h3 : s.leaks = leaksI p.groups) (h4 : s.put = (p.put : Int)) (h5 : s.filled = (p.filled : Int)) (h6 : s.drawn = (p.drawn : Int)) (h7 : s.bled = (p.bled : Int)) (h8 : s.leaked = (p.leaked : Int)) : s = abs (some p) := by
  cases s
  dsimp only at h1 h2 h3 h4 h5 h6 h7 h8
  subst h1 h2 h3 h4 h5 h6 h7 h8
  rfl
theorem pair_ext {p : Pack} {s : PS} {a b : List Int} (h : s = abs (some p)) (e : a = b) : (s, a) = (abs (some p), b) := by rw [h, e]
/-! hold, leak -/
theorem zip_len {α β γ : Type} {f : α → β → γ} {l : List α} {r : List β} (h : r.length = l.length) : (List.zipWith f l r).length = l.length := by
  rw [List.length_zipWith]; omega
theorem map_zip_right {α β γ δ : Type} {f : α → β → γ} {g : γ → δ} {k : β → δ} (e : ∀ a b, g (f a b) = k b) : ∀ (l : List α) (r : List β), r.length = l.length → (List.zipWith f l r).map g = r.map k
  | [], r, h => by
    have e : r = [] := List.length_eq_zero_iff.mp h
    subst e; rfl
  | a :: l, [], h => by simp at h
  | a :: l, b :: r, h => by
    show g (f a b) :: (List.zipWith f l r).map g = k b :: r.map k
    rw [e, map_zip_right e l r (by simpa using h)]
theorem map_zip_left {α β γ δ : Type} {f : α → β → γ} {g : γ → δ} {k : α → δ} (e : ∀ a b, g (f a b) = k a) : ∀ (l : List α) (r : List β), r.length = l.length → (List.zipWith f l r).map g = l.map k
  | [], r, h => by
    have e : r = [] := List.length_eq_zero_iff.mp h
    subst e; rfl
  | a :: l, [], h => by simp at h
  | a :: l, b :: r, h => by
    show g (f a b) :: (List.zipWith f l r).map g = k a :: l.map k
    rw [e, map_zip_left e l r (by simpa using h)]
theorem any_zip_congr {α β γ δ : Type} {f : α → β → Bool} {g : γ → δ → Bool} (u : α → γ) (v : β → δ) : ∀ (l : List α) (r : List β), (∀ a ∈ l, ∀ b ∈ r, f a b = g (u a) (v b)) → (List.zipWith f l r).any id = (List.zipWith g (l.map u) (r.map v)).any id
  | [], r, _ => by cases r <;> rfl
  | a :: l, [], _ => rfl
  | a :: l, b :: r, e => by
    show (f a b || (List.zipWith f l r).any id) = (g (u a) (v b) || (List.zipWith g (l.map u) (r.map v)).any id)
    rw [e a List.mem_cons_self b List.mem_cons_self, any_zip_congr u v l r fun a ha b hb => e a (List.mem_cons_of_mem _ ha) b (List.mem_cons_of_mem _ hb)]
def fHold (s : PS) (r : List Int) : PS × List Int :=
  if ¬ (r.length : Int) = (s.rooms.length : Int) then (s, [-22]) else if (List.zipWith (fun room h => decide (h > room)) s.rooms r).any id = true then (s, [-22]) else (s.putP r, [r.sum])
theorem n_up (l : List Nat) : (up l).map Kqb5Neutral.n = l := by
  unfold up
  rw [List.map_map]
  refine (List.map_congr_left (g := id) fun x _ => ?_).trans (List.map_id _)
  show ((x : Nat) : Int).toNat = x
  omega
theorem of_up {r : List Int} (h : ∀ z ∈ r, num32 z) : ∃ l, r = up l := ⟨r.map Kqb5Neutral.n, (toNat_up h).symm⟩
theorem hold_ok (p : Pack) {r : List Int} (h : ∀ z ∈ r, num32 z) : fHold (absP p) r = stp (some p) [[1], r] := by
  obtain ⟨l, rfl⟩ := of_up h
  have ec : Kqb5Neutral.callOf [[1], up l] = some (.hold l) := by
    show some (Kqb5.Call.hold ((up l).map Kqb5Neutral.n)) = _
    rw [n_up]
  have e2 : Kqb5.step (some p) (.hold l) = if l.length ≠ p.groups.length ∨ (List.range l.length).any (fun i => decide ((((p.groups[i]?).map fun g => g.room).getD 0) < l.getD i 0)) = true then (some p, .num (-22)) else
    (some { p with groups := (List.range l.length).filterMap fun i => (p.groups[i]?).map fun g => { g with held := l.getD i 0 }, put := Kqb5.sum l, filled := 0, drawn := 0, bled := 0, leaked := 0 }, .num (Kqb5.sum l)) := rfl
  have er : (absP p).rooms.length = p.groups.length := List.length_map ..
  unfold fHold
  rw [er, up_length]
  by_cases c1 : (l.length : Int) = (p.groups.length : Int)
  · have c1' : l.length = p.groups.length := by omega
    have ea : (List.range l.length).any (fun i => decide ((((p.groups[i]?).map fun g => g.room).getD 0) < l.getD i 0)) = (List.zipWith (fun room h => decide (h > room)) (absP p).rooms (up l)).any id := by
      refine (range_any (fun o x => decide (((o.map fun (g : Group) => g.room).getD 0) < x)) 0 p.groups l c1').trans ?_
      refine any_zip_congr (fun (g : Group) => (g.room : Int)) (fun (x : Nat) => (x : Int)) p.groups l fun g _ x _ => ?_
      show decide (g.room < x) = decide ((x : Int) > (g.room : Int))
      exact decide_eq_decide.mpr (by omega)
    have ez : ((List.range l.length).filterMap fun i => (p.groups[i]?).map fun g => { g with held := l.getD i 0 }) = List.zipWith (fun (g : Group) (x : Nat) => { g with held := x }) p.groups l := range_zip (fun (g : Group) (x : Nat) => ({ g with held := x } : Group)) 0 p.groups l c1'
    rw [if_neg (by omega)]
    by_cases c2 : (List.zipWith (fun room h => decide (h > room)) (absP p).rooms (up l)).any id = true
    · rw [if_pos c2]
      rw [if_pos (.inr (by rw [ea]; exact c2))] at e2
      rw [stp_of ec e2]
      rfl
    · rw [if_neg c2]
      rw [if_neg (by rintro (q | q); exact q c1'; rw [ea] at q; exact c2 q), ez] at e2
      rw [stp_of ec e2]
      refine pair_ext (ps_ext ?_ ?_ ?_ (sum_up l) rfl rfl rfl rfl) (congrArg (fun z => [z]) (sum_up l))
      · exact (map_zip_left (f := fun (g : Group) (x : Nat) => ({ g with held := x } : Group)) (g := fun (g : Group) => (g.room : Int)) (fun _ _ => rfl) _ _ c1').symm
      · exact (map_zip_right (f := fun (g : Group) (x : Nat) => ({ g with held := x } : Group)) (g := fun (g : Group) => (g.held : Int)) (fun _ _ => rfl) _ _ c1').symm
      · exact (map_zip_left (f := fun (g : Group) (x : Nat) => ({ g with held := x } : Group)) (g := fun (g : Group) => (g.leak : Int)) (fun _ _ => rfl) _ _ c1').symm
  · rw [if_pos c1]
    rw [if_pos (.inl (by omega))] at e2
    rw [stp_of ec e2]
    rfl
def fLeak (s : PS) (r : List Int) : PS × List Int :=
  if ¬ (r.length : Int) = (s.rooms.length : Int) then (s, [-22]) else if (r.map fun x => decide (x > 1000)).any id = true then (s, [-22]) else ({ s with leaks := r }, [0])
theorem leak_ok (p : Pack) {r : List Int} (h : ∀ z ∈ r, num32 z) : fLeak (absP p) r = stp (some p) [[2], r] := by
  obtain ⟨l, rfl⟩ := of_up h
  have ec : Kqb5Neutral.callOf [[2], up l] = some (.leak l) := by
    show some (Kqb5.Call.leak ((up l).map Kqb5Neutral.n)) = _
    rw [n_up]
  have e2 : Kqb5.step (some p) (.leak l) = if l.length ≠ p.groups.length ∨ l.any (fun x => decide (1000 < x)) = true then (some p, .num (-22)) else (some { p with groups := (List.range l.length).filterMap fun i => (p.groups[i]?).map fun g => { g with leak := l.getD i 0 } }, .num 0) := rfl
  have er : (absP p).rooms.length = p.groups.length := List.length_map ..
  unfold fLeak
  rw [er, up_length]
  have ea : ((up l).map fun x => decide (x > 1000)).any id = l.any (fun x => decide (1000 < x)) := by
    unfold up
    rw [List.map_map, List.any_map]
    refine congrArg (List.any l) (funext fun x => ?_)
    show decide ((x : Int) > 1000) = decide (1000 < x)
    exact decide_eq_decide.mpr (by omega)
  rw [ea]
  by_cases c1 : (l.length : Int) = (p.groups.length : Int)
  · have c1' : l.length = p.groups.length := by omega
    have ez : ((List.range l.length).filterMap fun i => (p.groups[i]?).map fun g => { g with leak := l.getD i 0 }) = List.zipWith (fun (g : Group) (x : Nat) => { g with leak := x }) p.groups l := range_zip (fun (g : Group) (x : Nat) => ({ g with leak := x } : Group)) 0 p.groups l c1'
    rw [if_neg (by omega)]
    by_cases c2 : l.any (fun x => decide (1000 < x)) = true
    · rw [if_pos c2]
      rw [if_pos (.inr c2)] at e2
      rw [stp_of ec e2]
      rfl
    · rw [if_neg c2]
      rw [if_neg (by rintro (q | q); exact q c1'; exact c2 q), ez] at e2
      rw [stp_of ec e2]
      refine pair_ext (ps_ext ?_ ?_ ?_ rfl rfl rfl rfl rfl) rfl
      · exact (map_zip_left (f := fun (g : Group) (x : Nat) => ({ g with leak := x } : Group)) (g := fun (g : Group) => (g.room : Int)) (fun _ _ => rfl) _ _ c1').symm
      · exact (map_zip_left (f := fun (g : Group) (x : Nat) => ({ g with leak := x } : Group)) (g := fun (g : Group) => (g.held : Int)) (fun _ _ => rfl) _ _ c1').symm
      · exact (map_zip_right (f := fun (g : Group) (x : Nat) => ({ g with leak := x } : Group)) (g := fun (g : Group) => (g.leak : Int)) (fun _ _ => rfl) _ _ c1').symm
  · rw [if_pos c1]
    rw [if_pos (.inl (by omega))] at e2
    rw [stp_of ec e2]
    rfl
/-! fill, draw -/
def mayMove (n : Int) : Bool := decide (1 ≤ n) && decide (n ≤ 100000)
def fFill (s : PS) (n : Int) : PS × List Int := if (!mayMove n) = true then (s, [-22]) else (s.fill n, [s.got n])
def fDraw (s : PS) (n : Int) : PS × List Int := if (!mayMove n) = true then (s, [-22]) else (s.draw n, [s.gave n])
theorem mayMove_iff {n : Int} (h : num32 n) : (!mayMove n) = true ↔ (Kqb5Neutral.n n = 0 ∨ 100000 < Kqb5Neutral.n n) := by
  unfold mayMove Kqb5Neutral.n
  have := h.1
  by_cases c1 : 1 ≤ n <;> by_cases c2 : n ≤ 100000 <;> simp [c1, c2] <;> omega
theorem fill_ok {p : Pack} (G : Good p.groups) {a : Int} (h : num32 a) : fFill (absP p) a = stp (some p) [[3, a]] := by
  have e2 : Kqb5.step (some p) (.fill (Kqb5Neutral.n a)) = if Kqb5Neutral.n a = 0 ∨ 100000 < Kqb5Neutral.n a then (some p, .num (-22)) else (some { p with groups := fillBy p.groups (fills p.groups (Kqb5Neutral.n a)), filled := p.filled + fills p.groups (Kqb5Neutral.n a) * p.groups.length }, .num (fills p.groups (Kqb5Neutral.n a))) := rfl
  unfold fFill
  by_cases c : (!mayMove a) = true
  · rw [if_pos c]
    rw [if_pos ((mayMove_iff h).mp c)] at e2
    rw [stp_of rfl e2]
    rfl
  · rw [if_neg c]
    rw [if_neg fun q => c ((mayMove_iff h).mpr q)] at e2
    rw [stp_of rfl e2]
    have eg : (absP p).got a = (fills p.groups (Kqb5Neutral.n a) : Int) := by
      unfold PS.got fills Kqb5Neutral.n
      rw [mn_eq, lacksP G, minI_up]
      have := h.1
      omega
    have e4 : (absP p).held.length = p.groups.length := List.length_map ..
    refine pair_ext (ps_ext ?_ ?_ ?_ rfl ?_ rfl rfl rfl) (congrArg (fun z => [z]) eg)
    · show roomsI p.groups = (fillBy p.groups _).map _
      unfold fillBy
      rw [List.map_map]; rfl
    · show (heldI p.groups).map (fun h => h + (absP p).got a) = (fillBy p.groups _).map _
      rw [eg]
      unfold fillBy heldI
      rw [List.map_map, List.map_map]; rfl
    · show leaksI p.groups = (fillBy p.groups _).map _
      unfold fillBy
      rw [List.map_map]; rfl
    · show (p.filled : Int) + (absP p).got a * ((absP p).held.length : Int) = ((p.filled + fills p.groups (Kqb5Neutral.n a) * p.groups.length : Nat) : Int)
      rw [eg, e4, Int.natCast_add, Int.natCast_mul]
theorem draw_ok {p : Pack} {a : Int} (h : num32 a) : fDraw (absP p) a = stp (some p) [[4, a]] := by
  have e2 : Kqb5.step (some p) (.draw (Kqb5Neutral.n a)) = if Kqb5Neutral.n a = 0 ∨ 100000 < Kqb5Neutral.n a then (some p, .num (-22)) else (some { p with groups := drawBy p.groups (draws p.groups (Kqb5Neutral.n a)), drawn := p.drawn + draws p.groups (Kqb5Neutral.n a) * p.groups.length }, .num (draws p.groups (Kqb5Neutral.n a))) := rfl
  unfold fDraw
  by_cases c : (!mayMove a) = true
  · rw [if_pos c]
    rw [if_pos ((mayMove_iff h).mp c)] at e2
    rw [stp_of rfl e2]
    rfl
  · rw [if_neg c]
    rw [if_neg fun q => c ((mayMove_iff h).mpr q)] at e2
    rw [stp_of rfl e2]
    have eg : (absP p).gave a = (draws p.groups (Kqb5Neutral.n a) : Int) := by
      unfold PS.gave draws Kqb5Neutral.n
      rw [mn_eq, heldP, minI_up]
      have := h.1
      omega
    have hk : ∀ g ∈ p.groups, draws p.groups (Kqb5Neutral.n a) ≤ g.held := fun g hg => by
      have h1 : least (helds p.groups) ≤ g.held := least_le (List.mem_map.mpr ⟨g, hg, rfl⟩)
      unfold draws
      omega
    have e4 : (absP p).held.length = p.groups.length := List.length_map ..
    refine pair_ext (ps_ext ?_ ?_ ?_ rfl rfl ?_ rfl rfl) (congrArg (fun z => [z]) eg)
    · show roomsI p.groups = (drawBy p.groups _).map _
      unfold drawBy
      rw [List.map_map]; rfl
    · show (heldI p.groups).map (fun h => h - (absP p).gave a) = (drawBy p.groups _).map _
      rw [eg]
      unfold drawBy heldI
      rw [List.map_map, List.map_map]
      refine List.map_congr_left fun g hg => ?_
      have := hk g hg
      show (g.held : Int) - (draws p.groups (Kqb5Neutral.n a) : Int) = ((g.held - draws p.groups (Kqb5Neutral.n a) : Nat) : Int)
      omega
    · show leaksI p.groups = (drawBy p.groups _).map _
      unfold drawBy
      rw [List.map_map]; rfl
    · show (p.drawn : Int) + (absP p).gave a * ((absP p).held.length : Int) = ((p.drawn + draws p.groups (Kqb5Neutral.n a) * p.groups.length : Nat) : Int)
      rw [eg, e4, Int.natCast_add, Int.natCast_mul]
/-! bleeding -/
theorem bleedBy_map (l : List Group) (f : Group → Nat) : bleedBy l (l.map f) = l.map fun g => { g with held := g.held - f g } := by
  unfold bleedBy
  have h : (l.map f).length = l.length := List.length_map ..
  have e := range_zip (fun (g : Group) (x : Nat) => ({ g with held := g.held - x } : Group)) 0 l (l.map f) h
  rw [h] at e
  refine e.trans ?_
  have e3 := zip_map2 (fun (g : Group) (x : Nat) => ({ g with held := g.held - x } : Group)) id f l
  rw [List.map_id] at e3
  exact e3
theorem toLack_map {p : Pack} (G : Good p.groups) {m : Int} {k : Nat} (e : m = (k : Int)) : (absP p).toLack m = up (p.groups.map fun g => k - lack g) := by
  unfold PS.toLack
  rw [lacksP G, up_map]
  unfold Kqb5.lacks up
  rw [List.map_map, List.map_map]
  refine List.map_congr_left fun g _ => ?_
  show mx 0 (m - (lack g : Int)) = ((k - lack g : Nat) : Int)
  rw [mx_eq, e]
  omega
theorem toEven_eq {p : Pack} (G : Good p.groups) : (absP p).toEven = up (even p.groups) := by
  unfold PS.toEven
  refine toLack_map G ?_
  rw [lacksP G, maxI_up]
theorem toGive_eq {p : Pack} (G : Good p.groups) (t : Nat) : (absP p).toGive (t : Int) = up (bleeds p.groups t) := by
  unfold PS.toGive
  refine toLack_map G ?_
  rw [mx_eq, lacksP G, heldP, minI_up, minI_up, mark_eq G.pos]
theorem canBleed_eq (p : Pack) (f : Group → Nat) : (absP p).canBleed (up (p.groups.map f)) = true ↔ ∀ g ∈ p.groups, f g ≤ g.held := by
  unfold PS.canBleed
  rw [up_map]
  show ((List.zipWith _ (heldI p.groups) _).all id) = true ↔ _
  rw [zip_map2, List.all_eq_true]
  constructor
  · intro h g hg
    have q : decide ((f g : Int) ≤ (g.held : Int)) = true := h _ (List.mem_map.mpr ⟨g, hg, rfl⟩)
    have := of_decide_eq_true q
    omega
  · intro h x hx
    obtain ⟨g, hg, rfl⟩ := List.mem_map.mp hx
    have := h g hg
    exact decide_eq_true (by omega)
theorem anyLess_iff (l : List Group) (f : Group → Nat) : (List.range (l.map f).length).any (fun i => decide ((helds l).getD i 0 < (l.map f).getD i 0)) = true ↔ ¬ ∀ g ∈ l, f g ≤ g.held := by
  have e := range_any (fun (o : Option Nat) (x : Nat) => decide (o.getD 0 < x)) 0 (helds l) (l.map f) (by unfold helds; rw [List.length_map, List.length_map])
  have e' : (List.range (l.map f).length).any (fun i => decide ((helds l).getD i 0 < (l.map f).getD i 0)) = _ := e
  rw [e']
  unfold helds
  rw [zip_map2, List.any_eq_true]
  constructor
  · rintro ⟨x, hx, hx2⟩ h
    obtain ⟨g, hg, rfl⟩ := List.mem_map.mp hx
    have q := of_decide_eq_true (show decide (g.held < f g) = true from hx2)
    have := h g hg
    omega
  · intro h
    refine Classical.byContradiction fun hn => h fun g hg => ?_
    refine Classical.byContradiction fun hl => hn ⟨_, List.mem_map.mpr ⟨g, hg, rfl⟩, ?_⟩
    exact decide_eq_true (show g.held < f g by omega)
theorem bleedEach_eq (p : Pack) (f : Group → Nat) (h : ∀ g ∈ p.groups, f g ≤ g.held) :
    (absP p).bleedEach (up (p.groups.map f)) = abs (some { p with groups := bleedBy p.groups (p.groups.map f), bled := p.bled + Kqb5.sum (p.groups.map f) }) := by
  refine ps_ext ?_ ?_ ?_ rfl rfl rfl ?_ rfl
  · show roomsI p.groups = (bleedBy p.groups (p.groups.map f)).map _
    rw [bleedBy_map, List.map_map]; rfl
  · show List.zipWith (fun h a => h - a) (heldI p.groups) (up (p.groups.map f)) = (bleedBy p.groups (p.groups.map f)).map _
    rw [bleedBy_map, List.map_map, up_map, zip_map2]
    refine List.map_congr_left fun g hg => ?_
    have := h g hg
    show (g.held : Int) - (f g : Int) = ((g.held - f g : Nat) : Int)
    omega
  · show leaksI p.groups = (bleedBy p.groups (p.groups.map f)).map _
    rw [bleedBy_map, List.map_map]; rfl
  · show (p.bled : Int) + (up (p.groups.map f)).sum = ((p.bled + Kqb5.sum (p.groups.map f) : Nat) : Int)
    rw [sum_up]
    omega
def fEven (s : PS) : PS × List Int := if (!s.canBleed s.toEven) = true then (s, [-33]) else (s.bleedEach s.toEven, [s.toEven.sum])
def fEvens (s : PS) : PS × List Int := (s, (s.toEven.length : Int) :: s.toEven)
def fReach (s : PS) (t : Int) : PS × List Int := if t > s.most then (s, [-33]) else (s, [(s.toGive t).sum])
def fBleeds (s : PS) (t : Int) : PS × List Int := if t > s.most then (s, [-33]) else (s.bleedEach (s.toGive t), [(s.toGive t).sum])
def fGives (s : PS) : PS × List Int := (s, [s.gives])
def fMost (s : PS) : PS × List Int := (s, [s.most])
theorem even_ok {p : Pack} (G : Good p.groups) : fEven (absP p) = stp (some p) [[6]] := by
  have e2 : Kqb5.step (some p) .even = if (List.range (even p.groups).length).any (fun i => decide ((helds p.groups).getD i 0 < (even p.groups).getD i 0)) = true then (some p, .num (-33)) else (some { p with groups := bleedBy p.groups (even p.groups), bled := p.bled + Kqb5.sum (even p.groups) }, .num (Kqb5.sum (even p.groups))) := rfl
  have ee : even p.groups = p.groups.map fun g => greatest (Kqb5.lacks p.groups) - lack g := rfl
  unfold fEven
  rw [toEven_eq G]
  have q := canBleed_eq p (fun g => greatest (Kqb5.lacks p.groups) - lack g)
  have q2 := anyLess_iff p.groups (fun g => greatest (Kqb5.lacks p.groups) - lack g)
  rw [← ee] at q q2
  cases c : (absP p).canBleed (up (even p.groups)) with
  | false =>
    rw [if_pos (show (!false) = true from rfl)]
    rw [c] at q
    rw [if_pos (q2.mpr fun h => absurd (q.mpr h) (by decide))] at e2
    rw [stp_of rfl e2]
    rfl
  | true =>
    rw [if_neg (by decide)]
    rw [if_neg (fun h => q2.mp h (q.mp c))] at e2
    rw [stp_of rfl e2]
    exact pair_ext (bleedEach_eq p _ (q.mp c)) (congrArg (fun z => [z]) (sum_up _))
theorem evens_ok {p : Pack} (G : Good p.groups) : fEvens (absP p) = stp (some p) [[7]] := by
  unfold fEvens
  rw [stp_of (s := some p) (x := .evens) (S := some p) (a := row (even p.groups)) rfl rfl, toEven_eq G, up_length]
  rfl
theorem natOf {a : Int} (h : num32 a) : ∃ t : Nat, a = (t : Int) ∧ Kqb5Neutral.n a = t := ⟨a.toNat, by have := h.1; omega, rfl⟩
theorem reach_ok {p : Pack} (G : Good p.groups) {a : Int} (h : num32 a) : fReach (absP p) a = stp (some p) [[8, a]] := by
  obtain ⟨t, ea, et⟩ := natOf h
  have e2 : Kqb5.step (some p) (.reach (Kqb5Neutral.n a)) = (some p, if most p.groups < Kqb5Neutral.n a then .num (-33) else .num (Kqb5.sum (bleeds p.groups (Kqb5Neutral.n a)))) := rfl
  rw [stp_of rfl e2, et]
  unfold fReach
  rw [mostP, ea, toGive_eq G, sum_up]
  by_cases c : most p.groups < t
  · rw [if_pos c, if_pos (by omega)]; rfl
  · rw [if_neg c, if_neg (by omega)]; rfl
theorem bleeds_le {l : List Group} (G : Good l) {t : Nat} (h : t ≤ most l) : ∀ g ∈ l, mark l t - lack g ≤ g.held := fun g hg => by
  have a : least (Kqb5.lacks l) ≤ lack g := least_le (List.mem_map.mpr ⟨g, hg, rfl⟩)
  have b : most l ≤ g.room := least_le (List.mem_map.mpr ⟨g, hg, rfl⟩)
  have c := mark_eq G.pos t
  have d := (G.all g hg).h
  unfold lack at *
  omega
theorem bleeds_ok {p : Pack} (G : Good p.groups) {a : Int} (h : num32 a) : fBleeds (absP p) a = stp (some p) [[9, a]] := by
  obtain ⟨t, ea, et⟩ := natOf h
  have e2 : Kqb5.step (some p) (.bleeds (Kqb5Neutral.n a)) = if most p.groups < Kqb5Neutral.n a then (some p, .num (-33)) else (some { p with groups := bleedBy p.groups (bleeds p.groups (Kqb5Neutral.n a)), bled := p.bled + Kqb5.sum (bleeds p.groups (Kqb5Neutral.n a)) }, .num (Kqb5.sum (bleeds p.groups (Kqb5Neutral.n a)))) := rfl
  rw [et] at e2
  have ec : Kqb5Neutral.callOf [[9, a]] = some (.bleeds t) := by rw [← et]; rfl
  unfold fBleeds
  rw [mostP]
  by_cases c : most p.groups < t
  · rw [if_pos c] at e2
    rw [stp_of ec e2, if_pos (by omega)]; rfl
  · rw [if_neg c] at e2
    rw [stp_of ec e2, if_neg (by omega), ea, toGive_eq G]
    exact pair_ext (bleedEach_eq p _ (bleeds_le G (by omega))) (congrArg (fun z => [z]) (sum_up _))
theorem gives_ok {p : Pack} (G : Good p.groups) : fGives (absP p) = stp (some p) [[10]] := by
  unfold fGives
  rw [stp_of (s := some p) (x := .gives) (S := some p) (a := .num (gives p.groups)) rfl rfl, givesP G]
  rfl
theorem most_ok (p : Pack) : fMost (absP p) = stp (some p) [[11]] := by
  unfold fMost
  rw [stp_of (s := some p) (x := .most) (S := some p) (a := .num (most p.groups)) rfl rfl, mostP]
  rfl
/-! bleed -/
def fBleed (s : PS) (g n : Int) : PS × List Int :=
  if g ≥ (s.rooms.length : Int) then (s, [-2]) else if n = 0 then (s, [-22]) else if (!s.canBleed (s.ofOne g n)) = true then (s, [-12]) else
    (s.bleedEach (s.ofOne g n), [(s.bleedEach (s.ofOne g n)).held.getD g.toNat 0])
theorem map_set_same {α β : Type} {f : α → β} {x g : α} (e : f x = f g) : ∀ (l : List α) (i : Nat), l[i]? = some g → (l.set i x).map f = l.map f
  | [], _, h => by simp at h
  | a :: l, 0, h => by
    have h : a = g := by simpa using h
    subst h
    show f x :: l.map f = f a :: l.map f
    rw [e]
  | a :: l, i + 1, h => by
    show f a :: (l.set i x).map f = f a :: l.map f
    rw [map_set_same e l i (by simpa using h)]
theorem zip_one {γ : Type} (f : Int → Int → γ) (n : Int) : ∀ (l : List Int) (i : Nat), i < l.length → List.zipWith f l ((List.replicate l.length 0).set i n) = (l.map fun x => f x 0).set i (f (l.getD i 0) n)
  | [], _, h => by simp at h
  | a :: l, 0, _ => by
    show f a n :: List.zipWith f l (List.replicate l.length 0) = f a n :: l.map fun x => f x 0
    have e : ∀ l : List Int, List.zipWith f l (List.replicate l.length 0) = l.map fun x => f x 0 := fun l => by
      induction l with
      | nil => rfl
      | cons x r ih => show f x 0 :: List.zipWith f r (List.replicate r.length 0) = _; rw [ih]; rfl
    rw [e]
  | a :: l, i + 1, h => by
    show f a 0 :: List.zipWith f l ((List.replicate l.length 0).set i n) = f a 0 :: ((l.map fun x => f x 0).set i (f (l.getD i 0) n))
    rw [zip_one f n l i (by simpa using h)]
theorem all_set {b : Bool} : ∀ (l : List Bool) (i : Nat), (∀ x ∈ l, x = true) → i < l.length → (l.set i b).all id = b
  | [], _, _, h => by simp at h
  | a :: l, 0, ht, _ => by
    show (b && l.all id) = b
    have e : l.all id = true := List.all_eq_true.mpr fun x hx => ht x (List.mem_cons_of_mem _ hx)
    rw [e, Bool.and_true]
  | a :: l, i + 1, ht, h => by
    show (a && (l.set i b).all id) = b
    rw [all_set l i (fun x hx => ht x (List.mem_cons_of_mem _ hx)) (by simpa using h), ht a List.mem_cons_self, Bool.true_and]
theorem sum_one (n : Int) : ∀ (k i : Nat), i < k → ((List.replicate k (0 : Int)).set i n).sum = n
  | 0, _, h => by simp at h
  | k + 1, 0, _ => by
    show (n :: List.replicate k (0 : Int)).sum = n
    have e : ∀ k : Nat, (List.replicate k (0 : Int)).sum = 0 := fun k => by
      induction k with
      | zero => rfl
      | succ m ih => rw [List.replicate_succ, List.sum_cons, ih]; rfl
    rw [List.sum_cons, e]
    omega
  | k + 1, i + 1, h => by
    show ((0 : Int) :: (List.replicate k (0 : Int)).set i n).sum = n
    rw [List.sum_cons, sum_one n k i (by omega)]
    omega
theorem ofOne_eq (s : PS) (i : Nat) (n : Int) : s.ofOne (i : Int) n = (List.replicate s.held.length 0).set i n := by
  unfold PS.ofOne
  refine List.ext_getElem? fun j => ?_
  rw [List.getElem?_map, List.getElem?_set]
  by_cases hj : j < s.held.length
  · rw [List.getElem?_range hj]
    by_cases e : i = j
    · subst e
      rw [if_pos rfl, if_pos (by rw [List.length_replicate]; exact hj)]
      show some (if (i : Int) = (i : Int) then n else 0) = some n
      rw [if_pos rfl]
    · rw [if_neg e, List.getElem?_replicate, if_pos hj]
      show some (if (j : Int) = (i : Int) then n else 0) = some 0
      rw [if_neg (by omega)]
  · rw [List.getElem?_eq_none (by rw [List.length_range]; omega)]
    by_cases e : i = j
    · subst e
      rw [if_pos rfl, if_neg (by rw [List.length_replicate]; exact hj)]
      rfl
    · rw [if_neg e, List.getElem?_replicate, if_neg hj]
      rfl
theorem bleed_ok (p : Pack) {a b : Int} (ha : num32 a) (hb : num32 b) : fBleed (absP p) a b = stp (some p) [[5, a, b]] := by
  obtain ⟨i, ea, ei⟩ := natOf ha
  obtain ⟨n, eb, en⟩ := natOf hb
  have ec : Kqb5Neutral.callOf [[5, a, b]] = some (.bleed i n) := by rw [← ei, ← en]; rfl
  subst ea eb
  unfold fBleed
  have er : (absP p).rooms.length = p.groups.length := List.length_map ..
  have eh : (absP p).held.length = p.groups.length := List.length_map ..
  rw [er]
  cases hg : p.groups[i]? with
  | none =>
    have hi : p.groups.length ≤ i := List.getElem?_eq_none_iff.mp hg
    have e2 : Kqb5.step (some p) (.bleed i n) = (some p, .num (-2)) := by
      show (match p.groups[i]? with | none => _ | some g => _) = _
      rw [hg]
    rw [stp_of ec e2, if_pos (by omega)]
    rfl
  | some g =>
    have hi : i < p.groups.length := (List.getElem?_eq_some_iff.mp hg).1
    have hget : (absP p).held.getD i 0 = (g.held : Int) := by
      show ((heldI p.groups)[i]?).getD 0 = _
      rw [List.getElem?_map, hg]
      rfl
    have e2 : Kqb5.step (some p) (.bleed i n) = if n = 0 then (some p, .num (-22)) else if g.held < n then (some p, .num (-12)) else (some { p with groups := p.groups.set i { g with held := g.held - n }, bled := p.bled + n }, .num (g.held - n : Nat)) := by
      show (match p.groups[i]? with | none => _ | some g => _) = _
      rw [hg]
    rw [if_neg (by omega), ofOne_eq]
    by_cases c1 : n = 0
    · rw [if_pos c1] at e2
      rw [stp_of ec e2, if_pos (by omega)]
      rfl
    · rw [if_neg c1] at e2
      rw [if_neg (by omega)]
      have ecan : (absP p).canBleed ((List.replicate (absP p).held.length 0).set i (n : Int)) = decide ((n : Int) ≤ (g.held : Int)) := by
        unfold PS.canBleed
        rw [zip_one _ _ _ _ (by rw [eh]; exact hi), hget]
        refine all_set _ _ (fun x hx => ?_) (by rw [List.length_map, eh]; exact hi)
        obtain ⟨y, hy, rfl⟩ := List.mem_map.mp hx
        obtain ⟨g', _, rfl⟩ := List.mem_map.mp hy
        exact decide_eq_true (by omega)
      rw [ecan]
      by_cases c2 : g.held < n
      · rw [if_pos c2] at e2
        rw [stp_of ec e2, decide_eq_false (by omega)]
        rfl
      · rw [if_neg c2] at e2
        rw [stp_of ec e2, decide_eq_true (by omega), if_neg (by decide)]
        have eheld : ((absP p).bleedEach ((List.replicate (absP p).held.length 0).set i (n : Int))).held = (heldI p.groups).set i ((g.held - n : Nat) : Int) := by
          show List.zipWith (fun h a => h - a) (absP p).held _ = _
          rw [zip_one _ _ _ _ (by rw [eh]; exact hi), hget]
          have e : (absP p).held.map (fun x => x - 0) = heldI p.groups := by
            refine (List.map_congr_left (g := id) fun z _ => ?_).trans (List.map_id _)
            show z - 0 = z
            omega
          rw [e]
          congr 1
          omega
        refine pair_ext (ps_ext ?_ ?_ ?_ rfl rfl rfl ?_ rfl) ?_
        · exact (map_set_same (f := fun (g : Group) => (g.room : Int)) (x := ({ g with held := g.held - n } : Group)) (g := g) rfl _ _ hg).symm
        · rw [eheld]
          show _ = (p.groups.set i { g with held := g.held - n }).map _
          rw [List.map_set]
        · exact (map_set_same (f := fun (g : Group) => (g.leak : Int)) (x := ({ g with held := g.held - n } : Group)) (g := g) rfl _ _ hg).symm
        · show (p.bled : Int) + ((List.replicate (absP p).held.length 0).set i (n : Int)).sum = ((p.bled + n : Nat) : Int)
          rw [sum_one _ _ _ (by rw [eh]; exact hi)]
          omega
        · rw [eheld]
          show [((heldI p.groups).set i ((g.held - n : Nat) : Int))[i]?.getD 0] = _
          rw [List.getElem?_set_self (by rw [List.length_map]; exact hi)]
          rfl
/-! ### what the specification keeps, call by call -/
theorem good_map {l : List Group} {f : Group → Group} (G : Good l) (h : ∀ g ∈ l, GoodG (f g)) : Good (l.map f) :=
  ⟨by rw [List.length_map]; exact G.pos, by rw [List.length_map]; exact G.ten, fun x hx => by obtain ⟨g, hg, rfl⟩ := List.mem_map.mp hx; exact h g hg⟩
theorem good_set {l : List Group} {i : Nat} {x : Group} (G : Good l) (h : GoodG x) : Good (l.set i x) :=
  ⟨by rw [List.length_set]; exact G.pos, by rw [List.length_set]; exact G.ten, fun y hy => by
    rcases List.mem_or_eq_of_mem_set hy with q | q
    · exact G.all y q
    · rw [q]; exact h⟩
theorem good_zip {β : Type} {l : List Group} {r : List β} {f : Group → β → Group} (G : Good l) (e : r.length = l.length) (h : ∀ (i : Nat) g x, l[i]? = some g → r[i]? = some x → GoodG (f g x)) : Good (List.zipWith f l r) :=
  ⟨by rw [zip_len e]; exact G.pos, by rw [zip_len e]; exact G.ten, fun y hy => by
    obtain ⟨i, hi⟩ := List.getElem?_of_mem hy
    rw [List.getElem?_zipWith] at hi
    cases h1 : l[i]? with
    | none => rw [h1] at hi; cases hi
    | some g =>
      cases h2 : r[i]? with
      | none => rw [h1, h2] at hi; cases hi
      | some x =>
        rw [h1, h2] at hi
        cases hi
        exact h i g x h1 h2⟩
theorem good_step (x : Kqb5.Call) : ∀ {s : Option Pack}, GoodO s → GoodO (Kqb5.step s x).1 := by
  intro s G
  cases x with
  | start l =>
    have e2 : Kqb5.step s (.start l) = if okRooms l = false then (s, .num (-22)) else (some ⟨l.map fun c => ⟨c, 0, 0⟩, 0, 0, 0, 0, 0⟩, .num l.length) := by cases s <;> rfl
    rw [e2]
    cases ok : okRooms l with
    | false => exact G
    | true =>
      unfold okRooms at ok
      rw [Bool.and_eq_true, Bool.and_eq_true, decide_eq_true_eq, decide_eq_true_eq, List.all_eq_true] at ok
      obtain ⟨⟨a, b⟩, c⟩ := ok
      refine ⟨by show 0 < (l.map _).length; rw [List.length_map]; omega, by show (l.map _).length ≤ 10; rw [List.length_map]; omega, fun g hg => ?_⟩
      obtain ⟨z, hz, rfl⟩ := List.mem_map.mp hg
      have q := c z hz
      rw [Bool.and_eq_true, decide_eq_true_eq, decide_eq_true_eq] at q
      exact ⟨q.1, q.2, Nat.zero_le _, Nat.zero_le _⟩
  | hold l =>
    cases s with
    | none => exact G
    | some p =>
      have G : Good p.groups := G
      have e2 : Kqb5.step (some p) (.hold l) = if l.length ≠ p.groups.length ∨ (List.range l.length).any (fun i => decide ((((p.groups[i]?).map fun g => g.room).getD 0) < l.getD i 0)) = true then (some p, .num (-22)) else
        (some { p with groups := (List.range l.length).filterMap fun i => (p.groups[i]?).map fun g => { g with held := l.getD i 0 }, put := Kqb5.sum l, filled := 0, drawn := 0, bled := 0, leaked := 0 }, .num (Kqb5.sum l)) := rfl
      rw [e2]
      split
      · exact G
      · rename_i c
        have c1 : l.length = p.groups.length := Classical.byContradiction fun q => c (.inl q)
        have ez : ((List.range l.length).filterMap fun i => (p.groups[i]?).map fun g => { g with held := l.getD i 0 }) = List.zipWith (fun (g : Group) (x : Nat) => { g with held := x }) p.groups l := range_zip (fun (g : Group) (x : Nat) => ({ g with held := x } : Group)) 0 p.groups l c1
        rw [ez]
        refine good_zip G c1 fun i g x hg hx => ?_
        have q := G.all g (List.mem_of_getElem? hg)
        refine ⟨q.r1, q.r2, ?_, q.l⟩
        show x ≤ g.room
        refine Classical.byContradiction fun hn => c (.inr (List.any_eq_true.mpr ⟨i, List.mem_range.mpr (List.getElem?_eq_some_iff.mp hx).1, ?_⟩))
        show decide ((((p.groups[i]?).map fun g => g.room).getD 0) < (l[i]?).getD 0) = true
        rw [hg, hx]
        exact decide_eq_true (show g.room < x by omega)
  | leak l =>
    cases s with
    | none => exact G
    | some p =>
      have G : Good p.groups := G
      have e2 : Kqb5.step (some p) (.leak l) = if l.length ≠ p.groups.length ∨ l.any (fun x => decide (1000 < x)) = true then (some p, .num (-22)) else (some { p with groups := (List.range l.length).filterMap fun i => (p.groups[i]?).map fun g => { g with leak := l.getD i 0 } }, .num 0) := rfl
      rw [e2]
      split
      · exact G
      · rename_i c
        have c1 : l.length = p.groups.length := Classical.byContradiction fun q => c (.inl q)
        have ez : ((List.range l.length).filterMap fun i => (p.groups[i]?).map fun g => { g with leak := l.getD i 0 }) = List.zipWith (fun (g : Group) (x : Nat) => { g with leak := x }) p.groups l := range_zip (fun (g : Group) (x : Nat) => ({ g with leak := x } : Group)) 0 p.groups l c1
        rw [ez]
        refine good_zip G c1 fun i g x hg hx => ?_
        have q := G.all g (List.mem_of_getElem? hg)
        refine ⟨q.r1, q.r2, q.h, ?_⟩
        show x ≤ 1000
        exact Classical.byContradiction fun hn => c (.inr (List.any_eq_true.mpr ⟨x, List.mem_of_getElem? hx, decide_eq_true (by omega)⟩))
  | fill n =>
    cases s with
    | none => exact G
    | some p =>
      have G : Good p.groups := G
      have e2 : Kqb5.step (some p) (.fill n) = if n = 0 ∨ 100000 < n then (some p, .num (-22)) else (some { p with groups := fillBy p.groups (fills p.groups n), filled := p.filled + fills p.groups n * p.groups.length }, .num (fills p.groups n)) := rfl
      rw [e2]
      split
      · exact G
      · refine good_map G fun g hg => ?_
        have q := G.all g hg
        have h1 : least (Kqb5.lacks p.groups) ≤ lack g := least_le (List.mem_map.mpr ⟨g, hg, rfl⟩)
        refine ⟨q.r1, q.r2, ?_, q.l⟩
        show g.held + fills p.groups n ≤ g.room
        have := q.h
        unfold fills
        unfold lack at h1
        omega
  | draw n =>
    cases s with
    | none => exact G
    | some p =>
      have G : Good p.groups := G
      have e2 : Kqb5.step (some p) (.draw n) = if n = 0 ∨ 100000 < n then (some p, .num (-22)) else (some { p with groups := drawBy p.groups (draws p.groups n), drawn := p.drawn + draws p.groups n * p.groups.length }, .num (draws p.groups n)) := rfl
      rw [e2]
      split
      · exact G
      · refine good_map G fun g hg => ?_
        have q := G.all g hg
        exact ⟨q.r1, q.r2, Nat.le_trans (Nat.sub_le _ _) q.h, q.l⟩
  | bleed i n =>
    cases s with
    | none => exact G
    | some p =>
      have G : Good p.groups := G
      cases hg : p.groups[i]? with
      | none =>
        have e2 : Kqb5.step (some p) (.bleed i n) = (some p, .num (-2)) := by
          show (match p.groups[i]? with | none => _ | some g => _) = _
          rw [hg]
        rw [e2]
        exact G
      | some g =>
        have e2 : Kqb5.step (some p) (.bleed i n) = if n = 0 then (some p, .num (-22)) else if g.held < n then (some p, .num (-12)) else (some { p with groups := p.groups.set i { g with held := g.held - n }, bled := p.bled + n }, .num (g.held - n : Nat)) := by
          show (match p.groups[i]? with | none => _ | some g => _) = _
          rw [hg]
        rw [e2]
        split
        · exact G
        · split
          · exact G
          · have q := G.all g (List.mem_of_getElem? hg)
            exact good_set G ⟨q.r1, q.r2, Nat.le_trans (Nat.sub_le _ _) q.h, q.l⟩
  | even =>
    cases s with
    | none => exact G
    | some p =>
      have G : Good p.groups := G
      have e2 : Kqb5.step (some p) .even = if (List.range (even p.groups).length).any (fun i => decide ((helds p.groups).getD i 0 < (even p.groups).getD i 0)) = true then (some p, .num (-33)) else (some { p with groups := bleedBy p.groups (even p.groups), bled := p.bled + Kqb5.sum (even p.groups) }, .num (Kqb5.sum (even p.groups))) := rfl
      rw [e2]
      split
      · exact G
      · show Good (bleedBy p.groups (p.groups.map _))
        rw [bleedBy_map]
        refine good_map G fun g hg => ?_
        have q := G.all g hg
        exact ⟨q.r1, q.r2, Nat.le_trans (Nat.sub_le _ _) q.h, q.l⟩
  | bleeds t =>
    cases s with
    | none => exact G
    | some p =>
      have G : Good p.groups := G
      have e2 : Kqb5.step (some p) (.bleeds t) = if most p.groups < t then (some p, .num (-33)) else (some { p with groups := bleedBy p.groups (bleeds p.groups t), bled := p.bled + Kqb5.sum (bleeds p.groups t) }, .num (Kqb5.sum (bleeds p.groups t))) := rfl
      rw [e2]
      split
      · exact G
      · show Good (bleedBy p.groups (p.groups.map _))
        rw [bleedBy_map]
        refine good_map G fun g hg => ?_
        have q := G.all g hg
        exact ⟨q.r1, q.r2, Nat.le_trans (Nat.sub_le _ _) q.h, q.l⟩
  | days n =>
    cases s with
    | none => exact G
    | some p =>
      have G : Good p.groups := G
      have e2 : Kqb5.step (some p) (.days n) = if n = 0 ∨ 1000 < n then (some p, .num (-22)) else (some { p with groups := leakBy p.groups n, leaked := p.leaked + Kqb5.sum (p.groups.map fun g => leaksIn g n) }, .num (Kqb5.sum (p.groups.map fun g => leaksIn g n))) := rfl
      rw [e2]
      split
      · exact G
      · refine good_map G fun g hg => ?_
        have q := G.all g hg
        exact ⟨q.r1, q.r2, Nat.le_trans (Nat.sub_le _ _) q.h, q.l⟩
  | swap i c h =>
    cases s with
    | none => exact G
    | some p =>
      have G : Good p.groups := G
      cases hg : p.groups[i]? with
      | none =>
        have e2 : Kqb5.step (some p) (.swap i c h) = (some p, .num (-2)) := by
          show (match p.groups[i]? with | none => _ | some g => _) = _
          rw [hg]
        rw [e2]
        exact G
      | some g =>
        have e2 : Kqb5.step (some p) (.swap i c h) = if c = 0 ∨ 10000 < c ∨ c < h then (some p, .num (-22)) else (some { p with groups := p.groups.set i { g with room := c, held := h, leak := 0 }, put := p.put + h, drawn := p.drawn + g.held }, .num g.held) := by
          show (match p.groups[i]? with | none => _ | some g => _) = _
          rw [hg]
        rw [e2]
        split
        · exact G
        · rename_i q
          exact good_set G ⟨by show 1 ≤ c; omega, by show c ≤ 10000; omega, by show h ≤ c; omega, Nat.zero_le _⟩
  | _ => cases s <;> exact G
theorem good_run : ∀ (cs : List (List (List Int))) {s : Option Pack}, GoodO s → GoodO (run s cs)
  | [], _, G => G
  | c :: r, s, G => by
    refine good_run r ?_
    unfold Kqb5Neutral.step
    split
    · exact good_step _ G
    · exact G
end EvS

/-! The calls of the second stage as plain functions; and that they do what the specification does. -/
namespace EvS
open EvM EvP Kqb5
def PS.mostW (s : PS) (g room : Int) : Int := minI (s.rooms.mapIdx fun j own => if (j : Int) = g then room else own)
def PS.after (s : PS) (n : Int) : List Int := List.zipWith (fun h l => mx 0 (h - l * n)) s.held s.leaks
def PS.lost (s : PS) (n : Int) : Int := s.held.sum - (s.after n).sum
def PS.lose (s : PS) (n : Int) : PS := { s with held := s.after n, leaked := s.leaked + s.lost n }
def PS.till (s : PS) (t : Int) (limit : Nat) : Option Nat := (List.range (limit + 1)).find? fun d => decide (s.givesH (s.after (d : Int)) < t)
def PS.swapP (s : PS) (g room holds : Int) : PS :=
  { s with rooms := s.rooms.set g.toNat room, held := s.held.set g.toNat holds, leaks := s.leaks.set g.toNat 0, drawn := s.drawn + s.held.getD g.toNat 0, put := s.put + holds }
def idxI (l : List Int) (x : Int) : Nat := (l.findIdx? fun y => y == x).getD 0
theorem idxI_at {l : List Int} {x : Int} (h : x ∈ l) : l[idxI l x]? = some x ∧ ∀ m, m < idxI l x → l[m]? ≠ some x := by
  unfold idxI
  cases c : l.findIdx? fun y => y == x with
  | none =>
    have := List.findIdx?_eq_none_iff.mp c x h
    simp at this
  | some i =>
    obtain ⟨hi, h1, h2⟩ := List.findIdx?_eq_some_iff_getElem.mp c
    refine ⟨?_, fun m hm e => ?_⟩
    · show l[i]? = some x
      rw [List.getElem?_eq_getElem hi, eq_of_beq h1]
    · have hm : m < i := hm
      rw [List.getElem?_eq_getElem (by omega)] at e
      have e := Option.some.inj e
      exact h2 m hm (by rw [e]; exact beq_self_eq_true x)
theorem idx_up (l : List Nat) (m : Nat) : idxI (up l) (m : Int) = firstOf l m := by
  unfold idxI firstOf up
  rw [List.findIdx?_map]
  congr 2
  refine funext fun x => ?_
  show ((x : Int) == (m : Int)) = (x == m)
  by_cases c : x = m
  · subst c; rw [beq_self_eq_true, beq_self_eq_true]
  · rw [beq_eq_false_iff_ne.mpr c, beq_eq_false_iff_ne.mpr (by omega)]
/-! ### the calls -/
def fLacks (s : PS) : PS × List Int := (s, (s.lacks.length : Int) :: s.lacks)
def leastFirst (l : List Int) : List Int := [minI l, (idxI l (minI l) : Int)]
def fWeakest (s : PS) : PS × List Int := (s, leastFirst s.held)
def fFullest (s : PS) : PS × List Int := (s, leastFirst s.lacks)
def fDays (s : PS) (n : Int) : PS × List Int := if n < 1 ∨ n > 1000 then (s, [-22]) else (s.lose n, [s.lost n])
def fWhen (s : PS) (t : Int) : PS × List Int := match s.till t 1000 with
  | none => (s, [-33])
  | some d => (s, [(d : Int)])
def fSwap (s : PS) (g c h : Int) : PS × List Int :=
  if g ≥ (s.rooms.length : Int) then (s, [-2]) else if (!isRoom c) = true ∨ h > c then (s, [-22]) else (s.swapP g c h, [s.held.getD g.toNat 0])
def fGain (s : PS) (g c : Int) : PS × List Int :=
  if g ≥ (s.rooms.length : Int) then (s, [-2]) else if (!isRoom c) = true then (s, [-22]) else (s, [s.mostW g c - s.most])
def PS.mosts (s : PS) (c : Int) : List Int := (List.range s.rooms.length).map fun (j : Nat) => s.mostW (j : Int) c
def fBest (s : PS) (c : Int) : PS × List Int :=
  if (!isRoom c) = true then (s, [-22]) else if maxI (s.mosts c) ≤ s.most then (s, [-33]) else (s, [(idxI (s.mosts c) (maxI (s.mosts c)) : Int), maxI (s.mosts c)])
def fUnits (s : PS) : PS × List Int := (s, [s.held.sum, s.put, s.filled, s.drawn, s.bled, s.leaked])
def fLook (s : PS) (g : Int) : PS × List Int := if g ≥ (s.rooms.length : Int) then (s, [-2]) else (s, [s.held.getD g.toNat 0, s.rooms.getD g.toNat 0, s.leaks.getD g.toNat 0])
def fState (s : PS) : PS × List Int := (s, [(s.rooms.length : Int), s.gives, s.most])
theorem lacks_ok {p : Pack} (G : Good p.groups) : fLacks (absP p) = stp (some p) [[12]] := by
  unfold fLacks
  rw [stp_of (s := some p) (x := .lacks) (S := some p) (a := row (Kqb5.lacks p.groups)) rfl rfl, lacksP G, up_length]
  rfl
theorem weakest_ok (p : Pack) : fWeakest (absP p) = stp (some p) [[13]] := by
  unfold fWeakest leastFirst
  rw [stp_of (s := some p) (x := .weakest) (S := some p) (a := .some_ (least (helds p.groups)) [firstOf (helds p.groups) (least (helds p.groups))]) rfl rfl, heldP, minI_up, idx_up]
  rfl
theorem fullest_ok {p : Pack} (G : Good p.groups) : fFullest (absP p) = stp (some p) [[14]] := by
  unfold fFullest leastFirst
  rw [stp_of (s := some p) (x := .fullest) (S := some p) (a := .some_ (least (Kqb5.lacks p.groups)) [firstOf (Kqb5.lacks p.groups) (least (Kqb5.lacks p.groups))]) rfl rfl, lacksP G, minI_up, idx_up]
  rfl
theorem after_eq (p : Pack) (n : Nat) : (absP p).after (n : Int) = heldI (leakBy p.groups n) := by
  show List.zipWith (fun h l => mx 0 (h - l * (n : Int))) (heldI p.groups) (leaksI p.groups) = _
  rw [zip_map2]
  unfold leakBy heldI
  rw [List.map_map]
  refine List.map_congr_left fun g _ => ?_
  show mx 0 ((g.held : Int) - (g.leak : Int) * (n : Int)) = ((g.held - min g.held (g.leak * n) : Nat) : Int)
  rw [mx_eq, ← Int.natCast_mul]
  generalize g.leak * n = k
  omega
theorem sum_leak (n : Nat) (l : List Group) : Kqb5.sum (helds l) = Kqb5.sum (helds (leakBy l n)) + Kqb5.sum (l.map fun g => leaksIn g n) := by
  induction l with
  | nil => rfl
  | cons g r ih =>
    show g.held + Kqb5.sum (helds r) = (g.held - leaksIn g n) + Kqb5.sum (helds (leakBy r n)) + (leaksIn g n + Kqb5.sum (r.map fun g => leaksIn g n))
    rw [ih]
    have : leaksIn g n ≤ g.held := Nat.min_le_left _ _
    omega
theorem heldI_up (l : List Group) : heldI l = up (helds l) := by
  unfold helds
  rw [up_map]
theorem lost_eq (p : Pack) (n : Nat) : (absP p).lost (n : Int) = (Kqb5.sum (p.groups.map fun g => leaksIn g n) : Int) := by
  unfold PS.lost
  rw [after_eq, heldP, heldI_up, sum_up, sum_up, sum_leak n]
  omega
theorem days_ok (p : Pack) {a : Int} (h : num32 a) : fDays (absP p) a = stp (some p) [[15, a]] := by
  obtain ⟨n, ea, en⟩ := natOf h
  have ec : Kqb5Neutral.callOf [[15, a]] = some (.days n) := by rw [← en]; rfl
  have e2 : Kqb5.step (some p) (.days n) = if n = 0 ∨ 1000 < n then (some p, .num (-22)) else (some { p with groups := leakBy p.groups n, leaked := p.leaked + Kqb5.sum (p.groups.map fun g => leaksIn g n) }, .num (Kqb5.sum (p.groups.map fun g => leaksIn g n))) := rfl
  unfold fDays
  by_cases c : n = 0 ∨ 1000 < n
  · rw [if_pos c] at e2
    rw [stp_of ec e2, if_pos (by omega)]
    rfl
  · rw [if_neg c] at e2
    rw [stp_of ec e2, if_neg (by omega), ea]
    refine pair_ext (ps_ext ?_ ?_ ?_ rfl rfl rfl rfl ?_) (congrArg (fun z => [z]) (lost_eq p n))
    · show roomsI p.groups = (leakBy p.groups n).map _
      unfold leakBy
      rw [List.map_map]; rfl
    · exact after_eq p n
    · show leaksI p.groups = (leakBy p.groups n).map _
      unfold leakBy
      rw [List.map_map]; rfl
    · show (p.leaked : Int) + (absP p).lost (n : Int) = ((p.leaked + Kqb5.sum (p.groups.map fun g => leaksIn g n) : Nat) : Int)
      rw [lost_eq]
      omega
theorem good_leak {l : List Group} (G : Good l) (n : Nat) : Good (leakBy l n) := good_map G fun g hg => by
  have q := G.all g hg
  exact ⟨q.r1, q.r2, Nat.le_trans (Nat.sub_le _ _) q.h, q.l⟩
theorem givesH_eq {p : Pack} (G : Good p.groups) (n : Nat) : (absP p).givesH ((absP p).after (n : Int)) = (Kqb5.gives (leakBy p.groups n) : Int) := by
  have h := givesP (p := { p with groups := leakBy p.groups n }) (good_leak G n)
  rw [← h, after_eq]
  have e : roomsI (leakBy p.groups n) = roomsI p.groups := by
    unfold roomsI leakBy
    rw [List.map_map]; rfl
  show minI (heldI (leakBy p.groups n)) + minI (List.zipWith (fun r h => r - h) (roomsI p.groups) (heldI (leakBy p.groups n))) = minI (heldI (leakBy p.groups n)) + minI (List.zipWith (fun r h => r - h) (roomsI (leakBy p.groups n)) (heldI (leakBy p.groups n)))
  rw [e]
theorem till_eq {p : Pack} (G : Good p.groups) (t k : Nat) : (absP p).till (t : Int) k = when_ p.groups t k := by
  unfold PS.till when_
  congr 1
  refine funext fun n => ?_
  rw [givesH_eq G]
  exact decide_eq_decide.mpr (by omega)
theorem when_ok {p : Pack} (G : Good p.groups) {a : Int} (h : num32 a) : fWhen (absP p) a = stp (some p) [[16, a]] := by
  obtain ⟨n, ea, en⟩ := natOf h
  have ec : Kqb5Neutral.callOf [[16, a]] = some (.when_ n) := by rw [← en]; rfl
  have e2 : Kqb5.step (some p) (.when_ n) = (some p, (fun o : Option Nat => match o with | none => Ans.num (-33) | some n => Ans.num n) (when_ p.groups n 1000)) := by
    unfold Kqb5.step
    dsimp only
    generalize when_ p.groups n 1000 = o
    cases o <;> rfl
  rw [stp_of ec e2]
  unfold fWhen
  rw [ea, till_eq G]
  generalize when_ p.groups n 1000 = o
  cases o <;> rfl
theorem isRoom_iff {n : Nat} : (!isRoom (n : Int)) = true ↔ (n = 0 ∨ 10000 < n) := by
  unfold isRoom
  by_cases c1 : (1 : Int) ≤ (n : Int) <;> by_cases c2 : (n : Int) ≤ 10000 <;> simp [c1, c2] <;> omega
theorem getD_map {f : Group → Nat} {l : List Group} {i : Nat} {g : Group} (h : l[i]? = some g) : (l.map fun g => (f g : Int)).getD i 0 = (f g : Int) := by
  show ((l.map fun g => (f g : Int))[i]?).getD 0 = _
  rw [List.getElem?_map, h]
  rfl
theorem swap_ok (p : Pack) {a b d : Int} (ha : num32 a) (hb : num32 b) (hd : num32 d) : fSwap (absP p) a b d = stp (some p) [[17, a, b, d]] := by
  obtain ⟨i, ea, ei⟩ := natOf ha
  obtain ⟨c, eb, ecc⟩ := natOf hb
  obtain ⟨h, ed, eh⟩ := natOf hd
  have ec : Kqb5Neutral.callOf [[17, a, b, d]] = some (.swap i c h) := by rw [← ei, ← ecc, ← eh]; rfl
  subst ea eb ed
  unfold fSwap
  have er : (absP p).rooms.length = p.groups.length := List.length_map ..
  rw [er]
  cases hg : p.groups[i]? with
  | none =>
    have hi : p.groups.length ≤ i := List.getElem?_eq_none_iff.mp hg
    have e2 : Kqb5.step (some p) (.swap i c h) = (some p, .num (-2)) := by
      show (match p.groups[i]? with | none => _ | some g => _) = _
      rw [hg]
    rw [stp_of ec e2, if_pos (by omega)]
    rfl
  | some g =>
    have hi : i < p.groups.length := (List.getElem?_eq_some_iff.mp hg).1
    have e2 : Kqb5.step (some p) (.swap i c h) = if c = 0 ∨ 10000 < c ∨ c < h then (some p, .num (-22)) else (some { p with groups := p.groups.set i { g with room := c, held := h, leak := 0 }, put := p.put + h, drawn := p.drawn + g.held }, .num g.held) := by
      show (match p.groups[i]? with | none => _ | some g => _) = _
      rw [hg]
    have hget : (absP p).held.getD i 0 = (g.held : Int) := getD_map (f := fun g => g.held) hg
    rw [if_neg (by omega)]
    have q := isRoom_iff (n := c)
    by_cases c1 : c = 0 ∨ 10000 < c ∨ c < h
    · rw [if_pos c1] at e2
      rw [stp_of ec e2, if_pos (by rcases c1 with z | z | z; exact .inl (q.mpr (.inl z)); exact .inl (q.mpr (.inr z)); exact .inr (by omega))]
      rfl
    · rw [if_neg c1] at e2
      rw [stp_of ec e2, if_neg (by rintro (z | z); rcases q.mp z with z | z; exact c1 (.inl z); exact c1 (.inr (.inl z)); exact c1 (.inr (.inr (by omega))))]
      refine pair_ext (ps_ext ?_ ?_ ?_ ?_ rfl ?_ rfl rfl) ?_
      · show (roomsI p.groups).set (i : Int).toNat (c : Int) = (p.groups.set i _).map _
        rw [List.map_set]; rfl
      · show (heldI p.groups).set (i : Int).toNat (h : Int) = (p.groups.set i _).map _
        rw [List.map_set]; rfl
      · show (leaksI p.groups).set (i : Int).toNat 0 = (p.groups.set i _).map _
        rw [List.map_set]; rfl
      · show (p.put : Int) + (h : Int) = ((p.put + h : Nat) : Int)
        omega
      · show (p.drawn : Int) + (absP p).held.getD i 0 = ((p.drawn + g.held : Nat) : Int)
        rw [hget]
        omega
      · show [(absP p).held.getD i 0] = [(g.held : Int)]
        rw [hget]
theorem mapIdx_set {l : List Int} {i : Nat} {c : Int} : (l.mapIdx fun j own => if (j : Int) = (i : Int) then c else own) = l.set i c := by
  refine List.ext_getElem? fun j => ?_
  rw [List.getElem?_mapIdx, List.getElem?_set]
  by_cases e : i = j
  · subst e
    rw [if_pos rfl]
    by_cases h : i < l.length
    · rw [List.getElem?_eq_getElem h, if_pos h]
      show some (if (i : Int) = (i : Int) then c else _) = _
      rw [if_pos rfl]
    · rw [List.getElem?_eq_none (by omega), if_neg h]
      rfl
  · rw [if_neg e]
    cases l[j]? with
    | none => rfl
    | some x =>
      show some (if (j : Int) = (i : Int) then c else x) = _
      rw [if_neg (by omega)]
theorem setRoom_rooms {l : List Group} {i : Nat} (c : Nat) (hi : i < l.length) : roomsI (setRoom l i c) = (roomsI l).set i (c : Int) := by
  unfold setRoom
  rw [List.getElem?_eq_getElem hi]
  show (l.set i _).map _ = _
  rw [List.map_set]
theorem mostW_eq (p : Pack) {i : Nat} (c : Nat) (hi : i < p.groups.length) : (absP p).mostW (i : Int) (c : Int) = (Kqb5.most (setRoom p.groups i c) : Int) := by
  have h := mostP { p with groups := setRoom p.groups i c }
  rw [← h]
  show minI ((roomsI p.groups).mapIdx _) = minI (roomsI (setRoom p.groups i c))
  rw [mapIdx_set, setRoom_rooms c hi]
theorem gain_ok (p : Pack) {a b : Int} (ha : num32 a) (hb : num32 b) : fGain (absP p) a b = stp (some p) [[18, a, b]] := by
  obtain ⟨i, ea, ei⟩ := natOf ha
  obtain ⟨c, eb, ecc⟩ := natOf hb
  have ec : Kqb5Neutral.callOf [[18, a, b]] = some (.gain i c) := by rw [← ei, ← ecc]; rfl
  subst ea eb
  have e2 : Kqb5.step (some p) (.gain i c) = (some p, if p.groups.length ≤ i then .num (-2) else if c = 0 ∨ 10000 < c then .num (-22) else .num ((most (setRoom p.groups i c) : Int) - most p.groups)) := rfl
  rw [stp_of ec e2]
  unfold fGain
  have er : (absP p).rooms.length = p.groups.length := List.length_map ..
  rw [er]
  by_cases c0 : p.groups.length ≤ i
  · rw [if_pos c0, if_pos (by omega)]; rfl
  · rw [if_neg c0, if_neg (by omega)]
    by_cases c1 : c = 0 ∨ 10000 < c
    · rw [if_pos c1, if_pos (isRoom_iff.mpr c1)]; rfl
    · rw [if_neg c1, if_neg fun z => c1 (isRoom_iff.mp z), mostW_eq p c (by omega), mostP]
      rfl
theorem find_range (q : Nat → Bool) (n : Nat) : (List.range n).findIdx? q = (List.range n).find? q := by
  cases h : (List.range n).find? q with
  | none =>
    rw [List.findIdx?_eq_none_iff]
    intro x hx
    have := List.find?_eq_none.mp h x hx
    simpa using this
  | some i =>
    obtain ⟨h1, h2, h3⟩ := List.find?_range_eq_some.mp h
    rw [List.findIdx?_eq_some_iff_getElem]
    refine ⟨by rw [List.length_range]; exact List.mem_range.mp h2, by rw [List.getElem_range]; exact h1, fun j hj => ?_⟩
    rw [List.getElem_range]
    have := h3 j hj
    simpa using this
theorem find_congr {α : Type} {q r : α → Bool} : ∀ {l : List α}, (∀ x ∈ l, q x = r x) → l.find? q = l.find? r
  | [], _ => rfl
  | a :: l, h => by
    rw [List.find?_cons, List.find?_cons, h a List.mem_cons_self, find_congr fun x hx => h x (List.mem_cons_of_mem _ hx)]
theorem mosts_eq (p : Pack) (c : Nat) : (absP p).mosts (c : Int) = up ((List.range p.groups.length).map fun j => most (setRoom p.groups j c)) := by
  unfold PS.mosts up
  have er : (absP p).rooms.length = p.groups.length := List.length_map ..
  rw [er, List.map_map]
  refine List.map_congr_left fun j hj => ?_
  exact mostW_eq p c (List.mem_range.mp hj)
theorem best_ok {p : Pack} (G : Good p.groups) {a : Int} (h : num32 a) : fBest (absP p) a = stp (some p) [[19, a]] := by
  obtain ⟨c, ea, ecc⟩ := natOf h
  have ec : Kqb5Neutral.callOf [[19, a]] = some (.best c) := by rw [← ecc]; rfl
  subst ea
  have e2 : Kqb5.step (some p) (.best c) = (some p, if c = 0 ∨ 10000 < c then .num (-22) else match best p.groups c with | none => .num (-33) | some i => .some_ i [most (setRoom p.groups i c)]) := rfl
  rw [stp_of ec e2]
  unfold fBest
  by_cases c1 : c = 0 ∨ 10000 < c
  · rw [if_pos c1, if_pos (isRoom_iff.mpr c1)]; rfl
  · rw [if_neg c1, if_neg fun z => c1 (isRoom_iff.mp z), mosts_eq, maxI_up, mostP, idx_up]
    have hpos := G.pos
    generalize hM : (fun j => most (setRoom p.groups j c)) = M
    have hM' : ∀ j, most (setRoom p.groups j c) = M j := fun j => by rw [← hM]
    have hb : best p.groups c = (List.range p.groups.length).find? fun i => decide (most p.groups < M i) && (List.range p.groups.length).all fun j => decide (M j ≤ M i) := by
      unfold best
      rw [← hM]
    rw [hb]
    have hge : ∀ j, j < p.groups.length → M j ≤ greatest ((List.range p.groups.length).map M) := fun j hj => greatest_ge (List.mem_map.mpr ⟨j, List.mem_range.mpr hj, rfl⟩)
    have hmem : greatest ((List.range p.groups.length).map M) ∈ (List.range p.groups.length).map M := greatest_mem (by rw [List.length_map, List.length_range]; exact hpos)
    generalize hgr : greatest ((List.range p.groups.length).map M) = gr at *
    by_cases c2 : gr ≤ most p.groups
    · rw [if_pos (by omega)]
      have e : ((List.range p.groups.length).find? fun i => decide (most p.groups < M i) && (List.range p.groups.length).all fun j => decide (M j ≤ M i)) = none := by
        rw [List.find?_eq_none]
        intro x hx
        have := hge x (List.mem_range.mp hx)
        rw [decide_eq_false (by omega), Bool.false_and]
        decide
      rw [e]
      rfl
    · rw [if_neg (by omega)]
      obtain ⟨k, hk, ek⟩ := List.mem_map.mp hmem
      have e : ((List.range p.groups.length).find? fun i => decide (most p.groups < M i) && (List.range p.groups.length).all fun j => decide (M j ≤ M i)) = (List.range p.groups.length).findIdx? fun i => M i == gr := by
        rw [find_range]
        refine find_congr fun i hi => ?_
        have h1 := hge i (List.mem_range.mp hi)
        by_cases c3 : M i = gr
        · rw [c3, beq_self_eq_true, decide_eq_true (by omega), Bool.true_and, List.all_eq_true]
          exact fun j hj => decide_eq_true (hge j (List.mem_range.mp hj))
        · rw [beq_eq_false_iff_ne.mpr c3]
          have : ((List.range p.groups.length).all fun j => decide (M j ≤ M i)) = false := by
            rw [List.all_eq_false]
            exact ⟨k, hk, by rw [decide_eq_false (by omega)]; decide⟩
          rw [this, Bool.and_false]
      rw [e]
      unfold firstOf
      rw [List.findIdx?_map]
      have e3 : ((fun x => x == gr) ∘ M) = fun i => M i == gr := rfl
      rw [e3]
      cases hf : (List.range p.groups.length).findIdx? fun i => M i == gr with
      | none =>
        have := List.findIdx?_eq_none_iff.mp hf k hk
        rw [ek, beq_self_eq_true] at this
        cases this
      | some i =>
        obtain ⟨hi, h1, _⟩ := List.findIdx?_eq_some_iff_getElem.mp hf
        rw [List.getElem_range] at h1
        have h1 := eq_of_beq h1
        show (absP p, [(i : Int), (gr : Int)]) = (absP p, [(i : Int), (most (setRoom p.groups i c) : Int)])
        rw [hM', h1]
theorem units_ok (p : Pack) : fUnits (absP p) = stp (some p) [[20]] := by
  unfold fUnits
  rw [stp_of (s := some p) (x := .units) (S := some p) (a := .some_ (Kqb5.held p) [p.put, p.filled, p.drawn, p.bled, p.leaked]) rfl rfl, heldP, sum_up]
  rfl
theorem look_ok (p : Pack) {a : Int} (h : num32 a) : fLook (absP p) a = stp (some p) [[21, a]] := by
  obtain ⟨i, ea, ei⟩ := natOf h
  have ec : Kqb5Neutral.callOf [[21, a]] = some (.look i) := by rw [← ei]; rfl
  subst ea
  have e2 : Kqb5.step (some p) (.look i) = (some p, match p.groups[i]? with | none => .num (-2) | some g => .some_ g.held [g.room, g.leak]) := rfl
  rw [stp_of ec e2]
  unfold fLook
  have er : (absP p).rooms.length = p.groups.length := List.length_map ..
  rw [er]
  cases hg : p.groups[i]? with
  | none =>
    have hi : p.groups.length ≤ i := List.getElem?_eq_none_iff.mp hg
    rw [if_pos (by omega)]
    rfl
  | some g =>
    have hi : i < p.groups.length := (List.getElem?_eq_some_iff.mp hg).1
    rw [if_neg (by omega)]
    show (absP p, [(heldI p.groups).getD i 0, (roomsI p.groups).getD i 0, (leaksI p.groups).getD i 0]) = (absP p, [(g.held : Int), (g.room : Int), (g.leak : Int)])
    rw [show (heldI p.groups).getD i 0 = (g.held : Int) from getD_map (f := fun g => g.held) hg, show (roomsI p.groups).getD i 0 = (g.room : Int) from getD_map (f := fun g => g.room) hg, show (leaksI p.groups).getD i 0 = (g.leak : Int) from getD_map (f := fun g => g.leak) hg]
theorem state_ok {p : Pack} (G : Good p.groups) : fState (absP p) = stp (some p) [[22]] := by
  unfold fState
  have er : (absP p).rooms.length = p.groups.length := List.length_map ..
  rw [stp_of (s := some p) (x := .state) (S := some p) (a := .some_ p.groups.length [gives p.groups, most p.groups]) rfl rfl, givesP G, mostP, er]
  rfl
end EvS

set_option Elab.async false
set_option linter.all false
set_option maxRecDepth 100000
set_option maxHeartbeats 2000000
/-! Rules beside the layer: a function that a local holds is called; a dict of the module is read; comprehensions whose elements are plain values. -/
namespace L2
open PySem PySem.Spec PyProof.Rows
section
variable {X : Cx} {CX : CXT} {E : XK} {x : Str} {p pos : Pos} {e : Expr} {es : List Expr} {t : TA} {i : Nat}
/-- a call of a function that a local holds -/
def tCallV (X : Cx) (CX : CXT) (E : XK) (i : Nat) (t : TA) : TE := fun σ H Q => ∃ f, σ[i]? = some (some (.ref f)) ∧ PySem.W.keepIn X.K (.ref f) = true ∧ t σ H fun vs H1 =>
  ∃ (k : Nat) (fd : FuncData) (ps : List Str) (sp : Sp), FnOk X.prog X.w X.K X.mg X.base CX k f fd ps sp ∧ Room k X.A ∧ Binds X.K fd ps [] ∧ sp vs H1 Q E
theorem pe_callV (hx : Passes CX X E) (hN : X.N[i]? = some x) (hv : Vis X.env.scope x) (ha : PA X (e :: es) t) (hd : (x == ("__debug__" : Str)) = false := by decide) (hcd : (x == ("__classdict__" : Str)) = false := by decide)
    (he : starEach (e :: es) X.env = (false, eval e X.env) :: starEach es X.env := by rfl) (hpl : (backTo pos (starEach es X.env)).any (·.1) = false := by rfl) :
    PE X (.Call (.Name x p) (e :: es) [] pos) (tCallV X CX E i t) := by
  intro pins s σ H Q I h
  obtain ⟨f, hf, hk, h⟩ := h
  refine wpAny_Call_Name_kw (thn (pe_var (pos := p) hN hv hd hcd pins s σ H (fun v H' => v = .ref f ∧ H' = H) I ⟨_, hf, rfl, rfl⟩) fun u s1 ⟨v, H1, I1, r, ev, eH⟩ => ?_)
  subst ev eH
  obtain rfl : u = Value.ref f := r
  refine PySem.W.callWith_K (h₀ := X.base) I.ok.mod.kin hk (thn (ha pos pins s1 σ H1 _ I1 h) fun us s2 ⟨vs, H2, I2, r2, k, fd, ps, sp, F, hr, hb, q⟩ => ⟨I2.kIn, ?_⟩) he hpl
  exact run_fn (dvs := []) (ds := []) F hr hb .nil hx I2 r2 (by rw [List.append_nil]; exact q)
end
/-! ### a dict of the module, its keys ints -/
def intKeys (es : Array DictEntry) : Bool := es.toList.all fun e => match e.key with | .int k _ => e.hash == hashInt k | _ => false
structure DicK (K : PySem.W.Frag) (d : Addr) (es : Array DictEntry) : Prop where
  lk : ∃ n, K.lookup d = some ⟨.type "dict", none, .dict es n, #[]⟩
  ks : intKeys es = true
theorem DicK.map {X : Cx} {pins : List (Addr × Obj)} {s : Shared} {σ : St} {H : Hp} {d : Addr} {es : Array DictEntry} (D : DicK X.K d es) (I : Inv X pins σ H s) : s.heap.MapOf (mixKind X.prog X.w) d (fun k => findBy keyIs es k) := by
  obtain ⟨n, hl⟩ := D.lk
  refine ⟨⟨.type "dict", none, .dict es n, #[]⟩, es, n, I.kIn d _ hl, ⟨rfl, rfl, rfl⟩, rfl, fun e he => ?_, fun _ => rfl⟩
  have q := List.all_eq_true.mp D.ks e (Array.mem_toList_iff.mpr he)
  split at q
  · rename_i k t ek
    exact ⟨.inl k, by rw [ek]; exact keyIs_int k t, eq_of_beq q⟩
  · cases q
def dAt (es : Array DictEntry) (i : Int) : Option Value := (es.toList.find? fun e => Value.isInt i e.key).map (·.val)
theorem dAt_find {es : Array DictEntry} {i : Int} {u : Value} (h : dAt es i = some u) : findBy keyIs es (.inl i) = some u := by
  obtain ⟨l⟩ := es
  unfold dAt at h
  unfold findBy
  rw [← h]
  simp [keyIs]
section
variable {X : Cx} {o i : Expr} {td ty : TE} {pos : Pos}
def tDGetK (K : PySem.W.Frag) (td ty : TE) : TE := fun σ H Q => td σ H fun x H1 => ty σ H1 fun y H2 => ∃ (d : Addr) (es : Array DictEntry) (j : Int) (v : V) (u : Value), x = .ref d ∧ y = .int j ∧ DicK K d es ∧ dAt es j = some u ∧ RelV v u ∧ Q v H2
theorem pe_dgetK (ho : PE X o td) (hi : PE X i ty) (hs : NoSl i) : PE X (.Subscript o i pos) (tDGetK X.K td ty) := by
  intro pins s σ H Q I h
  refine subD_of PySem.F.slot_dict_getitem.lookup hs (thn (ho pins s σ H _ I h) fun u s1 ⟨x, H1, I1, rx, q1⟩ => thn (hi pins s1 σ H1 _ I1 q1) fun iv s2 ⟨y, H2, I2, ry, d, es, j, v, z, ex, ey, D, hf, rz, q2⟩ => ?_)
  subst ex ey
  obtain rfl : u = Value.ref d := rx
  obtain ⟨t, rfl⟩ : ∃ t, iv = Value.int j t := ry
  have M := D.map I2
  exact ⟨M.typeIs, wpAny_getItem_of (k := (.inl j : Key)) (knd := mixKind X.prog X.w) (keyIs_int j t) M (dAt_find hf) ⟨v, H2, I2.tok _, rz, q2⟩⟩
end
/-! ### comprehensions whose elements are plain values -/
theorem Same.updN {H H1 : Hp} {D : Addr} {o : HO} (s : Same H H1) (hD : H D = none) : Same H (upd H1 D o) := fun b u e => by
  rw [upd_ne (ne_of_none e hD)]
  exact s b u e
theorem take_snoc {α : Type} : ∀ {l : List α} {i : Nat} {x : α}, l[i]? = some x → l.take (i + 1) = l.take i ++ [x]
  | [], i, x, h => by simp at h
  | a :: l, 0, x, h => by
    have e : a = x := by simpa using h
    subst e
    rfl
  | a :: l, i + 1, x, h => by
    have ih := take_snoc (l := l) (i := i) (x := x) (by simpa using h)
    show a :: l.take (i + 1) = a :: l.take i ++ [x]
    rw [ih]
    rfl
theorem lcl {K : PySem.W.Frag} {a : Addr} {xs : List V} {i : Nat} {te : TE} {σ : St} {H1 : Hp} {D : Addr} {Qd : Hp → Prop} (f : V → V) (hl : SqL K H1 a xs) (hD : H1 D = none) (hn : xs.length ≤ 1000)
    (hw : ∀ x, wipe ((wipe σ [i]).set i (some x)) [i] = wipe σ [i])
    (hte : ∀ x H (Q : VK), x ∈ xs → Same H1 H → Q (f x) H → te ((wipe σ [i]).set i (some x)) H Q) (hq : ∀ H, Same H1 H → H D = some (.lst (xs.map f)) → Qd H) :
    ∃ W : Nat → Nat → Hp → Prop, (∃ m, W 0 m (upd H1 D (.lst []))) ∧ ∀ j m H, W j m H →
      ((Itl K a).stop j H ∧ Qd H) ∨ ((Itl K a).go j H ∧ ∃ Nx : Hp → Prop, (∀ H', Nx H' → ∃ m', m' < m ∧ W (j + 1) m' H') ∧ ∀ x H', (Itl K a).yld j H x H' → gName i x (wipe σ [i]) H' fun σ2 H2 => wipe σ2 [i] = wipe σ [i] ∧ tYes σ2 H2 fun b H3 =>
        if b = true then te σ2 H3 fun y H4 => ∃ acc, H4 D = some (.lst acc) ∧ acc.length < sizeLine ∧ Nx (upd H4 D (.lst (acc ++ [y]))) else Nx H3) := by
  refine lc_list (K := K) (a := a) (xs := xs) (fun j H => Same H1 H ∧ H D = some (.lst ((xs.take j).map f))) ⟨Same.updN (Same.refl _) hD, upd_same⟩ (fun j H _ p => p.1.seq hl) (fun j x H hx p => ?_) (fun H p => hq H p.1 (by rw [← List.take_length (l := xs)]; exact p.2))
  refine ⟨hw x, ?_⟩
  unfold tYes; dsimp only
  rw [if_pos rfl]
  refine (hte x H _ (List.mem_of_getElem? hx) p.1 ⟨_, p.2, ?_, Same.updN p.1 hD, ?_⟩)
  · rw [List.length_map, List.length_take]
    exact small1000 (Nat.le_trans (Nat.min_le_right _ _) hn)
  · rw [upd_same, take_snoc hx, List.map_append]
    rfl
theorem lcr {lo : Int} {n : Nat} {i : Nat} {te : TE} {σ : St} {H1 : Hp} {D : Addr} {Qd : Hp → Prop} (f : Nat → V) (hD : H1 D = none) (hn : n ≤ 1000)
    (hw : ∀ x, wipe ((wipe σ [i]).set i (some x)) [i] = wipe σ [i])
    (hte : ∀ (j : Nat) H (Q : VK), j < n → Same H1 H → Q (f j) H → te ((wipe σ [i]).set i (some (.int (lo + j)))) H Q) (hq : ∀ H, Same H1 H → H D = some (.lst ((List.range n).map f)) → Qd H) :
    ∃ W : Nat → Nat → Hp → Prop, (∃ m, W 0 m (upd H1 D (.lst []))) ∧ ∀ j m H, W j m H →
      ((Itr lo n).stop j H ∧ Qd H) ∨ ((Itr lo n).go j H ∧ ∃ Nx : Hp → Prop, (∀ H', Nx H' → ∃ m', m' < m ∧ W (j + 1) m' H') ∧ ∀ x H', (Itr lo n).yld j H x H' → gName i x (wipe σ [i]) H' fun σ2 H2 => wipe σ2 [i] = wipe σ [i] ∧ tYes σ2 H2 fun b H3 =>
        if b = true then te σ2 H3 fun y H4 => ∃ acc, H4 D = some (.lst acc) ∧ acc.length < sizeLine ∧ Nx (upd H4 D (.lst (acc ++ [y]))) else Nx H3) := by
  refine lc_range (fun j H => Same H1 H ∧ H D = some (.lst ((List.range j).map f))) ⟨Same.updN (Same.refl _) hD, upd_same⟩ (fun j H hj p => ?_) (fun H p => hq H p.1 p.2)
  refine ⟨hw _, ?_⟩
  unfold tYes; dsimp only
  rw [if_pos rfl]
  refine (hte j H _ hj p.1 ⟨_, p.2, ?_, Same.updN p.1 hD, ?_⟩)
  · rw [List.length_map, List.length_range]
    exact small1000 (by omega)
  · rw [upd_same, List.range_succ, List.map_append]
    rfl
theorem lcz {K : PySem.W.Frag} {a b : Addr} {xs ys : List V} {i k : Nat} {te : TE} {σ : St} {H1 : Hp} {D : Addr} {Qd : Hp → Prop} (f : V → V → V) (hla : SqL K H1 a xs) (hlb : SqL K H1 b ys) (hD : H1 D = none) (hn : xs.length ≤ 1000)
    (hw : ∀ x y, wipe (((wipe σ [i, k]).set i (some x)).set k (some y)) [i, k] = wipe σ [i, k])
    (hte : ∀ x y H (Q : VK), x ∈ xs → y ∈ ys → Same H1 H → Q (f x y) H → te (((wipe σ [i, k]).set i (some x)).set k (some y)) H Q) (hq : ∀ H, Same H1 H → H D = some (.lst (List.zipWith f xs ys)) → Qd H) :
    ∃ W : Nat → Nat → Hp → Prop, (∃ m, W 0 m (upd H1 D (.lst []))) ∧ ∀ j m H, W j m H →
      ((Itz K a b).stop j H ∧ Qd H) ∨ ((Itz K a b).go j H ∧ ∃ Nx : Hp → Prop, (∀ H', Nx H' → ∃ m', m' < m ∧ W (j + 1) m' H') ∧ ∀ x H', (Itz K a b).yld j H x H' → gTup K 2 (gCons (gName i) (gCons (gName k) gNil)) x (wipe σ [i, k]) H' fun σ2 H2 => wipe σ2 [i, k] = wipe σ [i, k] ∧ tYes σ2 H2 fun b H3 =>
        if b = true then te σ2 H3 fun y H4 => ∃ acc, H4 D = some (.lst acc) ∧ acc.length < sizeLine ∧ Nx (upd H4 D (.lst (acc ++ [y]))) else Nx H3) := by
  refine ⟨fun j m H => m = min xs.length ys.length - j ∧ j ≤ min xs.length ys.length ∧ Same H1 H ∧ H D = some (.lst ((List.zipWith f xs ys).take j)), ⟨_, rfl, Nat.zero_le _, Same.updN (Same.refl _) hD, upd_same⟩, ?_⟩
  rintro j m H ⟨rfl, hj, s, hd⟩
  have qa := s.seq hla
  have qb := s.seq hlb
  by_cases hlt : j < min xs.length ys.length
  · have h1 : j < xs.length := by omega
    have h2 : j < ys.length := by omega
    refine .inr ⟨⟨xs, ys, xs[j], ys[j], qa, qb, by simp [h1], by simp [h2]⟩, fun H' => Same H1 H' ∧ H' D = some (.lst ((List.zipWith f xs ys).take (j + 1))), fun H' p' => ⟨_, by omega, rfl, hlt, p'⟩, fun v H' y => ?_⟩
    obtain ⟨T, x, y, rfl, hT, rfl, hx, hy⟩ := y
    have hx := hx xs qa
    have hy := hy ys qb
    have nTD : D ≠ T := ne_of_none hd hT
    have sT : Same H1 (upd H T (.tup [x, y])) := fun b o e => by rw [upd_ne (ne_of_none (s b o e) hT)]; exact s b o e
    refine ⟨T, [x, y], rfl, SqT.of upd_same, rfl, x, [y], rfl, y, [], rfl, rfl, hw x y, ?_⟩
    unfold tYes; dsimp only
    rw [if_pos rfl]
    refine (hte x y _ _ (List.mem_of_getElem? hx) (List.mem_of_getElem? hy) sT ⟨_, by rw [upd_ne nTD]; exact hd, ?_, Same.updN sT hD, ?_⟩)
    · rw [List.length_take, List.length_zipWith]
      exact small1000 (by omega)
    · rw [upd_same, take_snoc (x := f x y) (by rw [List.getElem?_zipWith, hx, hy])]
  · have e : j = min xs.length ys.length := by omega
    refine .inl ⟨⟨xs, ys, qa, qb, by omega⟩, hq H s ?_⟩
    rw [hd, e, List.take_of_length_le (by rw [List.length_zipWith]; omega)]
theorem lce {K : PySem.W.Frag} {a : Addr} {xs : List V} {i k : Nat} {te : TE} {σ : St} {H1 : Hp} {D : Addr} {Qd : Hp → Prop} (f : Nat → V → V) (hla : SqL K H1 a xs) (hD : H1 D = none) (hn : xs.length ≤ 1000)
    (hw : ∀ x y, wipe (((wipe σ [i, k]).set i (some x)).set k (some y)) [i, k] = wipe σ [i, k])
    (hte : ∀ (j : Nat) x H (Q : VK), xs[j]? = some x → Same H1 H → Q (f j x) H → te (((wipe σ [i, k]).set i (some (.int (j : Nat)))).set k (some x)) H Q) (hq : ∀ H, Same H1 H → H D = some (.lst (xs.mapIdx f)) → Qd H) :
    ∃ W : Nat → Nat → Hp → Prop, (∃ m, W 0 m (upd H1 D (.lst []))) ∧ ∀ j m H, W j m H →
      ((Ite K a).stop j H ∧ Qd H) ∨ ((Ite K a).go j H ∧ ∃ Nx : Hp → Prop, (∀ H', Nx H' → ∃ m', m' < m ∧ W (j + 1) m' H') ∧ ∀ x H', (Ite K a).yld j H x H' → gTup K 2 (gCons (gName i) (gCons (gName k) gNil)) x (wipe σ [i, k]) H' fun σ2 H2 => wipe σ2 [i, k] = wipe σ [i, k] ∧ tYes σ2 H2 fun b H3 =>
        if b = true then te σ2 H3 fun y H4 => ∃ acc, H4 D = some (.lst acc) ∧ acc.length < sizeLine ∧ Nx (upd H4 D (.lst (acc ++ [y]))) else Nx H3) := by
  refine ⟨fun j m H => m = xs.length - j ∧ j ≤ xs.length ∧ Same H1 H ∧ H D = some (.lst ((xs.mapIdx f).take j)), ⟨_, rfl, Nat.zero_le _, Same.updN (Same.refl _) hD, upd_same⟩, ?_⟩
  rintro j m H ⟨rfl, hj, s, hd⟩
  have qa := s.seq hla
  by_cases hlt : j < xs.length
  · refine .inr ⟨⟨xs, xs[j], qa, by simp [hlt]⟩, fun H' => Same H1 H' ∧ H' D = some (.lst ((xs.mapIdx f).take (j + 1))), fun H' p' => ⟨_, by omega, rfl, hlt, p'⟩, fun v H' y => ?_⟩
    obtain ⟨T, x, rfl, hT, rfl, hx⟩ := y
    have hx := hx xs qa
    have nTD : D ≠ T := ne_of_none hd hT
    have sT : Same H1 (upd H T (.tup [.int (j : Nat), x])) := fun b o e => by rw [upd_ne (ne_of_none (s b o e) hT)]; exact s b o e
    refine ⟨T, [.int (j : Nat), x], rfl, SqT.of upd_same, rfl, .int (j : Nat), [x], rfl, x, [], rfl, rfl, hw _ x, ?_⟩
    unfold tYes; dsimp only
    rw [if_pos rfl]
    refine (hte j x _ _ hx sT ⟨_, by rw [upd_ne nTD]; exact hd, ?_, Same.updN sT hD, ?_⟩)
    · rw [List.length_take, List.length_mapIdx]
      exact small1000 (by omega)
    · rw [upd_same, take_snoc (x := f j x) (by rw [List.getElem?_mapIdx, hx]; rfl)]
  · have e : j = xs.length := by omega
    refine .inl ⟨⟨xs, qa, by omega⟩, hq H s ?_⟩
    rw [hd, e, List.take_of_length_le (by rw [List.length_mapIdx]; omega)]
/-! ### the comprehensions as they are written -/
section
variable {X : Cx}
theorem pg_one {x : Str} {i : Nat} {px : Pos} (hN : X.N.Nodup) (hi : X.N[i]? = some x) (lx : X.env.scope.names.lookup x = some .local) : PG X (.Name x px) (gName i) := pg_name hN hi (.inl lx) (.inr lx)
theorem pg_two {x y : Str} {i j kk : Nat} {px py pos : Pos} (hc : X.calm = true) (hN : X.N.Nodup) (hi : X.N[i]? = some x) (hj : X.N[j]? = some y) (lx : X.env.scope.names.lookup x = some .local) (ly : X.env.scope.names.lookup y = some .local) :
    PG X (.Tuple [.Name x px, .Name y py] kk pos) (gTup X.K 2 (gCons (gName i) (gCons (gName j) gNil))) :=
  pg_tup (n := 2) hc (pgs_cons (pg_name hN hi (.inl lx) (.inr lx)) (pgs_cons (pg_name hN hj (.inl ly) (.inr ly)) pgs_nil))
/-- [elt for x, y in zip(a, b)] -/
theorem pe_lcz {elt a b : Expr} {x y : Str} {i j kk : Nat} {px py tpos pz zpos pos : Pos} {scope : Scope} {ta tb te : TE} (hN : X.N.Nodup) (hm : X.mg "zip" = none) (ha : PE X a ta) (hb : PE X b tb)
    (ok : blkC X.N X.env.scope scope [(x, i), (y, j)] = true) (he : ∀ (s : Shared) (H : Hp) (C : Addr) (cl : List (Str × Addr)) (fp : List Addr), PE (X.blk s H scope (compEnvC scope cl C X.env) fp) elt te)
    (hc : X.calm = true := by rfl) (hg : Gl X "zip" := by rfl) (hi : X.N[i]? = some x := by rfl) (hj : X.N[j]? = some y := by rfl)
    (lx : ∀ (C : Addr) (cl : List (Str × Addr)), (compEnvC scope cl C X.env).scope.names.lookup x = some .local := by intro _ _; rfl) (ly : ∀ (C : Addr) (cl : List (Str × Addr)), (compEnvC scope cl C X.env).scope.names.lookup y = some .local := by intro _ _; rfl)
    (hs1 : starEach [a, b] X.env = (false, eval a X.env) :: starEach [b] X.env := by rfl) (hs2 : starEach [b] X.env = (false, eval b X.env) :: starEach [] X.env := by rfl) (hpl : (backTo zpos (starEach [b] X.env)).any (·.1) = false := by rfl) :
    PE X (.ListComp elt [⟨.Tuple [.Name x px, .Name y py] kk tpos, .Call (.Name "zip" pz) [a, b] [] zpos, [], 0⟩] scope pos) (tLc (iZip X.K (tCons ta (tCons tb tNil))) (gTup X.K 2 (gCons (gName i) (gCons (gName j) gNil))) tYes te [i, j]) :=
  pe_lc (own := [(x, i), (y, j)]) hc hN (pi_zip hg hm (pa_cons ha (pa_cons hb pa_nil hs2) hs1) hs1 hpl) (blkOk_by ok) (fun s H C cl fp => pg_two (X := X.blk s H scope (compEnvC scope cl C X.env) fp) hc hN hi hj (lx C cl) (ly C cl)) (fun _ _ _ _ _ => pts_nil) he
/-- [elt for x, y in enumerate(a)] -/
theorem pe_lce {elt a : Expr} {x y : Str} {i j kk : Nat} {px py tpos pz zpos pos : Pos} {scope : Scope} {ta te : TE} (hN : X.N.Nodup) (hm : X.mg "enumerate" = none) (ha : PE X a ta)
    (ok : blkC X.N X.env.scope scope [(x, i), (y, j)] = true) (he : ∀ (s : Shared) (H : Hp) (C : Addr) (cl : List (Str × Addr)) (fp : List Addr), PE (X.blk s H scope (compEnvC scope cl C X.env) fp) elt te)
    (hc : X.calm = true := by rfl) (hg : Gl X "enumerate" := by rfl) (hi : X.N[i]? = some x := by rfl) (hj : X.N[j]? = some y := by rfl)
    (lx : ∀ (C : Addr) (cl : List (Str × Addr)), (compEnvC scope cl C X.env).scope.names.lookup x = some .local := by intro _ _; rfl) (ly : ∀ (C : Addr) (cl : List (Str × Addr)), (compEnvC scope cl C X.env).scope.names.lookup y = some .local := by intro _ _; rfl)
    (hs1 : starEach [a] X.env = [(false, eval a X.env)] := by rfl) :
    PE X (.ListComp elt [⟨.Tuple [.Name x px, .Name y py] kk tpos, .Call (.Name "enumerate" pz) [a] [] zpos, [], 0⟩] scope pos) (tLc (iEnum X.K (tCons ta tNil)) (gTup X.K 2 (gCons (gName i) (gCons (gName j) gNil))) tYes te [i, j]) :=
  pe_lc (own := [(x, i), (y, j)]) hc hN (pi_enum hg hm (pa_cons ha pa_nil hs1) hs1) (blkOk_by ok) (fun s H C cl fp => pg_two (X := X.blk s H scope (compEnvC scope cl C X.env) fp) hc hN hi hj (lx C cl) (ly C cl)) (fun _ _ _ _ _ => pts_nil) he
/-- [elt for x in a], a list -/
theorem pe_lcl {elt a : Expr} {x : Str} {i : Nat} {px pos : Pos} {scope : Scope} {ta te : TE} (hN : X.N.Nodup) (ha : PE X a ta)
    (ok : blkC X.N X.env.scope scope [(x, i)] = true) (he : ∀ (s : Shared) (H : Hp) (C : Addr) (cl : List (Str × Addr)) (fp : List Addr), PE (X.blk s H scope (compEnvC scope cl C X.env) fp) elt te)
    (hc : X.calm = true := by rfl) (hi : X.N[i]? = some x := by rfl)
    (lx : ∀ (C : Addr) (cl : List (Str × Addr)), (compEnvC scope cl C X.env).scope.names.lookup x = some .local := by intro _ _; rfl) (hs : ∀ x, foldedSetIterable a X.env x = pure x := by intro _; rfl) :
    PE X (.ListComp elt [⟨.Name x px, a, [], 0⟩] scope pos) (tLc (iList X.K ta) (gName i) tYes te [i]) :=
  pe_lc (own := [(x, i)]) hc hN (pi_list ha) (blkOk_by ok) (fun s H C cl fp => pg_one (X := X.blk s H scope (compEnvC scope cl C X.env) fp) hN hi (lx C cl)) (fun _ _ _ _ _ => pts_nil) he hs
/-- [elt for x in range(a)] -/
theorem pe_lcr {elt a : Expr} {x : Str} {i : Nat} {px pr rpos pos : Pos} {scope : Scope} {ta te : TE} (hN : X.N.Nodup) (hm : X.mg "range" = none) (ha : PE X a ta)
    (ok : blkC X.N X.env.scope scope [(x, i)] = true) (he : ∀ (s : Shared) (H : Hp) (C : Addr) (cl : List (Str × Addr)) (fp : List Addr), PE (X.blk s H scope (compEnvC scope cl C X.env) fp) elt te)
    (hc : X.calm = true := by rfl) (hg : Gl X "range" := by rfl) (hi : X.N[i]? = some x := by rfl)
    (lx : ∀ (C : Addr) (cl : List (Str × Addr)), (compEnvC scope cl C X.env).scope.names.lookup x = some .local := by intro _ _; rfl) (hs1 : starEach [a] X.env = [(false, eval a X.env)] := by rfl) :
    PE X (.ListComp elt [⟨.Name x px, .Call (.Name "range" pr) [a] [] rpos, [], 0⟩] scope pos) (tLc (iRng1 (tCons ta tNil)) (gName i) tYes te [i]) :=
  pe_lc (own := [(x, i)]) hc hN (pi_range1 hg hm (pa_cons ha pa_nil hs1) hs1) (blkOk_by ok) (fun s H C cl fp => pg_one (X := X.blk s H scope (compEnvC scope cl C X.env) fp) hN hi (lx C cl)) (fun _ _ _ _ _ => pts_nil) he
end
end L2

set_option Elab.async false
set_option linter.all false
set_option maxRecDepth 100000
set_option maxHeartbeats 2000000
/-! The class Pack: a promise for each method. -/
namespace EvC
open PySem PySem.Spec PyProof.Rows L2
open EvM (minI maxI)
open EvS (PS mn mx)
/-! ### the text by places -/
def top (i : Nat) : Stmt := PySem.Challenge.pw_evenpack_s01_answers.main.body.getD i (.Pass ⟨0, 0, 0, 0⟩)
abbrev sInit : Stmt := inClass (top 1) 0
abbrev sStarted : Stmt := inClass (top 1) 1
abbrev sBegin : Stmt := inClass (top 1) 2
abbrev sPut : Stmt := inClass (top 1) 3
abbrev sSetLeaks : Stmt := inClass (top 1) 4
abbrev sLacks : Stmt := inClass (top 1) 5
abbrev sLacksH : Stmt := inClass (top 1) 6
abbrev sGives : Stmt := inClass (top 1) 7
abbrev sGivesH : Stmt := inClass (top 1) 8
abbrev sMost : Stmt := inClass (top 1) 9
abbrev sMostW : Stmt := inClass (top 1) 10
abbrev sUnits : Stmt := inClass (top 1) 11
abbrev sFill : Stmt := inClass (top 1) 12
abbrev sDraw : Stmt := inClass (top 1) 13
abbrev sBleedEach : Stmt := inClass (top 1) 14
abbrev sCanBleed : Stmt := inClass (top 1) 15
abbrev sOfOne : Stmt := inClass (top 1) 16
abbrev sToLack : Stmt := inClass (top 1) 17
abbrev sToEven : Stmt := inClass (top 1) 18
abbrev sToGive : Stmt := inClass (top 1) 19
abbrev sAfter : Stmt := inClass (top 1) 20
abbrev sLose : Stmt := inClass (top 1) 21
abbrev sTill : Stmt := inClass (top 1) 22
abbrev sSwap : Stmt := inClass (top 1) 23
/-! ### the data -/
abbrev vi (l : List Int) : List V := l.map V.int
def pf (rl ll hl : Addr) (a b c d e : Int) : List (Str × V) :=
  [("rooms", .ref rl), ("leaks", .ref ll), ("held", .ref hl), ("put_in", .int a), ("filled", .int b), ("drawn", .int c), ("bled", .int d), ("leaked", .int e)]
def vop (f : Int → Int → Int) (x y : V) : V := match x, y with
  | .int a, .int b => .int (f a b)
  | _, _ => .non
def vopB (f : Int → Int → Bool) (x y : V) : V := match x, y with
  | .int a, .int b => .bl (f a b)
  | _, _ => .non
def vun (f : Int → Int) (x : V) : V := match x with
  | .int a => .int (f a)
  | _ => .non
def vunB (f : Int → Bool) (x : V) : V := match x with
  | .int a => .bl (f a)
  | _ => .non
theorem zip_vop (f : Int → Int → Int) : ∀ xs ys : List Int, List.zipWith (vop f) (vi xs) (vi ys) = vi (List.zipWith f xs ys)
  | [], ys => by cases ys <;> rfl
  | x :: xs, [] => rfl
  | x :: xs, y :: ys => by
    show vop f (.int x) (.int y) :: List.zipWith (vop f) (vi xs) (vi ys) = _
    rw [zip_vop f xs ys]
    rfl
theorem zip_vopB (f : Int → Int → Bool) : ∀ xs ys : List Int, List.zipWith (vopB f) (vi xs) (vi ys) = (List.zipWith f xs ys).map V.bl
  | [], ys => by cases ys <;> rfl
  | x :: xs, [] => rfl
  | x :: xs, y :: ys => by
    show vopB f (.int x) (.int y) :: List.zipWith (vopB f) (vi xs) (vi ys) = _
    rw [zip_vopB f xs ys]
    rfl
theorem map_vun (f : Int → Int) (xs : List Int) : (vi xs).map (vun f) = vi (xs.map f) := by
  unfold vi
  rw [List.map_map, List.map_map]
  rfl
theorem map_vunB (f : Int → Bool) (xs : List Int) : (vi xs).map (vunB f) = (xs.map f).map V.bl := by
  unfold vi
  rw [List.map_map, List.map_map]
  rfl
theorem lk_hit {f : Str} {v : V} {r : List (Str × V)} : List.lookup f ((f, v) :: r) = some v := by
  show (match f == f with | true => some v | false => List.lookup f r) = some v
  rw [beq_self_eq_true]
theorem lk_miss {f g : Str} {v : V} {r : List (Str × V)} (h : ¬ f = g) : List.lookup f ((g, v) :: r) = List.lookup f r := by
  show (match f == g with | true => some v | false => List.lookup f r) = _
  rw [beq_eq_false_iff_ne.mpr h]
theorem pt_hit {f : Str} {v u : V} {r : List (Str × V)} : putF f v ((f, u) :: r) = (f, v) :: r := by
  show (if f = f then _ else _) = _
  rw [if_pos rfl]
theorem pt_miss {f g : Str} {v u : V} {r : List (Str × V)} (h : ¬ g = f) : putF f v ((g, u) :: r) = (g, u) :: putF f v r := by
  show (if g = f then _ else _) = _
  rw [if_neg h]
theorem ne_rl : ¬ (("rooms" : Str) = "leaks") := by decide +kernel
section
variable {rl ll hl : Addr} {a b c d e : Int}
theorem pf_rooms : (pf rl ll hl a b c d e).lookup ("rooms" : Str) = some (.ref rl) := lk_hit
theorem pf_leaks : (pf rl ll hl a b c d e).lookup ("leaks" : Str) = some (.ref ll) := (lk_miss (by decide +kernel)).trans lk_hit
theorem pf_held : (pf rl ll hl a b c d e).lookup ("held" : Str) = some (.ref hl) := (lk_miss (by decide +kernel)).trans ((lk_miss (by decide +kernel)).trans lk_hit)
theorem pf_put : (pf rl ll hl a b c d e).lookup ("put_in" : Str) = some (.int a) := (lk_miss (by decide +kernel)).trans ((lk_miss (by decide +kernel)).trans ((lk_miss (by decide +kernel)).trans lk_hit))
theorem pf_filled : (pf rl ll hl a b c d e).lookup ("filled" : Str) = some (.int b) := (lk_miss (by decide +kernel)).trans ((lk_miss (by decide +kernel)).trans ((lk_miss (by decide +kernel)).trans ((lk_miss (by decide +kernel)).trans lk_hit)))
theorem pf_drawn : (pf rl ll hl a b c d e).lookup ("drawn" : Str) = some (.int c) := (lk_miss (by decide +kernel)).trans ((lk_miss (by decide +kernel)).trans ((lk_miss (by decide +kernel)).trans ((lk_miss (by decide +kernel)).trans ((lk_miss (by decide +kernel)).trans lk_hit))))
theorem pf_bled : (pf rl ll hl a b c d e).lookup ("bled" : Str) = some (.int d) := (lk_miss (by decide +kernel)).trans ((lk_miss (by decide +kernel)).trans ((lk_miss (by decide +kernel)).trans ((lk_miss (by decide +kernel)).trans ((lk_miss (by decide +kernel)).trans ((lk_miss (by decide +kernel)).trans lk_hit)))))
theorem pf_leaked : (pf rl ll hl a b c d e).lookup ("leaked" : Str) = some (.int e) := (lk_miss (by decide +kernel)).trans ((lk_miss (by decide +kernel)).trans ((lk_miss (by decide +kernel)).trans ((lk_miss (by decide +kernel)).trans ((lk_miss (by decide +kernel)).trans ((lk_miss (by decide +kernel)).trans ((lk_miss (by decide +kernel)).trans lk_hit))))))
abbrev pfKeys : List Str := ["rooms", "leaks", "held", "put_in", "filled", "drawn", "bled", "leaked"]
theorem lookup_no : ∀ {fs : List (Str × V)} {m : Str}, m ∉ fs.map (·.1) → fs.lookup m = none
  | [], _, _ => rfl
  | (g, v) :: r, m, h => by
    rw [lk_miss (fun q => h (by rw [q]; exact List.mem_cons_self))]
    exact lookup_no fun q => h (List.mem_cons_of_mem _ q)
theorem pf_no {m : Str} (h : m ∉ pfKeys) : (pf rl ll hl a b c d e).lookup m = none := lookup_no h
theorem put_rooms {x : Addr} : putF "rooms" (.ref x) (pf rl ll hl a b c d e) = pf x ll hl a b c d e := pt_hit
theorem put_leaks {x : Addr} : putF "leaks" (.ref x) (pf rl ll hl a b c d e) = pf rl x hl a b c d e := by
  unfold pf
  rw [pt_miss (by decide +kernel), pt_hit]
theorem put_held {x : Addr} : putF "held" (.ref x) (pf rl ll hl a b c d e) = pf rl ll x a b c d e := by
  unfold pf
  rw [pt_miss (by decide +kernel), pt_miss (by decide +kernel), pt_hit]
theorem put_put {x : Int} : putF "put_in" (.int x) (pf rl ll hl a b c d e) = pf rl ll hl x b c d e := by
  unfold pf
  rw [pt_miss (by decide +kernel), pt_miss (by decide +kernel), pt_miss (by decide +kernel), pt_hit]
theorem put_filled {x : Int} : putF "filled" (.int x) (pf rl ll hl a b c d e) = pf rl ll hl a x c d e := by
  unfold pf
  rw [pt_miss (by decide +kernel), pt_miss (by decide +kernel), pt_miss (by decide +kernel), pt_miss (by decide +kernel), pt_hit]
theorem put_drawn {x : Int} : putF "drawn" (.int x) (pf rl ll hl a b c d e) = pf rl ll hl a b x d e := by
  unfold pf
  rw [pt_miss (by decide +kernel), pt_miss (by decide +kernel), pt_miss (by decide +kernel), pt_miss (by decide +kernel), pt_miss (by decide +kernel), pt_hit]
theorem put_bled {x : Int} : putF "bled" (.int x) (pf rl ll hl a b c d e) = pf rl ll hl a b c x e := by
  unfold pf
  rw [pt_miss (by decide +kernel), pt_miss (by decide +kernel), pt_miss (by decide +kernel), pt_miss (by decide +kernel), pt_miss (by decide +kernel), pt_miss (by decide +kernel), pt_hit]
theorem put_leaked {x : Int} : putF "leaked" (.int x) (pf rl ll hl a b c d e) = pf rl ll hl a b c d x := by
  unfold pf
  rw [pt_miss (by decide +kernel), pt_miss (by decide +kernel), pt_miss (by decide +kernel), pt_miss (by decide +kernel), pt_miss (by decide +kernel), pt_miss (by decide +kernel), pt_miss (by decide +kernel), pt_hit]
end
/-- the pack at p is s -/
def PackAt (C : Addr) (H : Hp) (p : Addr) (s : PS) : Prop := ∃ dx rl ll hl, H p = some (.ins C dx (pf rl ll hl s.put s.filled s.drawn s.bled s.leaked)) ∧ H rl = some (.lst (vi s.rooms)) ∧ H ll = some (.lst (vi s.leaks)) ∧ H hl = some (.lst (vi s.held)) ∧
  s.rooms.length ≤ 60 ∧ s.leaks.length ≤ 60 ∧ s.held.length ≤ 60 ∧ rl ≠ ll ∧ rl ≠ hl ∧ ll ≠ hl
theorem PackAt.same {C : Addr} {H H' : Hp} {p : Addr} {s : PS} (h : PackAt C H p s) (k : Same H H') : PackAt C H' p s := by
  obtain ⟨dx, rl, ll, hl, h1, h2, h3, h4, z⟩ := h
  exact ⟨dx, rl, ll, hl, k _ _ h1, k _ _ h2, k _ _ h3, k _ _ h4, z⟩
/-- all else is as it was -/
def Fra (p : Addr) (H H' : Hp) : Prop := ∀ b o, H b = some o → b ≠ p → H' b = some o
theorem Fra.of_same {p : Addr} {H H' : Hp} (k : Same H H') : Fra p H H' := fun b o e _ => k b o e
theorem Fra.trans {p : Addr} {H H1 H2 : Hp} (a : Fra p H H1) (b : Fra p H1 H2) : Fra p H H2 := fun c o e n => b c o (a c o e n) n
theorem Fra.upd {p : Addr} {H H' : Hp} {o : HO} (k : Fra p H H') : Fra p H (L2.upd H' p o) := fun b u e n => by
  rw [upd_ne n]
  exact k b u e n
theorem Same.new {H : Hp} {q : Addr} {o : HO} (h : H q = none) : Same H (L2.upd H q o) := fun b u e => by
  rw [upd_ne (ne_of_none e h)]
  exact e
theorem pack_upd {C p dx rl ll hl : Addr} {H : Hp} {s : PS} {fs : List (Str × V)} (hp : H p = some (.ins C dx fs)) (h2 : H rl = some (.lst (vi s.rooms))) (h3 : H ll = some (.lst (vi s.leaks))) (h4 : H hl = some (.lst (vi s.held)))
    (z : s.rooms.length ≤ 60 ∧ s.leaks.length ≤ 60 ∧ s.held.length ≤ 60 ∧ rl ≠ ll ∧ rl ≠ hl ∧ ll ≠ hl) : PackAt C (upd H p (.ins C dx (pf rl ll hl s.put s.filled s.drawn s.bled s.leaked))) p s :=
  ⟨dx, rl, ll, hl, upd_same, by rw [upd_ne (ne_of h2 hp (by intro z; cases z))]; exact h2, by rw [upd_ne (ne_of h3 hp (by intro z; cases z))]; exact h3, by rw [upd_ne (ne_of h4 hp (by intro z; cases z))]; exact h4, z⟩
/-- what is locked stays, what is there stays there -/
def Frc (H H' : Hp) : Prop := (∀ b o u, H b = some (.frz o u) → H' b = some (.frz o u)) ∧ ∀ b, H' b = none → H b = none
theorem Frc.of_same {H H' : Hp} (k : Same H H') : Frc H H' := ⟨fun b o u e => k b _ e, fun b e => k.free e⟩
theorem Frc.trans {H H1 H2 : Hp} (a : Frc H H1) (b : Frc H1 H2) : Frc H H2 := ⟨fun c o u e => b.1 c o u (a.1 c o u e), fun c e => a.2 c (b.2 c e)⟩
theorem Frc.of_fra {p C dx : Addr} {H H' : Hp} {fs : List (Str × V)} {o' : HO} (k : Fra p H H') (h : H p = some (.ins C dx fs)) (h' : H' p = some o') : Frc H H' := by
  refine ⟨fun b o u e => k b _ e (ne_of e h (by intro z; cases z)), fun b e => ?_⟩
  cases c : H b with
  | none => rfl
  | some o =>
    by_cases q : b = p
    · rw [q, h'] at e; cases e
    · rw [k b o c q] at e; cases e
theorem Frc.upd {H H1 : Hp} {a : Addr} {xs : List V} {o : HO} (k : Frc H H1) (h : H1 a = some (.lst xs)) : Frc H (L2.upd H1 a o) := by
  refine ⟨fun b u v e => ?_, fun b e => ?_⟩
  · have e1 := k.1 b u v e
    rw [upd_ne (ne_of e1 h (by intro z; cases z))]
    exact e1
  · by_cases q : b = a
    · rw [q, upd_same] at e; cases e
    · rw [upd_ne q] at e
      exact k.2 b e
/-! ### what the top has of the class -/
structure Txt (K : PySem.W.Frag) (mg : Str → Option Value) (C : Addr) : Prop where
  cl : Cls K C
  nRooms : NoAttr K C "rooms"
  nLeaks : NoAttr K C "leaks"
  nHeld : NoAttr K C "held"
  nPut : NoAttr K C "put_in"
  nFilled : NoAttr K C "filled"
  nDrawn : NoAttr K C "drawn"
  nBled : NoAttr K C "bled"
  nLeaked : NoAttr K C "leaked"
  mgC : mg "Pack" = some (.ref C)
  len : mg "len" = none
  min : mg "min" = none
  max : mg "max" = none
  sum : mg "sum" = none
  zip : mg "zip" = none
  range : mg "range" = none
  list : mg "list" = none
  any : mg "any" = none
  all : mg "all" = none
  enum : mg "enumerate" = none
/-! ### promises -/
/-- a method of the pack alone that hands back an int, changes nothing -/
def spI (C : Addr) (pre : PS → Prop) (f : PS → Int) : Sp := fun vs H Q _ => ∃ p s, vs = [.ref p] ∧ PackAt C H p s ∧ pre s ∧ ∀ H', Same H H' → Q (.int (f s)) H'
/-- .. a new list of vi -/
def spL (C : Addr) (pre : PS → Prop) (f : PS → List Int) : Sp := fun vs H Q _ => ∃ p s, vs = [.ref p] ∧ PackAt C H p s ∧ pre s ∧ ∀ H' q, Same H H' → H q = none → H' q = some (.lst (vi (f s))) → Q (.ref q) H'
/-- .. of an int beside -/
def spL1 (C : Addr) (pre : PS → Prop) (f : PS → Int → List Int) : Sp := fun vs H Q _ => ∃ p s n, vs = [.ref p, .int n] ∧ PackAt C H p s ∧ pre s ∧ ∀ H' q, Same H H' → H q = none → H' q = some (.lst (vi (f s n))) → Q (.ref q) H'
def spL2 (C : Addr) (f : PS → Int → Int → List Int) : Sp := fun vs H Q _ => ∃ p s n m, vs = [.ref p, .int n, .int m] ∧ PackAt C H p s ∧ ∀ H' q, Same H H' → H q = none → H' q = some (.lst (vi (f s n m))) → Q (.ref q) H'
/-- of an int, it changes the pack -/
def spM1 (C : Addr) (pre : PS → Prop) (g : PS → Int → PS) (f : PS → Int → Int) : Sp := fun vs H Q _ => ∃ p s n, vs = [.ref p, .int n] ∧ PackAt C H p s ∧ pre s ∧ ∀ H', PackAt C H' p (g s n) → Fra p H H' → Q (.int (f s n)) H'
abbrev any0 : PS → Prop := fun _ => True
abbrev some0 : PS → Prop := fun s => 0 < s.rooms.length ∧ s.held.length = s.rooms.length
theorem some0_lacks {s : PS} (h : some0 s) : 0 < s.lacks.length := by
  unfold PS.lacks PS.lacksH
  rw [List.length_zipWith]
  have := h.1
  have := h.2
  omega
section
variable {P : Program} {w : World} {K : PySem.W.Frag} {mg : Str → Option Value} {base : Heap}
/-- .. of a list beside: what is held -/
def spLH (K : PySem.W.Frag) (C : Addr) (f : PS → List Int → List Int) : Sp := fun vs H Q _ => ∃ p a s l, vs = [.ref p, .ref a] ∧ PackAt C H p s ∧ SqL K H a (vi l) ∧ l.length ≤ 60 ∧ ∀ H' q, Same H H' → H q = none → H' q = some (.lst (vi (f s l))) → Q (.ref q) H'
def spIH (K : PySem.W.Frag) (C : Addr) (f : PS → List Int → Int) : Sp := fun vs H Q _ => ∃ p a s l, vs = [.ref p, .ref a] ∧ PackAt C H p s ∧ SqL K H a (vi l) ∧ 0 < s.rooms.length ∧ 0 < l.length ∧ l.length ≤ 60 ∧ ∀ H', Same H H' → Q (.int (f s l)) H'
theorem scLacksH : FnScope ["self", "held", "room", "holds"] ["self", "held"] (defScope sLacksH) := ⟨rfl, rfl, rfl, by decide +kernel, rfl, by decide +kernel, by decide +kernel⟩
theorem ok_lacksH {f C : Addr} {fd : FuncData} (F : Fun K "lacks_holding" "Pack.lacks_holding" sLacksH f fd) (T : Txt K mg C) : FnOk P w K mg base CX0 1 f fd ["self", "held"] (spLH K C PS.lacksH) := by
  refine F.ok scLacksH (fun vs H Q E h => ?_) (fun cdv A outer s H vs Q E hr h => ?_)
  · obtain ⟨p, a, s, l, rfl, _⟩ := h
    rfl
  · obtain ⟨p, a, s, l, rfl, ⟨dx, rl, ll, hl, h1, h2, h3, h4, z⟩, hS, h60, k⟩ := h
    refine ⟨_, pss_one (ps_ret (pe_lcz (i := 2) (j := 3) scLacksH.nd T.zip (pe_fld (pv 0) rfl) (pv 1) rfl (fun _ _ _ _ _ => pe_op op_sub (pv 2) (pv 3)))), ?_⟩
    refine ⟨_, rfl, p, C, dx, _, _, rfl, h1, T.cl, T.nRooms, pf_rooms, _, rfl, rl, a, vi s.rooms, vi l, rfl, SqL.of h2, hS, fun D hD => lcz (vop fun r h => r - h) (SqL.of h2) hS hD (by rw [List.length_map]; omega) (fun _ _ => rfl) (fun x y H' Q' hx hy _ q => ?_) (fun H' sm hd => ?_)⟩
    · obtain ⟨a, _, rfl⟩ := List.mem_map.mp hx
      obtain ⟨b, _, rfl⟩ := List.mem_map.mp hy
      exact ⟨_, rfl, _, rfl, _, _, rfl, rfl, q⟩
    · rw [zip_vop] at hd
      exact k H' D sm hD hd
theorem scLacks : FnScope ["self"] ["self"] (defScope sLacks) := ⟨rfl, rfl, rfl, by decide +kernel, rfl, by decide +kernel, by decide +kernel⟩
theorem ok_lacks {f C fL : Addr} {fd fdL : FuncData} (F : Fun K "lacks" "Pack.lacks" sLacks f fd) (T : Txt K mg C) (GL : FnOk P w K mg base CX0 1 fL fdL ["self", "held"] (spLH K C PS.lacksH)) (bL : Binds K fdL ["self", "held"] []) (mL : Meth K C "lacks_holding" fL) :
    FnOk P w K mg base CX0 2 f fd ["self"] (spL C any0 PS.lacks) := by
  refine F.ok scLacks (fun vs H Q E h => ?_) (fun cdv A outer s H vs Q E hr h => ?_)
  · obtain ⟨p, s, rfl, _⟩ := h
    rfl
  · obtain ⟨p, s, rfl, hP, _, k⟩ := h
    obtain ⟨dx, rl, ll, hl, h1, h2, h3, h4, z⟩ := id hP
    refine ⟨_, pss_one (ps_ret (pe_meth (pv 0) T.cl mL GL hr bL .nil pass0 (pa_cons (pe_fld (pv 0) rfl) pa_nil))), ?_⟩
    exact ⟨_, rfl, p, dx, _, rfl, h1, pf_no (by decide +kernel), _, rfl, p, C, dx, _, _, rfl, h1, T.cl, T.nHeld, pf_held, p, hl, s, s.held, rfl, hP, SqL.of h4, z.2.2.1, k⟩
/-! gives, most -/
theorem scGivesH : FnScope ["self", "held"] ["self", "held"] (defScope sGivesH) := ⟨rfl, rfl, rfl, by decide +kernel, rfl, by decide +kernel, by decide +kernel⟩
theorem ok_givesH {f C fL : Addr} {fd fdL : FuncData} (F : Fun K "gives_holding" "Pack.gives_holding" sGivesH f fd) (T : Txt K mg C) (GL : FnOk P w K mg base CX0 1 fL fdL ["self", "held"] (spLH K C PS.lacksH)) (bL : Binds K fdL ["self", "held"] []) (mL : Meth K C "lacks_holding" fL) :
    FnOk P w K mg base CX0 2 f fd ["self", "held"] (spIH K C PS.givesH) := by
  refine F.ok scGivesH (fun vs H Q E h => ?_) (fun cdv A outer s H vs Q E hr h => ?_)
  · obtain ⟨p, a, s, l, rfl, _⟩ := h
    rfl
  · obtain ⟨p, a, s, l, rfl, hP, hS, hs, hl0, h60, k⟩ := h
    obtain ⟨dx, rl, ll, hl, h1, h2, h3, h4, z⟩ := id hP
    refine ⟨_, pss_one (ps_ret (pe_op op_add (pe_callB (cr_min rfl) rfl T.min boot_min (pa_cons (pv 1) pa_nil)) (pe_callB (cr_min rfl) rfl T.min boot_min (pa_cons (pe_meth (pv 0) T.cl mL GL hr bL .nil pass0 (pa_cons (pv 1) pa_nil)) pa_nil)))), ?_⟩
    refine ⟨_, rfl, a, l, rfl, hS, hl0, fun m hm hmin => ?_⟩
    refine ⟨_, rfl, p, dx, _, rfl, h1, pf_no (by decide +kernel), _, rfl, p, a, s, l, rfl, hP, hS, h60, fun H' q sm hq hd => ?_⟩
    refine ⟨q, s.lacksH l, rfl, SqL.of hd, by unfold PS.lacksH; rw [List.length_zipWith]; omega, fun m2 hm2 hmin2 => ?_⟩
    refine ⟨_, _, rfl, rfl, ?_⟩
    have e1 := EvM.minI_is hm hmin
    have e2 := EvM.minI_is hm2 hmin2
    subst e1 e2
    exact k H' sm
theorem scGives : FnScope ["self"] ["self"] (defScope sGives) := ⟨rfl, rfl, rfl, by decide +kernel, rfl, by decide +kernel, by decide +kernel⟩
theorem ok_gives {f C fL : Addr} {fd fdL : FuncData} (F : Fun K "gives" "Pack.gives" sGives f fd) (T : Txt K mg C) (GL : FnOk P w K mg base CX0 2 fL fdL ["self", "held"] (spIH K C PS.givesH)) (bL : Binds K fdL ["self", "held"] []) (mL : Meth K C "gives_holding" fL) :
    FnOk P w K mg base CX0 3 f fd ["self"] (spI C some0 PS.gives) := by
  refine F.ok scGives (fun vs H Q E h => ?_) (fun cdv A outer s H vs Q E hr h => ?_)
  · obtain ⟨p, s, rfl, _⟩ := h
    rfl
  · obtain ⟨p, s, rfl, hP, hs, k⟩ := h
    obtain ⟨dx, rl, ll, hl, h1, h2, h3, h4, z⟩ := id hP
    refine ⟨_, pss_one (ps_ret (pe_meth (pv 0) T.cl mL GL hr bL .nil pass0 (pa_cons (pe_fld (pv 0) rfl) pa_nil))), ?_⟩
    exact ⟨_, rfl, p, dx, _, rfl, h1, pf_no (by decide +kernel), _, rfl, p, C, dx, _, _, rfl, h1, T.cl, T.nHeld, pf_held, p, hl, s, s.held, rfl, hP, SqL.of h4, hs.1, by have := hs.1; have := hs.2; omega, z.2.2.1, k⟩
theorem scMost : FnScope ["self"] ["self"] (defScope sMost) := ⟨rfl, rfl, rfl, by decide +kernel, rfl, by decide +kernel, by decide +kernel⟩
theorem ok_most {f C : Addr} {fd : FuncData} (F : Fun K "most" "Pack.most" sMost f fd) (T : Txt K mg C) : FnOk P w K mg base CX0 1 f fd ["self"] (spI C some0 PS.most) := by
  refine F.ok scMost (fun vs H Q E h => ?_) (fun cdv A outer s H vs Q E hr h => ?_)
  · obtain ⟨p, s, rfl, _⟩ := h
    rfl
  · obtain ⟨p, s, rfl, ⟨dx, rl, ll, hl, h1, h2, h3, h4, z⟩, hs, k⟩ := h
    refine ⟨_, pss_one (ps_ret (pe_callB (cr_min rfl) rfl T.min boot_min (pa_cons (pe_fld (pv 0) rfl) pa_nil))), ?_⟩
    refine ⟨_, rfl, p, C, dx, _, _, rfl, h1, T.cl, T.nRooms, pf_rooms, rl, s.rooms, rfl, SqL.of h2, hs.1, fun m hm hmin => ?_⟩
    have e1 := EvM.minI_is hm hmin
    subst e1
    exact k H (Same.refl _)
/-! started -/
def spStarted (C : Addr) : Sp := fun vs H Q _ => ∃ p s, vs = [.ref p] ∧ PackAt C H p s ∧ Q (.bl (decide ((0 : Int) < (s.rooms.length : Int)))) H
theorem scStarted : FnScope ["self"] ["self"] (defScope sStarted) := ⟨rfl, rfl, rfl, by decide +kernel, rfl, by decide +kernel, by decide +kernel⟩
theorem ok_started {f C : Addr} {fd : FuncData} (F : Fun K "started" "Pack.started" sStarted f fd) (T : Txt K mg C) : FnOk P w K mg base CX0 1 f fd ["self"] (spStarted C) := by
  refine F.ok scStarted (fun vs H Q E h => ?_) (fun cdv A outer s H vs Q E hr h => ?_)
  · obtain ⟨p, s, rfl, _⟩ := h
    rfl
  · obtain ⟨p, s, rfl, ⟨dx, rl, ll, hl, h1, h2, h3, h4, z⟩, k⟩ := h
    refine ⟨_, pss_one (ps_ret (pe_cmpR op_gt (pe_callB call_len_seq rfl T.len PySem.boot_len (pa_cons (pe_fld (pv 0) rfl) pa_nil)) pe_int (nomark _))), ?_⟩
    refine ⟨_, rfl, p, C, dx, _, _, rfl, h1, T.cl, T.nRooms, pf_rooms, rl, vi s.rooms, rfl, .inl (SqL.of h2), _, _, rfl, rfl, ?_⟩
    rw [List.length_map]
    exact k
/-! put -/
theorem sq_fra {H H' : Hp} {p C dx a : Addr} {fs : List (Str × V)} {xs : List V} (h : SqL K H a xs) (k : Fra p H H') (hp : H p = some (.ins C dx fs)) : SqL K H' a xs := by
  rcases h with (h | ⟨o, h⟩) | h
  · exact .inl (.inl (k _ _ h (ne_of h hp (by intro z; cases z))))
  · exact .inl (.inr ⟨o, k _ _ h (ne_of h hp (by intro z; cases z))⟩)
  · exact .inr h
theorem len_put {f : Str} {v : V} {fs : List (Str × V)} {n : Nat} (h : fs.length ≤ n) : (putF f v fs).length ≤ n + 1 := Nat.le_trans (length_putF f v fs) (by omega)
def Fs (rl ll : Addr) (fs : List (Str × V)) : Prop := fs = ([("rooms", .ref rl), ("leaks", .ref ll)] : List (Str × V)) ∨ ∃ hl a b c d e, fs = pf rl ll hl a b c d e
theorem put_chain {rl ll x : Addr} {a b c d e : Int} {fs : List (Str × V)} (h : Fs rl ll fs) :
    putF "leaked" (.int e) (putF "bled" (.int d) (putF "drawn" (.int c) (putF "filled" (.int b) (putF "put_in" (.int a) (putF "held" (.ref x) fs))))) = pf rl ll x a b c d e := by
  rcases h with h | ⟨hl, a', b', c', d', e', h⟩
  · subst h
    have e0 : putF "held" (.ref x) ([("rooms", .ref rl), ("leaks", .ref ll)] : List (Str × V)) = ([("rooms", .ref rl), ("leaks", .ref ll), ("held", .ref x)] : List (Str × V)) := by
      rw [pt_miss (by decide +kernel), pt_miss (by decide +kernel)]
      rfl
    rw [e0, pt_miss (by decide +kernel), pt_miss (by decide +kernel), pt_miss (by decide +kernel)]
    show putF "leaked" (.int e) (putF "bled" (.int d) (putF "drawn" (.int c) (putF "filled" (.int b) ([("rooms", .ref rl), ("leaks", .ref ll), ("held", .ref x), ("put_in", .int a)] : List (Str × V))))) = _
    rw [pt_miss (by decide +kernel), pt_miss (by decide +kernel), pt_miss (by decide +kernel), pt_miss (by decide +kernel)]
    show putF "leaked" (.int e) (putF "bled" (.int d) (putF "drawn" (.int c) ([("rooms", .ref rl), ("leaks", .ref ll), ("held", .ref x), ("put_in", .int a), ("filled", .int b)] : List (Str × V)))) = _
    rw [pt_miss (by decide +kernel), pt_miss (by decide +kernel), pt_miss (by decide +kernel), pt_miss (by decide +kernel), pt_miss (by decide +kernel)]
    show putF "leaked" (.int e) (putF "bled" (.int d) ([("rooms", .ref rl), ("leaks", .ref ll), ("held", .ref x), ("put_in", .int a), ("filled", .int b), ("drawn", .int c)] : List (Str × V))) = _
    rw [pt_miss (by decide +kernel), pt_miss (by decide +kernel), pt_miss (by decide +kernel), pt_miss (by decide +kernel), pt_miss (by decide +kernel), pt_miss (by decide +kernel)]
    show putF "leaked" (.int e) ([("rooms", .ref rl), ("leaks", .ref ll), ("held", .ref x), ("put_in", .int a), ("filled", .int b), ("drawn", .int c), ("bled", .int d)] : List (Str × V)) = _
    rw [pt_miss (by decide +kernel), pt_miss (by decide +kernel), pt_miss (by decide +kernel), pt_miss (by decide +kernel), pt_miss (by decide +kernel), pt_miss (by decide +kernel), pt_miss (by decide +kernel)]
    rfl
  · subst h
    rw [put_held, put_put, put_filled, put_drawn, put_bled, put_leaked]
theorem Fs.len {rl ll : Addr} {fs : List (Str × V)} (h : Fs rl ll fs) : fs.length ≤ 8 := by
  rcases h with h | ⟨hl, a', b', c', d', e', h⟩
  · subst h; exact (by decide : 2 ≤ 8)
  · subst h; exact Nat.le_refl 8
theorem Fs.no {rl ll : Addr} {fs : List (Str × V)} (h : Fs rl ll fs) {m : Str} (hm : m ∉ pfKeys) : fs.lookup m = none := by
  rcases h with h | ⟨hl, a', b', c', d', e', h⟩
  · subst h
    refine lookup_no fun q => hm ?_
    have q : m ∈ (["rooms", "leaks"] : List Str) := q
    rcases List.mem_cons.mp q with e | q
    · rw [e]; exact List.mem_cons_self
    · rcases List.mem_cons.mp q with e | q
      · rw [e]; exact List.mem_cons_of_mem _ List.mem_cons_self
      · cases q
  · subst h
    exact pf_no hm
def spPut (K : PySem.W.Frag) (C : Addr) : Sp := fun vs H Q _ => ∃ p a dx rl ll fs held, vs = [.ref p, .ref a] ∧ H p = some (.ins C dx fs) ∧ Fs rl ll fs ∧ SqL K H a (vi held) ∧
  ∀ H' hl', H' p = some (.ins C dx (pf rl ll hl' held.sum 0 0 0 0)) → H' hl' = some (.lst (vi held)) → H hl' = none → Fra p H H' → Q .non H'
theorem scPut : FnScope ["self", "held"] ["self", "held"] (defScope sPut) := ⟨rfl, rfl, rfl, by decide +kernel, rfl, by decide +kernel, by decide +kernel⟩
theorem ok_put {f C : Addr} {fd : FuncData} (F : Fun K "put" "Pack.put" sPut f fd) (T : Txt K mg C) : FnOk P w K mg base CX0 1 f fd ["self", "held"] (spPut K C) := by
  refine F.ok scPut (fun vs H Q E h => ?_) (fun cdv A outer s H vs Q E hr h => ?_)
  · obtain ⟨p, a, dx, rl, ll, fs, held, rfl, _⟩ := h
    rfl
  · obtain ⟨p, a, dx, rl, ll, fs, held, rfl, hp, hF, hS, k⟩ := h
    have z := hF.len
    refine ⟨_, pss_cons (ps_fld (pv 0) (pe_callTy call_list_of rfl T.list PyProof.Rows.boot_list (pa_cons (pv 1) pa_nil)) rfl) (pss_cons (ps_fld (pv 0) (pe_callB (cr_sum rfl) rfl T.sum boot_sum (pa_cons (pv 1) pa_nil)) rfl)
      (pss_cons (ps_fld (pv 0) pe_int rfl) (pss_cons (ps_fld (pv 0) pe_int rfl) (pss_cons (ps_fld (pv 0) pe_int rfl) (pss_one (ps_fld (pv 0) pe_int rfl)))))), ?_⟩
    refine ⟨_, rfl, a, vi held, rfl, .inl hS, fun l hl => ?_⟩
    have s1 : Same H (upd H l (.lst (vi held))) := Same.new hl
    refine ⟨_, rfl, p, C, dx, fs, rfl, s1 _ _ hp, T.cl, T.nHeld, by omega, ?_⟩
    refine ⟨_, rfl, a, held, rfl, sq_fra hS (Fra.upd (Fra.of_same s1)) hp, ?_⟩
    refine ⟨_, rfl, p, C, dx, _, rfl, upd_same, T.cl, T.nPut, Nat.lt_of_le_of_lt (len_put z) (by decide), ?_⟩
    refine ⟨_, rfl, p, C, dx, _, rfl, upd_same, T.cl, T.nFilled, Nat.lt_of_le_of_lt (len_put (len_put z)) (by decide), ?_⟩
    refine ⟨_, rfl, p, C, dx, _, rfl, upd_same, T.cl, T.nDrawn, Nat.lt_of_le_of_lt (len_put (len_put (len_put z))) (by decide), ?_⟩
    refine ⟨_, rfl, p, C, dx, _, rfl, upd_same, T.cl, T.nBled, Nat.lt_of_le_of_lt (len_put (len_put (len_put (len_put z)))) (by decide), ?_⟩
    refine ⟨_, rfl, p, C, dx, _, rfl, upd_same, T.cl, T.nLeaked, Nat.lt_of_le_of_lt (len_put (len_put (len_put (len_put (len_put z))))) (by decide), ?_⟩
    rw [put_chain hF]
    have hlp : l ≠ p := fun q => ne_of_none hp hl q.symm
    refine k _ l upd_same ?_ hl (Fra.upd (Fra.upd (Fra.upd (Fra.upd (Fra.upd (Fra.upd (Fra.of_same s1)))))))
    rw [upd_ne hlp, upd_ne hlp, upd_ne hlp, upd_ne hlp, upd_ne hlp, upd_ne hlp, upd_same]
/-! __init__, begin, set_leaks -/
def emptyP : PS := ⟨[], [], [], 0, 0, 0, 0, 0⟩
def spInit (C : Addr) : Sp := fun vs H Q _ => ∃ p dx, vs = [.ref p] ∧ H p = some (.ins C dx []) ∧ ∀ H', PackAt C H' p emptyP → Fra p H H' → Q .non H'
theorem scInit : FnScope ["self"] ["self"] (defScope sInit) := ⟨rfl, rfl, rfl, by decide +kernel, rfl, by decide +kernel, by decide +kernel⟩
theorem ok_init {f C fP : Addr} {fd fdP : FuncData} (F : Fun K "__init__" "Pack.__init__" sInit f fd) (T : Txt K mg C) (FP : Fun K "put" "Pack.put" sPut fP fdP) (bP : Binds K fdP ["self", "held"] []) (mP : Meth K C "put" fP) :
    FnOk P w K mg base CX0 2 f fd ["self"] (spInit C) := by
  have GP : FnOk P w K mg base CX0 1 fP fdP ["self", "held"] (spPut K C) := ok_put FP T
  refine F.ok scInit (fun vs H Q E h => ?_) (fun cdv A outer s H vs Q E hr h => ?_)
  · obtain ⟨p, dx, rfl, _⟩ := h
    rfl
  · obtain ⟨p, dx, rfl, hp, k⟩ := h
    refine ⟨_, pss_cons (ps_fld (pv 0) (pe_lst pa_nil) rfl) (pss_cons (ps_fld (pv 0) (pe_lst pa_nil) rfl) (pss_one (ps_expr (pe_meth (pv 0) T.cl mP GP hr bP .nil pass0 (pa_cons (pe_lst pa_nil) pa_nil))))), ?_⟩
    refine ⟨Nat.zero_le _, fun rl hrl => ?_⟩
    have s1 : Same H (upd H rl (.lst [])) := Same.new hrl
    have n1 : rl ≠ p := fun q => ne_of_none hp hrl q.symm
    refine ⟨_, rfl, p, C, dx, [], rfl, s1 _ _ hp, T.cl, T.nRooms, by decide, ?_⟩
    refine ⟨Nat.zero_le _, fun ll hll => ?_⟩
    have n2 : ll ≠ p := fun q => by rw [q, upd_same] at hll; cases hll
    have n3 : rl ≠ ll := fun q => by rw [← q, upd_ne n1, upd_same] at hll; cases hll
    refine ⟨_, rfl, p, C, dx, [("rooms", .ref rl)], rfl, by rw [upd_ne (Ne.symm n2), upd_same]; rfl, T.cl, T.nLeaks, (by show 1 < 1000; decide), ?_⟩
    have e0 : putF "leaks" (.ref ll) ([("rooms", .ref rl)] : List (Str × V)) = ([("rooms", .ref rl), ("leaks", .ref ll)] : List (Str × V)) := by
      rw [pt_miss (by decide +kernel)]
      rfl
    rw [e0]
    refine ⟨_, rfl, p, dx, _, rfl, upd_same, Fs.no (rl := rl) (ll := ll) (.inl rfl) (by decide +kernel), Nat.zero_le _, fun q hq => ?_⟩
    have nq : p ≠ q := fun z => by rw [← z, upd_same] at hq; cases hq
    have nq1 : rl ≠ q := fun z => by rw [← z, upd_ne n1, upd_ne n3, upd_ne n1, upd_same] at hq; cases hq
    have nq2 : ll ≠ q := fun z => by rw [← z, upd_ne n2, upd_same] at hq; cases hq
    refine ⟨p, q, dx, rl, ll, _, [], rfl, by rw [upd_ne nq]; exact upd_same, .inl rfl, SqL.of upd_same, fun H' hl' a1 a2 a4 a3 => ?_⟩
    have b1 : H' rl = some (.lst []) := a3 rl _ (by rw [upd_ne nq1, upd_ne n1, upd_ne n3, upd_ne n1]; exact upd_same) n1
    have b2 : H' ll = some (.lst []) := a3 ll _ (by rw [upd_ne nq2, upd_ne n2]; exact upd_same) n2
    refine k H' ⟨dx, rl, ll, hl', a1, b1, b2, a2, by decide, by decide, by decide, n3, (fun z => by rw [← z, upd_ne nq1, upd_ne n1, upd_ne n3, upd_ne n1, upd_same] at a4; cases a4), fun z => by rw [← z, upd_ne nq2, upd_ne n2, upd_same] at a4; cases a4⟩ fun b o e nb => a3 b o ?_ nb
    have x1 : b ≠ rl := ne_of_none e hrl
    have x2 : b ≠ ll := fun z => by rw [← z, upd_ne nb, upd_ne x1, e] at hll; cases hll
    have x3 : b ≠ q := fun z => by rw [← z, upd_ne nb, upd_ne x2, upd_ne nb, upd_ne x1, e] at hq; cases hq
    rw [upd_ne x3, upd_ne nb, upd_ne x2, upd_ne nb, upd_ne x1]
    exact e
def spBegin (K : PySem.W.Frag) (C : Addr) : Sp := fun vs H Q _ => ∃ p a s rooms, vs = [.ref p, .ref a] ∧ PackAt C H p s ∧ SqL K H a (vi rooms) ∧ rooms.length ≤ 60 ∧ ∀ H', PackAt C H' p (EvS.beginP rooms) → Fra p H H' → Q .non H'
theorem scBegin : FnScope ["self", "rooms", "room"] ["self", "rooms"] (defScope sBegin) := ⟨rfl, rfl, rfl, by decide +kernel, rfl, by decide +kernel, by decide +kernel⟩
theorem ok_begin {f C fP : Addr} {fd fdP : FuncData} (F : Fun K "begin" "Pack.begin" sBegin f fd) (T : Txt K mg C) (FP : Fun K "put" "Pack.put" sPut fP fdP) (bP : Binds K fdP ["self", "held"] []) (mP : Meth K C "put" fP) :
    FnOk P w K mg base CX0 2 f fd ["self", "rooms"] (spBegin K C) := by
  have GP : FnOk P w K mg base CX0 1 fP fdP ["self", "held"] (spPut K C) := ok_put FP T
  refine F.ok scBegin (fun vs H Q E h => ?_) (fun cdv A outer s H vs Q E hr h => ?_)
  · obtain ⟨p, a, s, rooms, rfl, _⟩ := h
    rfl
  · obtain ⟨p, a, s, rooms, rfl, ⟨dx, rl0, ll0, hl0, h1, h2, h3, h4, z⟩, hS, h60, k⟩ := h
    refine ⟨_, pss_cons (ps_fld (pv 0) (pe_callTy call_list_of rfl T.list PyProof.Rows.boot_list (pa_cons (pv 1) pa_nil)) rfl)
      (pss_cons (ps_fld (pv 0) (pe_lcl (i := 2) scBegin.nd (pv 1) rfl (fun _ _ _ _ _ => pe_int)) rfl)
      (pss_one (ps_expr (pe_meth (pv 0) T.cl mP GP hr bP .nil pass0 (pa_cons (pe_lcl (i := 2) scBegin.nd (pv 1) rfl (fun _ _ _ _ _ => pe_int)) pa_nil))))), ?_⟩
    refine ⟨_, rfl, a, vi rooms, rfl, .inl hS, fun rl hrl => ?_⟩
    have s1 : Same H (upd H rl (.lst (vi rooms))) := Same.new hrl
    have n1 : rl ≠ p := fun q => ne_of_none h1 hrl q.symm
    refine ⟨_, rfl, p, C, dx, _, rfl, s1 _ _ h1, T.cl, T.nRooms, (by show 8 < 1000; decide), ?_⟩
    rw [put_rooms]
    have f2 : Fra p H (upd (upd H rl (.lst (vi rooms))) p (.ins C dx (pf rl ll0 hl0 s.put s.filled s.drawn s.bled s.leaked))) := Fra.upd (Fra.of_same s1)
    generalize eH2 : upd (upd H rl (.lst (vi rooms))) p (.ins C dx (pf rl ll0 hl0 s.put s.filled s.drawn s.bled s.leaked)) = H2 at f2
    have hp2 : H2 p = some (.ins C dx (pf rl ll0 hl0 s.put s.filled s.drawn s.bled s.leaked)) := by rw [← eH2]; exact upd_same
    have hr2 : H2 rl = some (.lst (vi rooms)) := by rw [← eH2, upd_ne n1]; exact upd_same
    have hS2 : SqL K H2 a (vi rooms) := sq_fra hS f2 h1
    refine ⟨_, rfl, a, rfl, ⟨_, hS2⟩, fun ll hll => lcl (vun fun _ => 0) hS2 hll (by rw [List.length_map]; omega) (fun _ => rfl) (fun x H' Q' hx _ q => ?_) (fun H3 sm3 hd3 => ?_)⟩
    · obtain ⟨y, _, rfl⟩ := List.mem_map.mp hx
      exact q
    rw [map_vun] at hd3
    refine ⟨_, rfl, p, C, dx, _, rfl, sm3 _ _ hp2, T.cl, T.nLeaks, (by show 8 < 1000; decide), ?_⟩
    rw [put_leaks]
    have f4 : Fra p H2 (upd H3 p (.ins C dx (pf rl ll hl0 s.put s.filled s.drawn s.bled s.leaked))) := Fra.upd (Fra.of_same sm3)
    generalize eH4 : upd H3 p (.ins C dx (pf rl ll hl0 s.put s.filled s.drawn s.bled s.leaked)) = H4 at f4
    have hp4 : H4 p = some (.ins C dx (pf rl ll hl0 s.put s.filled s.drawn s.bled s.leaked)) := by rw [← eH4]; exact upd_same
    have hr4 : H4 rl = some (.lst (vi rooms)) := f4 _ _ hr2 n1
    have n2 : ll ≠ p := ne_of hd3 (sm3 _ _ hp2) (by intro z; cases z)
    have hl4 : H4 ll = some (.lst (vi (rooms.map fun _ => 0))) := by rw [← eH4, upd_ne n2]; exact hd3
    have hS4 : SqL K H4 a (vi rooms) := sq_fra hS2 f4 hp2
    refine ⟨_, rfl, p, dx, _, rfl, hp4, pf_no (by decide +kernel), ?_⟩
    refine ⟨_, rfl, a, rfl, ⟨_, hS4⟩, fun q hq => lcl (vun fun _ => 0) hS4 hq (by rw [List.length_map]; omega) (fun _ => rfl) (fun x H' Q' hx _ q => ?_) (fun H5 sm5 hd5 => ?_)⟩
    · obtain ⟨y, _, rfl⟩ := List.mem_map.mp hx
      exact q
    rw [map_vun] at hd5
    refine ⟨p, q, dx, rl, ll, _, rooms.map fun _ => 0, rfl, sm5 _ _ hp4, .inr ⟨_, _, _, _, _, _, rfl⟩, SqL.of hd5, fun H' hl' a1 a2 a4 a3 => ?_⟩
    refine k H' ⟨dx, rl, ll, hl', a1, a3 _ _ (sm5 _ _ hr4) n1, a3 _ _ (sm5 _ _ hl4) n2, a2, h60, by show (rooms.map _).length ≤ 60; rw [List.length_map]; exact h60, by show (rooms.map _).length ≤ 60; rw [List.length_map]; exact h60, ne_of_none hr2 hll, ne_of_none (sm5 _ _ hr4) a4, ne_of_none (sm5 _ _ hl4) a4⟩ ?_
    exact ((f2.trans f4).trans (Fra.of_same sm5)).trans a3
def spSetLeaks (K : PySem.W.Frag) (C : Addr) : Sp := fun vs H Q _ => ∃ p a s l, vs = [.ref p, .ref a] ∧ PackAt C H p s ∧ SqL K H a (vi l) ∧ l.length ≤ 60 ∧ ∀ H', PackAt C H' p { s with leaks := l } → Fra p H H' → Q .non H'
theorem scSetLeaks : FnScope ["self", "leaks"] ["self", "leaks"] (defScope sSetLeaks) := ⟨rfl, rfl, rfl, by decide +kernel, rfl, by decide +kernel, by decide +kernel⟩
theorem ok_setLeaks {f C : Addr} {fd : FuncData} (F : Fun K "set_leaks" "Pack.set_leaks" sSetLeaks f fd) (T : Txt K mg C) : FnOk P w K mg base CX0 1 f fd ["self", "leaks"] (spSetLeaks K C) := by
  refine F.ok scSetLeaks (fun vs H Q E h => ?_) (fun cdv A outer s H vs Q E hr h => ?_)
  · obtain ⟨p, a, s, l, rfl, _⟩ := h
    rfl
  · obtain ⟨p, a, s, l, rfl, ⟨dx, rl, ll, hl, h1, h2, h3, h4, z⟩, hS, h60, k⟩ := h
    refine ⟨_, pss_one (ps_fld (pv 0) (pe_callTy call_list_of rfl T.list PyProof.Rows.boot_list (pa_cons (pv 1) pa_nil)) rfl), ?_⟩
    refine ⟨_, rfl, a, vi l, rfl, .inl hS, fun q hq => ?_⟩
    have s1 : Same H (upd H q (.lst (vi l))) := Same.new hq
    refine ⟨_, rfl, p, C, dx, _, rfl, s1 _ _ h1, T.cl, T.nLeaks, (by show 8 < 1000; decide), ?_⟩
    rw [put_leaks]
    exact k _ (pack_upd (s := { s with leaks := l }) (s1 _ _ h1) (s1 _ _ h2) upd_same (s1 _ _ h4) ⟨z.1, h60, z.2.2.1, ne_of_none h2 hq, z.2.2.2.2.1, fun e => ne_of_none h4 hq e.symm⟩) (Fra.upd (Fra.of_same s1))
end
end EvC

set_option Elab.async false
set_option linter.all false
set_option maxRecDepth 100000
set_option maxHeartbeats 2000000
namespace EvC
open PySem PySem.Spec PyProof.Rows L2
open EvM (minI maxI)
open EvS (PS mn mx)
section
variable {P : Program} {w : World} {K : PySem.W.Frag} {mg : Str → Option Value} {base : Heap}
theorem scFill : FnScope ["self", "n", "got", "holds"] ["self", "n"] (defScope sFill) := ⟨rfl, rfl, rfl, by decide +kernel, rfl, by decide +kernel, by decide +kernel⟩
theorem ok_fill {f C fL : Addr} {fd fdL : FuncData} (F : Fun K "fill" "Pack.fill" sFill f fd) (T : Txt K mg C) (GL : FnOk P w K mg base CX0 2 fL fdL ["self"] (spL C any0 PS.lacks)) (bL : Binds K fdL ["self"] []) (mL : Meth K C "lacks" fL) :
    FnOk P w K mg base CX0 3 f fd ["self", "n"] (spM1 C some0 PS.fill PS.got) := by
  refine F.ok scFill (fun vs H Q E h => ?_) (fun cdv A outer s H vs Q E hr h => ?_)
  · obtain ⟨p, s, n, rfl, _⟩ := h
    rfl
  · obtain ⟨p, s, n, rfl, hP, hs, k⟩ := h
    obtain ⟨dx, rl, ll, hl, h1, h2, h3, h4, z⟩ := id hP
    refine ⟨_, pss_cons (ps_set (i := 2) scFill.nd rfl (Or.inr rfl) (pe_callB (call_min2 rfl) rfl T.min boot_min (pa_cons (pv 1) (pa_cons (pe_callB (cr_min rfl) rfl T.min boot_min (pa_cons (pe_meth0 (pv 0) T.cl mL GL hr bL .nil pass0) pa_nil)) pa_nil))))
      (pss_cons (ps_fld (pv 0) (pe_lcl (i := 3) scFill.nd (pe_fld (pv 0) rfl) rfl (fun _ _ _ _ _ => pe_op op_add (pv 3) (pv 2))) rfl)
      (pss_cons (ps_fld (pv 0) (pe_op op_add (pe_fld (pv 0) rfl) (pe_op op_mul (pv 2) (pe_callB call_len_seq rfl T.len PySem.boot_len (pa_cons (pe_fld (pv 0) rfl) pa_nil)))) rfl)
      (pss_one (ps_ret (pv 2))))), ?_⟩
    refine ⟨_, rfl, _, rfl, p, dx, _, rfl, h1, pf_no (by decide +kernel), p, s, rfl, hP, trivial, fun H1 q sm1 hq hd1 => ?_⟩
    refine ⟨q, s.lacks, rfl, SqL.of hd1, some0_lacks hs, fun m hm hmin => ?_⟩
    have e1 := EvM.minI_is hm hmin
    subst e1
    refine ⟨n, minI s.lacks, rfl, ?_⟩
    show tSeq _ _ _ (List.set _ 2 (some (.int (s.got n)))) H1
    have h1' := sm1 _ _ h1
    have h4' := sm1 _ _ h4
    refine ⟨_, rfl, p, C, dx, _, _, rfl, h1', T.cl, T.nHeld, pf_held, hl, rfl, ⟨_, SqL.of h4'⟩, fun D hD => lcl (vun fun h => h + s.got n) (SqL.of h4') hD (by rw [List.length_map]; omega) (fun _ => rfl) (fun x H' Q' hx _ q => ?_) (fun H3 sm3 hd3 => ?_)⟩
    · obtain ⟨y, _, rfl⟩ := List.mem_map.mp hx
      exact ⟨_, rfl, _, rfl, _, _, rfl, rfl, q⟩
    rw [map_vun] at hd3
    refine ⟨_, rfl, p, C, dx, _, rfl, sm3 _ _ h1', T.cl, T.nHeld, (by show 8 < 1000; decide), ?_⟩
    rw [put_held]
    have nD : D ≠ p := fun e => by rw [e, h1'] at hD; cases hD
    have hD4 : upd H3 p (.ins C dx (pf rl ll D s.put s.filled s.drawn s.bled s.leaked)) D = some (.lst (vi (s.held.map fun h => h + s.got n))) := by
      rw [upd_ne nD]; exact hd3
    refine ⟨_, rfl, p, C, dx, _, _, rfl, upd_same, T.cl, T.nFilled, pf_filled, _, rfl, _, rfl, p, C, dx, _, _, rfl, upd_same, T.cl, T.nHeld, pf_held, D, _, rfl, .inl (SqL.of hD4), _, _, rfl, rfl, .inr ?_, _, _, rfl, rfl, ?_⟩
    · rw [List.length_map, List.length_map]
      have := z.2.2
      omega
    refine ⟨_, rfl, p, C, dx, _, rfl, upd_same, T.cl, T.nFilled, (by show 8 < 1000; decide), ?_⟩
    rw [put_filled, upd_upd, List.length_map, List.length_map]
    refine ⟨_, rfl, ?_⟩
    exact k _ (pack_upd (s := s.fill n) (sm3 _ _ h1') (sm3 _ _ (sm1 _ _ h2)) (sm3 _ _ (sm1 _ _ h3)) hd3 ⟨z.1, z.2.1, (by show (s.held.map _).length ≤ 60; rw [List.length_map]; exact z.2.2.1), z.2.2.2.1, ne_of_none (sm1 _ _ h2) hD, ne_of_none (sm1 _ _ h3) hD⟩) (Fra.upd (Fra.of_same (sm1.trans sm3)))
theorem scDraw : FnScope ["self", "n", "gave", "holds"] ["self", "n"] (defScope sDraw) := ⟨rfl, rfl, rfl, by decide +kernel, rfl, by decide +kernel, by decide +kernel⟩
theorem ok_draw {f C : Addr} {fd : FuncData} (F : Fun K "draw" "Pack.draw" sDraw f fd) (T : Txt K mg C) : FnOk P w K mg base CX0 1 f fd ["self", "n"] (spM1 C some0 PS.draw PS.gave) := by
  refine F.ok scDraw (fun vs H Q E h => ?_) (fun cdv A outer s H vs Q E hr h => ?_)
  · obtain ⟨p, s, n, rfl, _⟩ := h
    rfl
  · obtain ⟨p, s, n, rfl, hP, hs, k⟩ := h
    obtain ⟨dx, rl, ll, hl, h1, h2, h3, h4, z⟩ := id hP
    refine ⟨_, pss_cons (ps_set (i := 2) scDraw.nd rfl (Or.inr rfl) (pe_callB (call_min2 rfl) rfl T.min boot_min (pa_cons (pv 1) (pa_cons (pe_callB (cr_min rfl) rfl T.min boot_min (pa_cons (pe_fld (pv 0) rfl) pa_nil)) pa_nil))))
      (pss_cons (ps_fld (pv 0) (pe_lcl (i := 3) scDraw.nd (pe_fld (pv 0) rfl) rfl (fun _ _ _ _ _ => pe_op op_sub (pv 3) (pv 2))) rfl)
      (pss_cons (ps_fld (pv 0) (pe_op op_add (pe_fld (pv 0) rfl) (pe_op op_mul (pv 2) (pe_callB call_len_seq rfl T.len PySem.boot_len (pa_cons (pe_fld (pv 0) rfl) pa_nil)))) rfl)
      (pss_one (ps_ret (pv 2))))), ?_⟩
    refine ⟨_, rfl, _, rfl, p, C, dx, _, _, rfl, h1, T.cl, T.nHeld, pf_held, hl, s.held, rfl, SqL.of h4, by have := hs.1; have := hs.2; omega, fun m hm hmin => ?_⟩
    have e1 := EvM.minI_is hm hmin
    subst e1
    refine ⟨n, minI s.held, rfl, ?_⟩
    show tSeq _ _ _ (List.set _ 2 (some (.int (s.gave n)))) H
    refine ⟨_, rfl, p, C, dx, _, _, rfl, h1, T.cl, T.nHeld, pf_held, hl, rfl, ⟨_, SqL.of h4⟩, fun D hD => lcl (vun fun h => h - s.gave n) (SqL.of h4) hD (by rw [List.length_map]; omega) (fun _ => rfl) (fun x H' Q' hx _ q => ?_) (fun H3 sm3 hd3 => ?_)⟩
    · obtain ⟨y, _, rfl⟩ := List.mem_map.mp hx
      exact ⟨_, rfl, _, rfl, _, _, rfl, rfl, q⟩
    rw [map_vun] at hd3
    refine ⟨_, rfl, p, C, dx, _, rfl, sm3 _ _ h1, T.cl, T.nHeld, (by show 8 < 1000; decide), ?_⟩
    rw [put_held]
    have nD : D ≠ p := fun e => by rw [e, h1] at hD; cases hD
    have hD4 : upd H3 p (.ins C dx (pf rl ll D s.put s.filled s.drawn s.bled s.leaked)) D = some (.lst (vi (s.held.map fun h => h - s.gave n))) := by
      rw [upd_ne nD]; exact hd3
    refine ⟨_, rfl, p, C, dx, _, _, rfl, upd_same, T.cl, T.nDrawn, pf_drawn, _, rfl, _, rfl, p, C, dx, _, _, rfl, upd_same, T.cl, T.nHeld, pf_held, D, _, rfl, .inl (SqL.of hD4), _, _, rfl, rfl, .inr ?_, _, _, rfl, rfl, ?_⟩
    · rw [List.length_map, List.length_map]
      have := z.2.2
      omega
    refine ⟨_, rfl, p, C, dx, _, rfl, upd_same, T.cl, T.nDrawn, (by show 8 < 1000; decide), ?_⟩
    rw [put_drawn, upd_upd, List.length_map, List.length_map]
    refine ⟨_, rfl, ?_⟩
    exact k _ (pack_upd (s := s.draw n) (sm3 _ _ h1) (sm3 _ _ h2) (sm3 _ _ h3) hd3 ⟨z.1, z.2.1, (by show (s.held.map _).length ≤ 60; rw [List.length_map]; exact z.2.2.1), z.2.2.2.1, ne_of_none h2 hD, ne_of_none h3 hD⟩) (Fra.upd (Fra.of_same sm3))
/-! bleed_each, can_bleed -/
def spBleedEach (K : PySem.W.Frag) (C : Addr) : Sp := fun vs H Q _ => ∃ p a s am, vs = [.ref p, .ref a] ∧ PackAt C H p s ∧ SqL K H a (vi am) ∧ ∀ H', PackAt C H' p (s.bleedEach am) → Fra p H H' → Q (.int am.sum) H'
theorem scBleedEach : FnScope ["self", "amounts", "units", "holds", "amount"] ["self", "amounts"] (defScope sBleedEach) := ⟨rfl, rfl, rfl, by decide +kernel, rfl, by decide +kernel, by decide +kernel⟩
theorem ok_bleedEach {f C : Addr} {fd : FuncData} (F : Fun K "bleed_each" "Pack.bleed_each" sBleedEach f fd) (T : Txt K mg C) : FnOk P w K mg base CX0 1 f fd ["self", "amounts"] (spBleedEach K C) := by
  refine F.ok scBleedEach (fun vs H Q E h => ?_) (fun cdv A outer s H vs Q E hr h => ?_)
  · obtain ⟨p, a, s, am, rfl, _⟩ := h
    rfl
  · obtain ⟨p, a, s, am, rfl, ⟨dx, rl, ll, hl, h1, h2, h3, h4, z⟩, hS, k⟩ := h
    refine ⟨_, pss_cons (ps_set (i := 2) scBleedEach.nd rfl (Or.inl rfl) (pe_callB (cr_sum rfl) rfl T.sum boot_sum (pa_cons (pv 1) pa_nil)))
      (pss_cons (ps_fld (pv 0) (pe_lcz (i := 3) (j := 4) scBleedEach.nd T.zip (pe_fld (pv 0) rfl) (pv 1) rfl (fun _ _ _ _ _ => pe_op op_sub (pv 3) (pv 4))) rfl)
      (pss_cons (ps_fld (pv 0) (pe_op op_add (pe_fld (pv 0) rfl) (pv 2)) rfl) (pss_one (ps_ret (pv 2))))), ?_⟩
    refine ⟨_, rfl, a, am, rfl, hS, ?_⟩
    refine ⟨_, rfl, p, C, dx, _, _, rfl, h1, T.cl, T.nHeld, pf_held, _, rfl, hl, a, vi s.held, vi am, rfl, SqL.of h4, hS, fun D hD => lcz (vop fun h a => h - a) (SqL.of h4) hS hD (by rw [List.length_map]; omega) (fun _ _ => rfl) (fun x y H' Q' hx hy _ q => ?_) (fun H3 sm3 hd3 => ?_)⟩
    · obtain ⟨x, _, rfl⟩ := List.mem_map.mp hx
      obtain ⟨y, _, rfl⟩ := List.mem_map.mp hy
      exact ⟨_, rfl, _, rfl, _, _, rfl, rfl, q⟩
    rw [zip_vop] at hd3
    refine ⟨_, rfl, p, C, dx, _, rfl, sm3 _ _ h1, T.cl, T.nHeld, (by show 8 < 1000; decide), ?_⟩
    rw [put_held]
    refine ⟨_, rfl, p, C, dx, _, _, rfl, upd_same, T.cl, T.nBled, pf_bled, _, rfl, _, _, rfl, rfl, ?_⟩
    refine ⟨_, rfl, p, C, dx, _, rfl, upd_same, T.cl, T.nBled, (by show 8 < 1000; decide), ?_⟩
    rw [put_bled, upd_upd]
    refine ⟨_, rfl, ?_⟩
    exact k _ (pack_upd (s := s.bleedEach am) (sm3 _ _ h1) (sm3 _ _ h2) (sm3 _ _ h3) hd3 ⟨z.1, z.2.1, (by show (List.zipWith _ s.held am).length ≤ 60; rw [List.length_zipWith]; omega), z.2.2.2.1, ne_of_none h2 hD, ne_of_none h3 hD⟩) (Fra.upd (Fra.of_same sm3))
def spCanBleed (K : PySem.W.Frag) (C : Addr) : Sp := fun vs H Q _ => ∃ p a s am, vs = [.ref p, .ref a] ∧ PackAt C H p s ∧ SqL K H a (vi am) ∧ ∀ H', Same H H' → Q (.bl (s.canBleed am)) H'
theorem scCanBleed : FnScope ["self", "amounts", "holds", "amount"] ["self", "amounts"] (defScope sCanBleed) := ⟨rfl, rfl, rfl, by decide +kernel, rfl, by decide +kernel, by decide +kernel⟩
theorem ok_canBleed {f C : Addr} {fd : FuncData} (F : Fun K "can_bleed" "Pack.can_bleed" sCanBleed f fd) (T : Txt K mg C) : FnOk P w K mg base CX0 1 f fd ["self", "amounts"] (spCanBleed K C) := by
  refine F.ok scCanBleed (fun vs H Q E h => ?_) (fun cdv A outer s H vs Q E hr h => ?_)
  · obtain ⟨p, a, s, am, rfl, _⟩ := h
    rfl
  · obtain ⟨p, a, s, am, rfl, ⟨dx, rl, ll, hl, h1, h2, h3, h4, z⟩, hS, k⟩ := h
    refine ⟨_, pss_one (ps_ret (pe_callB (cr_all rfl) rfl T.all boot_all (pa_cons (pe_lcz (i := 2) (j := 3) scCanBleed.nd T.zip (pe_fld (pv 0) rfl) (pv 1) rfl (fun _ _ _ _ _ => pe_cmpR op_le (pv 3) (pv 2) (nomark _))) pa_nil))), ?_⟩
    refine ⟨_, rfl, p, C, dx, _, _, rfl, h1, T.cl, T.nHeld, pf_held, _, rfl, hl, a, vi s.held, vi am, rfl, SqL.of h4, hS, fun D hD => lcz (vopB fun h a => decide (a ≤ h)) (SqL.of h4) hS hD (by rw [List.length_map]; omega) (fun _ _ => rfl) (fun x y H' Q' hx hy _ q => ?_) (fun H3 sm3 hd3 => ?_)⟩
    · obtain ⟨x, _, rfl⟩ := List.mem_map.mp hx
      obtain ⟨y, _, rfl⟩ := List.mem_map.mp hy
      exact ⟨_, rfl, _, rfl, _, _, rfl, rfl, q⟩
    rw [zip_vopB] at hd3
    exact ⟨D, _, rfl, SqL.of hd3, k H3 sm3⟩
/-! the amounts -/
theorem scOfOne : FnScope ["self", "group", "n", "other"] ["self", "group", "n"] (defScope sOfOne) := ⟨rfl, rfl, rfl, by decide +kernel, rfl, by decide +kernel, by decide +kernel⟩
theorem ok_ofOne {f C : Addr} {fd : FuncData} (F : Fun K "amounts_of_one" "Pack.amounts_of_one" sOfOne f fd) (T : Txt K mg C) : FnOk P w K mg base CX0 1 f fd ["self", "group", "n"] (spL2 C PS.ofOne) := by
  refine F.ok scOfOne (fun vs H Q E h => ?_) (fun cdv A outer s H vs Q E hr h => ?_)
  · obtain ⟨p, s, g, n, rfl, _⟩ := h
    rfl
  · obtain ⟨p, s, g, n, rfl, ⟨dx, rl, ll, hl, h1, h2, h3, h4, z⟩, k⟩ := h
    refine ⟨_, pss_one (ps_ret (pe_lcr (i := 3) scOfOne.nd T.range (pe_callB call_len_seq rfl T.len PySem.boot_len (pa_cons (pe_fld (pv 0) rfl) pa_nil)) rfl (fun _ _ _ _ _ => pe_ifExp (pt_cmpR op_eq (pv 3) (pv 1) (nomark _)) (pv 2) pe_int))), ?_⟩
    refine ⟨_, rfl, p, C, dx, _, _, rfl, h1, T.cl, T.nHeld, pf_held, hl, vi s.held, rfl, .inl (SqL.of h4), _, rfl, ?_, ?_, fun D hD => lcr (fun (j : Nat) => .int (if (j : Int) = g then n else 0)) hD ?_ (fun _ => rfl) (fun j H' Q' hj _ q => ?_) (fun H3 sm3 hd3 => ?_)⟩
    · omega
    · rw [List.length_map]; have := z.2.2; omega
    · rw [List.length_map]; have := z.2.2; omega
    · refine ⟨_, rfl, _, rfl, rfl, _, rfl, ?_⟩
      have e0 : (0 : Int) + (j : Int) = (j : Int) := by omega
      rw [e0]
      by_cases c : (j : Int) = g
      · rw [decide_eq_true (show V.int (j : Int) = V.int g by rw [c])]
        rw [if_pos c] at q
        exact iteT ⟨_, rfl, q⟩
      · rw [decide_eq_false (show ¬ V.int (j : Int) = V.int g from fun e => c (by injection e))]
        rw [if_neg c] at q
        exact iteF q
    · refine k H3 D sm3 hD ?_
      rw [hd3]
      refine congrArg (fun z => some (HO.lst z)) ?_
      unfold PS.ofOne vi
      rw [List.map_map]
      have e1 : ((((vi s.held).length : Nat) : Int)).toNat = s.held.length := by rw [List.length_map]; omega
      rw [e1]
      rfl
theorem scToLack : FnScope ["self", "mark", "lack"] ["self", "mark"] (defScope sToLack) := ⟨rfl, rfl, rfl, by decide +kernel, rfl, by decide +kernel, by decide +kernel⟩
theorem lacks_len {s : PS} : s.lacks.length ≤ s.rooms.length := by
  unfold PS.lacks PS.lacksH
  rw [List.length_zipWith]
  omega
theorem ok_toLack {f C fL : Addr} {fd fdL : FuncData} (F : Fun K "amounts_to_lack" "Pack.amounts_to_lack" sToLack f fd) (T : Txt K mg C) (GL : FnOk P w K mg base CX0 2 fL fdL ["self"] (spL C any0 PS.lacks)) (bL : Binds K fdL ["self"] []) (mL : Meth K C "lacks" fL) :
    FnOk P w K mg base CX0 3 f fd ["self", "mark"] (spL1 C any0 PS.toLack) := by
  refine F.ok scToLack (fun vs H Q E h => ?_) (fun cdv A outer s H vs Q E hr h => ?_)
  · obtain ⟨p, s, n, rfl, _⟩ := h
    rfl
  · obtain ⟨p, s, n, rfl, hP, hs, k⟩ := h
    obtain ⟨dx, rl, ll, hl, h1, h2, h3, h4, z⟩ := id hP
    refine ⟨_, pss_one (ps_ret (pe_lcl (i := 2) scToLack.nd (pe_meth0 (pv 0) T.cl mL GL hr bL .nil pass0) rfl (fun _ _ _ _ _ => pe_callB (call_max2 rfl) rfl T.max boot_max (pa_cons pe_int (pa_cons (pe_op op_sub (pv 1) (pv 2)) pa_nil))))), ?_⟩
    refine ⟨_, rfl, p, dx, _, rfl, h1, pf_no (by decide +kernel), p, s, rfl, hP, trivial, fun H1 q sm1 hq hd1 => ?_⟩
    refine ⟨q, rfl, ⟨_, SqL.of hd1⟩, fun D hD => lcl (vun fun l => mx 0 (n - l)) (SqL.of hd1) hD ?_ (fun _ => rfl) (fun x H' Q' hx _ q => ?_) (fun H3 sm3 hd3 => ?_)⟩
    · rw [List.length_map]
      have := lacks_len (s := s)
      have := z.1
      omega
    · obtain ⟨y, _, rfl⟩ := List.mem_map.mp hx
      exact ⟨_, rfl, _, rfl, _, _, rfl, rfl, _, _, rfl, q⟩
    · rw [map_vun] at hd3
      exact k H3 D (sm1.trans sm3) (sm1.free hD) hd3
theorem scToEven : FnScope ["self"] ["self"] (defScope sToEven) := ⟨rfl, rfl, rfl, by decide +kernel, rfl, by decide +kernel, by decide +kernel⟩
theorem ok_toEven {f C fL fT : Addr} {fd fdL fdT : FuncData} (F : Fun K "amounts_to_even" "Pack.amounts_to_even" sToEven f fd) (T : Txt K mg C) (GL : FnOk P w K mg base CX0 2 fL fdL ["self"] (spL C any0 PS.lacks)) (bL : Binds K fdL ["self"] []) (mL : Meth K C "lacks" fL)
    (FT : Fun K "amounts_to_lack" "Pack.amounts_to_lack" sToLack fT fdT) (bT : Binds K fdT ["self", "mark"] []) (mT : Meth K C "amounts_to_lack" fT) : FnOk P w K mg base CX0 4 f fd ["self"] (spL C some0 PS.toEven) := by
  have GT : FnOk P w K mg base CX0 3 fT fdT ["self", "mark"] (spL1 C any0 PS.toLack) := ok_toLack FT T GL bL mL
  refine F.ok scToEven (fun vs H Q E h => ?_) (fun cdv A outer s H vs Q E hr h => ?_)
  · obtain ⟨p, s, rfl, _⟩ := h
    rfl
  · obtain ⟨p, s, rfl, hP, hs, k⟩ := h
    obtain ⟨dx, rl, ll, hl, h1, h2, h3, h4, z⟩ := id hP
    have hr1 := hr.mono (show 2 ≤ 3 by decide)
    refine ⟨_, pss_one (ps_ret (pe_meth (pv 0) T.cl mT GT hr bT .nil pass0 (pa_cons (pe_callB (cr_max rfl) rfl T.max boot_max (pa_cons (pe_meth0 (pv 0) T.cl mL GL hr1 bL .nil pass0) pa_nil)) pa_nil))), ?_⟩
    refine ⟨_, rfl, p, dx, _, rfl, h1, pf_no (by decide +kernel), _, rfl, p, dx, _, rfl, h1, pf_no (by decide +kernel), p, s, rfl, hP, trivial, fun H1 q sm1 hq hd1 => ?_⟩
    refine ⟨q, s.lacks, rfl, SqL.of hd1, some0_lacks hs, fun m hm hmax => ?_⟩
    have e1 := EvM.maxI_is hm hmax
    subst e1
    refine ⟨p, s, _, rfl, hP.same sm1, trivial, fun H2 q2 sm2 hq2 hd2 => ?_⟩
    exact k H2 q2 (sm1.trans sm2) (sm1.free hq2) hd2
theorem scToGive : FnScope ["self", "t"] ["self", "t"] (defScope sToGive) := ⟨rfl, rfl, rfl, by decide +kernel, rfl, by decide +kernel, by decide +kernel⟩
theorem ok_toGive {f C fL fT : Addr} {fd fdL fdT : FuncData} (F : Fun K "amounts_to_give" "Pack.amounts_to_give" sToGive f fd) (T : Txt K mg C) (GL : FnOk P w K mg base CX0 2 fL fdL ["self"] (spL C any0 PS.lacks)) (bL : Binds K fdL ["self"] []) (mL : Meth K C "lacks" fL)
    (FT : Fun K "amounts_to_lack" "Pack.amounts_to_lack" sToLack fT fdT) (bT : Binds K fdT ["self", "mark"] []) (mT : Meth K C "amounts_to_lack" fT) : FnOk P w K mg base CX0 4 f fd ["self", "t"] (spL1 C some0 PS.toGive) := by
  have GT : FnOk P w K mg base CX0 3 fT fdT ["self", "mark"] (spL1 C any0 PS.toLack) := ok_toLack FT T GL bL mL
  refine F.ok scToGive (fun vs H Q E h => ?_) (fun cdv A outer s H vs Q E hr h => ?_)
  · obtain ⟨p, s, n, rfl, _⟩ := h
    rfl
  · obtain ⟨p, s, n, rfl, hP, hs, k⟩ := h
    obtain ⟨dx, rl, ll, hl, h1, h2, h3, h4, z⟩ := id hP
    have hr1 := hr.mono (show 2 ≤ 3 by decide)
    refine ⟨_, pss_one (ps_ret (pe_meth (pv 0) T.cl mT GT hr bT .nil pass0 (pa_cons (pe_callB (call_max2 rfl) rfl T.max boot_max (pa_cons (pe_callB (cr_min rfl) rfl T.min boot_min (pa_cons (pe_meth0 (pv 0) T.cl mL GL hr1 bL .nil pass0) pa_nil))
      (pa_cons (pe_op op_sub (pv 1) (pe_callB (cr_min rfl) rfl T.min boot_min (pa_cons (pe_fld (pv 0) rfl) pa_nil))) pa_nil))) pa_nil))), ?_⟩
    refine ⟨_, rfl, p, dx, _, rfl, h1, pf_no (by decide +kernel), _, rfl, p, dx, _, rfl, h1, pf_no (by decide +kernel), p, s, rfl, hP, trivial, fun H1 q sm1 hq hd1 => ?_⟩
    refine ⟨q, s.lacks, rfl, SqL.of hd1, some0_lacks hs, fun m hm hmin => ?_⟩
    have e1 := EvM.minI_is hm hmin
    subst e1
    refine ⟨_, rfl, _, rfl, p, C, dx, _, _, rfl, sm1 _ _ h1, T.cl, T.nHeld, pf_held, hl, s.held, rfl, SqL.of (sm1 _ _ h4), by have := hs.1; have := hs.2; omega, fun m hm hmin => ?_⟩
    have e1 := EvM.minI_is hm hmin
    subst e1
    refine ⟨_, _, rfl, rfl, _, _, rfl, ?_⟩
    refine ⟨p, s, _, rfl, hP.same sm1, trivial, fun H2 q2 sm2 hq2 hd2 => ?_⟩
    exact k H2 q2 (sm1.trans sm2) (sm1.free hq2) hd2
end
end EvC

set_option Elab.async false
set_option linter.all false
set_option maxRecDepth 100000
set_option maxHeartbeats 2000000
/-! The class's methods of the second stage. -/
namespace EvC
open PySem PySem.Spec PyProof.Rows L2
open EvM (minI maxI)
open EvS (PS mn mx)
theorem Frc.updI {H H1 : Hp} {a C dx : Addr} {fs : List (Str × V)} {o : HO} (k : Frc H H1) (h : H1 a = some (.ins C dx fs)) : Frc H (L2.upd H1 a o) := by
  refine ⟨fun b u v e => ?_, fun b e => ?_⟩
  · have e1 := k.1 b u v e
    rw [upd_ne (ne_of e1 h (by intro z; cases z))]
    exact e1
  · by_cases q : b = a
    · rw [q, upd_same] at e; cases e
    · rw [upd_ne q] at e
      exact k.2 b e
theorem mapIdx_vi (f : Nat → V → V) (g : Nat → Int → Int) (h : ∀ j x, f j (.int x) = .int (g j x)) (l : List Int) : (vi l).mapIdx f = vi (l.mapIdx g) := by
  refine List.ext_getElem? fun j => ?_
  rw [List.getElem?_mapIdx, List.getElem?_map, List.getElem?_map, List.getElem?_mapIdx]
  cases l[j]? with
  | none => rfl
  | some x =>
    show some (f j (.int x)) = some (.int (g j x))
    rw [h]
theorem at_int {l : List Int} {i : Int} (h0 : 0 ≤ i) (h1 : i < (l.length : Int)) : atI (vi l) i = some (V.int (l.getD i.toNat 0)) := by
  refine at_of (j := i.toNat) (by omega) ?_
  rw [List.getElem?_map, List.getElem?_eq_getElem (by omega)]
  show some (V.int _) = some (V.int (l[i.toNat]?.getD 0))
  rw [List.getElem?_eq_getElem (by omega)]
  rfl
theorem ixN_int {n : Nat} {i : Int} (h0 : 0 ≤ i) (h1 : i < (n : Int)) : ixN n i = some i.toNat := by
  unfold ixN
  rw [if_pos h0, if_pos h1]
theorem set_vi (l : List Int) (j : Nat) (x : Int) : (vi l).set j (.int x) = vi (l.set j x) := by
  unfold vi
  rw [List.map_set]
/-- every group has its three numbers -/
abbrev some1 : PS → Prop := fun s => some0 s ∧ s.leaks.length = s.rooms.length
/-- two ints beside, an int comes back -/
def spI2 (C : Addr) (pre : PS → Prop) (f : PS → Int → Int → Int) : Sp := fun vs H Q _ => ∃ p s n m, vs = [.ref p, .int n, .int m] ∧ PackAt C H p s ∧ pre s ∧ ∀ H', Same H H' → Q (.int (f s n m)) H'
section
variable {P : Program} {w : World} {K : PySem.W.Frag} {mg : Str → Option Value} {base : Heap}
theorem scMostW : FnScope ["self", "group", "room", "other", "own"] ["self", "group", "room"] (defScope sMostW) := ⟨rfl, rfl, rfl, by decide +kernel, rfl, by decide +kernel, by decide +kernel⟩
theorem ok_mostW {f C : Addr} {fd : FuncData} (F : Fun K "most_with" "Pack.most_with" sMostW f fd) (T : Txt K mg C) : FnOk P w K mg base CX0 1 f fd ["self", "group", "room"] (spI2 C some0 PS.mostW) := by
  refine F.ok scMostW (fun vs H Q E h => ?_) (fun cdv A outer s H vs Q E hr h => ?_)
  · obtain ⟨p, s, g, c, rfl, _⟩ := h
    rfl
  · obtain ⟨p, s, g, c, rfl, ⟨dx, rl, ll, hl, h1, h2, h3, h4, z⟩, hs, k⟩ := h
    refine ⟨_, pss_one (ps_ret (pe_callB (cr_min rfl) rfl T.min boot_min (pa_cons (pe_lce (i := 3) (j := 4) scMostW.nd T.enum (pe_fld (pv 0) rfl) rfl (fun _ _ _ _ _ => pe_ifExp (pt_cmpR op_eq (pv 3) (pv 1) (nomark _)) (pv 2) (pv 4))) pa_nil))), ?_⟩
    refine ⟨_, rfl, p, C, dx, _, _, rfl, h1, T.cl, T.nRooms, pf_rooms, rl, vi s.rooms, rfl, SqL.of h2, fun D hD => lce (fun (j : Nat) x => if (j : Int) = g then .int c else x) (SqL.of h2) hD (by rw [List.length_map]; omega) (fun _ _ => rfl) (fun j x H' Q' hx _ q => ?_) (fun H3 sm3 hd3 => ?_)⟩
    · refine ⟨_, rfl, _, rfl, rfl, _, rfl, ?_⟩
      by_cases e : (j : Int) = g
      · rw [decide_eq_true (show V.int (j : Int) = V.int g by rw [e])]
        rw [if_pos e] at q
        exact iteT ⟨_, rfl, q⟩
      · rw [decide_eq_false (show ¬ V.int (j : Int) = V.int g from fun e' => e (by injection e'))]
        rw [if_neg e] at q
        exact iteF ⟨_, rfl, q⟩
    · rw [mapIdx_vi _ (fun (j : Nat) own => if (j : Int) = g then c else own) (fun j x => by split <;> rfl)] at hd3
      refine ⟨D, _, rfl, SqL.of hd3, by rw [List.length_mapIdx]; exact hs.1, fun m hm hmin => ?_⟩
      have e1 := EvM.minI_is hm hmin
      subst e1
      exact k H3 sm3
/-! units -/
def unitsL (s : PS) : List Int := [s.held.sum, s.put, s.filled, s.drawn, s.bled, s.leaked]
theorem scUnits : FnScope ["self"] ["self"] (defScope sUnits) := ⟨rfl, rfl, rfl, by decide +kernel, rfl, by decide +kernel, by decide +kernel⟩
theorem ok_units {f C : Addr} {fd : FuncData} (F : Fun K "units" "Pack.units" sUnits f fd) (T : Txt K mg C) : FnOk P w K mg base CX0 1 f fd ["self"] (spL C any0 unitsL) := by
  refine F.ok scUnits (fun vs H Q E h => ?_) (fun cdv A outer s H vs Q E hr h => ?_)
  · obtain ⟨p, s, rfl, _⟩ := h
    rfl
  · obtain ⟨p, s, rfl, ⟨dx, rl, ll, hl, h1, h2, h3, h4, z⟩, _, k⟩ := h
    refine ⟨_, pss_one (ps_ret (pe_lst (pa_cons (pe_callB (cr_sum rfl) rfl T.sum boot_sum (pa_cons (pe_fld (pv 0) rfl) pa_nil)) (pa_cons (pe_fld (pv 0) rfl) (pa_cons (pe_fld (pv 0) rfl) (pa_cons (pe_fld (pv 0) rfl) (pa_cons (pe_fld (pv 0) rfl) (pa_cons (pe_fld (pv 0) rfl) pa_nil)))))))), ?_⟩
    refine ⟨_, rfl, p, C, dx, _, _, rfl, h1, T.cl, T.nHeld, pf_held, hl, s.held, rfl, SqL.of h4, ?_⟩
    refine ⟨_, rfl, p, C, dx, _, _, rfl, h1, T.cl, T.nPut, pf_put, _, rfl, p, C, dx, _, _, rfl, h1, T.cl, T.nFilled, pf_filled, _, rfl, p, C, dx, _, _, rfl, h1, T.cl, T.nDrawn, pf_drawn, _, rfl, p, C, dx, _, _, rfl, h1, T.cl, T.nBled, pf_bled, _, rfl, p, C, dx, _, _, rfl, h1, T.cl, T.nLeaked, pf_leaked, (by show 6 ≤ sizeLine; decide), fun q hq => ?_⟩
    exact k _ q (Same.new hq) hq upd_same
/-! held_after -/
theorem scAfter : FnScope ["self", "days", "holds", "loses"] ["self", "days"] (defScope sAfter) := ⟨rfl, rfl, rfl, by decide +kernel, rfl, by decide +kernel, by decide +kernel⟩
def spAfter (C : Addr) : Sp := fun vs H Q _ => ∃ p s n, vs = [.ref p, .int n] ∧ PackAt C H p s ∧ (-10000 ≤ n ∧ n ≤ 10000) ∧ ∀ H' q, Same H H' → H q = none → H' q = some (.lst (vi (s.after n))) → Q (.ref q) H'
theorem ok_after {f C : Addr} {fd : FuncData} (F : Fun K "held_after" "Pack.held_after" sAfter f fd) (T : Txt K mg C) : FnOk P w K mg base CX0 1 f fd ["self", "days"] (spAfter C) := by
  refine F.ok scAfter (fun vs H Q E h => ?_) (fun cdv A outer s H vs Q E hr h => ?_)
  · obtain ⟨p, s, n, rfl, _⟩ := h
    rfl
  · obtain ⟨p, s, n, rfl, ⟨dx, rl, ll, hl, h1, h2, h3, h4, z⟩, hn, k⟩ := h
    refine ⟨_, pss_one (ps_ret (pe_lcz (i := 2) (j := 3) scAfter.nd T.zip (pe_fld (pv 0) rfl) (pe_fld (pv 0) rfl) rfl (fun _ _ _ _ _ => pe_callB (call_max2 rfl) rfl T.max boot_max (pa_cons pe_int (pa_cons (pe_op op_sub (pv 2) (pe_op op_mul (pv 3) (pv 1))) pa_nil))))), ?_⟩
    refine ⟨_, rfl, p, C, dx, _, _, rfl, h1, T.cl, T.nHeld, pf_held, _, rfl, p, C, dx, _, _, rfl, h1, T.cl, T.nLeaks, pf_leaks, hl, ll, vi s.held, vi s.leaks, rfl, SqL.of h4, SqL.of h3, fun D hD => lcz (vop fun h l => mx 0 (h - l * n)) (SqL.of h4) (SqL.of h3) hD (by rw [List.length_map]; omega) (fun _ _ => rfl) (fun x y H' Q' hx hy _ q => ?_) (fun H' sm hd => ?_)⟩
    · obtain ⟨x, _, rfl⟩ := List.mem_map.mp hx
      obtain ⟨y, _, rfl⟩ := List.mem_map.mp hy
      exact ⟨_, rfl, _, rfl, _, rfl, _, _, rfl, rfl, .inr (by omega), _, _, rfl, rfl, _, _, rfl, q⟩
    · rw [zip_vop] at hd
      exact k H' D sm hD hd
/-! lose -/
def spLose (C : Addr) : Sp := fun vs H Q _ => ∃ p s n, vs = [.ref p, .int n] ∧ PackAt C H p s ∧ (-10000 ≤ n ∧ n ≤ 10000) ∧ ∀ H', PackAt C H' p (s.lose n) → Fra p H H' → Q (.int (s.lost n)) H'
theorem scLose : FnScope ["self", "days", "after", "units"] ["self", "days"] (defScope sLose) := ⟨rfl, rfl, rfl, by decide +kernel, rfl, by decide +kernel, by decide +kernel⟩
theorem ok_lose {f C fA : Addr} {fd fdA : FuncData} (F : Fun K "lose" "Pack.lose" sLose f fd) (T : Txt K mg C) (FA : Fun K "held_after" "Pack.held_after" sAfter fA fdA) (bA : Binds K fdA ["self", "days"] []) (mA : Meth K C "held_after" fA) :
    FnOk P w K mg base CX0 2 f fd ["self", "days"] (spLose C) := by
  have GA : FnOk P w K mg base CX0 1 fA fdA ["self", "days"] (spAfter C) := ok_after FA T
  refine F.ok scLose (fun vs H Q E h => ?_) (fun cdv A outer s H vs Q E hr h => ?_)
  · obtain ⟨p, s, n, rfl, _⟩ := h
    rfl
  · obtain ⟨p, s, n, rfl, hP, hn, k⟩ := h
    obtain ⟨dx, rl, ll, hl, h1, h2, h3, h4, z⟩ := id hP
    refine ⟨_, pss_cons (ps_set (i := 2) scLose.nd rfl (Or.inl rfl) (pe_meth (pv 0) T.cl mA GA hr bA .nil pass0 (pa_cons (pv 1) pa_nil)))
      (pss_cons (ps_set (i := 3) scLose.nd rfl (Or.inl rfl) (pe_op op_sub (pe_callB (cr_sum rfl) rfl T.sum boot_sum (pa_cons (pe_fld (pv 0) rfl) pa_nil)) (pe_callB (cr_sum rfl) rfl T.sum boot_sum (pa_cons (pv 2) pa_nil))))
      (pss_cons (ps_fld (pv 0) (pv 2) rfl)
      (pss_cons (ps_fld (pv 0) (pe_op op_add (pe_fld (pv 0) rfl) (pv 3)) rfl) (pss_one (ps_ret (pv 3)))))), ?_⟩
    refine ⟨_, rfl, p, dx, _, rfl, h1, pf_no (by decide +kernel), _, rfl, p, s, n, rfl, hP, hn, fun H1 D sm1 hD hd1 => ?_⟩
    refine ⟨_, rfl, p, C, dx, _, _, rfl, sm1 _ _ h1, T.cl, T.nHeld, pf_held, hl, s.held, rfl, SqL.of (sm1 _ _ h4), _, rfl, D, s.after n, rfl, SqL.of hd1, _, _, rfl, rfl, ?_⟩
    refine ⟨_, rfl, _, rfl, p, C, dx, _, rfl, sm1 _ _ h1, T.cl, T.nHeld, (by show 8 < 1000; decide), ?_⟩
    rw [put_held]
    refine ⟨_, rfl, p, C, dx, _, _, rfl, upd_same, T.cl, T.nLeaked, pf_leaked, _, rfl, _, _, rfl, rfl, ?_⟩
    refine ⟨_, rfl, p, C, dx, _, rfl, upd_same, T.cl, T.nLeaked, (by show 8 < 1000; decide), ?_⟩
    rw [put_leaked, upd_upd]
    refine ⟨_, rfl, ?_⟩
    exact k _ (pack_upd (s := s.lose n) (sm1 _ _ h1) (sm1 _ _ h2) (sm1 _ _ h3) hd1 ⟨z.1, z.2.1, (by show (List.zipWith _ s.held s.leaks).length ≤ 60; rw [List.length_zipWith]; omega), z.2.2.2.1, ne_of_none h2 hD, ne_of_none h3 hD⟩) (Fra.upd (Fra.of_same sm1))
/-! days_till_below -/
def vTill : Option Nat → V
  | none => .non
  | some d => .int (d : Nat)
def spTill (C : Addr) : Sp := fun vs H Q _ => ∃ (p : Addr) (s : PS) (t : Int) (n : Nat), vs = [.ref p, .int t, .int (n : Nat)] ∧ PackAt C H p s ∧ some1 s ∧ n ≤ 10000 ∧ ∀ H', Same H H' → Q (vTill (s.till t n)) H'
theorem after_len {s : PS} {n : Int} (h : some1 s) : (s.after n).length = s.rooms.length := by
  unfold PS.after
  rw [List.length_zipWith]
  have := h.1.2
  have := h.2
  omega
theorem till_some {s : PS} {t : Int} {n i : Nat} (hi : i ≤ n) (h : s.givesH (s.after (i : Int)) < t) (hb : ∀ j, j < i → ¬ s.givesH (s.after (j : Int)) < t) : s.till t n = some i := by
  unfold PS.till
  refine List.find?_range_eq_some.mpr ⟨decide_eq_true h, List.mem_range.mpr (by omega), fun j hj => ?_⟩
  rw [decide_eq_false (hb j hj)]
  rfl
theorem till_none {s : PS} {t : Int} {n : Nat} (hb : ∀ j, j < n + 1 → ¬ s.givesH (s.after (j : Int)) < t) : s.till t n = none := by
  unfold PS.till
  rw [List.find?_eq_none]
  intro j hj
  rw [decide_eq_false (hb j (List.mem_range.mp hj))]
  decide
theorem scTill : FnScope ["self", "t", "limit", "days"] ["self", "t", "limit"] (defScope sTill) := ⟨rfl, rfl, rfl, by decide +kernel, rfl, by decide +kernel, by decide +kernel⟩
theorem ok_till {f C fA fG : Addr} {fd fdA fdG : FuncData} (F : Fun K "days_till_below" "Pack.days_till_below" sTill f fd) (T : Txt K mg C) (FA : Fun K "held_after" "Pack.held_after" sAfter fA fdA) (bA : Binds K fdA ["self", "days"] []) (mA : Meth K C "held_after" fA)
    (GG : FnOk P w K mg base CX0 2 fG fdG ["self", "held"] (spIH K C PS.givesH)) (bG : Binds K fdG ["self", "held"] []) (mG : Meth K C "gives_holding" fG) :
    FnOk P w K mg base CX0 3 f fd ["self", "t", "limit"] (spTill C) := by
  have GA : FnOk P w K mg base CX0 1 fA fdA ["self", "days"] (spAfter C) := ok_after FA T
  refine F.ok scTill (fun vs H Q E h => ?_) (fun cdv A outer s H vs Q E hr h => ?_)
  · obtain ⟨p, s, t, n, rfl, _⟩ := h
    rfl
  · obtain ⟨p, s, t, n, rfl, hP, hs, hn, k⟩ := h
    obtain ⟨dx, rl, ll, hl, h1, h2, h3, h4, z⟩ := id hP
    have hr1 := hr.mono (show 1 ≤ 2 by decide)
    refine ⟨_, pss_cons (ps_for PassesOwn.never rfl (pi_range1 rfl T.range (pa_cons (pe_op op_add (pv 2) pe_int) pa_nil)) (pg_name (i := 3) scTill.nd rfl (Or.inl rfl) (Or.inl rfl))
        (pss_one (ps_if (pt_cmpR op_lt (pe_meth (pv 0) T.cl mG GG hr bG .nil pass0 (pa_cons (pe_meth (pv 0) T.cl mA GA hr1 bA .nil pass0 (pa_cons (pv 3) pa_nil)) pa_nil)) (pv 1) (nomark _)) (pss_one (ps_ret (pv 3))) pss_nil)))
      (pss_one (ps_ret pe_non)), ?_⟩
    refine ⟨_, rfl, _, _, rfl, rfl, _, rfl, by omega, by omega, for_range (fun i σ H' => Same H H' ∧ (∃ v, σ = [some (.ref p), some (.int t), some (.int (n : Nat)), v]) ∧ ∀ j, j < i → ¬ s.givesH (s.after (j : Int)) < t) ⟨Same.refl _, ⟨none, rfl⟩, fun j hj => absurd hj (Nat.not_lt_zero _)⟩ ?_ ?_⟩
    · rintro i σ H1 hi ⟨sm, ⟨v, rfl⟩, hb⟩
      have hi : i < n + 1 := by omega
      have e0 : (0 : Int) + (i : Int) = (i : Int) := by omega
      rw [e0]
      refine ⟨_, rfl, p, dx, _, rfl, sm _ _ h1, pf_no (by decide +kernel), _, rfl, p, dx, _, rfl, sm _ _ h1, pf_no (by decide +kernel), _, rfl, p, s, (i : Int), rfl, hP.same sm, by omega, fun H2 D sm2 hD hd => ?_⟩
      have hl := after_len (n := (i : Int)) hs
      have hp0 := hs.1.1
      refine ⟨p, D, s, s.after (i : Int), rfl, (hP.same sm).same sm2, SqL.of hd, hp0, by omega, by have := z.1; omega, fun H3 sm3 => ⟨_, rfl, _, _, rfl, rfl, _, rfl, ?_⟩⟩
      have smA := (sm.trans sm2).trans sm3
      by_cases c : s.givesH (s.after (i : Int)) < t
      · rw [decide_eq_true c]
        refine iteT ⟨_, rfl, ?_⟩
        have := k H3 smA
        rw [till_some (by omega) c hb] at this
        exact this
      · rw [decide_eq_false c]
        refine iteF ⟨smA, ⟨_, rfl⟩, fun j hj => ?_⟩
        by_cases e : j = i
        · rw [e]; exact c
        · exact hb j (by omega)
    · rintro σ H1 ⟨sm, ⟨v, rfl⟩, hb⟩
      have := k H1 sm
      rw [till_none fun j hj => hb j (by omega)] at this
      exact this
/-! swap -/
def spSwap (C : Addr) : Sp := fun vs H Q _ => ∃ p s g c h, vs = [.ref p, .int g, .int c, .int h] ∧ PackAt C H p s ∧ some1 s ∧ 0 ≤ g ∧ g < (s.rooms.length : Int) ∧ ∀ H', PackAt C H' p (s.swapP g c h) → Frc H H' → Q (.int (s.held.getD g.toNat 0)) H'
theorem scSwap : FnScope ["self", "group", "room", "holds", "old"] ["self", "group", "room", "holds"] (defScope sSwap) := ⟨rfl, rfl, rfl, by decide +kernel, rfl, by decide +kernel, by decide +kernel⟩
theorem ok_swap {f C : Addr} {fd : FuncData} (F : Fun K "swap" "Pack.swap" sSwap f fd) (T : Txt K mg C) : FnOk P w K mg base CX0 1 f fd ["self", "group", "room", "holds"] (spSwap C) := by
  refine F.ok scSwap (fun vs H Q E h => ?_) (fun cdv A outer s H vs Q E hr h => ?_)
  · obtain ⟨p, s, g, c, h, rfl, _⟩ := h
    rfl
  · obtain ⟨p, s, g, c, h, rfl, hP, hs, hg0, hg1, k⟩ := h
    obtain ⟨dx, rl, ll, hl, h1, h2, h3, h4, z1, z2, z3, d1, d2, d3⟩ := id hP
    have e1 := hs.1.2
    have e2 := hs.2
    refine ⟨_, pss_cons (ps_set (i := 4) scSwap.nd rfl (Or.inl rfl) (pe_ix ix_list (pe_fld (pv 0) rfl) (pv 1) (fun _ _ => rfl)))
      (pss_cons (ps_asg (pv 2) (pg_sub (pe_fld (pv 0) rfl) (pv 1) set_list))
      (pss_cons (ps_asg (pv 3) (pg_sub (pe_fld (pv 0) rfl) (pv 1) set_list))
      (pss_cons (ps_asg pe_int (pg_sub (pe_fld (pv 0) rfl) (pv 1) set_list))
      (pss_cons (ps_fld (pv 0) (pe_op op_add (pe_fld (pv 0) rfl) (pv 4)) rfl)
      (pss_cons (ps_fld (pv 0) (pe_op op_add (pe_fld (pv 0) rfl) (pv 3)) rfl) (pss_one (ps_ret (pv 4)))))))), ?_⟩
    refine ⟨_, rfl, p, C, dx, _, _, rfl, h1, T.cl, T.nHeld, pf_held, _, rfl, hl, vi s.held, g, _, rfl, rfl, SqL.of h4, at_int hg0 (by omega), ?_⟩
    have n1 : p ≠ rl := ne_of h1 h2 (by intro z; cases z)
    have n2 : p ≠ ll := ne_of h1 h3 (by intro z; cases z)
    have n3 : p ≠ hl := ne_of h1 h4 (by intro z; cases z)
    refine ⟨_, rfl, _, rfl, p, C, dx, _, _, rfl, h1, T.cl, T.nRooms, pf_rooms, _, rfl, rl, vi s.rooms, g, _, rfl, rfl, h2, ixN_int hg0 (by rw [List.length_map]; exact hg1), ?_⟩
    rw [set_vi]
    refine ⟨_, rfl, _, rfl, p, C, dx, _, _, rfl, (by rw [upd_ne n1]; exact h1), T.cl, T.nHeld, pf_held, _, rfl, hl, vi s.held, g, _, rfl, rfl, (by rw [upd_ne (Ne.symm d2)]; exact h4), ixN_int hg0 (by rw [List.length_map]; omega), ?_⟩
    rw [set_vi]
    refine ⟨_, rfl, p, C, dx, _, _, rfl, (by rw [upd_ne n3, upd_ne n1]; exact h1), T.cl, T.nLeaks, pf_leaks, _, rfl, ll, vi s.leaks, g, _, rfl, rfl, (by rw [upd_ne d3, upd_ne (Ne.symm d1)]; exact h3), ixN_int hg0 (by rw [List.length_map]; omega), ?_⟩
    rw [set_vi]
    have fr : Frc H (upd (upd (upd H rl (.lst (vi (s.rooms.set g.toNat c)))) hl (.lst (vi (s.held.set g.toNat h)))) ll (.lst (vi (s.leaks.set g.toNat 0)))) :=
      (((Frc.of_same (Same.refl H)).upd h2).upd (by rw [upd_ne (Ne.symm d2)]; exact h4)).upd (by rw [upd_ne d3, upd_ne (Ne.symm d1)]; exact h3)
    have q1 : upd (upd (upd H rl (.lst (vi (s.rooms.set g.toNat c)))) hl (.lst (vi (s.held.set g.toNat h)))) ll (.lst (vi (s.leaks.set g.toNat 0))) p = some (.ins C dx (pf rl ll hl s.put s.filled s.drawn s.bled s.leaked)) := by
      rw [upd_ne n2, upd_ne n3, upd_ne n1]; exact h1
    have q2 : upd (upd (upd H rl (.lst (vi (s.rooms.set g.toNat c)))) hl (.lst (vi (s.held.set g.toNat h)))) ll (.lst (vi (s.leaks.set g.toNat 0))) rl = some (.lst (vi (s.rooms.set g.toNat c))) := by
      rw [upd_ne d1, upd_ne d2]; exact upd_same
    have q3 : upd (upd (upd H rl (.lst (vi (s.rooms.set g.toNat c)))) hl (.lst (vi (s.held.set g.toNat h)))) ll (.lst (vi (s.leaks.set g.toNat 0))) ll = some (.lst (vi (s.leaks.set g.toNat 0))) := upd_same
    have q4 : upd (upd (upd H rl (.lst (vi (s.rooms.set g.toNat c)))) hl (.lst (vi (s.held.set g.toNat h)))) ll (.lst (vi (s.leaks.set g.toNat 0))) hl = some (.lst (vi (s.held.set g.toNat h))) := by
      rw [upd_ne (Ne.symm d3)]; exact upd_same
    generalize upd (upd (upd H rl (.lst (vi (s.rooms.set g.toNat c)))) hl (.lst (vi (s.held.set g.toNat h)))) ll (.lst (vi (s.leaks.set g.toNat 0))) = H3 at fr q1 q2 q3 q4 ⊢
    refine ⟨_, rfl, p, C, dx, _, _, rfl, q1, T.cl, T.nDrawn, pf_drawn, _, rfl, _, _, rfl, rfl, _, rfl, p, C, dx, _, rfl, q1, T.cl, T.nDrawn, (by show 8 < 1000; decide), ?_⟩
    rw [put_drawn]
    refine ⟨_, rfl, p, C, dx, _, _, rfl, upd_same, T.cl, T.nPut, pf_put, _, rfl, _, _, rfl, rfl, _, rfl, p, C, dx, _, rfl, upd_same, T.cl, T.nPut, (by show 8 < 1000; decide), ?_⟩
    rw [put_put, upd_upd]
    refine ⟨_, rfl, ?_⟩
    exact k _ (pack_upd (s := s.swapP g c h) q1 q2 q3 q4 ⟨by show (s.rooms.set _ _).length ≤ 60; rw [List.length_set]; exact z1, by show (s.leaks.set _ _).length ≤ 60; rw [List.length_set]; exact z2, by show (s.held.set _ _).length ≤ 60; rw [List.length_set]; exact z3, d1, d2, d3⟩) (fr.updI q1)
end
end EvC

set_option Elab.async false
set_option linter.all false
set_option maxRecDepth 100000
set_option maxHeartbeats 2000000
/-! The calls: a promise for each def. -/
namespace EvC
open PySem PySem.Spec PyProof.Rows L2
open EvM (minI maxI)
open EvS (PS mn mx)
abbrev sIsRoom : Stmt := top 14
abbrev sIsGroup : Stmt := top 15
abbrev sStart : Stmt := top 16
abbrev sHold : Stmt := top 17
abbrev sLeak : Stmt := top 18
abbrev sMayMove : Stmt := top 19
abbrev sFillF : Stmt := top 20
abbrev sDrawF : Stmt := top 21
abbrev sBleedF : Stmt := top 22
abbrev sEvenF : Stmt := top 23
abbrev sEvensF : Stmt := top 24
abbrev sReachF : Stmt := top 25
abbrev sBleedsF : Stmt := top 26
abbrev sGivesF : Stmt := top 27
abbrev sMostF : Stmt := top 28
abbrev sLacksF : Stmt := top 29
abbrev sLeastFirst : Stmt := top 30
abbrev sWeakestF : Stmt := top 31
abbrev sFullestF : Stmt := top 32
abbrev sDaysF : Stmt := top 33
abbrev sWhenF : Stmt := top 34
abbrev sSwapF : Stmt := top 35
abbrev sGainF : Stmt := top 36
abbrev sBestF : Stmt := top 37
abbrev sUnitsF : Stmt := top 38
abbrev sLookF : Stmt := top 39
abbrev sStateF : Stmt := top 40
/-- a whole number of the module -/
def Num (mg : Str → Option Value) (x : Str) (i : Int) : Prop := ∃ t, mg x = some (.int i t)
theorem pe_num {X : Cx} {x : Str} {i : Int} {pos : Pos} (h : Num X.mg x i) (hg : Gl X x := by rfl) (hd : (x == ("__debug__" : Str)) = false := by decide) : PE X (.Name x pos) (tC (.int i)) := by
  obtain ⟨t, h⟩ := h
  exact pe_glob hg h ⟨t, rfl⟩ hd
structure Nums (mg : Str → Option Value) : Prop where
  m2 : Num mg "NO_SUCH_GROUP" (-2)
  m11 : Num mg "NOT_STARTED" (-11)
  m12 : Num mg "HOLDS_FEWER" (-12)
  m22 : Num mg "NOT_AS_TOLD" (-22)
  m33 : Num mg "OUT_OF_REACH" (-33)
  c0 : Num mg "START" 0
  groups : Num mg "MOST_GROUPS" 10
  room : Num mg "MOST_ROOM" 10000
  leak : Num mg "MOST_LEAK" 1000
  moved : Num mg "MOST_MOVED" 100000
  days : Num mg "MOST_DAYS" 1000
/-- a call: the pack, its numbers; a new list of numbers comes back -/
def spCall (K : PySem.W.Frag) (C : Addr) (pre : PS → List Int → Prop) (f : PS → List Int → PS × List Int) : Sp := fun vs H Q _ => ∃ p a s ns, vs = [.ref p, .ref a] ∧ PackAt C H p s ∧ SqL K H a (vi ns) ∧ pre s ns ∧
  ∀ H' q, PackAt C H' p (f s ns).1 → Frc H H' → H q = none → H' q = some (.lst (vi (f s ns).2)) → Q (.ref q) H'
/-- an answer, nothing is changed -/
theorem call_lst {C p : Addr} {H H1 : Hp} {s : PS} {R : PS × List Int} {l : List Int} {Q : VK} (k : ∀ H' q, PackAt C H' p R.1 → Frc H H' → H q = none → H' q = some (.lst (vi R.2)) → Q (.ref q) H') (hP : PackAt C H1 p s) (sm : Same H H1) (e : R = (s, l)) :
    ∀ q, H1 q = none → Q (.ref q) (upd H1 q (.lst (vi l))) := fun q hq => by
  rw [e] at k
  exact k _ q (hP.same (Same.new hq)) (Frc.of_same (sm.trans (Same.new hq))) (sm.free hq) upd_same
/-- an answer of one number; nothing is changed -/
theorem call_one {C p : Addr} {H H1 : Hp} {s : PS} {R : PS × List Int} {v : Int} {Q : VK} (k : ∀ H' q, PackAt C H' p R.1 → Frc H H' → H q = none → H' q = some (.lst (vi R.2)) → Q (.ref q) H') (hP : PackAt C H1 p s) (sm : Same H H1) (e : R = (s, [v])) :
    ∀ q, H1 q = none → Q (.ref q) (upd H1 q (.lst [.int v])) := call_lst k hP sm e
/-- an answer of one number, the pack changed -/
theorem call_frc {C p : Addr} {H H1 : Hp} {s' : PS} {R : PS × List Int} {v : Int} {Q : VK} (k : ∀ H' q, PackAt C H' p R.1 → Frc H H' → H q = none → H' q = some (.lst (vi R.2)) → Q (.ref q) H') (hP : PackAt C H1 p s') (fr : Frc H H1) (e : R = (s', [v])) :
    ∀ q, H1 q = none → Q (.ref q) (upd H1 q (.lst [.int v])) := fun q hq => by
  rw [e] at k
  exact k _ q (hP.same (Same.new hq)) (fr.trans (Frc.of_same (Same.new hq))) (fr.2 q hq) upd_same
theorem call_chg {C p C' dx : Addr} {fs : List (Str × V)} {H H1 : Hp} {s' : PS} {R : PS × List Int} {v : Int} {Q : VK} (k : ∀ H' q, PackAt C H' p R.1 → Frc H H' → H q = none → H' q = some (.lst (vi R.2)) → Q (.ref q) H') (hp : H p = some (.ins C' dx fs)) (hP : PackAt C H1 p s') (fr : Fra p H H1) (e : R = (s', [v])) :
    ∀ q, H1 q = none → Q (.ref q) (upd H1 q (.lst [.int v])) := by
  obtain ⟨dx, rl, ll, hl, h1, z⟩ := id hP
  exact call_frc k hP (Frc.of_fra fr hp h1) e
theorem one_le : 1 ≤ sizeLine := by decide
section
variable {P : Program} {w : World} {K : PySem.W.Frag} {mg : Str → Option Value} {base : Heap}
abbrev row60 : PS → List Int → Prop := fun _ ns => ns.length ≤ 60
def spIsRoom : Sp := fun vs H Q _ => ∃ n, vs = [.int n] ∧ Q (.bl (EvS.isRoom n)) H
theorem scIsRoom : FnScope ["number"] ["number"] (defScope sIsRoom) := ⟨rfl, rfl, rfl, by decide +kernel, rfl, by decide +kernel, by decide +kernel⟩
theorem ok_isRoom {f : Addr} {fd : FuncData} (F : Fun K "is_room" "is_room" sIsRoom f fd) (N : Nums mg) : FnOk P w K mg base CX0 1 f fd ["number"] spIsRoom := by
  refine F.ok scIsRoom (fun vs H Q E h => ?_) (fun cdv A outer s H vs Q E hr h => ?_)
  · obtain ⟨n, rfl, _⟩ := h
    rfl
  · obtain ⟨n, rfl, k⟩ := h
    refine ⟨_, pss_one (ps_ret (pe_and (pe_cmpR op_le pe_int (pv 0) (nomark _)) (pe_one (pe_cmpR op_le (pv 0) (pe_num N.room) (nomark _))))), ?_⟩
    refine ⟨_, rfl, _, _, rfl, rfl, _, rfl, ?_⟩
    unfold EvS.isRoom at k
    by_cases c : (1 : Int) ≤ n
    · rw [decide_eq_true c] at k ⊢
      exact iteT ⟨_, rfl, _, _, rfl, rfl, k⟩
    · rw [decide_eq_false c] at k ⊢
      exact iteF k
def spIsGroup (C : Addr) : Sp := fun vs H Q _ => ∃ p s n, vs = [.ref p, .int n] ∧ PackAt C H p s ∧ Q (.bl (decide (n < (s.rooms.length : Int)))) H
theorem scIsGroup : FnScope ["pack", "number"] ["pack", "number"] (defScope sIsGroup) := ⟨rfl, rfl, rfl, by decide +kernel, rfl, by decide +kernel, by decide +kernel⟩
theorem ok_isGroup {f C : Addr} {fd : FuncData} (F : Fun K "is_group" "is_group" sIsGroup f fd) (T : Txt K mg C) : FnOk P w K mg base CX0 1 f fd ["pack", "number"] (spIsGroup C) := by
  refine F.ok scIsGroup (fun vs H Q E h => ?_) (fun cdv A outer s H vs Q E hr h => ?_)
  · obtain ⟨p, s, n, rfl, _⟩ := h
    rfl
  · obtain ⟨p, s, n, rfl, ⟨dx, rl, ll, hl, h1, h2, h3, h4, z⟩, k⟩ := h
    refine ⟨_, pss_one (ps_ret (pe_cmpR op_lt (pv 1) (pe_callB call_len_seq rfl T.len PySem.boot_len (pa_cons (pe_fld (pv 0) rfl) pa_nil)) (nomark _))), ?_⟩
    refine ⟨_, rfl, _, rfl, p, C, dx, _, _, rfl, h1, T.cl, T.nRooms, pf_rooms, rl, vi s.rooms, rfl, .inl (SqL.of h2), _, _, rfl, rfl, ?_⟩
    rw [List.length_map]
    exact k
theorem scStart : FnScope ["pack", "rooms", "room"] ["pack", "rooms"] (defScope sStart) := ⟨rfl, rfl, rfl, by decide +kernel, rfl, by decide +kernel, by decide +kernel⟩
theorem ok_start {f C fB fP fR : Addr} {fd fdB fdP fdR : FuncData} (F : Fun K "start" "start" sStart f fd) (T : Txt K mg C) (N : Nums mg) (FB : Fun K "begin" "Pack.begin" sBegin fB fdB) (bB : Binds K fdB ["self", "rooms"] []) (mB : Meth K C "begin" fB)
    (FP : Fun K "put" "Pack.put" sPut fP fdP) (bP : Binds K fdP ["self", "held"] []) (mP : Meth K C "put" fP) (FR : Fun K "is_room" "is_room" sIsRoom fR fdR) (bR : Binds K fdR ["number"] []) (gR : mg "is_room" = some (.ref fR)) : FnOk P w K mg base CX0 3 f fd ["pack", "rooms"] (spCall K C row60 EvS.fStart) := by
  have GR : FnOk P w K mg base CX0 1 fR fdR ["number"] spIsRoom := ok_isRoom FR N
  have GB : FnOk P w K mg base CX0 2 fB fdB ["self", "rooms"] (spBegin K C) := ok_begin FB T FP bP mP
  refine F.ok scStart (fun vs H Q E h => ?_) (fun cdv A outer s H vs Q E hr h => ?_)
  · obtain ⟨p, a, s, ns, rfl, _⟩ := h
    rfl
  · obtain ⟨p, a, s, ns, rfl, hP, hS, h60, k⟩ := h
    obtain ⟨dx, rl, ll, hl, h1, h2, h3, h4, z⟩ := id hP
    have hr1 := hr.mono (show 1 ≤ 2 by decide)
    refine ⟨_, pss_cons (ps_if (PW.pt (pw_or (pt_cmpR op_lt (pe_callB call_len_seq rfl T.len PySem.boot_len (pa_cons (pv 1) pa_nil)) pe_int (nomark _)) (pw_or1 (pt_cmpR op_gt (pe_callB call_len_seq rfl T.len PySem.boot_len (pa_cons (pv 1) pa_nil)) (pe_num N.groups) (nomark _)))))
        (pss_one (ps_ret (pe_lst (pa_cons (pe_num N.m22) pa_nil)))) pss_nil)
      (pss_cons (ps_if (pt_not (pt_val (pe_callB (cr_all rfl) rfl T.all boot_all (pa_cons (pe_lcl (i := 2) scStart.nd (pv 1) rfl (fun _ _ _ _ _ => pe_call GR hr1 rfl gR FR.kp bR .nil pass0 (pa_cons (pv 2) pa_nil))) pa_nil))))
        (pss_one (ps_ret (pe_lst (pa_cons (pe_num N.m22) pa_nil)))) pss_nil)
      (pss_cons (ps_expr (pe_meth (pv 0) T.cl mB GB hr bB .nil pass0 (pa_cons (pv 1) pa_nil))) (pss_one (ps_ret (pe_lst (pa_cons (pe_callB call_len_seq rfl T.len PySem.boot_len (pa_cons (pv 1) pa_nil)) pa_nil)))))), ?_⟩
    have el : (((vi ns).length : Nat) : Int) = (ns.length : Int) := by rw [List.length_map]
    refine ⟨_, rfl, a, vi ns, rfl, .inl hS, _, _, rfl, rfl, _, rfl, ?_⟩
    rw [el]
    by_cases c1 : (ns.length : Int) < 1
    · rw [decide_eq_true c1]
      refine iteT (iteT ⟨one_le, call_one k hP (Same.refl _) ?_⟩)
      unfold EvS.fStart
      rw [if_pos (.inl c1)]
    · rw [decide_eq_false c1]
      refine iteF ⟨_, rfl, a, vi ns, rfl, .inl hS, _, _, rfl, rfl, _, rfl, ?_⟩
      rw [el]
      by_cases c2 : (10 : Int) < (ns.length : Int)
      · rw [decide_eq_true c2]
        refine iteT ⟨one_le, call_one k hP (Same.refl _) ?_⟩
        unfold EvS.fStart
        rw [if_pos (.inr c2)]
      · rw [decide_eq_false c2]
        refine iteF ⟨_, rfl, a, rfl, ⟨_, hS⟩, fun D hD => lcl (vunB EvS.isRoom) hS hD (by rw [List.length_map]; omega) (fun _ => rfl) (fun x H' Q' hx _ q => ?_) (fun H3 sm3 hd3 => ?_)⟩
        · obtain ⟨y, _, rfl⟩ := List.mem_map.mp hx
          exact ⟨_, rfl, y, rfl, q⟩
        rw [map_vunB] at hd3
        refine ⟨D, _, rfl, SqL.of hd3, _, rfl, ?_⟩
        cases c3 : (ns.map EvS.isRoom).all id with
        | false =>
          refine iteT ⟨one_le, call_one k (hP.same sm3) sm3 ?_⟩
          unfold EvS.fStart
          rw [if_neg (by omega), c3, if_pos (by decide)]
        | true =>
          have e : EvS.fStart s ns = (EvS.beginP ns, [(ns.length : Int)]) := by
            unfold EvS.fStart
            rw [if_neg (by omega), c3, if_neg (by decide)]
          refine iteF ⟨_, rfl, p, dx, _, rfl, sm3 _ _ h1, pf_no (by decide +kernel), _, rfl, p, a, s, ns, rfl, hP.same sm3, sm3.seq hS, h60, fun H4 hP4 fr4 => ?_⟩
          have fr : Fra p H H4 := (Fra.of_same sm3).trans fr4
          refine ⟨_, rfl, a, vi ns, rfl, .inl (sq_fra hS fr h1), one_le, ?_⟩
          rw [el]
          exact call_chg k h1 hP4 fr e
/-! hold, leak -/
theorem scHold : FnScope ["pack", "held", "room", "holds"] ["pack", "held"] (defScope sHold) := ⟨rfl, rfl, rfl, by decide +kernel, rfl, by decide +kernel, by decide +kernel⟩
theorem ne_int {i j : Int} : (!decide (V.int i = V.int j)) = !decide (i = j) := by
  by_cases c : i = j
  · rw [decide_eq_true c, decide_eq_true (show V.int i = V.int j by rw [c])]
  · rw [decide_eq_false c, decide_eq_false (show ¬ V.int i = V.int j from fun e => c (by injection e))]
theorem eq_int' {i j : Int} : decide (V.int i = V.int j) = decide (i = j) := by
  by_cases c : i = j
  · rw [decide_eq_true c, decide_eq_true (show V.int i = V.int j by rw [c])]
  · rw [decide_eq_false c, decide_eq_false (show ¬ V.int i = V.int j from fun e => c (by injection e))]
theorem ok_hold {f C fP : Addr} {fd fdP : FuncData} (F : Fun K "hold" "hold" sHold f fd) (T : Txt K mg C) (N : Nums mg) (FP : Fun K "put" "Pack.put" sPut fP fdP) (bP : Binds K fdP ["self", "held"] []) (mP : Meth K C "put" fP) :
    FnOk P w K mg base CX0 3 f fd ["pack", "held"] (spCall K C row60 EvS.fHold) := by
  have GP : FnOk P w K mg base CX0 1 fP fdP ["self", "held"] (spPut K C) := ok_put FP T
  refine F.ok scHold (fun vs H Q E h => ?_) (fun cdv A outer s H vs Q E hr h => ?_)
  · obtain ⟨p, a, s, ns, rfl, _⟩ := h
    rfl
  · obtain ⟨p, a, s, ns, rfl, hP, hS, h60, k⟩ := h
    obtain ⟨dx, rl, ll, hl, h1, h2, h3, h4, z⟩ := id hP
    have hr1 := hr.mono (show 1 ≤ 2 by decide)
    refine ⟨_, pss_cons (ps_if (pt_cmpR op_ne (pe_callB call_len_seq rfl T.len PySem.boot_len (pa_cons (pv 1) pa_nil)) (pe_callB call_len_seq rfl T.len PySem.boot_len (pa_cons (pe_fld (pv 0) rfl) pa_nil)) (nomark _))
        (pss_one (ps_ret (pe_lst (pa_cons (pe_num N.m22) pa_nil)))) pss_nil)
      (pss_cons (ps_if (pt_val (pe_callB (cr_any rfl) rfl T.any boot_any (pa_cons (pe_lcz (i := 2) (j := 3) scHold.nd T.zip (pe_fld (pv 0) rfl) (pv 1) rfl (fun _ _ _ _ _ => pe_cmpR op_gt (pv 3) (pv 2) (nomark _))) pa_nil)))
        (pss_one (ps_ret (pe_lst (pa_cons (pe_num N.m22) pa_nil)))) pss_nil)
      (pss_cons (ps_expr (pe_meth (pv 0) T.cl mP GP hr1 bP .nil pass0 (pa_cons (pv 1) pa_nil))) (pss_one (ps_ret (pe_lst (pa_cons (pe_callB (cr_sum rfl) rfl T.sum boot_sum (pa_cons (pv 1) pa_nil)) pa_nil)))))), ?_⟩
    have el : (((vi ns).length : Nat) : Int) = (ns.length : Int) := by rw [List.length_map]
    have er : (((vi s.rooms).length : Nat) : Int) = (s.rooms.length : Int) := by rw [List.length_map]
    refine ⟨_, rfl, a, vi ns, rfl, .inl hS, _, rfl, p, C, dx, _, _, rfl, h1, T.cl, T.nRooms, pf_rooms, rl, vi s.rooms, rfl, .inl (SqL.of h2), rfl, _, rfl, ?_⟩
    rw [el, er, ne_int]
    by_cases c1 : (ns.length : Int) = (s.rooms.length : Int)
    · rw [decide_eq_true c1]
      refine iteF ⟨_, rfl, p, C, dx, _, _, rfl, h1, T.cl, T.nRooms, pf_rooms, _, rfl, rl, a, vi s.rooms, vi ns, rfl, SqL.of h2, hS, fun D hD => lcz (vopB fun room h => decide (h > room)) (SqL.of h2) hS hD (by rw [List.length_map]; omega) (fun _ _ => rfl) (fun x y H' Q' hx hy _ q => ?_) (fun H3 sm3 hd3 => ?_)⟩
      · obtain ⟨x, _, rfl⟩ := List.mem_map.mp hx
        obtain ⟨y, _, rfl⟩ := List.mem_map.mp hy
        exact ⟨_, rfl, _, rfl, _, _, rfl, rfl, q⟩
      rw [zip_vopB] at hd3
      refine ⟨D, _, rfl, SqL.of hd3, _, rfl, ?_⟩
      cases c3 : (List.zipWith (fun room h => decide (h > room)) s.rooms ns).any id with
      | true =>
        refine iteT ⟨one_le, call_one k (hP.same sm3) sm3 ?_⟩
        unfold EvS.fHold
        rw [if_neg (by omega), if_pos c3]
      | false =>
        have e : EvS.fHold s ns = (s.putP ns, [ns.sum]) := by
          unfold EvS.fHold
          rw [if_neg (by omega), if_neg (by rw [c3]; decide)]
        refine iteF ⟨_, rfl, p, dx, _, rfl, sm3 _ _ h1, pf_no (by decide +kernel), _, rfl, p, a, dx, rl, ll, _, ns, rfl, sm3 _ _ h1, .inr ⟨_, _, _, _, _, _, rfl⟩, sm3.seq hS, fun H4 hl' a1 a2 a4 fr4 => ?_⟩
        have fr : Fra p H H4 := (Fra.of_same sm3).trans fr4
        have hP4 : PackAt C H4 p (s.putP ns) := ⟨dx, rl, ll, hl', a1, fr _ _ h2 (ne_of h2 h1 (by intro z; cases z)), fr _ _ h3 (ne_of h3 h1 (by intro z; cases z)), a2, z.1, z.2.1, h60, z.2.2.2.1, ne_of_none (sm3 _ _ h2) a4, ne_of_none (sm3 _ _ h3) a4⟩
        exact ⟨_, rfl, a, ns, rfl, sq_fra hS fr h1, one_le, call_chg k h1 hP4 fr e⟩
    · rw [decide_eq_false c1]
      refine iteT ⟨one_le, call_one k hP (Same.refl _) ?_⟩
      unfold EvS.fHold
      rw [if_pos c1]
theorem scLeak : FnScope ["pack", "leaks", "loses"] ["pack", "leaks"] (defScope sLeak) := ⟨rfl, rfl, rfl, by decide +kernel, rfl, by decide +kernel, by decide +kernel⟩
theorem ok_leak {f C fP : Addr} {fd fdP : FuncData} (F : Fun K "leak" "leak" sLeak f fd) (T : Txt K mg C) (N : Nums mg) (FP : Fun K "set_leaks" "Pack.set_leaks" sSetLeaks fP fdP) (bP : Binds K fdP ["self", "leaks"] []) (mP : Meth K C "set_leaks" fP) :
    FnOk P w K mg base CX0 3 f fd ["pack", "leaks"] (spCall K C row60 EvS.fLeak) := by
  have GP : FnOk P w K mg base CX0 1 fP fdP ["self", "leaks"] (spSetLeaks K C) := ok_setLeaks FP T
  refine F.ok scLeak (fun vs H Q E h => ?_) (fun cdv A outer s H vs Q E hr h => ?_)
  · obtain ⟨p, a, s, ns, rfl, _⟩ := h
    rfl
  · obtain ⟨p, a, s, ns, rfl, hP, hS, h60, k⟩ := h
    obtain ⟨dx, rl, ll, hl, h1, h2, h3, h4, z⟩ := id hP
    have hr1 := hr.mono (show 1 ≤ 2 by decide)
    refine ⟨_, pss_cons (ps_if (pt_cmpR op_ne (pe_callB call_len_seq rfl T.len PySem.boot_len (pa_cons (pv 1) pa_nil)) (pe_callB call_len_seq rfl T.len PySem.boot_len (pa_cons (pe_fld (pv 0) rfl) pa_nil)) (nomark _))
        (pss_one (ps_ret (pe_lst (pa_cons (pe_num N.m22) pa_nil)))) pss_nil)
      (pss_cons (ps_if (pt_val (pe_callB (cr_any rfl) rfl T.any boot_any (pa_cons (pe_lcl (i := 2) scLeak.nd (pv 1) rfl (fun _ _ _ _ _ => pe_cmpR op_gt (pv 2) (pe_num N.leak) (nomark _))) pa_nil)))
        (pss_one (ps_ret (pe_lst (pa_cons (pe_num N.m22) pa_nil)))) pss_nil)
      (pss_cons (ps_expr (pe_meth (pv 0) T.cl mP GP hr1 bP .nil pass0 (pa_cons (pv 1) pa_nil))) (pss_one (ps_ret (pe_lst (pa_cons pe_int pa_nil)))))), ?_⟩
    have el : (((vi ns).length : Nat) : Int) = (ns.length : Int) := by rw [List.length_map]
    have er : (((vi s.rooms).length : Nat) : Int) = (s.rooms.length : Int) := by rw [List.length_map]
    refine ⟨_, rfl, a, vi ns, rfl, .inl hS, _, rfl, p, C, dx, _, _, rfl, h1, T.cl, T.nRooms, pf_rooms, rl, vi s.rooms, rfl, .inl (SqL.of h2), rfl, _, rfl, ?_⟩
    rw [el, er, ne_int]
    by_cases c1 : (ns.length : Int) = (s.rooms.length : Int)
    · rw [decide_eq_true c1]
      refine iteF ⟨_, rfl, a, rfl, ⟨_, hS⟩, fun D hD => lcl (vunB fun x => decide (x > 1000)) hS hD (by rw [List.length_map]; omega) (fun _ => rfl) (fun x H' Q' hx _ q => ?_) (fun H3 sm3 hd3 => ?_)⟩
      · obtain ⟨x, _, rfl⟩ := List.mem_map.mp hx
        exact ⟨_, rfl, _, _, rfl, rfl, q⟩
      rw [map_vunB] at hd3
      refine ⟨D, _, rfl, SqL.of hd3, _, rfl, ?_⟩
      cases c3 : (ns.map fun x => decide (x > 1000)).any id with
      | true =>
        refine iteT ⟨one_le, call_one k (hP.same sm3) sm3 ?_⟩
        unfold EvS.fLeak
        rw [if_neg (by omega), if_pos c3]
      | false =>
        have e : EvS.fLeak s ns = ({ s with leaks := ns }, [0]) := by
          unfold EvS.fLeak
          rw [if_neg (by omega), if_neg (by rw [c3]; decide)]
        refine iteF ⟨_, rfl, p, dx, _, rfl, sm3 _ _ h1, pf_no (by decide +kernel), _, rfl, p, a, s, ns, rfl, hP.same sm3, sm3.seq hS, h60, fun H4 hP4 fr4 => ?_⟩
        have fr : Fra p H H4 := (Fra.of_same sm3).trans fr4
        exact ⟨one_le, call_chg k h1 hP4 fr e⟩
    · rw [decide_eq_false c1]
      refine iteT ⟨one_le, call_one k hP (Same.refl _) ?_⟩
      unfold EvS.fLeak
      rw [if_pos c1]
/-! may_move, fill, draw -/
def spMayMove : Sp := fun vs H Q _ => ∃ n, vs = [.int n] ∧ Q (.bl (EvS.mayMove n)) H
theorem scMayMove : FnScope ["n"] ["n"] (defScope sMayMove) := ⟨rfl, rfl, rfl, by decide +kernel, rfl, by decide +kernel, by decide +kernel⟩
theorem ok_mayMove {f : Addr} {fd : FuncData} (F : Fun K "may_move" "may_move" sMayMove f fd) (N : Nums mg) : FnOk P w K mg base CX0 1 f fd ["n"] spMayMove := by
  refine F.ok scMayMove (fun vs H Q E h => ?_) (fun cdv A outer s H vs Q E hr h => ?_)
  · obtain ⟨n, rfl, _⟩ := h
    rfl
  · obtain ⟨n, rfl, k⟩ := h
    refine ⟨_, pss_one (ps_ret (pe_and (pe_cmpR op_le pe_int (pv 0) (nomark _)) (pe_one (pe_cmpR op_le (pv 0) (pe_num N.moved) (nomark _))))), ?_⟩
    refine ⟨_, rfl, _, _, rfl, rfl, _, rfl, ?_⟩
    unfold EvS.mayMove at k
    by_cases c : (1 : Int) ≤ n
    · rw [decide_eq_true c] at k ⊢
      exact iteT ⟨_, rfl, _, _, rfl, rfl, k⟩
    · rw [decide_eq_false c] at k ⊢
      exact iteF k
abbrev one1 : PS → List Int → Prop := fun s ns => some0 s ∧ ∃ a, ns = [a]
theorem at0 {a : Int} {r : List Int} : atI (vi (a :: r)) 0 = some (V.int a) := atI_nat (j := 0) rfl
theorem at1 {a b : Int} {r : List Int} : atI (vi (a :: b :: r)) 1 = some (V.int b) := atI_nat (j := 1) rfl
theorem scFillF : FnScope ["pack", "numbers"] ["pack", "numbers"] (defScope sFillF) := ⟨rfl, rfl, rfl, by decide +kernel, rfl, by decide +kernel, by decide +kernel⟩
theorem ok_fillF {f C fM fV : Addr} {fd fdM fdV : FuncData} (F : Fun K "fill" "fill" sFillF f fd) (T : Txt K mg C) (N : Nums mg) (GM : FnOk P w K mg base CX0 3 fM fdM ["self", "n"] (spM1 C some0 PS.fill PS.got)) (bM : Binds K fdM ["self", "n"] []) (mM : Meth K C "fill" fM)
    (FV : Fun K "may_move" "may_move" sMayMove fV fdV) (bV : Binds K fdV ["n"] []) (gV : mg "may_move" = some (.ref fV)) :
    FnOk P w K mg base CX0 4 f fd ["pack", "numbers"] (spCall K C one1 fun s ns => EvS.fFill s (ns.getD 0 0)) := by
  have GV : FnOk P w K mg base CX0 1 fV fdV ["n"] spMayMove := ok_mayMove FV N
  refine F.ok scFillF (fun vs H Q E h => ?_) (fun cdv A outer s H vs Q E hr h => ?_)
  · obtain ⟨p, a, s, ns, rfl, _⟩ := h
    rfl
  · obtain ⟨p, a, s, ns, rfl, hP, hS, ⟨hs, n, rfl⟩, k⟩ := h
    obtain ⟨dx, rl, ll, hl, h1, h2, h3, h4, z⟩ := id hP
    have hr1 := hr.mono (show 1 ≤ 3 by decide)
    refine ⟨_, pss_cons (ps_if (pt_not (pt_val (pe_call GV hr1 rfl gV FV.kp bV .nil pass0 (pa_cons (pe_ix ix_list (pv 1) pe_int (fun _ _ => rfl)) pa_nil)))) (pss_one (ps_ret (pe_lst (pa_cons (pe_num N.m22) pa_nil)))) pss_nil)
      (pss_one (ps_ret (pe_lst (pa_cons (pe_meth (pv 0) T.cl mM GM hr bM .nil pass0 (pa_cons (pe_ix ix_list (pv 1) pe_int (fun _ _ => rfl)) pa_nil)) pa_nil)))), ?_⟩
    refine ⟨_, rfl, a, vi [n], 0, _, rfl, rfl, hS, at0, n, rfl, _, rfl, ?_⟩
    cases c : EvS.mayMove n with
    | false =>
      refine iteT ⟨one_le, call_one k hP (Same.refl _) ?_⟩
      show EvS.fFill s n = _
      unfold EvS.fFill
      rw [c, if_pos (by decide)]
    | true =>
      refine iteF ⟨_, rfl, p, dx, _, rfl, h1, pf_no (by decide +kernel), _, rfl, a, vi [n], 0, _, rfl, rfl, hS, at0, p, s, n, rfl, hP, hs, fun H4 hP4 fr4 => ⟨one_le, call_chg k h1 hP4 fr4 ?_⟩⟩
      show EvS.fFill s n = _
      unfold EvS.fFill
      rw [c, if_neg (by decide)]
end
end EvC

set_option Elab.async false
set_option linter.all false
set_option maxRecDepth 100000
set_option maxHeartbeats 2000000
namespace EvC
open PySem PySem.Spec PyProof.Rows L2
open EvM (minI maxI)
open EvS (PS mn mx)
section
variable {P : Program} {w : World} {K : PySem.W.Frag} {mg : Str → Option Value} {base : Heap}
theorem scDrawF : FnScope ["pack", "numbers"] ["pack", "numbers"] (defScope sDrawF) := ⟨rfl, rfl, rfl, by decide +kernel, rfl, by decide +kernel, by decide +kernel⟩
theorem ok_drawF {f C fM fV : Addr} {fd fdM fdV : FuncData} (F : Fun K "draw" "draw" sDrawF f fd) (T : Txt K mg C) (N : Nums mg) (FM : Fun K "draw" "Pack.draw" sDraw fM fdM) (bM : Binds K fdM ["self", "n"] []) (mM : Meth K C "draw" fM)
    (FV : Fun K "may_move" "may_move" sMayMove fV fdV) (bV : Binds K fdV ["n"] []) (gV : mg "may_move" = some (.ref fV)) :
    FnOk P w K mg base CX0 3 f fd ["pack", "numbers"] (spCall K C one1 fun s ns => EvS.fDraw s (ns.getD 0 0)) := by
  have GM : FnOk P w K mg base CX0 1 fM fdM ["self", "n"] (spM1 C some0 PS.draw PS.gave) := ok_draw FM T
  have GV : FnOk P w K mg base CX0 1 fV fdV ["n"] spMayMove := ok_mayMove FV N
  refine F.ok scDrawF (fun vs H Q E h => ?_) (fun cdv A outer s H vs Q E hr h => ?_)
  · obtain ⟨p, a, s, ns, rfl, _⟩ := h
    rfl
  · obtain ⟨p, a, s, ns, rfl, hP, hS, ⟨hs, n, rfl⟩, k⟩ := h
    obtain ⟨dx, rl, ll, hl, h1, h2, h3, h4, z⟩ := id hP
    have hr1 := hr.mono (show 1 ≤ 2 by decide)
    refine ⟨_, pss_cons (ps_if (pt_not (pt_val (pe_call GV hr1 rfl gV FV.kp bV .nil pass0 (pa_cons (pe_ix ix_list (pv 1) pe_int (fun _ _ => rfl)) pa_nil)))) (pss_one (ps_ret (pe_lst (pa_cons (pe_num N.m22) pa_nil)))) pss_nil)
      (pss_one (ps_ret (pe_lst (pa_cons (pe_meth (pv 0) T.cl mM GM hr1 bM .nil pass0 (pa_cons (pe_ix ix_list (pv 1) pe_int (fun _ _ => rfl)) pa_nil)) pa_nil)))), ?_⟩
    refine ⟨_, rfl, a, vi [n], 0, _, rfl, rfl, hS, at0, n, rfl, _, rfl, ?_⟩
    cases c : EvS.mayMove n with
    | false =>
      refine iteT ⟨one_le, call_one k hP (Same.refl _) ?_⟩
      show EvS.fDraw s n = _
      unfold EvS.fDraw
      rw [c, if_pos (by decide)]
    | true =>
      refine iteF ⟨_, rfl, p, dx, _, rfl, h1, pf_no (by decide +kernel), _, rfl, a, vi [n], 0, _, rfl, rfl, hS, at0, p, s, n, rfl, hP, hs, fun H4 hP4 fr4 => ⟨one_le, call_chg k h1 hP4 fr4 ?_⟩⟩
      show EvS.fDraw s n = _
      unfold EvS.fDraw
      rw [c, if_neg (by decide)]
/-! gives, most -/
abbrev one0 : PS → List Int → Prop := fun s ns => some0 s
theorem scGivesF : FnScope ["pack", "numbers"] ["pack", "numbers"] (defScope sGivesF) := ⟨rfl, rfl, rfl, by decide +kernel, rfl, by decide +kernel, by decide +kernel⟩
theorem ok_givesF {f C fM : Addr} {fd fdM : FuncData} (F : Fun K "gives" "gives" sGivesF f fd) (T : Txt K mg C) (GM : FnOk P w K mg base CX0 3 fM fdM ["self"] (spI C some0 PS.gives)) (bM : Binds K fdM ["self"] []) (mM : Meth K C "gives" fM) :
    FnOk P w K mg base CX0 4 f fd ["pack", "numbers"] (spCall K C one0 fun s _ => EvS.fGives s) := by
  refine F.ok scGivesF (fun vs H Q E h => ?_) (fun cdv A outer s H vs Q E hr h => ?_)
  · obtain ⟨p, a, s, ns, rfl, _⟩ := h
    rfl
  · obtain ⟨p, a, s, ns, rfl, hP, hS, hs, k⟩ := h
    obtain ⟨dx, rl, ll, hl, h1, h2, h3, h4, z⟩ := id hP
    refine ⟨_, pss_one (ps_ret (pe_lst (pa_cons (pe_meth0 (pv 0) T.cl mM GM hr bM .nil pass0) pa_nil))), ?_⟩
    exact ⟨_, rfl, p, dx, _, rfl, h1, pf_no (by decide +kernel), p, s, rfl, hP, hs, fun H1 sm => ⟨one_le, call_one k (hP.same sm) sm rfl⟩⟩
theorem scMostF : FnScope ["pack", "numbers"] ["pack", "numbers"] (defScope sMostF) := ⟨rfl, rfl, rfl, by decide +kernel, rfl, by decide +kernel, by decide +kernel⟩
theorem ok_mostF {f C fM : Addr} {fd fdM : FuncData} (F : Fun K "most" "most" sMostF f fd) (T : Txt K mg C) (FM : Fun K "most" "Pack.most" sMost fM fdM) (bM : Binds K fdM ["self"] []) (mM : Meth K C "most" fM) :
    FnOk P w K mg base CX0 3 f fd ["pack", "numbers"] (spCall K C one0 fun s _ => EvS.fMost s) := by
  have GM : FnOk P w K mg base CX0 1 fM fdM ["self"] (spI C some0 PS.most) := ok_most FM T
  refine F.ok scMostF (fun vs H Q E h => ?_) (fun cdv A outer s H vs Q E hr h => ?_)
  · obtain ⟨p, a, s, ns, rfl, _⟩ := h
    rfl
  · obtain ⟨p, a, s, ns, rfl, hP, hS, hs, k⟩ := h
    obtain ⟨dx, rl, ll, hl, h1, h2, h3, h4, z⟩ := id hP
    have hr1 := hr.mono (show 1 ≤ 2 by decide)
    refine ⟨_, pss_one (ps_ret (pe_lst (pa_cons (pe_meth0 (pv 0) T.cl mM GM hr1 bM .nil pass0) pa_nil))), ?_⟩
    exact ⟨_, rfl, p, dx, _, rfl, h1, pf_no (by decide +kernel), p, s, rfl, hP, hs, fun H1 sm => ⟨one_le, call_one k (hP.same sm) sm rfl⟩⟩
/-! even, evens -/
theorem toLack_len {s : PS} {m : Int} : (s.toLack m).length ≤ s.rooms.length := by
  unfold PS.toLack
  rw [List.length_map]
  exact lacks_len
theorem scEvenF : FnScope ["pack", "numbers", "amounts"] ["pack", "numbers"] (defScope sEvenF) := ⟨rfl, rfl, rfl, by decide +kernel, rfl, by decide +kernel, by decide +kernel⟩
theorem ok_evenF {f C fM fE fB : Addr} {fd fdM fdE fdB : FuncData} (F : Fun K "even" "even" sEvenF f fd) (T : Txt K mg C) (N : Nums mg) (GM : FnOk P w K mg base CX0 4 fM fdM ["self"] (spL C some0 PS.toEven)) (bM : Binds K fdM ["self"] []) (mM : Meth K C "amounts_to_even" fM)
    (FB : Fun K "can_bleed" "Pack.can_bleed" sCanBleed fB fdB) (bB : Binds K fdB ["self", "amounts"] []) (mB : Meth K C "can_bleed" fB) (FE : Fun K "bleed_each" "Pack.bleed_each" sBleedEach fE fdE) (bE : Binds K fdE ["self", "amounts"] []) (mE : Meth K C "bleed_each" fE) :
    FnOk P w K mg base CX0 5 f fd ["pack", "numbers"] (spCall K C one0 fun s _ => EvS.fEven s) := by
  have GB : FnOk P w K mg base CX0 1 fB fdB ["self", "amounts"] (spCanBleed K C) := ok_canBleed FB T
  have GE : FnOk P w K mg base CX0 1 fE fdE ["self", "amounts"] (spBleedEach K C) := ok_bleedEach FE T
  refine F.ok scEvenF (fun vs H Q E h => ?_) (fun cdv A outer s H vs Q E hr h => ?_)
  · obtain ⟨p, a, s, ns, rfl, _⟩ := h
    rfl
  · obtain ⟨p, a, s, ns, rfl, hP, hS, hs, k⟩ := h
    obtain ⟨dx, rl, ll, hl, h1, h2, h3, h4, z⟩ := id hP
    have hr1 := hr.mono (show 1 ≤ 4 by decide)
    refine ⟨_, pss_cons (ps_set (i := 2) scEvenF.nd rfl (Or.inl rfl) (pe_meth0 (pv 0) T.cl mM GM hr bM .nil pass0))
      (pss_cons (ps_if (pt_not (pt_val (pe_meth (pv 0) T.cl mB GB hr1 bB .nil pass0 (pa_cons (pv 2) pa_nil)))) (pss_one (ps_ret (pe_lst (pa_cons (pe_num N.m33) pa_nil)))) pss_nil)
      (pss_one (ps_ret (pe_lst (pa_cons (pe_meth (pv 0) T.cl mE GE hr1 bE .nil pass0 (pa_cons (pv 2) pa_nil)) pa_nil))))), ?_⟩
    refine ⟨_, rfl, p, dx, _, rfl, h1, pf_no (by decide +kernel), p, s, rfl, hP, hs, fun H1 q sm1 hq hd1 => ?_⟩
    refine ⟨_, rfl, p, dx, _, rfl, sm1 _ _ h1, pf_no (by decide +kernel), _, rfl, p, q, s, s.toEven, rfl, hP.same sm1, SqL.of hd1, fun H2 sm2 => ⟨_, rfl, ?_⟩⟩
    have sm := sm1.trans sm2
    cases c : s.canBleed s.toEven with
    | false =>
      refine iteT ⟨one_le, call_one k (hP.same sm) sm ?_⟩
      show EvS.fEven s = _
      unfold EvS.fEven
      rw [c, if_pos (by decide)]
    | true =>
      refine iteF ⟨_, rfl, p, dx, _, rfl, sm _ _ h1, pf_no (by decide +kernel), _, rfl, p, q, s, s.toEven, rfl, hP.same sm, SqL.of (sm2 _ _ hd1), fun H4 hP4 fr4 => ⟨one_le, call_chg k h1 hP4 ((Fra.of_same sm).trans fr4) ?_⟩⟩
      show EvS.fEven s = _
      unfold EvS.fEven
      rw [c, if_neg (by decide)]
theorem scEvensF : FnScope ["pack", "numbers", "amounts"] ["pack", "numbers"] (defScope sEvensF) := ⟨rfl, rfl, rfl, by decide +kernel, rfl, by decide +kernel, by decide +kernel⟩
theorem ok_evensF {f C fM : Addr} {fd fdM : FuncData} (F : Fun K "evens" "evens" sEvensF f fd) (T : Txt K mg C) (GM : FnOk P w K mg base CX0 4 fM fdM ["self"] (spL C some0 PS.toEven)) (bM : Binds K fdM ["self"] []) (mM : Meth K C "amounts_to_even" fM) :
    FnOk P w K mg base CX0 5 f fd ["pack", "numbers"] (spCall K C one0 fun s _ => EvS.fEvens s) := by
  refine F.ok scEvensF (fun vs H Q E h => ?_) (fun cdv A outer s H vs Q E hr h => ?_)
  · obtain ⟨p, a, s, ns, rfl, _⟩ := h
    rfl
  · obtain ⟨p, a, s, ns, rfl, hP, hS, hs, k⟩ := h
    obtain ⟨dx, rl, ll, hl, h1, h2, h3, h4, z⟩ := id hP
    refine ⟨_, pss_cons (ps_set (i := 2) scEvensF.nd rfl (Or.inl rfl) (pe_meth0 (pv 0) T.cl mM GM hr bM .nil pass0))
      (pss_one (ps_ret (pe_op op_cat (pe_lst (pa_cons (pe_callB call_len_seq rfl T.len PySem.boot_len (pa_cons (pv 2) pa_nil)) pa_nil)) (pv 2)))), ?_⟩
    refine ⟨_, rfl, p, dx, _, rfl, h1, pf_no (by decide +kernel), p, s, rfl, hP, hs, fun H1 q sm1 hq hd1 => ?_⟩
    refine ⟨_, rfl, q, vi s.toEven, rfl, .inl (SqL.of hd1), one_le, fun r hr2 => ⟨_, rfl, r, q, _, vi s.toEven, rfl, rfl, upd_same, Same.new hr2 _ _ hd1, ?_, fun u hu => ?_⟩⟩
    · show 1 + (vi s.toEven).length ≤ sizeLine
      rw [List.length_map]
      have := toLack_len (s := s) (m := maxI s.lacks)
      have := z.1
      have : 1 + s.toEven.length ≤ 1000 := by unfold PS.toEven; omega
      exact Nat.le_of_lt (small1000 this)
    · have sm : Same H (upd (upd H1 r (.lst [.int ((vi s.toEven).length : Nat)])) u (.lst ([.int ((vi s.toEven).length : Nat)] ++ vi s.toEven))) := sm1.trans ((Same.new hr2).trans (Same.new hu))
      refine k _ u (hP.same sm) (Frc.of_same sm) ((sm1.trans (Same.new hr2)).free hu) ?_
      rw [upd_same, List.length_map]
      rfl
/-! reach, bleeds -/
theorem scReachF : FnScope ["pack", "numbers"] ["pack", "numbers"] (defScope sReachF) := ⟨rfl, rfl, rfl, by decide +kernel, rfl, by decide +kernel, by decide +kernel⟩
theorem ok_reachF {f C fM fG : Addr} {fd fdM fdG : FuncData} (F : Fun K "reach" "reach" sReachF f fd) (T : Txt K mg C) (N : Nums mg) (FM : Fun K "most" "Pack.most" sMost fM fdM) (bM : Binds K fdM ["self"] []) (mM : Meth K C "most" fM)
    (GG : FnOk P w K mg base CX0 4 fG fdG ["self", "t"] (spL1 C some0 PS.toGive)) (bG : Binds K fdG ["self", "t"] []) (mG : Meth K C "amounts_to_give" fG) :
    FnOk P w K mg base CX0 5 f fd ["pack", "numbers"] (spCall K C one1 fun s ns => EvS.fReach s (ns.getD 0 0)) := by
  have GM : FnOk P w K mg base CX0 1 fM fdM ["self"] (spI C some0 PS.most) := ok_most FM T
  refine F.ok scReachF (fun vs H Q E h => ?_) (fun cdv A outer s H vs Q E hr h => ?_)
  · obtain ⟨p, a, s, ns, rfl, _⟩ := h
    rfl
  · obtain ⟨p, a, s, ns, rfl, hP, hS, ⟨hs, n, rfl⟩, k⟩ := h
    obtain ⟨dx, rl, ll, hl, h1, h2, h3, h4, z⟩ := id hP
    have hr1 := hr.mono (show 1 ≤ 4 by decide)
    refine ⟨_, pss_cons (ps_if (pt_cmpR op_gt (pe_ix ix_list (pv 1) pe_int (fun _ _ => rfl)) (pe_meth0 (pv 0) T.cl mM GM hr1 bM .nil pass0) (nomark _)) (pss_one (ps_ret (pe_lst (pa_cons (pe_num N.m33) pa_nil)))) pss_nil)
      (pss_one (ps_ret (pe_lst (pa_cons (pe_callB (cr_sum rfl) rfl T.sum boot_sum (pa_cons (pe_meth (pv 0) T.cl mG GG hr bG .nil pass0 (pa_cons (pe_ix ix_list (pv 1) pe_int (fun _ _ => rfl)) pa_nil)) pa_nil)) pa_nil)))), ?_⟩
    refine ⟨_, rfl, a, vi [n], 0, _, rfl, rfl, hS, at0, _, rfl, p, dx, _, rfl, h1, pf_no (by decide +kernel), p, s, rfl, hP, hs, fun H1 sm1 => ⟨_, _, rfl, rfl, _, rfl, ?_⟩⟩
    by_cases c : s.most < n
    · rw [decide_eq_true c]
      refine iteT ⟨one_le, call_one k (hP.same sm1) sm1 ?_⟩
      show EvS.fReach s n = _
      unfold EvS.fReach
      rw [if_pos c]
    · rw [decide_eq_false c]
      refine iteF ⟨_, rfl, p, dx, _, rfl, sm1 _ _ h1, pf_no (by decide +kernel), _, rfl, a, vi [n], 0, _, rfl, rfl, sm1.seq hS, at0, p, s, n, rfl, hP.same sm1, hs, fun H2 q sm2 hq hd2 => ⟨q, s.toGive n, rfl, SqL.of hd2, one_le, call_one k (hP.same (sm1.trans sm2)) (sm1.trans sm2) ?_⟩⟩
      show EvS.fReach s n = _
      unfold EvS.fReach
      rw [if_neg c]
theorem scBleedsF : FnScope ["pack", "numbers"] ["pack", "numbers"] (defScope sBleedsF) := ⟨rfl, rfl, rfl, by decide +kernel, rfl, by decide +kernel, by decide +kernel⟩
theorem ok_bleedsF {f C fM fG fE : Addr} {fd fdM fdG fdE : FuncData} (F : Fun K "bleeds" "bleeds" sBleedsF f fd) (T : Txt K mg C) (N : Nums mg) (FM : Fun K "most" "Pack.most" sMost fM fdM) (bM : Binds K fdM ["self"] []) (mM : Meth K C "most" fM)
    (GG : FnOk P w K mg base CX0 4 fG fdG ["self", "t"] (spL1 C some0 PS.toGive)) (bG : Binds K fdG ["self", "t"] []) (mG : Meth K C "amounts_to_give" fG) (FE : Fun K "bleed_each" "Pack.bleed_each" sBleedEach fE fdE) (bE : Binds K fdE ["self", "amounts"] []) (mE : Meth K C "bleed_each" fE) :
    FnOk P w K mg base CX0 5 f fd ["pack", "numbers"] (spCall K C one1 fun s ns => EvS.fBleeds s (ns.getD 0 0)) := by
  have GM : FnOk P w K mg base CX0 1 fM fdM ["self"] (spI C some0 PS.most) := ok_most FM T
  have GE : FnOk P w K mg base CX0 1 fE fdE ["self", "amounts"] (spBleedEach K C) := ok_bleedEach FE T
  refine F.ok scBleedsF (fun vs H Q E h => ?_) (fun cdv A outer s H vs Q E hr h => ?_)
  · obtain ⟨p, a, s, ns, rfl, _⟩ := h
    rfl
  · obtain ⟨p, a, s, ns, rfl, hP, hS, ⟨hs, n, rfl⟩, k⟩ := h
    obtain ⟨dx, rl, ll, hl, h1, h2, h3, h4, z⟩ := id hP
    have hr1 := hr.mono (show 1 ≤ 4 by decide)
    refine ⟨_, pss_cons (ps_if (pt_cmpR op_gt (pe_ix ix_list (pv 1) pe_int (fun _ _ => rfl)) (pe_meth0 (pv 0) T.cl mM GM hr1 bM .nil pass0) (nomark _)) (pss_one (ps_ret (pe_lst (pa_cons (pe_num N.m33) pa_nil)))) pss_nil)
      (pss_one (ps_ret (pe_lst (pa_cons (pe_meth (pv 0) T.cl mE GE hr1 bE .nil pass0 (pa_cons (pe_meth (pv 0) T.cl mG GG hr bG .nil pass0 (pa_cons (pe_ix ix_list (pv 1) pe_int (fun _ _ => rfl)) pa_nil)) pa_nil)) pa_nil)))), ?_⟩
    refine ⟨_, rfl, a, vi [n], 0, _, rfl, rfl, hS, at0, _, rfl, p, dx, _, rfl, h1, pf_no (by decide +kernel), p, s, rfl, hP, hs, fun H1 sm1 => ⟨_, _, rfl, rfl, _, rfl, ?_⟩⟩
    by_cases c : s.most < n
    · rw [decide_eq_true c]
      refine iteT ⟨one_le, call_one k (hP.same sm1) sm1 ?_⟩
      show EvS.fBleeds s n = _
      unfold EvS.fBleeds
      rw [if_pos c]
    · rw [decide_eq_false c]
      refine iteF ⟨_, rfl, p, dx, _, rfl, sm1 _ _ h1, pf_no (by decide +kernel), _, rfl, p, dx, _, rfl, sm1 _ _ h1, pf_no (by decide +kernel), _, rfl, a, vi [n], 0, _, rfl, rfl, sm1.seq hS, at0, p, s, n, rfl, hP.same sm1, hs, fun H2 q sm2 hq hd2 => ⟨p, q, s, s.toGive n, rfl, hP.same (sm1.trans sm2), SqL.of hd2, fun H4 hP4 fr4 => ⟨one_le, call_chg k h1 hP4 ((Fra.of_same (sm1.trans sm2)).trans fr4) ?_⟩⟩⟩
      show EvS.fBleeds s n = _
      unfold EvS.fBleeds
      rw [if_neg c]
/-! bleed -/
abbrev two2 : PS → List Int → Prop := fun s ns => some0 s ∧ ∃ a b, ns = [a, b] ∧ 0 ≤ a
theorem scBleedF : FnScope ["pack", "numbers", "group", "n", "amounts"] ["pack", "numbers"] (defScope sBleedF) := ⟨rfl, rfl, rfl, by decide +kernel, rfl, by decide +kernel, by decide +kernel⟩
theorem ok_bleedF {f C fO fB fE fG : Addr} {fd fdO fdB fdE fdG : FuncData} (F : Fun K "bleed" "bleed" sBleedF f fd) (T : Txt K mg C) (N : Nums mg) (FO : Fun K "amounts_of_one" "Pack.amounts_of_one" sOfOne fO fdO) (bO : Binds K fdO ["self", "group", "n"] []) (mO : Meth K C "amounts_of_one" fO)
    (FB : Fun K "can_bleed" "Pack.can_bleed" sCanBleed fB fdB) (bB : Binds K fdB ["self", "amounts"] []) (mB : Meth K C "can_bleed" fB) (FE : Fun K "bleed_each" "Pack.bleed_each" sBleedEach fE fdE) (bE : Binds K fdE ["self", "amounts"] []) (mE : Meth K C "bleed_each" fE)
    (FG : Fun K "is_group" "is_group" sIsGroup fG fdG) (bG : Binds K fdG ["pack", "number"] []) (gG : mg "is_group" = some (.ref fG)) :
    FnOk P w K mg base CX0 4 f fd ["pack", "numbers"] (spCall K C two2 fun s ns => EvS.fBleed s (ns.getD 0 0) (ns.getD 1 0)) := by
  have GG : FnOk P w K mg base CX0 1 fG fdG ["pack", "number"] (spIsGroup C) := ok_isGroup FG T
  have GO : FnOk P w K mg base CX0 1 fO fdO ["self", "group", "n"] (spL2 C PS.ofOne) := ok_ofOne FO T
  have GB : FnOk P w K mg base CX0 1 fB fdB ["self", "amounts"] (spCanBleed K C) := ok_canBleed FB T
  have GE : FnOk P w K mg base CX0 1 fE fdE ["self", "amounts"] (spBleedEach K C) := ok_bleedEach FE T
  refine F.ok scBleedF (fun vs H Q E h => ?_) (fun cdv A outer s H vs Q E hr h => ?_)
  · obtain ⟨p, a, s, ns, rfl, _⟩ := h
    rfl
  · obtain ⟨p, a, s, ns, rfl, hP, hS, ⟨hs, g, n, rfl, hg⟩, k⟩ := h
    obtain ⟨dx, rl, ll, hl, h1, h2, h3, h4, z⟩ := id hP
    have hr1 := hr.mono (show 1 ≤ 3 by decide)
    refine ⟨_, pss_cons (ps_set (i := 2) scBleedF.nd rfl (Or.inl rfl) (pe_ix ix_list (pv 1) pe_int (fun _ _ => rfl))) (pss_cons (ps_set (i := 3) scBleedF.nd rfl (Or.inl rfl) (pe_ix ix_list (pv 1) pe_int (fun _ _ => rfl)))
      (pss_cons (ps_if (pt_not (pt_val (pe_call GG hr1 rfl gG FG.kp bG .nil pass0 (pa_cons (pv 0) (pa_cons (pv 2) pa_nil))))) (pss_one (ps_ret (pe_lst (pa_cons (pe_num N.m2) pa_nil)))) pss_nil)
      (pss_cons (ps_if (pt_cmpR op_eq (pv 3) pe_int (nomark _)) (pss_one (ps_ret (pe_lst (pa_cons (pe_num N.m22) pa_nil)))) pss_nil)
      (pss_cons (ps_set (i := 4) scBleedF.nd rfl (Or.inl rfl) (pe_meth (pv 0) T.cl mO GO hr1 bO .nil pass0 (pa_cons (pv 2) (pa_cons (pv 3) pa_nil))))
      (pss_cons (ps_if (pt_not (pt_val (pe_meth (pv 0) T.cl mB GB hr1 bB .nil pass0 (pa_cons (pv 4) pa_nil)))) (pss_one (ps_ret (pe_lst (pa_cons (pe_num N.m12) pa_nil)))) pss_nil)
      (pss_cons (ps_expr (pe_meth (pv 0) T.cl mE GE hr1 bE .nil pass0 (pa_cons (pv 4) pa_nil)))
      (pss_one (ps_ret (pe_lst (pa_cons (pe_ix ix_list (pe_fld (pv 0) rfl) (pv 2) (fun _ _ => rfl)) pa_nil)))))))))), ?_⟩
    have er : (((vi s.rooms).length : Nat) : Int) = (s.rooms.length : Int) := by rw [List.length_map]
    refine ⟨_, rfl, a, vi [g, n], 0, _, rfl, rfl, hS, at0, ?_⟩
    refine ⟨_, rfl, a, vi [g, n], 1, _, rfl, rfl, hS, at1, ?_⟩
    refine ⟨_, rfl, _, rfl, p, s, g, rfl, hP, _, rfl, ?_⟩
    by_cases c1 : (s.rooms.length : Int) ≤ g
    · rw [decide_eq_false (show ¬ g < (s.rooms.length : Int) by omega)]
      refine iteT ⟨one_le, call_one k hP (Same.refl _) ?_⟩
      show EvS.fBleed s g n = _
      unfold EvS.fBleed
      rw [if_pos c1]
    · rw [decide_eq_true (show g < (s.rooms.length : Int) by omega)]
      refine iteF ⟨_, rfl, rfl, _, rfl, ?_⟩
      rw [eq_int']
      by_cases c2 : n = 0
      · rw [decide_eq_true c2]
        refine iteT ⟨one_le, call_one k hP (Same.refl _) ?_⟩
        show EvS.fBleed s g n = _
        unfold EvS.fBleed
        rw [if_neg (by omega), if_pos c2]
      · rw [decide_eq_false c2]
        refine iteF ⟨_, rfl, p, dx, _, rfl, h1, pf_no (by decide +kernel), _, rfl, _, rfl, p, s, g, n, rfl, hP, fun H1 q sm1 hq hd1 => ?_⟩
        refine ⟨_, rfl, p, dx, _, rfl, sm1 _ _ h1, pf_no (by decide +kernel), _, rfl, p, q, s, s.ofOne g n, rfl, hP.same sm1, SqL.of hd1, fun H2 sm2 => ⟨_, rfl, ?_⟩⟩
        have sm := sm1.trans sm2
        cases c : s.canBleed (s.ofOne g n) with
        | false =>
          refine iteT ⟨one_le, call_one k (hP.same sm) sm ?_⟩
          show EvS.fBleed s g n = _
          unfold EvS.fBleed
          rw [if_neg (by omega), if_neg c2, c, if_pos (by decide)]
        | true =>
          refine iteF ⟨_, rfl, p, dx, _, rfl, sm _ _ h1, pf_no (by decide +kernel), _, rfl, p, q, s, s.ofOne g n, rfl, hP.same sm, SqL.of (sm2 _ _ hd1), fun H4 hP4 fr4 => ?_⟩
          obtain ⟨dx', rl', ll', hl', g1, g2, g3, g4, z'⟩ := id hP4
          have hlen : g < (((s.bleedEach (s.ofOne g n)).held.length : Nat) : Int) := by
            show g < ((List.zipWith _ s.held (s.ofOne g n)).length : Int)
            unfold PS.ofOne
            rw [List.length_zipWith, List.length_map, List.length_range]
            have := hs.2
            omega
          refine ⟨_, rfl, p, C, dx', _, _, rfl, g1, T.cl, T.nHeld, pf_held, _, rfl, hl', vi (s.bleedEach (s.ofOne g n)).held, g, _, rfl, rfl, SqL.of g4, at_int hg hlen, one_le, call_chg k h1 hP4 ((Fra.of_same sm).trans fr4) ?_⟩
          show EvS.fBleed s g n = _
          unfold EvS.fBleed
          rw [if_neg (by omega), if_neg c2, c, if_neg (by decide)]
end
end EvC

set_option Elab.async false
set_option linter.all false
set_option maxRecDepth 100000
set_option maxHeartbeats 2000000
/-! The calls of the second stage. -/
namespace EvC
open PySem PySem.Spec PyProof.Rows L2
open EvM (minI maxI)
open EvS (PS mn mx)
/-- name = [elt for x in range(a)] on one line -/
theorem ps_lcr {X : Cx} {k : Nat} {y : Str} {py spos : Pos} {elt a : Expr} {x : Str} {i : Nat} {px pr rpos pos : Pos} {scope : Scope} {ta te : TE} (hN : X.N.Nodup) (hy : X.N[k]? = some y) (hyl : X.env.scope.names.lookup y = some .local) (hm : X.mg "range" = none) (ha : PE X a ta)
    (ok : blkC X.N X.env.scope scope [(x, i)] = true) (he : ∀ (s : Shared) (H : Hp) (C : Addr) (cl : List (Str × Addr)) (fp : List Addr), PE (X.blk s H scope (compEnvC scope cl C X.env) fp) elt te)
    (hsw : swapsWith (.ListComp elt [⟨.Name x px, .Call (.Name "range" pr) [a] [] rpos, [], 0⟩] scope pos) (some (.Name y py)) spos.line X.env = pure true := by rfl)
    (hc : X.calm = true := by rfl) (hg : Gl X "range" := by rfl) (hi : X.N[i]? = some x := by rfl)
    (lx : ∀ (C : Addr) (cl : List (Str × Addr)), (compEnvC scope cl C X.env).scope.names.lookup x = some .local := by intro _ _; rfl) (hs1 : starEach [a] X.env = [(false, eval a X.env)] := by rfl) :
    L2.PS X (.Assign [.Name y py] (.ListComp elt [⟨.Name x px, .Call (.Name "range" pr) [a] [] rpos, [], 0⟩] scope pos) spos) (tAsg (tLc (iRng1 (tCons ta tNil)) (gName i) tYes te [i]) (gName k)) :=
  ps_setLc (own := [(x, i)]) hc hN hy hyl hsw (pi_range1 hg hm (pa_cons ha pa_nil hs1) hs1) (blkOk_by ok) (fun s H C cl fp => pg_one (X := X.blk s H scope (compEnvC scope cl C X.env) fp) hN hi (lx C cl)) (fun _ _ _ _ _ => pts_nil) he
/-- a comprehension over a range, its elements made by calls -/
theorem lcrS {lo : Int} {n : Nat} {i : Nat} {te : TE} {σ : L2.St} {H1 : Hp} {D : Addr} {Qd : Hp → Prop} (f : Nat → V) (hD : H1 D = none) (hn : n ≤ 1000)
    (hw : ∀ x, wipe ((wipe σ [i]).set i (some x)) [i] = wipe σ [i])
    (hte : ∀ (j : Nat) H (Q : VK), j < n → Same H1 H → (∀ H', Same H H' → Q (f j) H') → te ((wipe σ [i]).set i (some (.int (lo + j)))) H Q) (hq : ∀ H, Same H1 H → H D = some (.lst ((List.range n).map f)) → Qd H) :
    ∃ W : Nat → Nat → Hp → Prop, (∃ m, W 0 m (upd H1 D (.lst []))) ∧ ∀ j m H, W j m H →
      ((Itr lo n).stop j H ∧ Qd H) ∨ ((Itr lo n).go j H ∧ ∃ Nx : Hp → Prop, (∀ H', Nx H' → ∃ m', m' < m ∧ W (j + 1) m' H') ∧ ∀ x H', (Itr lo n).yld j H x H' → gName i x (wipe σ [i]) H' fun σ2 H2 => wipe σ2 [i] = wipe σ [i] ∧ tYes σ2 H2 fun b H3 =>
        if b = true then te σ2 H3 fun y H4 => ∃ acc, H4 D = some (.lst acc) ∧ acc.length < sizeLine ∧ Nx (upd H4 D (.lst (acc ++ [y]))) else Nx H3) := by
  refine lc_range (fun j H => Same H1 H ∧ H D = some (.lst ((List.range j).map f))) ⟨Same.updN (Same.refl _) hD, upd_same⟩ (fun j H hj p => ?_) (fun H p => hq H p.1 p.2)
  refine ⟨hw _, ?_⟩
  unfold tYes; dsimp only
  rw [if_pos rfl]
  refine (hte j H _ hj p.1 fun H' sm => ⟨_, sm _ _ p.2, ?_, Same.updN (p.1.trans sm) hD, ?_⟩)
  · rw [List.length_map, List.length_range]
    exact small1000 (by omega)
  · rw [upd_same, List.range_succ, List.map_append]
    rfl
theorem at2 {a b c : Int} {r : List Int} : atI (vi (a :: b :: c :: r)) 2 = some (V.int c) := atI_nat (j := 2) rfl
theorem flat_vi (l : List Int) : (vi l).all flatV = true := by
  rw [List.all_eq_true]
  intro x hx
  obtain ⟨y, _, rfl⟩ := List.mem_map.mp hx
  rfl
/-- the first place of what is there -/
theorem index_vi {l : List Int} {x : Int} (h : x ∈ l) : (vi l)[EvS.idxI l x]? = some (V.int x) ∧ ∀ (m : Nat) (z : V), m < EvS.idxI l x → (vi l)[m]? = some z → eqV z (V.int x) = false := by
  obtain ⟨h1, h2⟩ := EvS.idxI_at h
  refine ⟨by rw [List.getElem?_map, h1]; rfl, fun m z hm hz => ?_⟩
  rw [List.getElem?_map] at hz
  cases e : l[m]? with
  | none => rw [e] at hz; cases hz
  | some y =>
    rw [e] at hz
    cases hz
    show (y == x) = false
    refine beq_eq_false_iff_ne.mpr fun q => h2 m hm ?_
    rw [e, q]
abbrev when1 : PS → List Int → Prop := fun s ns => some1 s ∧ ∃ a, ns = [a]
abbrev look1 : PS → List Int → Prop := fun s ns => some1 s ∧ ∃ a, ns = [a] ∧ 0 ≤ a
abbrev swap3 : PS → List Int → Prop := fun s ns => some1 s ∧ ∃ a b c, ns = [a, b, c] ∧ 0 ≤ a
section
variable {P : Program} {w : World} {K : PySem.W.Frag} {mg : Str → Option Value} {base : Heap}
theorem scLacksF : FnScope ["pack", "numbers", "amounts"] ["pack", "numbers"] (defScope sLacksF) := ⟨rfl, rfl, rfl, by decide +kernel, rfl, by decide +kernel, by decide +kernel⟩
theorem ok_lacksF {f C fM : Addr} {fd fdM : FuncData} (F : Fun K "lacks" "lacks" sLacksF f fd) (T : Txt K mg C) (GM : FnOk P w K mg base CX0 2 fM fdM ["self"] (spL C any0 PS.lacks)) (bM : Binds K fdM ["self"] []) (mM : Meth K C "lacks" fM) :
    FnOk P w K mg base CX0 3 f fd ["pack", "numbers"] (spCall K C one0 fun s _ => EvS.fLacks s) := by
  refine F.ok scLacksF (fun vs H Q E h => ?_) (fun cdv A outer s H vs Q E hr h => ?_)
  · obtain ⟨p, a, s, ns, rfl, _⟩ := h
    rfl
  · obtain ⟨p, a, s, ns, rfl, hP, hS, hs, k⟩ := h
    obtain ⟨dx, rl, ll, hl, h1, h2, h3, h4, z⟩ := id hP
    refine ⟨_, pss_cons (ps_set (i := 2) scLacksF.nd rfl (Or.inl rfl) (pe_meth0 (pv 0) T.cl mM GM hr bM .nil pass0))
      (pss_one (ps_ret (pe_op op_cat (pe_lst (pa_cons (pe_callB call_len_seq rfl T.len PySem.boot_len (pa_cons (pv 2) pa_nil)) pa_nil)) (pv 2)))), ?_⟩
    refine ⟨_, rfl, p, dx, _, rfl, h1, pf_no (by decide +kernel), p, s, rfl, hP, trivial, fun H1 q sm1 hq hd1 => ?_⟩
    refine ⟨_, rfl, q, vi s.lacks, rfl, .inl (SqL.of hd1), one_le, fun r hr2 => ⟨_, rfl, r, q, _, vi s.lacks, rfl, rfl, upd_same, Same.new hr2 _ _ hd1, ?_, fun u hu => ?_⟩⟩
    · show 1 + (vi s.lacks).length ≤ sizeLine
      rw [List.length_map]
      have := lacks_len (s := s)
      have := z.1
      have : 1 + s.lacks.length ≤ 1000 := by omega
      exact Nat.le_of_lt (small1000 this)
    · have sm : Same H (upd (upd H1 r (.lst [.int ((vi s.lacks).length : Nat)])) u (.lst ([.int ((vi s.lacks).length : Nat)] ++ vi s.lacks))) := sm1.trans ((Same.new hr2).trans (Same.new hu))
      refine k _ u (hP.same sm) (Frc.of_same sm) ((sm1.trans (Same.new hr2)).free hu) ?_
      rw [upd_same, List.length_map]
      rfl
/-! weakest, fullest -/
def spLF (K : PySem.W.Frag) : Sp := fun vs H Q _ => ∃ a l, vs = [.ref a] ∧ SqL K H a (vi l) ∧ 0 < l.length ∧ ∀ q, H q = none → Q (.ref q) (upd H q (.lst (vi (EvS.leastFirst l))))
theorem scLeastFirst : FnScope ["amounts", "least"] ["amounts"] (defScope sLeastFirst) := ⟨rfl, rfl, rfl, by decide +kernel, rfl, by decide +kernel, by decide +kernel⟩
theorem two_le : 2 ≤ sizeLine := by decide
theorem three_le : 3 ≤ sizeLine := by decide
theorem ok_leastFirst {f C : Addr} {fd : FuncData} (F : Fun K "least_and_first" "least_and_first" sLeastFirst f fd) (T : Txt K mg C) : FnOk P w K mg base CX0 1 f fd ["amounts"] (spLF K) := by
  refine F.ok scLeastFirst (fun vs H Q E h => ?_) (fun cdv A outer s H vs Q E hr h => ?_)
  · obtain ⟨a, l, rfl, _⟩ := h
    rfl
  · obtain ⟨a, l, rfl, hS, hl, k⟩ := h
    refine ⟨_, pss_cons (ps_set (i := 1) scLeastFirst.nd rfl (Or.inl rfl) (pe_callB (cr_min rfl) rfl T.min boot_min (pa_cons (pv 0) pa_nil)))
      (pss_one (ps_ret (pe_lst (pa_cons (pv 1) (pa_cons (pe_bm PySem.F.plainAttrs_list PySem.F.slot_list_index PySem.F.type_list_index mt_index (pv 0) (pa_cons (pv 1) pa_nil)) pa_nil))))), ?_⟩
    refine ⟨_, rfl, a, l, rfl, hS, hl, fun m hm hmin => ?_⟩
    have e1 := EvM.minI_is hm hmin
    subst e1
    obtain ⟨i1, i2⟩ := index_vi hm
    exact ⟨_, rfl, _, rfl, .inl ⟨rfl, _, hS⟩, _, rfl, a, vi l, .int (minI l), _, _, rfl, rfl, hS, rfl, flat_vi l, i1, beq_self_eq_true _, i2, two_le, k⟩
theorem scWeakestF : FnScope ["pack", "numbers"] ["pack", "numbers"] (defScope sWeakestF) := ⟨rfl, rfl, rfl, by decide +kernel, rfl, by decide +kernel, by decide +kernel⟩
theorem ok_weakestF {f C fL : Addr} {fd fdL : FuncData} (F : Fun K "weakest" "weakest" sWeakestF f fd) (T : Txt K mg C) (FL : Fun K "least_and_first" "least_and_first" sLeastFirst fL fdL) (bL : Binds K fdL ["amounts"] []) (gL : mg "least_and_first" = some (.ref fL)) :
    FnOk P w K mg base CX0 2 f fd ["pack", "numbers"] (spCall K C one0 fun s _ => EvS.fWeakest s) := by
  have GL : FnOk P w K mg base CX0 1 fL fdL ["amounts"] (spLF K) := ok_leastFirst FL T
  refine F.ok scWeakestF (fun vs H Q E h => ?_) (fun cdv A outer s H vs Q E hr h => ?_)
  · obtain ⟨p, a, s, ns, rfl, _⟩ := h
    rfl
  · obtain ⟨p, a, s, ns, rfl, hP, hS, hs, k⟩ := h
    obtain ⟨dx, rl, ll, hl, h1, h2, h3, h4, z⟩ := id hP
    refine ⟨_, pss_one (ps_ret (pe_call GL hr rfl gL FL.kp bL .nil pass0 (pa_cons (pe_fld (pv 0) rfl) pa_nil))), ?_⟩
    exact ⟨_, rfl, p, C, dx, _, _, rfl, h1, T.cl, T.nHeld, pf_held, hl, s.held, rfl, SqL.of h4, by have := hs.1; have := hs.2; omega, call_lst k hP (Same.refl _) rfl⟩
theorem scFullestF : FnScope ["pack", "numbers"] ["pack", "numbers"] (defScope sFullestF) := ⟨rfl, rfl, rfl, by decide +kernel, rfl, by decide +kernel, by decide +kernel⟩
theorem ok_fullestF {f C fL fM : Addr} {fd fdL fdM : FuncData} (F : Fun K "fullest" "fullest" sFullestF f fd) (T : Txt K mg C) (FL : Fun K "least_and_first" "least_and_first" sLeastFirst fL fdL) (bL : Binds K fdL ["amounts"] []) (gL : mg "least_and_first" = some (.ref fL))
    (GM : FnOk P w K mg base CX0 2 fM fdM ["self"] (spL C any0 PS.lacks)) (bM : Binds K fdM ["self"] []) (mM : Meth K C "lacks" fM) :
    FnOk P w K mg base CX0 3 f fd ["pack", "numbers"] (spCall K C one0 fun s _ => EvS.fFullest s) := by
  have GL : FnOk P w K mg base CX0 1 fL fdL ["amounts"] (spLF K) := ok_leastFirst FL T
  refine F.ok scFullestF (fun vs H Q E h => ?_) (fun cdv A outer s H vs Q E hr h => ?_)
  · obtain ⟨p, a, s, ns, rfl, _⟩ := h
    rfl
  · obtain ⟨p, a, s, ns, rfl, hP, hS, hs, k⟩ := h
    obtain ⟨dx, rl, ll, hl, h1, h2, h3, h4, z⟩ := id hP
    have hr1 := hr.mono (show 1 ≤ 2 by decide)
    refine ⟨_, pss_one (ps_ret (pe_call GL hr1 rfl gL FL.kp bL .nil pass0 (pa_cons (pe_meth0 (pv 0) T.cl mM GM hr bM .nil pass0) pa_nil))), ?_⟩
    exact ⟨_, rfl, p, dx, _, rfl, h1, pf_no (by decide +kernel), p, s, rfl, hP, trivial, fun H1 q sm1 hq hd1 => ⟨q, s.lacks, rfl, SqL.of hd1, some0_lacks hs, call_lst k (hP.same sm1) sm1 rfl⟩⟩
/-! days, when -/
theorem scDaysF : FnScope ["pack", "numbers", "n"] ["pack", "numbers"] (defScope sDaysF) := ⟨rfl, rfl, rfl, by decide +kernel, rfl, by decide +kernel, by decide +kernel⟩
theorem ok_daysF {f C fM : Addr} {fd fdM : FuncData} (F : Fun K "days" "days" sDaysF f fd) (T : Txt K mg C) (N : Nums mg) (GM : FnOk P w K mg base CX0 2 fM fdM ["self", "days"] (spLose C)) (bM : Binds K fdM ["self", "days"] []) (mM : Meth K C "lose" fM) :
    FnOk P w K mg base CX0 3 f fd ["pack", "numbers"] (spCall K C one1 fun s ns => EvS.fDays s (ns.getD 0 0)) := by
  refine F.ok scDaysF (fun vs H Q E h => ?_) (fun cdv A outer s H vs Q E hr h => ?_)
  · obtain ⟨p, a, s, ns, rfl, _⟩ := h
    rfl
  · obtain ⟨p, a, s, ns, rfl, hP, hS, ⟨hs, n, rfl⟩, k⟩ := h
    obtain ⟨dx, rl, ll, hl, h1, h2, h3, h4, z⟩ := id hP
    refine ⟨_, pss_cons (ps_set (i := 2) scDaysF.nd rfl (Or.inl rfl) (pe_ix ix_list (pv 1) pe_int (fun _ _ => rfl)))
      (pss_cons (ps_if (PW.pt (pw_or (pt_cmpR op_lt (pv 2) pe_int (nomark _)) (pw_or1 (pt_cmpR op_gt (pv 2) (pe_num N.days) (nomark _))))) (pss_one (ps_ret (pe_lst (pa_cons (pe_num N.m22) pa_nil)))) pss_nil)
      (pss_one (ps_ret (pe_lst (pa_cons (pe_meth (pv 0) T.cl mM GM hr bM .nil pass0 (pa_cons (pv 2) pa_nil)) pa_nil))))), ?_⟩
    refine ⟨_, rfl, a, vi [n], 0, _, rfl, rfl, hS, at0, _, rfl, _, _, rfl, rfl, _, rfl, ?_⟩
    by_cases c1 : n < 1
    · rw [decide_eq_true c1]
      refine iteT (iteT ⟨one_le, call_one k hP (Same.refl _) ?_⟩)
      show EvS.fDays s n = _
      unfold EvS.fDays
      rw [if_pos (.inl c1)]
    · rw [decide_eq_false c1]
      refine iteF ⟨_, rfl, _, _, rfl, rfl, _, rfl, ?_⟩
      by_cases c2 : (1000 : Int) < n
      · rw [decide_eq_true c2]
        refine iteT ⟨one_le, call_one k hP (Same.refl _) ?_⟩
        show EvS.fDays s n = _
        unfold EvS.fDays
        rw [if_pos (.inr c2)]
      · rw [decide_eq_false c2]
        refine iteF ⟨_, rfl, p, dx, _, rfl, h1, pf_no (by decide +kernel), _, rfl, p, s, n, rfl, hP, by omega, fun H4 hP4 fr4 => ⟨one_le, call_chg k h1 hP4 fr4 ?_⟩⟩
        show EvS.fDays s n = _
        unfold EvS.fDays
        rw [if_neg (by omega)]
theorem scWhenF : FnScope ["pack", "numbers", "till"] ["pack", "numbers"] (defScope sWhenF) := ⟨rfl, rfl, rfl, by decide +kernel, rfl, by decide +kernel, by decide +kernel⟩
theorem ok_whenF {f C fM : Addr} {fd fdM : FuncData} (F : Fun K "when" "when" sWhenF f fd) (T : Txt K mg C) (N : Nums mg) (GM : FnOk P w K mg base CX0 3 fM fdM ["self", "t", "limit"] (spTill C)) (bM : Binds K fdM ["self", "t", "limit"] []) (mM : Meth K C "days_till_below" fM) :
    FnOk P w K mg base CX0 4 f fd ["pack", "numbers"] (spCall K C when1 fun s ns => EvS.fWhen s (ns.getD 0 0)) := by
  refine F.ok scWhenF (fun vs H Q E h => ?_) (fun cdv A outer s H vs Q E hr h => ?_)
  · obtain ⟨p, a, s, ns, rfl, _⟩ := h
    rfl
  · obtain ⟨p, a, s, ns, rfl, hP, hS, ⟨hs, n, rfl⟩, k⟩ := h
    obtain ⟨dx, rl, ll, hl, h1, h2, h3, h4, z⟩ := id hP
    refine ⟨_, pss_cons (ps_set (i := 2) scWhenF.nd rfl (Or.inl rfl) (pe_meth (pv 0) T.cl mM GM hr bM .nil pass0 (pa_cons (pe_ix ix_list (pv 1) pe_int (fun _ _ => rfl)) (pa_cons (pe_num N.days) pa_nil))))
      (pss_cons (ps_if (pt_cmpR op_isN (pv 2) pe_non (nomark _)) (pss_one (ps_ret (pe_lst (pa_cons (pe_num N.m33) pa_nil)))) pss_nil)
      (pss_one (ps_ret (pe_lst (pa_cons (pv 2) pa_nil))))), ?_⟩
    refine ⟨_, rfl, p, dx, _, rfl, h1, pf_no (by decide +kernel), _, rfl, a, vi [n], 0, _, rfl, rfl, hS, at0, p, s, n, 1000, rfl, hP, hs, by decide, fun H1 sm1 => ?_⟩
    have ek : EvS.fWhen s n = (fun o : Option Nat => match o with | none => (s, [-33]) | some d => (s, [(d : Int)])) (s.till n 1000) := by
      unfold EvS.fWhen
      generalize s.till n 1000 = o
      cases o <;> rfl
    generalize s.till n 1000 = o at ek ⊢
    cases o with
    | none =>
      exact ⟨_, rfl, rfl, _, rfl, iteT ⟨one_le, call_one k (hP.same sm1) sm1 ek⟩⟩
    | some d =>
      exact ⟨_, rfl, rfl, _, rfl, iteF ⟨_, rfl, one_le, call_one k (hP.same sm1) sm1 ek⟩⟩
/-! swap, gain, best -/
theorem scSwapF : FnScope ["pack", "numbers", "group", "room", "holds"] ["pack", "numbers"] (defScope sSwapF) := ⟨rfl, rfl, rfl, by decide +kernel, rfl, by decide +kernel, by decide +kernel⟩
theorem ok_swapF {f C fM fG fR : Addr} {fd fdM fdG fdR : FuncData} (F : Fun K "swap" "swap" sSwapF f fd) (T : Txt K mg C) (N : Nums mg) (GM : FnOk P w K mg base CX0 1 fM fdM ["self", "group", "room", "holds"] (spSwap C)) (bM : Binds K fdM ["self", "group", "room", "holds"] []) (mM : Meth K C "swap" fM)
    (FG : Fun K "is_group" "is_group" sIsGroup fG fdG) (bG : Binds K fdG ["pack", "number"] []) (gG : mg "is_group" = some (.ref fG)) (FR : Fun K "is_room" "is_room" sIsRoom fR fdR) (bR : Binds K fdR ["number"] []) (gR : mg "is_room" = some (.ref fR)) :
    FnOk P w K mg base CX0 2 f fd ["pack", "numbers"] (spCall K C swap3 fun s ns => EvS.fSwap s (ns.getD 0 0) (ns.getD 1 0) (ns.getD 2 0)) := by
  have GG : FnOk P w K mg base CX0 1 fG fdG ["pack", "number"] (spIsGroup C) := ok_isGroup FG T
  have GR : FnOk P w K mg base CX0 1 fR fdR ["number"] spIsRoom := ok_isRoom FR N
  refine F.ok scSwapF (fun vs H Q E h => ?_) (fun cdv A outer s H vs Q E hr h => ?_)
  · obtain ⟨p, a, s, ns, rfl, _⟩ := h
    rfl
  · obtain ⟨p, a, s, ns, rfl, hP, hS, ⟨hs, g, c, h, rfl, hg⟩, k⟩ := h
    obtain ⟨dx, rl, ll, hl, h1, h2, h3, h4, z⟩ := id hP
    refine ⟨_, pss_cons (ps_set (i := 2) scSwapF.nd rfl (Or.inl rfl) (pe_ix ix_list (pv 1) pe_int (fun _ _ => rfl))) (pss_cons (ps_set (i := 3) scSwapF.nd rfl (Or.inl rfl) (pe_ix ix_list (pv 1) pe_int (fun _ _ => rfl))) (pss_cons (ps_set (i := 4) scSwapF.nd rfl (Or.inl rfl) (pe_ix ix_list (pv 1) pe_int (fun _ _ => rfl)))
      (pss_cons (ps_if (pt_not (pt_val (pe_call GG hr rfl gG FG.kp bG .nil pass0 (pa_cons (pv 0) (pa_cons (pv 2) pa_nil))))) (pss_one (ps_ret (pe_lst (pa_cons (pe_num N.m2) pa_nil)))) pss_nil)
      (pss_cons (ps_if (PW.pt (pw_or (pt_not (pt_val (pe_call GR hr rfl gR FR.kp bR .nil pass0 (pa_cons (pv 3) pa_nil)))) (pw_or1 (pt_cmpR op_gt (pv 4) (pv 3) (nomark _))))) (pss_one (ps_ret (pe_lst (pa_cons (pe_num N.m22) pa_nil)))) pss_nil)
      (pss_one (ps_ret (pe_lst (pa_cons (pe_meth (pv 0) T.cl mM GM hr bM .nil pass0 (pa_cons (pv 2) (pa_cons (pv 3) (pa_cons (pv 4) pa_nil)))) pa_nil)))))))), ?_⟩
    refine ⟨_, rfl, a, vi [g, c, h], 0, _, rfl, rfl, hS, at0, ?_⟩
    refine ⟨_, rfl, a, vi [g, c, h], 1, _, rfl, rfl, hS, at1, ?_⟩
    refine ⟨_, rfl, a, vi [g, c, h], 2, _, rfl, rfl, hS, at2, ?_⟩
    refine ⟨_, rfl, _, rfl, p, s, g, rfl, hP, _, rfl, ?_⟩
    by_cases c1 : (s.rooms.length : Int) ≤ g
    · rw [decide_eq_false (show ¬ g < (s.rooms.length : Int) by omega)]
      refine iteT ⟨one_le, call_one k hP (Same.refl _) ?_⟩
      show EvS.fSwap s g c h = _
      unfold EvS.fSwap
      rw [if_pos c1]
    · rw [decide_eq_true (show g < (s.rooms.length : Int) by omega)]
      refine iteF ⟨_, rfl, c, rfl, _, rfl, ?_⟩
      cases c2 : EvS.isRoom c with
      | false =>
        refine iteT (iteT ⟨one_le, call_one k hP (Same.refl _) ?_⟩)
        show EvS.fSwap s g c h = _
        unfold EvS.fSwap
        rw [if_neg (by omega), c2, if_pos (.inl rfl)]
      | true =>
        refine iteF ⟨_, rfl, _, rfl, _, _, rfl, rfl, _, rfl, ?_⟩
        by_cases c3 : c < h
        · rw [decide_eq_true c3]
          refine iteT ⟨one_le, call_one k hP (Same.refl _) ?_⟩
          show EvS.fSwap s g c h = _
          unfold EvS.fSwap
          rw [if_neg (by omega), if_pos (.inr c3)]
        · rw [decide_eq_false c3]
          refine iteF ⟨_, rfl, p, dx, _, rfl, h1, pf_no (by decide +kernel), _, rfl, _, rfl, _, rfl, p, s, g, c, h, rfl, hP, hs, hg, by omega, fun H4 hP4 fr4 => ⟨one_le, call_frc k hP4 fr4 ?_⟩⟩
          show EvS.fSwap s g c h = _
          unfold EvS.fSwap
          rw [if_neg (by omega), c2, if_neg (by rintro (q | q); exact absurd q (by decide); exact c3 q)]
theorem scGainF : FnScope ["pack", "numbers", "group", "room"] ["pack", "numbers"] (defScope sGainF) := ⟨rfl, rfl, rfl, by decide +kernel, rfl, by decide +kernel, by decide +kernel⟩
theorem ok_gainF {f C fM fW fG fR : Addr} {fd fdM fdW fdG fdR : FuncData} (F : Fun K "gain" "gain" sGainF f fd) (T : Txt K mg C) (N : Nums mg) (FM : Fun K "most" "Pack.most" sMost fM fdM) (bM : Binds K fdM ["self"] []) (mM : Meth K C "most" fM)
    (FW : Fun K "most_with" "Pack.most_with" sMostW fW fdW) (bW : Binds K fdW ["self", "group", "room"] []) (mW : Meth K C "most_with" fW)
    (FG : Fun K "is_group" "is_group" sIsGroup fG fdG) (bG : Binds K fdG ["pack", "number"] []) (gG : mg "is_group" = some (.ref fG)) (FR : Fun K "is_room" "is_room" sIsRoom fR fdR) (bR : Binds K fdR ["number"] []) (gR : mg "is_room" = some (.ref fR)) :
    FnOk P w K mg base CX0 2 f fd ["pack", "numbers"] (spCall K C two2 fun s ns => EvS.fGain s (ns.getD 0 0) (ns.getD 1 0)) := by
  have GG : FnOk P w K mg base CX0 1 fG fdG ["pack", "number"] (spIsGroup C) := ok_isGroup FG T
  have GR : FnOk P w K mg base CX0 1 fR fdR ["number"] spIsRoom := ok_isRoom FR N
  have GM : FnOk P w K mg base CX0 1 fM fdM ["self"] (spI C some0 PS.most) := ok_most FM T
  have GW : FnOk P w K mg base CX0 1 fW fdW ["self", "group", "room"] (spI2 C some0 PS.mostW) := ok_mostW FW T
  refine F.ok scGainF (fun vs H Q E h => ?_) (fun cdv A outer s H vs Q E hr h => ?_)
  · obtain ⟨p, a, s, ns, rfl, _⟩ := h
    rfl
  · obtain ⟨p, a, s, ns, rfl, hP, hS, ⟨hs, g, c, rfl, hg⟩, k⟩ := h
    obtain ⟨dx, rl, ll, hl, h1, h2, h3, h4, z⟩ := id hP
    refine ⟨_, pss_cons (ps_set (i := 2) scGainF.nd rfl (Or.inl rfl) (pe_ix ix_list (pv 1) pe_int (fun _ _ => rfl))) (pss_cons (ps_set (i := 3) scGainF.nd rfl (Or.inl rfl) (pe_ix ix_list (pv 1) pe_int (fun _ _ => rfl)))
      (pss_cons (ps_if (pt_not (pt_val (pe_call GG hr rfl gG FG.kp bG .nil pass0 (pa_cons (pv 0) (pa_cons (pv 2) pa_nil))))) (pss_one (ps_ret (pe_lst (pa_cons (pe_num N.m2) pa_nil)))) pss_nil)
      (pss_cons (ps_if (pt_not (pt_val (pe_call GR hr rfl gR FR.kp bR .nil pass0 (pa_cons (pv 3) pa_nil)))) (pss_one (ps_ret (pe_lst (pa_cons (pe_num N.m22) pa_nil)))) pss_nil)
      (pss_one (ps_ret (pe_lst (pa_cons (pe_op op_sub (pe_meth (pv 0) T.cl mW GW hr bW .nil pass0 (pa_cons (pv 2) (pa_cons (pv 3) pa_nil))) (pe_meth0 (pv 0) T.cl mM GM hr bM .nil pass0)) pa_nil))))))), ?_⟩
    refine ⟨_, rfl, a, vi [g, c], 0, _, rfl, rfl, hS, at0, ?_⟩
    refine ⟨_, rfl, a, vi [g, c], 1, _, rfl, rfl, hS, at1, ?_⟩
    refine ⟨_, rfl, _, rfl, p, s, g, rfl, hP, _, rfl, ?_⟩
    by_cases c1 : (s.rooms.length : Int) ≤ g
    · rw [decide_eq_false (show ¬ g < (s.rooms.length : Int) by omega)]
      refine iteT ⟨one_le, call_one k hP (Same.refl _) ?_⟩
      show EvS.fGain s g c = _
      unfold EvS.fGain
      rw [if_pos c1]
    · rw [decide_eq_true (show g < (s.rooms.length : Int) by omega)]
      refine iteF ⟨_, rfl, c, rfl, _, rfl, ?_⟩
      cases c2 : EvS.isRoom c with
      | false =>
        refine iteT ⟨one_le, call_one k hP (Same.refl _) ?_⟩
        show EvS.fGain s g c = _
        unfold EvS.fGain
        rw [if_neg (by omega), c2, if_pos (by decide)]
      | true =>
        refine iteF ⟨_, rfl, p, dx, _, rfl, h1, pf_no (by decide +kernel), _, rfl, _, rfl, p, s, g, c, rfl, hP, hs, fun H1 sm1 => ?_⟩
        refine ⟨_, rfl, p, dx, _, rfl, sm1 _ _ h1, pf_no (by decide +kernel), p, s, rfl, hP.same sm1, hs, fun H2 sm2 => ⟨_, _, rfl, rfl, one_le, call_one k (hP.same (sm1.trans sm2)) (sm1.trans sm2) ?_⟩⟩
        show EvS.fGain s g c = _
        unfold EvS.fGain
        rw [if_neg (by omega), c2, if_neg (by decide)]
theorem scBestF : FnScope ["pack", "numbers", "room", "mosts", "group"] ["pack", "numbers"] (defScope sBestF) := ⟨rfl, rfl, rfl, by decide +kernel, rfl, by decide +kernel, by decide +kernel⟩
theorem ok_bestF {f C fM fW fR : Addr} {fd fdM fdW fdR : FuncData} (F : Fun K "best" "best" sBestF f fd) (T : Txt K mg C) (N : Nums mg) (FM : Fun K "most" "Pack.most" sMost fM fdM) (bM : Binds K fdM ["self"] []) (mM : Meth K C "most" fM)
    (FW : Fun K "most_with" "Pack.most_with" sMostW fW fdW) (bW : Binds K fdW ["self", "group", "room"] []) (mW : Meth K C "most_with" fW)
    (FR : Fun K "is_room" "is_room" sIsRoom fR fdR) (bR : Binds K fdR ["number"] []) (gR : mg "is_room" = some (.ref fR)) :
    FnOk P w K mg base CX0 2 f fd ["pack", "numbers"] (spCall K C one1 fun s ns => EvS.fBest s (ns.getD 0 0)) := by
  have GR : FnOk P w K mg base CX0 1 fR fdR ["number"] spIsRoom := ok_isRoom FR N
  have GM : FnOk P w K mg base CX0 1 fM fdM ["self"] (spI C some0 PS.most) := ok_most FM T
  have GW : FnOk P w K mg base CX0 1 fW fdW ["self", "group", "room"] (spI2 C some0 PS.mostW) := ok_mostW FW T
  refine F.ok scBestF (fun vs H Q E h => ?_) (fun cdv A outer s H vs Q E hr h => ?_)
  · obtain ⟨p, a, s, ns, rfl, _⟩ := h
    rfl
  · obtain ⟨p, a, s, ns, rfl, hP, hS, ⟨hs, c, rfl⟩, k⟩ := h
    obtain ⟨dx, rl, ll, hl, h1, h2, h3, h4, z⟩ := id hP
    refine ⟨_, pss_cons (ps_set (i := 2) scBestF.nd rfl (Or.inr rfl) (pe_ix ix_list (pv 1) pe_int (fun _ _ => rfl)))
      (pss_cons (ps_if (pt_not (pt_val (pe_call GR hr rfl gR FR.kp bR .nil pass0 (pa_cons (pv 2) pa_nil)))) (pss_one (ps_ret (pe_lst (pa_cons (pe_num N.m22) pa_nil)))) pss_nil)
      (pss_cons (ps_lcr (k := 3) (i := 4) scBestF.nd rfl rfl T.range (pe_callB call_len_seq rfl T.len PySem.boot_len (pa_cons (pe_fld (pv 0) rfl) pa_nil)) rfl (fun _ _ _ _ _ => pe_meth (pv 0) T.cl mW GW hr bW .nil pass0 (pa_cons (pv 4) (pa_cons (pv 2) pa_nil))))
      (pss_cons (ps_if (pt_cmpR op_le (pe_callB (cr_max rfl) rfl T.max boot_max (pa_cons (pv 3) pa_nil)) (pe_meth0 (pv 0) T.cl mM GM hr bM .nil pass0) (nomark _)) (pss_one (ps_ret (pe_lst (pa_cons (pe_num N.m33) pa_nil)))) pss_nil)
      (pss_one (ps_ret (pe_lst (pa_cons (pe_bm PySem.F.plainAttrs_list PySem.F.slot_list_index PySem.F.type_list_index mt_index (pv 3) (pa_cons (pe_callB (cr_max rfl) rfl T.max boot_max (pa_cons (pv 3) pa_nil)) pa_nil)) (pa_cons (pe_callB (cr_max rfl) rfl T.max boot_max (pa_cons (pv 3) pa_nil)) pa_nil)))))))), ?_⟩
    refine ⟨_, rfl, a, vi [c], 0, _, rfl, rfl, hS, at0, ?_⟩
    refine ⟨_, rfl, c, rfl, _, rfl, ?_⟩
    cases c2 : EvS.isRoom c with
    | false =>
      refine iteT ⟨one_le, call_one k hP (Same.refl _) ?_⟩
      show EvS.fBest s c = _
      unfold EvS.fBest
      rw [c2, if_pos (by decide)]
    | true =>
      refine iteF ⟨_, rfl, p, C, dx, _, _, rfl, h1, T.cl, T.nRooms, pf_rooms, rl, vi s.rooms, rfl, .inl (SqL.of h2), _, rfl, ?_, ?_, fun D hD => lcrS (fun (j : Nat) => .int (s.mostW (j : Int) c)) hD ?_ (fun _ => rfl) (fun j H' Q' hj sm q => ?_) (fun H3 sm3 hd3 => ?_)⟩
      · omega
      · rw [List.length_map]; have := z.1; omega
      · rw [List.length_map]; have := z.1; omega
      · have e0 : (0 : Int) + (j : Int) = (j : Int) := by omega
        rw [e0]
        exact ⟨_, rfl, p, dx, _, rfl, sm _ _ h1, pf_no (by decide +kernel), _, rfl, _, rfl, p, s, (j : Int), c, rfl, hP.same sm, hs, q⟩
      have e1 : ((((vi s.rooms).length : Nat) : Int)).toNat = s.rooms.length := by rw [List.length_map]; omega
      have hd3 : H3 D = some (.lst (vi (s.mosts c))) := by
        rw [hd3, e1]
        refine congrArg (fun z => some (HO.lst z)) ?_
        unfold PS.mosts vi
        rw [List.map_map]
        rfl
      have hlen : 0 < (s.mosts c).length := by
        unfold PS.mosts
        rw [List.length_map, List.length_range]
        exact hs.1
      refine ⟨_, rfl, D, s.mosts c, rfl, SqL.of hd3, hlen, fun m hm hmax => ?_⟩
      have em := EvM.maxI_is hm hmax
      subst em
      refine ⟨_, rfl, p, dx, _, rfl, sm3 _ _ h1, pf_no (by decide +kernel), p, s, rfl, hP.same sm3, hs, fun H4 sm4 => ⟨_, _, rfl, rfl, _, rfl, ?_⟩⟩
      have sm := sm3.trans sm4
      by_cases c3 : maxI (s.mosts c) ≤ s.most
      · rw [decide_eq_true c3]
        refine iteT ⟨one_le, call_one k (hP.same sm) sm ?_⟩
        show EvS.fBest s c = _
        unfold EvS.fBest
        rw [c2, if_neg (by decide), if_pos c3]
      · rw [decide_eq_false c3]
        have hd4 := sm4 _ _ hd3
        obtain ⟨i1, i2⟩ := index_vi hm
        refine iteF ⟨_, rfl, .inl ⟨rfl, _, SqL.of hd4⟩, _, rfl, D, s.mosts c, rfl, SqL.of hd4, hlen, fun m hm hmax => ?_⟩
        have em := EvM.maxI_is hm hmax
        subst em
        refine ⟨D, vi (s.mosts c), .int (maxI (s.mosts c)), _, _, rfl, rfl, SqL.of hd4, rfl, flat_vi _, i1, beq_self_eq_true _, i2, ?_⟩
        refine ⟨_, rfl, D, s.mosts c, rfl, SqL.of hd4, hlen, fun m hm hmax => ?_⟩
        have em := EvM.maxI_is hm hmax
        subst em
        refine ⟨two_le, call_lst (l := [(EvS.idxI (s.mosts c) (maxI (s.mosts c)) : Int), maxI (s.mosts c)]) k (hP.same sm) sm ?_⟩
        show EvS.fBest s c = _
        unfold EvS.fBest
        rw [c2, if_neg (by decide), if_neg c3]
/-! units, look, state -/
theorem scUnitsF : FnScope ["pack", "numbers"] ["pack", "numbers"] (defScope sUnitsF) := ⟨rfl, rfl, rfl, by decide +kernel, rfl, by decide +kernel, by decide +kernel⟩
theorem ok_unitsF {f C fM : Addr} {fd fdM : FuncData} (F : Fun K "units" "units" sUnitsF f fd) (T : Txt K mg C) (GM : FnOk P w K mg base CX0 1 fM fdM ["self"] (spL C any0 unitsL)) (bM : Binds K fdM ["self"] []) (mM : Meth K C "units" fM) :
    FnOk P w K mg base CX0 2 f fd ["pack", "numbers"] (spCall K C one0 fun s _ => EvS.fUnits s) := by
  refine F.ok scUnitsF (fun vs H Q E h => ?_) (fun cdv A outer s H vs Q E hr h => ?_)
  · obtain ⟨p, a, s, ns, rfl, _⟩ := h
    rfl
  · obtain ⟨p, a, s, ns, rfl, hP, hS, hs, k⟩ := h
    obtain ⟨dx, rl, ll, hl, h1, h2, h3, h4, z⟩ := id hP
    refine ⟨_, pss_one (ps_ret (pe_meth0 (pv 0) T.cl mM GM hr bM .nil pass0)), ?_⟩
    exact ⟨_, rfl, p, dx, _, rfl, h1, pf_no (by decide +kernel), p, s, rfl, hP, trivial, fun H1 q sm1 hq hd1 => k H1 q (hP.same sm1) (Frc.of_same sm1) hq hd1⟩
theorem scLookF : FnScope ["pack", "numbers", "group"] ["pack", "numbers"] (defScope sLookF) := ⟨rfl, rfl, rfl, by decide +kernel, rfl, by decide +kernel, by decide +kernel⟩
theorem ok_lookF {f C fG : Addr} {fd fdG : FuncData} (F : Fun K "look" "look" sLookF f fd) (T : Txt K mg C) (N : Nums mg) (FG : Fun K "is_group" "is_group" sIsGroup fG fdG) (bG : Binds K fdG ["pack", "number"] []) (gG : mg "is_group" = some (.ref fG)) :
    FnOk P w K mg base CX0 2 f fd ["pack", "numbers"] (spCall K C look1 fun s ns => EvS.fLook s (ns.getD 0 0)) := by
  have GG : FnOk P w K mg base CX0 1 fG fdG ["pack", "number"] (spIsGroup C) := ok_isGroup FG T
  refine F.ok scLookF (fun vs H Q E h => ?_) (fun cdv A outer s H vs Q E hr h => ?_)
  · obtain ⟨p, a, s, ns, rfl, _⟩ := h
    rfl
  · obtain ⟨p, a, s, ns, rfl, hP, hS, ⟨hs, g, rfl, hg⟩, k⟩ := h
    obtain ⟨dx, rl, ll, hl, h1, h2, h3, h4, z⟩ := id hP
    refine ⟨_, pss_cons (ps_set (i := 2) scLookF.nd rfl (Or.inl rfl) (pe_ix ix_list (pv 1) pe_int (fun _ _ => rfl)))
      (pss_cons (ps_if (pt_not (pt_val (pe_call GG hr rfl gG FG.kp bG .nil pass0 (pa_cons (pv 0) (pa_cons (pv 2) pa_nil))))) (pss_one (ps_ret (pe_lst (pa_cons (pe_num N.m2) pa_nil)))) pss_nil)
      (pss_one (ps_ret (pe_lst (pa_cons (pe_ix ix_list (pe_fld (pv 0) rfl) (pv 2) (fun _ _ => rfl)) (pa_cons (pe_ix ix_list (pe_fld (pv 0) rfl) (pv 2) (fun _ _ => rfl)) (pa_cons (pe_ix ix_list (pe_fld (pv 0) rfl) (pv 2) (fun _ _ => rfl)) pa_nil))))))), ?_⟩
    refine ⟨_, rfl, a, vi [g], 0, _, rfl, rfl, hS, at0, ?_⟩
    refine ⟨_, rfl, _, rfl, p, s, g, rfl, hP, _, rfl, ?_⟩
    by_cases c1 : (s.rooms.length : Int) ≤ g
    · rw [decide_eq_false (show ¬ g < (s.rooms.length : Int) by omega)]
      refine iteT ⟨one_le, call_one k hP (Same.refl _) ?_⟩
      show EvS.fLook s g = _
      unfold EvS.fLook
      rw [if_pos c1]
    · rw [decide_eq_true (show g < (s.rooms.length : Int) by omega)]
      have e1 := hs.1.2
      have e2 := hs.2
      refine iteF ⟨_, rfl, p, C, dx, _, _, rfl, h1, T.cl, T.nHeld, pf_held, _, rfl, hl, vi s.held, g, _, rfl, rfl, SqL.of h4, at_int hg (by omega), ?_⟩
      refine ⟨_, rfl, p, C, dx, _, _, rfl, h1, T.cl, T.nRooms, pf_rooms, _, rfl, rl, vi s.rooms, g, _, rfl, rfl, SqL.of h2, at_int hg (by omega), ?_⟩
      refine ⟨_, rfl, p, C, dx, _, _, rfl, h1, T.cl, T.nLeaks, pf_leaks, _, rfl, ll, vi s.leaks, g, _, rfl, rfl, SqL.of h3, at_int hg (by omega), three_le, call_lst (l := [s.held.getD g.toNat 0, s.rooms.getD g.toNat 0, s.leaks.getD g.toNat 0]) k hP (Same.refl _) ?_⟩
      show EvS.fLook s g = _
      unfold EvS.fLook
      rw [if_neg c1]
theorem scStateF : FnScope ["pack", "numbers"] ["pack", "numbers"] (defScope sStateF) := ⟨rfl, rfl, rfl, by decide +kernel, rfl, by decide +kernel, by decide +kernel⟩
theorem ok_stateF {f C fG fM : Addr} {fd fdG fdM : FuncData} (F : Fun K "state" "state" sStateF f fd) (T : Txt K mg C) (GG : FnOk P w K mg base CX0 3 fG fdG ["self"] (spI C some0 PS.gives)) (bG : Binds K fdG ["self"] []) (mG : Meth K C "gives" fG)
    (FM : Fun K "most" "Pack.most" sMost fM fdM) (bM : Binds K fdM ["self"] []) (mM : Meth K C "most" fM) :
    FnOk P w K mg base CX0 4 f fd ["pack", "numbers"] (spCall K C one0 fun s _ => EvS.fState s) := by
  have GM : FnOk P w K mg base CX0 1 fM fdM ["self"] (spI C some0 PS.most) := ok_most FM T
  refine F.ok scStateF (fun vs H Q E h => ?_) (fun cdv A outer s H vs Q E hr h => ?_)
  · obtain ⟨p, a, s, ns, rfl, _⟩ := h
    rfl
  · obtain ⟨p, a, s, ns, rfl, hP, hS, hs, k⟩ := h
    obtain ⟨dx, rl, ll, hl, h1, h2, h3, h4, z⟩ := id hP
    have hr1 := hr.mono (show 1 ≤ 3 by decide)
    refine ⟨_, pss_one (ps_ret (pe_lst (pa_cons (pe_callB call_len_seq rfl T.len PySem.boot_len (pa_cons (pe_fld (pv 0) rfl) pa_nil)) (pa_cons (pe_meth0 (pv 0) T.cl mG GG hr bG .nil pass0) (pa_cons (pe_meth0 (pv 0) T.cl mM GM hr1 bM .nil pass0) pa_nil))))), ?_⟩
    refine ⟨_, rfl, p, C, dx, _, _, rfl, h1, T.cl, T.nRooms, pf_rooms, rl, vi s.rooms, rfl, .inl (SqL.of h2), ?_⟩
    refine ⟨_, rfl, p, dx, _, rfl, h1, pf_no (by decide +kernel), p, s, rfl, hP, hs, fun H1 sm1 => ?_⟩
    refine ⟨_, rfl, p, dx, _, rfl, sm1 _ _ h1, pf_no (by decide +kernel), p, s, rfl, hP.same sm1, hs, fun H2 sm2 => ⟨three_le, call_lst (l := [(((vi s.rooms).length : Nat) : Int), s.gives, s.most]) k (hP.same (sm1.trans sm2)) (sm1.trans sm2) ?_⟩⟩
    show EvS.fState s = _
    unfold EvS.fState
    rw [List.length_map]
end
end EvC

set_option Elab.async false
set_option linter.all false
set_option maxRecDepth 100000
set_option maxHeartbeats 2000000
/-! answer: the call is found in the module's table and answered. -/
namespace EvC
open PySem PySem.Spec PyProof.Rows L2
open EvS (PS)
abbrev sAnswer : Stmt := top 44
abbrev sAnswers : Stmt := top 45
abbrev FT := Int → PS → List Int → PS × List Int
abbrev PT' := Int → PS → List Int → Prop
def fAns (F : FT) (s : PS) (i : Int) (ns : List Int) : PS × List Int := if ¬ i = 0 ∧ ¬ (0 : Int) < (s.rooms.length : Int) then (s, [-11]) else F i s ns
def okCall (Pr : PT') (i : Int) (s : PS) (ns : List Int) : Prop := (¬ i = 0 ∧ ¬ (0 : Int) < (s.rooms.length : Int)) ∨ ((i = 0 ∨ (0 : Int) < (s.rooms.length : Int)) ∧ Pr i s ns)
section
variable {P : Program} {w : World} {K : PySem.W.Frag} {mg : Str → Option Value} {base : Heap}
/-- the i-th call's def stands in the table, and keeps its promise -/
def Entry (P : Program) (w : World) (K : PySem.W.Frag) (mg : Str → Option Value) (base : Heap) (C : Addr) (es : Array DictEntry) (i : Int) (pre : PS → List Int → Prop) (f : PS → List Int → PS × List Int) : Prop :=
  ∃ (fa : Addr) (fd : FuncData) (ps : List Str), dAt es i = some (.ref fa) ∧ FnOk P w K mg base CX0 5 fa fd ps (spCall K C pre f) ∧ Binds K fd ps [] ∧ PySem.W.keepIn K (.ref fa) = true
def spAnswer (K : PySem.W.Frag) (C : Addr) (F : FT) (Pr : PT') : Sp := fun vs H Q _ => ∃ p a s i ns, vs = [.ref p, .int i, .ref a] ∧ PackAt C H p s ∧ SqL K H a (vi ns) ∧ okCall Pr i s ns ∧
  ∀ H' q, PackAt C H' p (fAns F s i ns).1 → Frc H H' → H q = none → H' q = some (.lst (vi (fAns F s i ns).2)) → Q (.ref q) H'
theorem scAnswer : FnScope ["pack", "call", "numbers", "answered_by"] ["pack", "call", "numbers"] (defScope sAnswer) := ⟨rfl, rfl, rfl, by decide +kernel, rfl, by decide +kernel, by decide +kernel⟩
theorem ok_answer {f C fS d : Addr} {fd fdS : FuncData} {es : Array DictEntry} {FF : FT} {Pr : PT'} (F : Fun K "answer" "answer" sAnswer f fd) (T : Txt K mg C) (N : Nums mg) (FS : Fun K "started" "Pack.started" sStarted fS fdS) (bS : Binds K fdS ["self"] []) (mS : Meth K C "started" fS)
    (gD : mg "ANSWERED_BY" = some (.ref d)) (D : DicK K d es) (hE : ∀ i s ns, Pr i s ns → Entry P w K mg base C es i (Pr i) (FF i)) : FnOk P w K mg base CX0 6 f fd ["pack", "call", "numbers"] (spAnswer K C FF Pr) := by
  have GS : FnOk P w K mg base CX0 1 fS fdS ["self"] (spStarted C) := ok_started FS T
  refine F.ok scAnswer (fun vs H Q E h => ?_) (fun cdv A outer s H vs Q E hr h => ?_)
  · obtain ⟨p, a, s, i, ns, rfl, _⟩ := h
    rfl
  · obtain ⟨p, a, s, i, ns, rfl, hP, hS, ho, k⟩ := h
    obtain ⟨dx, rl, ll, hl, h1, h2, h3, h4, z⟩ := id hP
    have hr1 := hr.mono (show 1 ≤ 5 by decide)
    refine ⟨_, pss_cons (ps_if (PW.pt (pw_and (pt_cmpR op_ne (pv 1) (pe_num N.c0) (nomark _)) (pw_and1 (pt_not (pt_val (pe_meth0 (pv 0) T.cl mS GS hr1 bS .nil pass0)))))) (pss_one (ps_ret (pe_lst (pa_cons (pe_num N.m11) pa_nil)))) pss_nil)
      (pss_cons (ps_set (i := 3) scAnswer.nd rfl (Or.inl rfl) (pe_dgetK (pe_glob (v := .ref d) rfl gD rfl) (pv 1) (fun _ _ => rfl)))
      (pss_one (ps_ret (pe_callV (i := 3) pass0 rfl (Or.inl rfl) (pa_cons (pv 0) (pa_cons (pv 2) pa_nil)))))), ?_⟩
    have hgo : (i = 0 ∨ (0 : Int) < (s.rooms.length : Int)) → fAns FF s i ns = FF i s ns ∧ Pr i s ns := fun c => by
      refine ⟨by unfold fAns; rw [if_neg (by omega)], ?_⟩
      rcases ho with q | q
      · omega
      · exact q.2
    by_cases c0 : i = 0
    · obtain ⟨e, pr⟩ := hgo (.inl c0)
      rw [e] at k
      obtain ⟨fa, fda, psa, hd, FA, ba, ka⟩ := hE i s ns pr
      refine ⟨_, rfl, rfl, _, rfl, ?_⟩
      rw [ne_int, decide_eq_true c0]
      exact iteF (iteF ⟨_, rfl, d, es, i, .ref fa, _, rfl, rfl, D, hd, rfl, fa, rfl, ka, _, rfl, _, rfl, 5, fda, psa, _, FA, hr, ba, p, a, s, ns, rfl, hP, hS, pr, k⟩)
    · refine ⟨_, rfl, rfl, _, rfl, ?_⟩
      rw [ne_int, decide_eq_false c0]
      refine iteT ⟨_, rfl, p, dx, _, rfl, h1, pf_no (by decide +kernel), p, s, rfl, hP, _, rfl, ?_⟩
      by_cases c1 : (0 : Int) < (s.rooms.length : Int)
      · obtain ⟨e, pr⟩ := hgo (.inr c1)
        rw [e] at k
        obtain ⟨fa, fda, psa, hd, FA, ba, ka⟩ := hE i s ns pr
        rw [decide_eq_true c1]
        exact iteF ⟨_, rfl, d, es, i, .ref fa, _, rfl, rfl, D, hd, rfl, fa, rfl, ka, _, rfl, _, rfl, 5, fda, psa, _, FA, hr, ba, p, a, s, ns, rfl, hP, hS, pr, k⟩
      · rw [decide_eq_false c1]
        refine iteT ⟨one_le, call_one k hP (Same.refl _) ?_⟩
        unfold fAns
        rw [if_pos ⟨c0, c1⟩]
end
end EvC

set_option Elab.async false
set_option linter.all false
set_option maxRecDepth 100000
set_option maxHeartbeats 4000000
/-! answers: the loop over the calls. -/
namespace EvC
open PySem PySem.Spec PyProof.Rows L2
open EvS (PS)
open EvP (enc Call1 run told num32)
def headOf : List (List Int) → Int
  | (p :: _) :: _ => p
  | _ => 0
def numsOf : List (List Int) → List Int
  | [_, r] => r
  | [_ :: xs] => xs
  | _ => []
def Row (i : Int) : Prop := i = 0 ∨ i = 1 ∨ i = 2
instance rowDec (i : Int) : Decidable (Row i) := inferInstanceAs (Decidable (i = 0 ∨ i = 1 ∨ i = 2))
/-- a call, its row or its numbers written out -/
theorem call_forms {c : List (List Int)} (h : Call1 c) : (Row (headOf c) ∧ enc c = headOf c :: ((numsOf c).length : Int) :: numsOf c) ∨ (¬ Row (headOf c) ∧ enc c = headOf c :: numsOf c) := by
  cases h with
  | row p r hp _ _ => exact .inl ⟨hp, by show [p] ++ ((r.length : Int) :: r ++ []) = _; rw [List.append_nil]; rfl⟩
  | n0 p hp => exact .inr ⟨by show ¬ (p = 0 ∨ p = 1 ∨ p = 2); omega, rfl⟩
  | n1 p a hp _ => exact .inr ⟨by show ¬ (p = 0 ∨ p = 1 ∨ p = 2); omega, rfl⟩
  | n2 p a b hp _ _ => exact .inr ⟨by show ¬ (p = 0 ∨ p = 1 ∨ p = 2); omega, rfl⟩
  | n3 p a b c hp _ _ _ => exact .inr ⟨by show ¬ (p = 0 ∨ p = 1 ∨ p = 2); omega, rfl⟩
theorem cut_vi {A ns B : List Int} {i j : Int} (hi : i = (A.length : Int)) (hj : j = i + (ns.length : Int)) : cutV (vi (A ++ ns ++ B)) (some i) (some j) = vi ns := by
  unfold cutV
  have ej : j = ((A.length + ns.length : Nat) : Int) := by omega
  have hlen : (vi (A ++ ns ++ B)).length = A.length + ns.length + B.length := by
    rw [List.length_map, List.length_append, List.length_append]
  rw [hi, ej, HT.sIx_nat, HT.sIx_nat, hlen]
  have e1 : min A.length (A.length + ns.length + B.length) = A.length := by omega
  have e2 : min (A.length + ns.length) (A.length + ns.length + B.length) - A.length = ns.length := by omega
  rw [e1, e2]
  unfold vi
  rw [← List.map_drop, ← List.map_take, List.append_assoc, List.drop_left', List.take_left']
  · rfl
  · rfl
theorem at_app {A B : List Int} {x i : Int} (hi : i = (A.length : Int)) : atI (vi (A ++ x :: B)) i = some (V.int x) := by
  refine at_of (j := A.length) hi ?_
  rw [List.getElem?_map, List.getElem?_append_right (Nat.le_refl _), Nat.sub_self]
  rfl
/-- the pack, its lists apart from g -/
def PackNe (C : Addr) (H : Hp) (p : Addr) (s : PS) (g : Addr) : Prop := ∃ dx rl ll hl, H p = some (.ins C dx (pf rl ll hl s.put s.filled s.drawn s.bled s.leaked)) ∧ H rl = some (.lst (vi s.rooms)) ∧ H ll = some (.lst (vi s.leaks)) ∧ H hl = some (.lst (vi s.held)) ∧
  (s.rooms.length ≤ 60 ∧ s.leaks.length ≤ 60 ∧ s.held.length ≤ 60 ∧ rl ≠ ll ∧ rl ≠ hl ∧ ll ≠ hl) ∧ rl ≠ g ∧ ll ≠ g ∧ hl ≠ g ∧ p ≠ g
theorem PackNe.at {C : Addr} {H : Hp} {p g : Addr} {s : PS} (h : PackNe C H p s g) : PackAt C H p s := by
  obtain ⟨dx, rl, ll, hl, h1, h2, h3, h4, z, _⟩ := h
  exact ⟨dx, rl, ll, hl, h1, h2, h3, h4, z⟩
theorem PackNe.ne {C : Addr} {H : Hp} {p g : Addr} {s : PS} (h : PackNe C H p s g) : p ≠ g := by
  obtain ⟨dx, rl, ll, hl, h1, h2, h3, h4, z, _, _, _, q⟩ := h
  exact q
theorem PackNe.upd {C : Addr} {H : Hp} {p g : Addr} {s : PS} {o : HO} (h : PackNe C H p s g) : PackNe C (L2.upd H g o) p s g := by
  obtain ⟨dx, rl, ll, hl, h1, h2, h3, h4, z, n1, n2, n3, n4⟩ := h
  exact ⟨dx, rl, ll, hl, by rw [upd_ne n4]; exact h1, by rw [upd_ne n1]; exact h2, by rw [upd_ne n2]; exact h3, by rw [upd_ne n3]; exact h4, z, n1, n2, n3, n4⟩
theorem PackNe.of_frz {C : Addr} {H : Hp} {p g : Addr} {s : PS} {o : Obj} {u : HO} (h : PackAt C H p s) (hg : H g = some (.frz o u)) : PackNe C H p s g := by
  obtain ⟨dx, rl, ll, hl, h1, h2, h3, h4, z⟩ := h
  exact ⟨dx, rl, ll, hl, h1, h2, h3, h4, z, ne_of h2 hg (by intro z; cases z), ne_of h3 hg (by intro z; cases z), ne_of h4 hg (by intro z; cases z), ne_of h1 hg (by intro z; cases z)⟩
theorem PackNe.of_new {C : Addr} {H : Hp} {p g : Addr} {s : PS} (h : PackAt C H p s) (hg : H g = none) : PackNe C H p s g := by
  obtain ⟨dx, rl, ll, hl, h1, h2, h3, h4, z⟩ := h
  exact ⟨dx, rl, ll, hl, h1, h2, h3, h4, z, ne_of_none h2 hg, ne_of_none h3 hg, ne_of_none h4 hg, ne_of_none h1 hg⟩
/-- the request's list, known to the object or the module's: no write reaches it -/
def Froz (K : PySem.W.Frag) (H : Hp) (a : Addr) (xs : List V) : Prop := (∃ o, H a = some (.frz o (.lst xs))) ∨
  ∃ (o : Obj) (its : Array Value) (n : Nat), K.lookup a = some o ∧ o.cls = .type "list" ∧ o.dict = none ∧ o.data = .seq its n ∧ its.size ≤ sizeLine ∧ Vals xs its.toList
theorem Froz.sq {K : PySem.W.Frag} {H : Hp} {a : Addr} {xs : List V} (h : Froz K H a xs) : SqL K H a xs := by
  rcases h with ⟨o, h⟩ | h
  · exact .inl (.inr ⟨o, h⟩)
  · exact .inr h
theorem Froz.fra {K : PySem.W.Frag} {H H' : Hp} {a p C dx : Addr} {fs : List (Str × V)} {xs : List V} (h : Froz K H a xs) (hp : H p = some (.ins C dx fs)) (k : Fra p H H') : Froz K H' a xs := by
  rcases h with ⟨o, h⟩ | h
  · exact .inl ⟨o, k _ _ h (ne_of h hp (by intro z; cases z))⟩
  · exact .inr h
theorem Froz.upd {K : PySem.W.Frag} {H : Hp} {a g : Addr} {xs ys : List V} {u : HO} (h : Froz K H a xs) (hg : H g = some (.lst ys)) : Froz K (L2.upd H g u) a xs := by
  rcases h with ⟨o, h⟩ | h
  · exact .inl ⟨o, by rw [upd_ne (ne_of h hg (by intro z; cases z))]; exact h⟩
  · exact .inr h
theorem Froz.same {K : PySem.W.Frag} {H H' : Hp} {a : Addr} {xs : List V} (h : Froz K H a xs) (k : Same H H') : Froz K H' a xs := by
  rcases h with ⟨o, h⟩ | h
  · exact .inl ⟨o, k _ _ h⟩
  · exact .inr h
/-- .. and apart from g -/
def FrozNe (K : PySem.W.Frag) (H : Hp) (a : Addr) (xs : List V) (g : Addr) : Prop := (∃ o, H a = some (.frz o (.lst xs)) ∧ a ≠ g) ∨
  ∃ (o : Obj) (its : Array Value) (n : Nat), K.lookup a = some o ∧ o.cls = .type "list" ∧ o.dict = none ∧ o.data = .seq its n ∧ its.size ≤ sizeLine ∧ Vals xs its.toList
theorem Froz.ne {K : PySem.W.Frag} {H : Hp} {a g : Addr} {xs : List V} (h : Froz K H a xs) (hg : H g = none) : FrozNe K H a xs g := by
  rcases h with ⟨o, h⟩ | h
  · exact .inl ⟨o, h, ne_of_none h hg⟩
  · exact .inr h
theorem FrozNe.sq {K : PySem.W.Frag} {H : Hp} {a g : Addr} {xs : List V} (h : FrozNe K H a xs g) : SqL K H a xs := by
  rcases h with ⟨o, h, _⟩ | h
  · exact .inl (.inr ⟨o, h⟩)
  · exact .inr h
theorem FrozNe.upd {K : PySem.W.Frag} {H : Hp} {a g : Addr} {xs : List V} {u : HO} (h : FrozNe K H a xs g) : FrozNe K (L2.upd H g u) a xs g := by
  rcases h with ⟨o, h, n⟩ | h
  · exact .inl ⟨o, by rw [upd_ne n]; exact h, n⟩
  · exact .inr h
theorem FrozNe.same {K : PySem.W.Frag} {H H' : Hp} {a g : Addr} {xs : List V} (h : FrozNe K H a xs g) (k : Same H H') : FrozNe K H' a xs g := by
  rcases h with ⟨o, h, n⟩ | h
  · exact .inl ⟨o, k _ _ h, n⟩
  · exact .inr h
theorem FrozNe.fra {K : PySem.W.Frag} {H H' : Hp} {a g p C : Addr} {s : PS} {xs : List V} (h : FrozNe K H a xs g) (hp : PackAt C H p s) (k : Frc H H') : FrozNe K H' a xs g := by
  rcases h with ⟨o, h, n⟩ | h
  · exact .inl ⟨o, k.1 _ _ _ h, n⟩
  · exact .inr h
theorem in_row {i : Int} : inV (V.int i) [V.int 0, V.int 1, V.int 2] = decide (Row i) := by
  show ((0 == i) || ((1 == i) || ((2 == i) || false))) = decide (i = 0 ∨ i = 1 ∨ i = 2)
  by_cases a : i = 0
  · subst a; rfl
  · by_cases b : i = 1
    · subst b; rfl
    · by_cases c : i = 2
      · subst c; rfl
      · rw [decide_eq_false (by omega), beq_eq_false_iff_ne.mpr (fun e => a e.symm), beq_eq_false_iff_ne.mpr (fun e => b e.symm), beq_eq_false_iff_ne.mpr (fun e => c e.symm)]
        rfl
theorem told_nil : told none [] = [] := rfl
theorem told_le {cs done rest : List (List (List Int))} (e : cs = done ++ rest) : (told none done).length ≤ (told none cs).length := by
  subst e
  induction rest generalizing done with
  | nil => rw [List.append_nil]; exact Nat.le_refl _
  | cons c r ih =>
    have h := ih (done := done ++ [c])
    rw [List.append_assoc] at h
    refine Nat.le_trans ?_ h
    rw [EvP.told_snoc, List.length_append]
    omega
def spAnswers (K : PySem.W.Frag) : Sp := fun vs H Q _ => ∃ a l cs, vs = [.ref a] ∧ Froz K H a (vi l) ∧ l = cs.flatMap enc ∧ (∀ c ∈ cs, Call1 c) ∧ (told none cs).length ≤ 10000000 ∧ l.length ≤ 100000 ∧
  ∀ H' q, H' q = some (.lst (vi (told none cs))) → Q (.ref q) H'
def placeOf (l : List Int) (σ : L2.St) : Nat := match σ[3]? with
  | some (some (V.int z)) => l.length - z.toNat
  | _ => 0
section
variable {P : Program} {w : World} {K : PySem.W.Frag} {mg : Str → Option Value} {base : Heap}
theorem scAnswers : FnScope ["calls", "pack", "given", "place", "call", "width", "numbers"] ["calls"] (defScope sAnswers) := ⟨rfl, rfl, rfl, by decide +kernel, rfl, by decide +kernel, by decide +kernel⟩
theorem ok_answers {f C fI fP fA tw dn : Addr} {fd fdI fdP fdA : FuncData} {esn : Array DictEntry} {FF : FT} {Pr : PT'} (F : Fun K "answers" "answers" sAnswers f fd) (T : Txt K mg C) (M : Mk K C fI) (FI : Fun K "__init__" "Pack.__init__" sInit fI fdI) (bI : Binds K fdI ["self"] [])
    (FP : Fun K "put" "Pack.put" sPut fP fdP) (bP : Binds K fdP ["self", "held"] []) (mP : Meth K C "put" fP)
    (GA : FnOk P w K mg base CX0 6 fA fdA ["pack", "call", "numbers"] (spAnswer K C FF Pr)) (bA : Binds K fdA ["pack", "call", "numbers"] []) (gA : mg "answer" = some (.ref fA)) (kA : PySem.W.keepIn K (.ref fA) = true)
    (gW : mg "WITH_A_ROW" = some (.ref tw)) (hW : ∀ H : Hp, SqT K H tw [.int 0, .int 1, .int 2]) (gN : mg "WHOLE_NUMBERS" = some (.ref dn)) (DN : DicK K dn esn)
    (hN : ∀ c, Call1 c → ¬ Row (headOf c) → ∃ t, dAt esn (headOf c) = some (.int ((numsOf c).length : Int) t))
    (hC : ∀ (st : Option Kqb5.Pack) (c : List (List Int)), EvS.GoodO st → Call1 c → okCall Pr (headOf c) (EvS.abs st) (numsOf c) ∧ fAns FF (EvS.abs st) (headOf c) (numsOf c) = EvS.stp st c) :
    FnOk P w K mg base CX0 7 f fd ["calls"] (spAnswers K) := by
  have GI : FnOk P w K mg base CX0 2 fI fdI ["self"] (spInit C) := ok_init FI T FP bP mP
  refine F.ok scAnswers (fun vs H Q E h => ?_) (fun cdv A outer s H vs Q E hr h => ?_)
  · obtain ⟨a, l, cs, rfl, _⟩ := h
    rfl
  · obtain ⟨a, l, cs, rfl, hS, el, hc1, hlen, hll, k⟩ := h
    have hr3 := hr.mono (show 3 ≤ 6 by decide)
    refine ⟨_, (pss_cons (ps_set (i := 1) scAnswers.nd rfl (Or.inl rfl) (pe_make0 M GI hr3 rfl T.mgC bI .nil pass0))
      (pss_cons (ps_set (i := 2) scAnswers.nd rfl (Or.inl rfl) (pe_lst pa_nil))
      (pss_cons (ps_set (i := 3) scAnswers.nd rfl (Or.inl rfl) pe_int)
      (pss_cons (ps_while PassesOwn.never (pt_cmpR op_lt (pv 3) (pe_callB call_len_seq rfl T.len PySem.boot_len (pa_cons (pv 0) pa_nil)) (nomark _)) (pss_cons (ps_set (i := 4) scAnswers.nd rfl (Or.inl rfl) (pe_ix ix_list (pv 0) (pv 3) (fun _ _ => rfl)))
      (pss_cons (ps_set (i := 3) scAnswers.nd rfl (Or.inl rfl) (pe_op op_add (pv 3) pe_int))
      (pss_cons (ps_if (pt_cmpR op_in_seq (pv 4) (pe_glob (v := .ref tw) rfl gW rfl) rfl) (pss_cons (ps_set (i := 5) scAnswers.nd rfl (Or.inl rfl) (pe_ix ix_list (pv 0) (pv 3) (fun _ _ => rfl)))
      (pss_one (ps_set (i := 3) scAnswers.nd rfl (Or.inl rfl) (pe_op op_add (pv 3) pe_int)))) (pss_one (ps_set (i := 5) scAnswers.nd rfl (Or.inl rfl) (pe_dgetK (pe_glob (v := .ref dn) rfl gN rfl) (pv 4) (fun _ _ => rfl)))))
      (pss_cons (ps_lock (ps_set (i := 6) scAnswers.nd rfl (Or.inl rfl) (pe_call GA hr rfl gA kA bA .nil pass0 (pa_cons (pv 1) (pa_cons (pv 4) (pa_cons (pe_slice sl_list (pv 0) (po_some (pv 3)) (po_some (pe_op op_add (pv 3) (pv 5)))) pa_nil))))))
      (pss_cons (ps_expr (pe_bm PySem.F.plainAttrs_list PySem.F.slot_list_append PySem.F.type_list_append mt_append (pv 2) (pa_cons (pe_callB call_len_seq rfl T.len PySem.boot_len (pa_cons (pv 6) pa_nil)) pa_nil)))
      (pss_cons (ps_expr (pe_bm PySem.F.plainAttrs_list PySem.F.slot_list_extend PySem.F.type_list_extend mt_extend (pv 2) (pa_cons (pv 6) pa_nil)))
      (pss_one (ps_set (i := 3) scAnswers.nd rfl (Or.inl rfl) (pe_op op_add (pv 3) (pv 5)))))))))))
      (pss_one (ps_ret (pv 2))))))), ?_⟩
    intro p dx nx ndx nex
    refine ⟨p, dx, rfl, upd_same, fun H1 hP1 fr1 => ⟨rfl, Nat.zero_le _, fun g hg => ?_⟩⟩
    have s1 : Same H H1 := Same.made nx ndx fr1
    have hN1 := PackNe.of_new hP1 hg
    refine while_by (fun σ H' => ∃ done rest v4 v5 v6, cs = done ++ rest ∧ σ = [some (.ref a), some (.ref p), some (.ref g), some (.int ((done.flatMap enc).length : Int)), v4, v5, v6] ∧ PackNe C H' p (EvS.abs (run none done)) g ∧ H' g = some (.lst (vi (told none done))) ∧ FrozNe K H' a (vi l) g)
      (fun σ _ => placeOf l σ) ⟨[], cs, none, none, none, rfl, rfl, hN1.upd, upd_same, ((hS.same s1).ne hg).upd⟩ ?_ ?_
    · rintro σ H2 ⟨done, rest, v4, v5, v6, ecs, rfl, hPN, hG, hF⟩
      have el0 : (((vi l).length : Nat) : Int) = (l.length : Int) := by rw [List.length_map]
      refine ⟨_, rfl, _, rfl, a, vi l, rfl, .inl hF.sq, _, _, rfl, rfl, _, rfl, ?_⟩
      rw [el0]
      have edr : l = done.flatMap enc ++ rest.flatMap enc := by rw [el, ecs, List.flatMap_append]
      cases rest with
      | nil =>
        have e0 : ¬ ((done.flatMap enc).length : Int) < (l.length : Int) := by
          rw [edr]
          simp
        rw [decide_eq_false e0]
        refine iteF ⟨_, rfl, k H2 g ?_⟩
        rw [ecs, List.append_nil]
        exact hG
      | cons c rest =>
        have hc : Call1 c := hc1 c (by rw [ecs]; exact List.mem_append_right _ List.mem_cons_self)
        obtain ⟨hok, hf⟩ := hC (run none done) c (EvS.good_run done trivial) hc
        have hlt : ((done.flatMap enc).length : Int) < (l.length : Int) := by
          rw [edr, List.flatMap_cons, List.length_append, List.length_append]
          have : 0 < (enc c).length := by
            rcases call_forms hc with ⟨_, e⟩ | ⟨_, e⟩ <;> rw [e, List.length_cons] <;> omega
          omega
        rw [decide_eq_true hlt]
        have ecs' : cs = (done ++ [c]) ++ rest := by rw [ecs]; simp
        have etold : told none (done ++ [c]) = told none done ++ ((((EvS.stp (run none done) c).2.length : Nat) : Int) :: (EvS.stp (run none done) c).2) := EvP.told_snoc none done c
        have hlt2 : (told none done).length + 1 + (EvS.stp (run none done) c).2.length ≤ 10000000 := by
          have := told_le ecs'
          rw [etold, List.length_append, List.length_cons] at this
          omega
        have eplace : (((done ++ [c]).flatMap enc).length : Int) = ((done.flatMap enc).length : Int) + ((enc c).length : Int) := by
          rw [List.flatMap_append, List.length_append]
          simp
        rcases call_forms hc with ⟨hrow, ee⟩ | ⟨hrow, ee⟩
        · have e1 : l = done.flatMap enc ++ headOf c :: (((numsOf c).length : Int) :: numsOf c ++ rest.flatMap enc) := by
            rw [edr, List.flatMap_cons, ee]
            rfl
          have e2 : l = (done.flatMap enc ++ [headOf c]) ++ ((numsOf c).length : Int) :: (numsOf c ++ rest.flatMap enc) := by
            rw [e1]
            simp
          have e3 : l = (done.flatMap enc ++ [headOf c, ((numsOf c).length : Int)]) ++ numsOf c ++ rest.flatMap enc := by
            rw [e1]
            simp
          refine iteT ⟨_, rfl, _, rfl, a, vi l, _, .int (headOf c), rfl, rfl, hF.sq, by rw [e1]; exact at_app rfl, ?_⟩
          refine ⟨_, rfl, _, _, rfl, rfl, ?_⟩
          refine ⟨_, rfl, tw, _, rfl, .inr (hW _), rfl, rfl, _, rfl, ?_⟩
          show if inV (V.int (headOf c)) [V.int 0, V.int 1, V.int 2] = true then _ else _
          rw [in_row, decide_eq_true hrow]
          refine iteT ⟨_, rfl, _, rfl, a, vi l, _, .int ((numsOf c).length : Int), rfl, rfl, hF.sq, by rw [e2]; exact at_app (by rw [List.length_append]; rfl), ?_⟩
          refine ⟨_, rfl, _, _, rfl, rfl, ?_⟩
          refine ⟨g, _, hG, trivial, fun od => ?_⟩
          have hF3 := hF.upd (u := .frz od (.lst (vi (told none done))))
          refine ⟨_, rfl, _, rfl, _, rfl, _, rfl, _, rfl, _, rfl, _, rfl, _, _, rfl, rfl, _, rfl, a, vi l, rfl, hF3.sq, fun q hq => ?_⟩
          have hcut : cutV (vi l) (some (((done.flatMap enc).length : Int) + 1 + 1)) (some (((done.flatMap enc).length : Int) + 1 + 1 + ((numsOf c).length : Int))) = vi (numsOf c) := by
            rw [e3]
            exact cut_vi (by rw [List.length_append]; simp only [List.length_cons, List.length_nil]; omega) rfl
          rw [hcut]
          refine ⟨p, q, _, headOf c, numsOf c, rfl, hPN.upd.at.same (Same.new hq), SqL.of upd_same, hok, fun H' r hP' fr' hr' hd' => ?_⟩
          rw [hf] at hP' hd'
          have hgq : g ≠ q := ne_of_none upd_same hq
          have hg' : H' g = some (.frz od (.lst (vi (told none done)))) := fr'.1 g _ _ (by rw [upd_ne hgq]; exact upd_same)
          have hrg : r ≠ g := fun e => by rw [e, upd_ne hgq, upd_same] at hr'; cases hr'
          have hPN' := PackNe.of_frz hP' hg'
          have hF' : FrozNe K H' a (vi l) g := (hF3.same (Same.new hq)).fra (hPN.upd.at.same (Same.new hq)) fr'
          refine ⟨hg', ?_⟩
          refine ⟨_, rfl, .inl ⟨rfl, _, SqL.of upd_same⟩, _, rfl, r, _, rfl, .inl (SqL.of (by rw [upd_ne hrg]; exact hd')), g, _, _, rfl, rfl, upd_same, ?_, ?_⟩
          · rw [List.length_map, sizeLine_eq]; omega
          refine ⟨_, rfl, .inl ⟨rfl, _, SqL.of upd_same⟩, _, rfl, g, r, _, _, rfl, rfl, upd_same, (by rw [upd_ne hrg, upd_ne hrg]; exact hd'), ?_, ?_⟩
          · rw [List.length_append, List.length_map, List.length_map, sizeLine_eq]
            show (told none done).length + 1 + _ ≤ _
            omega
          refine ⟨_, rfl, _, rfl, _, _, rfl, rfl, ?_⟩
          refine ⟨⟨done ++ [c], rest, some (.int (headOf c)), some (.int ((numsOf c).length : Int)), some (.ref r), ecs', ?_, ?_, ?_, hF'.upd.upd.upd⟩, ?_⟩
          · rw [eplace, ee]
            simp only [List.length_cons]
            refine congrArg (fun z => [some (V.ref a), some (V.ref p), some (V.ref g), some (V.int z), some (V.int (headOf c)), some (V.int ((numsOf c).length : Int)), some (V.ref r)]) ?_
            omega
          · rw [EvP.run_snoc]
            exact hPN'.upd.upd.upd
          · rw [upd_same, etold]
            refine congrArg (fun z => some (HO.lst z)) ?_
            unfold vi
            rw [List.map_append, List.length_map, List.append_assoc]
            rfl
          · show l.length - Int.toNat _ < l.length - Int.toNat _
            omega
        · have e1 : l = done.flatMap enc ++ headOf c :: (numsOf c ++ rest.flatMap enc) := by
            rw [edr, List.flatMap_cons, ee]
            rfl
          have e3 : l = (done.flatMap enc ++ [headOf c]) ++ numsOf c ++ rest.flatMap enc := by
            rw [e1]
            simp
          obtain ⟨tk, hdn⟩ := hN c hc hrow
          refine iteT ⟨_, rfl, _, rfl, a, vi l, _, .int (headOf c), rfl, rfl, hF.sq, by rw [e1]; exact at_app rfl, ?_⟩
          refine ⟨_, rfl, _, _, rfl, rfl, ?_⟩
          refine ⟨_, rfl, tw, _, rfl, .inr (hW _), rfl, rfl, _, rfl, ?_⟩
          show if inV (V.int (headOf c)) [V.int 0, V.int 1, V.int 2] = true then _ else _
          rw [in_row, decide_eq_false hrow]
          refine iteF ⟨_, rfl, dn, esn, headOf c, .int ((numsOf c).length : Int), _, rfl, rfl, DN, hdn, ⟨_, rfl⟩, ?_⟩
          refine ⟨g, _, hG, trivial, fun od => ?_⟩
          have hF3 := hF.upd (u := .frz od (.lst (vi (told none done))))
          refine ⟨_, rfl, _, rfl, _, rfl, _, rfl, _, rfl, _, rfl, _, rfl, _, _, rfl, rfl, _, rfl, a, vi l, rfl, hF3.sq, fun q hq => ?_⟩
          have hcut : cutV (vi l) (some (((done.flatMap enc).length : Int) + 1)) (some (((done.flatMap enc).length : Int) + 1 + ((numsOf c).length : Int))) = vi (numsOf c) := by
            rw [e3]
            exact cut_vi (by rw [List.length_append]; simp only [List.length_cons, List.length_nil]; omega) rfl
          rw [hcut]
          refine ⟨p, q, _, headOf c, numsOf c, rfl, hPN.upd.at.same (Same.new hq), SqL.of upd_same, hok, fun H' r hP' fr' hr' hd' => ?_⟩
          rw [hf] at hP' hd'
          have hgq : g ≠ q := ne_of_none upd_same hq
          have hg' : H' g = some (.frz od (.lst (vi (told none done)))) := fr'.1 g _ _ (by rw [upd_ne hgq]; exact upd_same)
          have hrg : r ≠ g := fun e => by rw [e, upd_ne hgq, upd_same] at hr'; cases hr'
          have hPN' := PackNe.of_frz hP' hg'
          have hF' : FrozNe K H' a (vi l) g := (hF3.same (Same.new hq)).fra (hPN.upd.at.same (Same.new hq)) fr'
          refine ⟨hg', ?_⟩
          refine ⟨_, rfl, .inl ⟨rfl, _, SqL.of upd_same⟩, _, rfl, r, _, rfl, .inl (SqL.of (by rw [upd_ne hrg]; exact hd')), g, _, _, rfl, rfl, upd_same, ?_, ?_⟩
          · rw [List.length_map, sizeLine_eq]; omega
          refine ⟨_, rfl, .inl ⟨rfl, _, SqL.of upd_same⟩, _, rfl, g, r, _, _, rfl, rfl, upd_same, (by rw [upd_ne hrg, upd_ne hrg]; exact hd'), ?_, ?_⟩
          · rw [List.length_append, List.length_map, List.length_map, sizeLine_eq]
            show (told none done).length + 1 + _ ≤ _
            omega
          refine ⟨_, rfl, _, rfl, _, _, rfl, rfl, ?_⟩
          refine ⟨⟨done ++ [c], rest, some (.int (headOf c)), some (.int ((numsOf c).length : Int)), some (.ref r), ecs', ?_, ?_, ?_, hF'.upd.upd.upd⟩, ?_⟩
          · rw [eplace, ee]
            simp only [List.length_cons]
            refine congrArg (fun z => [some (V.ref a), some (V.ref p), some (V.ref g), some (V.int z), some (V.int (headOf c)), some (V.int ((numsOf c).length : Int)), some (V.ref r)]) ?_
            omega
          · rw [EvP.run_snoc]
            exact hPN'.upd.upd.upd
          · rw [upd_same, etold]
            refine congrArg (fun z => some (HO.lst z)) ?_
            unfold vi
            rw [List.map_append, List.length_map, List.append_assoc]
            rfl
          · show l.length - Int.toNat _ < l.length - Int.toNat _
            omega
    · exact fun σ H Q Q' m ⟨v, hv, v', hv', p, ys, e, hq, i, j, e1, e2, k, e3, q⟩ => ⟨v, hv, v', hv', p, ys, e, hq, i, j, e1, e2, k, e3, m _ _ q⟩
end
end EvC

set_option Elab.async false
set_option linter.all false
set_option maxRecDepth 100000
set_option maxHeartbeats 4000000
namespace EvC
open PySem PySem.Spec PyProof.Rows L2
theorem froz_of {K : PySem.W.Frag} {H : Hp} {a : Addr} {xs : List V} (hO : OnlyF H) (h : SqL K H a xs) : Froz K H a xs := by
  rcases h with (h | ⟨o, h⟩) | h
  · rcases hO a with q | ⟨o, u, q⟩
    · rw [h] at q; cases q
    · rw [h] at q; cases q
  · exact .inl ⟨o, h⟩
  · exact .inr h
end EvC

set_option Elab.async false
set_option linter.all false
set_option maxRecDepth 100000
set_option maxHeartbeats 4000000
/-! What the top has written, and the row's head. -/
namespace EvC
open PySem PySem.Spec PyProof.Rows L2
open EvS (PS)
open EvP (enc Call1 run told num32 len1 len2 len3)
theorem len4 {α : Type} {l : List α} (h : l.length = 4) : ∃ a b c d, l = [a, b, c, d] := by
  match l, h with
  | [a, b, c, d], _ => exact ⟨a, b, c, d, rfl⟩
theorem hN_of {esn : Array DictEntry} (h3 : ∃ t, dAt esn 3 = some (.int 1 t)) (h4 : ∃ t, dAt esn 4 = some (.int 1 t)) (h5 : ∃ t, dAt esn 5 = some (.int 2 t)) (h6 : ∃ t, dAt esn 6 = some (.int 0 t)) (h7 : ∃ t, dAt esn 7 = some (.int 0 t)) (h8 : ∃ t, dAt esn 8 = some (.int 1 t)) (h9 : ∃ t, dAt esn 9 = some (.int 1 t)) (h10 : ∃ t, dAt esn 10 = some (.int 0 t)) (h11 : ∃ t, dAt esn 11 = some (.int 0 t)) (h12 : ∃ t, dAt esn 12 = some (.int 0 t)) (h13 : ∃ t, dAt esn 13 = some (.int 0 t)) (h14 : ∃ t, dAt esn 14 = some (.int 0 t)) (h15 : ∃ t, dAt esn 15 = some (.int 1 t)) (h16 : ∃ t, dAt esn 16 = some (.int 1 t)) (h17 : ∃ t, dAt esn 17 = some (.int 3 t)) (h18 : ∃ t, dAt esn 18 = some (.int 2 t)) (h19 : ∃ t, dAt esn 19 = some (.int 1 t)) (h20 : ∃ t, dAt esn 20 = some (.int 0 t)) (h21 : ∃ t, dAt esn 21 = some (.int 1 t)) (h22 : ∃ t, dAt esn 22 = some (.int 0 t)) :
    ∀ c, Call1 c → ¬ Row (headOf c) → ∃ t, dAt esn (headOf c) = some (.int ((numsOf c).length : Int) t) := by
  intro c h hr
  cases h with
  | row p r hp _ _ => exact absurd hp hr
  | n0 p hp =>
    rcases hp with rfl | rfl | rfl | rfl | rfl | rfl | rfl | rfl | rfl
    · exact h6
    · exact h7
    · exact h10
    · exact h11
    · exact h12
    · exact h13
    · exact h14
    · exact h20
    · exact h22
  | n1 p a hp _ =>
    rcases hp with rfl | rfl | rfl | rfl | rfl | rfl | rfl | rfl
    · exact h3
    · exact h4
    · exact h8
    · exact h9
    · exact h15
    · exact h16
    · exact h19
    · exact h21
  | n2 p a b hp _ _ =>
    rcases hp with rfl | rfl
    · exact h5
    · exact h18
  | n3 p a b c hp _ _ _ =>
    subst hp
    exact h17
abbrev tabP : List (PS → List Int → Prop) := [row60, row60, row60, one1, one1, two2, one0, one0, one1, one1, one0, one0, one0, one0, one0, one1, when1, swap3, two2, one1, one0, look1, one0]
abbrev tabF : List (PS → List Int → PS × List Int) := [EvS.fStart, EvS.fHold, EvS.fLeak, (fun s ns => EvS.fFill s (ns.getD 0 0)), (fun s ns => EvS.fDraw s (ns.getD 0 0)), (fun s ns => EvS.fBleed s (ns.getD 0 0) (ns.getD 1 0)), (fun s _ => EvS.fEven s), (fun s _ => EvS.fEvens s), (fun s ns => EvS.fReach s (ns.getD 0 0)), (fun s ns => EvS.fBleeds s (ns.getD 0 0)), (fun s _ => EvS.fGives s), (fun s _ => EvS.fMost s), (fun s _ => EvS.fLacks s), (fun s _ => EvS.fWeakest s), (fun s _ => EvS.fFullest s), (fun s ns => EvS.fDays s (ns.getD 0 0)), (fun s ns => EvS.fWhen s (ns.getD 0 0)), (fun s ns => EvS.fSwap s (ns.getD 0 0) (ns.getD 1 0) (ns.getD 2 0)), (fun s ns => EvS.fGain s (ns.getD 0 0) (ns.getD 1 0)), (fun s ns => EvS.fBest s (ns.getD 0 0)), (fun s _ => EvS.fUnits s), (fun s ns => EvS.fLook s (ns.getD 0 0)), (fun s _ => EvS.fState s)]
def Pr (i : Int) (s : PS) (ns : List Int) : Prop := 0 ≤ i ∧ i.toNat < 23 ∧ (tabP.getD i.toNat fun _ _ => False) s ns
def FF (i : Int) (s : PS) (ns : List Int) : PS × List Int := (tabF.getD i.toNat fun s _ => (s, [])) s ns
theorem none_case {c : List (List Int)} (h0 : ¬ headOf c = 0) (h1 : EvS.stp none c = (EvS.abs none, [-11])) : okCall Pr (headOf c) (EvS.abs none) (numsOf c) ∧ fAns FF (EvS.abs none) (headOf c) (numsOf c) = EvS.stp none c := by
  have q : ¬ headOf c = 0 ∧ ¬ (0 : Int) < ((EvS.abs none).rooms.length : Int) := ⟨h0, by show ¬ (0 : Int) < ((0 : Nat) : Int); decide⟩
  refine ⟨.inl q, ?_⟩
  rw [h1]
  unfold fAns
  rw [if_pos q]
theorem some_case {p : Kqb5.Pack} {c : List (List Int)} (i : Int) (G : EvS.Good p.groups) (e : headOf c = i) (h0 : 0 ≤ i) (h1 : i.toNat < 23) (pr : (tabP.getD i.toNat fun _ _ => False) (EvS.absP p) (numsOf c)) (h : FF i (EvS.absP p) (numsOf c) = EvS.stp (some p) c) :
    okCall Pr (headOf c) (EvS.abs (some p)) (numsOf c) ∧ fAns FF (EvS.abs (some p)) (headOf c) (numsOf c) = EvS.stp (some p) c := by
  have hp : (0 : Int) < ((EvS.abs (some p)).rooms.length : Int) := by
    show (0 : Int) < ((EvS.roomsI p.groups).length : Int)
    rw [List.length_map]
    have := G.pos
    omega
  rw [e]
  refine ⟨.inr ⟨.inr hp, h0, h1, pr⟩, ?_⟩
  unfold fAns
  rw [if_neg (fun q => q.2 hp)]
  exact h
theorem some1_abs {p : Kqb5.Pack} (G : EvS.Good p.groups) : some1 (EvS.absP p) := by
  refine ⟨⟨?_, ?_⟩, ?_⟩
  · show 0 < (EvS.roomsI p.groups).length
    rw [List.length_map]
    exact G.pos
  · show (EvS.heldI p.groups).length = (EvS.roomsI p.groups).length
    rw [List.length_map, List.length_map]
  · show (EvS.leaksI p.groups).length = (EvS.roomsI p.groups).length
    rw [List.length_map, List.length_map]
theorem hC_of (st : Option Kqb5.Pack) (c : List (List Int)) (G : EvS.GoodO st) (h : Call1 c) : okCall Pr (headOf c) (EvS.abs st) (numsOf c) ∧ fAns FF (EvS.abs st) (headOf c) (numsOf c) = EvS.stp st c := by
  cases st with
  | none =>
    cases h with
    | row p r hp h60 hz =>
      rcases hp with rfl | rfl | rfl
      · refine ⟨.inr ⟨.inl rfl, Int.le_refl _, (by show 0 < 23; decide), h60⟩, ?_⟩
        have e : fAns FF (EvS.abs none) 0 r = EvS.fStart (EvS.abs none) r := by
          unfold fAns
          rw [if_neg (fun q => q.1 rfl)]
          rfl
        exact e.trans (EvS.start_ok none hz)
      · exact none_case (by show ¬ (1 : Int) = 0; decide) rfl
      · exact none_case (by show ¬ (2 : Int) = 0; decide) rfl
    | n0 p hp => rcases hp with rfl | rfl | rfl | rfl | rfl | rfl | rfl | rfl | rfl <;> exact none_case (by unfold headOf; dsimp only; decide) rfl
    | n1 p a hp ha => rcases hp with rfl | rfl | rfl | rfl | rfl | rfl | rfl | rfl <;> exact none_case (by unfold headOf; dsimp only; decide) rfl
    | n2 p a b hp ha hb => rcases hp with rfl | rfl <;> exact none_case (by unfold headOf; dsimp only; decide) rfl
    | n3 p a b d hp ha hb hd =>
      subst hp
      exact none_case (by unfold headOf; dsimp only; decide) rfl
  | some k =>
    have G : EvS.Good k.groups := G
    have S1 := some1_abs G
    have S0 := S1.1
    cases h with
    | row p r hp h60 hz =>
      rcases hp with rfl | rfl | rfl
      · exact some_case 0 G rfl (by decide) (by decide) h60 (EvS.start_ok (some k) hz)
      · exact some_case 1 G rfl (by decide) (by decide) h60 (EvS.hold_ok k hz)
      · exact some_case 2 G rfl (by decide) (by decide) h60 (EvS.leak_ok k hz)
    | n0 p hp =>
      rcases hp with rfl | rfl | rfl | rfl | rfl | rfl | rfl | rfl | rfl
      · exact some_case 6 G rfl (by decide) (by decide) S0 (EvS.even_ok G)
      · exact some_case 7 G rfl (by decide) (by decide) S0 (EvS.evens_ok G)
      · exact some_case 10 G rfl (by decide) (by decide) S0 (EvS.gives_ok G)
      · exact some_case 11 G rfl (by decide) (by decide) S0 (EvS.most_ok k)
      · exact some_case 12 G rfl (by decide) (by decide) S0 (EvS.lacks_ok G)
      · exact some_case 13 G rfl (by decide) (by decide) S0 (EvS.weakest_ok k)
      · exact some_case 14 G rfl (by decide) (by decide) S0 (EvS.fullest_ok G)
      · exact some_case 20 G rfl (by decide) (by decide) S0 (EvS.units_ok k)
      · exact some_case 22 G rfl (by decide) (by decide) S0 (EvS.state_ok G)
    | n1 p a hp ha =>
      have A1 : one1 (EvS.absP k) [a] := ⟨S0, a, rfl⟩
      have A2 : when1 (EvS.absP k) [a] := ⟨S1, a, rfl⟩
      have A3 : look1 (EvS.absP k) [a] := ⟨S1, a, rfl, ha.1⟩
      rcases hp with rfl | rfl | rfl | rfl | rfl | rfl | rfl | rfl
      · exact some_case 3 G rfl (by decide) (by decide) A1 (EvS.fill_ok G ha)
      · exact some_case 4 G rfl (by decide) (by decide) A1 (EvS.draw_ok ha)
      · exact some_case 8 G rfl (by decide) (by decide) A1 (EvS.reach_ok G ha)
      · exact some_case 9 G rfl (by decide) (by decide) A1 (EvS.bleeds_ok G ha)
      · exact some_case 15 G rfl (by decide) (by decide) A1 (EvS.days_ok k ha)
      · exact some_case 16 G rfl (by decide) (by decide) A2 (EvS.when_ok G ha)
      · exact some_case 19 G rfl (by decide) (by decide) A1 (EvS.best_ok G ha)
      · exact some_case 21 G rfl (by decide) (by decide) A3 (EvS.look_ok k ha)
    | n2 p a b hp ha hb =>
      have A1 : two2 (EvS.absP k) [a, b] := ⟨S0, a, b, rfl, ha.1⟩
      rcases hp with rfl | rfl
      · exact some_case 5 G rfl (by decide) (by decide) A1 (EvS.bleed_ok k ha hb)
      · exact some_case 18 G rfl (by decide) (by decide) A1 (EvS.gain_ok k ha hb)
    | n3 p a b d hp ha hb hd =>
      subst hp
      have A1 : swap3 (EvS.absP k) [a, b, d] := ⟨S1, a, b, d, rfl, ha.1⟩
      exact some_case 17 G rfl (by decide) (by decide) A1 (EvS.swap_ok k ha hb hd)
theorem entry_of {P : Program} {w : World} {K : PySem.W.Frag} {mg : Str → Option Value} {base : Heap} {C : Addr} {es : Array DictEntry} {n : Nat} {pre : PS → List Int → Prop} {f : PS → List Int → PS × List Int} {fa : Addr} {fd : FuncData} {ps : List Str} (e1 : tabP.getD n (fun _ _ => False) = pre) (e2 : tabF.getD n (fun s _ => (s, [])) = f)
    (d : dAt es (n : Int) = some (.ref fa)) (F : FnOk P w K mg base CX0 5 fa fd ps (spCall K C pre f)) (b : Binds K fd ps []) (k : PySem.W.keepIn K (.ref fa) = true) : Entry P w K mg base C es (n : Int) (Pr (n : Int)) (FF (n : Int)) := by
  subst e1 e2
  exact ⟨fa, fd, ps, d, F.imp fun vs H Q E ⟨p, a, s, ns, e, hP, hS, ⟨_, _, pr⟩, k⟩ => ⟨p, a, s, ns, e, hP, hS, pr, k⟩, b, k⟩
theorem vals_abs : ∀ {us : List Value} {xs : List V}, us.map absV = xs.map some → (∀ x ∈ xs, ∃ i, x = .int i) → Vals xs us
  | [], [], _, _ => .nil
  | [], _ :: _, h, _ => by simp at h
  | _ :: _, [], h, _ => by simp at h
  | u :: us, x :: xs, h, hx => by
    simp only [List.map_cons, List.cons.injEq] at h
    obtain ⟨i, rfl⟩ := hx x List.mem_cons_self
    refine .cons ?_ (vals_abs h.2 fun y hy => hx y (List.mem_cons_of_mem _ hy))
    have e := h.1
    cases u <;> first | (simp [absV] at e; done) | skip
    rename_i j t
    have e2 : j = i := by simpa [absV] using e
    subst e2
    exact ⟨t, rfl⟩
theorem int_abs {o : Option Value} {i : Int} (h : o.bind absV = some (.int i)) : ∃ t, o = some (.int i t) := by
  cases o with
  | none => cases h
  | some u =>
    have e : absV u = some (.int i) := h
    cases u <;> first | (simp [absV] at e; done) | skip
    rename_i j t
    have e2 : j = i := by simpa [absV] using e
    subst e2
    exact ⟨t, rfl⟩
theorem all_mk {P : Program} {w : World} {K : PySem.W.Frag} {h : Heap} {mg : Str → Option Value} {fa C : Addr} (X : K.In h) (G : h.Ns mainGlobals mg) (hfa : mg "answers" = some (.ref fa))
    {f_Init : Addr} {od_Init an_Init : Option Addr} {sl_Init : Array (Option Value)} {oc_Init kV_Init dc_Init pm_Init cd_Init ct_Init : Value}
    {f_Started : Addr} {od_Started an_Started : Option Addr} {sl_Started : Array (Option Value)} {oc_Started kV_Started dc_Started pm_Started cd_Started ct_Started : Value}
    {f_Begin : Addr} {od_Begin an_Begin : Option Addr} {sl_Begin : Array (Option Value)} {oc_Begin kV_Begin dc_Begin pm_Begin cd_Begin ct_Begin : Value}
    {f_Put : Addr} {od_Put an_Put : Option Addr} {sl_Put : Array (Option Value)} {oc_Put kV_Put dc_Put pm_Put cd_Put ct_Put : Value}
    {f_SetLeaks : Addr} {od_SetLeaks an_SetLeaks : Option Addr} {sl_SetLeaks : Array (Option Value)} {oc_SetLeaks kV_SetLeaks dc_SetLeaks pm_SetLeaks cd_SetLeaks ct_SetLeaks : Value}
    {f_Lacks : Addr} {od_Lacks an_Lacks : Option Addr} {sl_Lacks : Array (Option Value)} {oc_Lacks kV_Lacks dc_Lacks pm_Lacks cd_Lacks ct_Lacks : Value}
    {f_LacksH : Addr} {od_LacksH an_LacksH : Option Addr} {sl_LacksH : Array (Option Value)} {oc_LacksH kV_LacksH dc_LacksH pm_LacksH cd_LacksH ct_LacksH : Value}
    {f_Gives : Addr} {od_Gives an_Gives : Option Addr} {sl_Gives : Array (Option Value)} {oc_Gives kV_Gives dc_Gives pm_Gives cd_Gives ct_Gives : Value}
    {f_GivesH : Addr} {od_GivesH an_GivesH : Option Addr} {sl_GivesH : Array (Option Value)} {oc_GivesH kV_GivesH dc_GivesH pm_GivesH cd_GivesH ct_GivesH : Value}
    {f_Most : Addr} {od_Most an_Most : Option Addr} {sl_Most : Array (Option Value)} {oc_Most kV_Most dc_Most pm_Most cd_Most ct_Most : Value}
    {f_MostW : Addr} {od_MostW an_MostW : Option Addr} {sl_MostW : Array (Option Value)} {oc_MostW kV_MostW dc_MostW pm_MostW cd_MostW ct_MostW : Value}
    {f_Units : Addr} {od_Units an_Units : Option Addr} {sl_Units : Array (Option Value)} {oc_Units kV_Units dc_Units pm_Units cd_Units ct_Units : Value}
    {f_Fill : Addr} {od_Fill an_Fill : Option Addr} {sl_Fill : Array (Option Value)} {oc_Fill kV_Fill dc_Fill pm_Fill cd_Fill ct_Fill : Value}
    {f_Draw : Addr} {od_Draw an_Draw : Option Addr} {sl_Draw : Array (Option Value)} {oc_Draw kV_Draw dc_Draw pm_Draw cd_Draw ct_Draw : Value}
    {f_BleedEach : Addr} {od_BleedEach an_BleedEach : Option Addr} {sl_BleedEach : Array (Option Value)} {oc_BleedEach kV_BleedEach dc_BleedEach pm_BleedEach cd_BleedEach ct_BleedEach : Value}
    {f_CanBleed : Addr} {od_CanBleed an_CanBleed : Option Addr} {sl_CanBleed : Array (Option Value)} {oc_CanBleed kV_CanBleed dc_CanBleed pm_CanBleed cd_CanBleed ct_CanBleed : Value}
    {f_OfOne : Addr} {od_OfOne an_OfOne : Option Addr} {sl_OfOne : Array (Option Value)} {oc_OfOne kV_OfOne dc_OfOne pm_OfOne cd_OfOne ct_OfOne : Value}
    {f_ToLack : Addr} {od_ToLack an_ToLack : Option Addr} {sl_ToLack : Array (Option Value)} {oc_ToLack kV_ToLack dc_ToLack pm_ToLack cd_ToLack ct_ToLack : Value}
    {f_ToEven : Addr} {od_ToEven an_ToEven : Option Addr} {sl_ToEven : Array (Option Value)} {oc_ToEven kV_ToEven dc_ToEven pm_ToEven cd_ToEven ct_ToEven : Value}
    {f_ToGive : Addr} {od_ToGive an_ToGive : Option Addr} {sl_ToGive : Array (Option Value)} {oc_ToGive kV_ToGive dc_ToGive pm_ToGive cd_ToGive ct_ToGive : Value}
    {f_After : Addr} {od_After an_After : Option Addr} {sl_After : Array (Option Value)} {oc_After kV_After dc_After pm_After cd_After ct_After : Value}
    {f_Lose : Addr} {od_Lose an_Lose : Option Addr} {sl_Lose : Array (Option Value)} {oc_Lose kV_Lose dc_Lose pm_Lose cd_Lose ct_Lose : Value}
    {f_Till : Addr} {od_Till an_Till : Option Addr} {sl_Till : Array (Option Value)} {oc_Till kV_Till dc_Till pm_Till cd_Till ct_Till : Value}
    {f_Swap : Addr} {od_Swap an_Swap : Option Addr} {sl_Swap : Array (Option Value)} {oc_Swap kV_Swap dc_Swap pm_Swap cd_Swap ct_Swap : Value}
    {f_FIsRoom : Addr} {od_FIsRoom an_FIsRoom : Option Addr} {sl_FIsRoom : Array (Option Value)} {oc_FIsRoom kV_FIsRoom dc_FIsRoom pm_FIsRoom cd_FIsRoom ct_FIsRoom : Value}
    {f_FIsGroup : Addr} {od_FIsGroup an_FIsGroup : Option Addr} {sl_FIsGroup : Array (Option Value)} {oc_FIsGroup kV_FIsGroup dc_FIsGroup pm_FIsGroup cd_FIsGroup ct_FIsGroup : Value}
    {f_FStart : Addr} {od_FStart an_FStart : Option Addr} {sl_FStart : Array (Option Value)} {oc_FStart kV_FStart dc_FStart pm_FStart cd_FStart ct_FStart : Value}
    {f_FHold : Addr} {od_FHold an_FHold : Option Addr} {sl_FHold : Array (Option Value)} {oc_FHold kV_FHold dc_FHold pm_FHold cd_FHold ct_FHold : Value}
    {f_FLeak : Addr} {od_FLeak an_FLeak : Option Addr} {sl_FLeak : Array (Option Value)} {oc_FLeak kV_FLeak dc_FLeak pm_FLeak cd_FLeak ct_FLeak : Value}
    {f_FMay : Addr} {od_FMay an_FMay : Option Addr} {sl_FMay : Array (Option Value)} {oc_FMay kV_FMay dc_FMay pm_FMay cd_FMay ct_FMay : Value}
    {f_FFill : Addr} {od_FFill an_FFill : Option Addr} {sl_FFill : Array (Option Value)} {oc_FFill kV_FFill dc_FFill pm_FFill cd_FFill ct_FFill : Value}
    {f_FDraw : Addr} {od_FDraw an_FDraw : Option Addr} {sl_FDraw : Array (Option Value)} {oc_FDraw kV_FDraw dc_FDraw pm_FDraw cd_FDraw ct_FDraw : Value}
    {f_FBleed : Addr} {od_FBleed an_FBleed : Option Addr} {sl_FBleed : Array (Option Value)} {oc_FBleed kV_FBleed dc_FBleed pm_FBleed cd_FBleed ct_FBleed : Value}
    {f_FEven : Addr} {od_FEven an_FEven : Option Addr} {sl_FEven : Array (Option Value)} {oc_FEven kV_FEven dc_FEven pm_FEven cd_FEven ct_FEven : Value}
    {f_FEvens : Addr} {od_FEvens an_FEvens : Option Addr} {sl_FEvens : Array (Option Value)} {oc_FEvens kV_FEvens dc_FEvens pm_FEvens cd_FEvens ct_FEvens : Value}
    {f_FReach : Addr} {od_FReach an_FReach : Option Addr} {sl_FReach : Array (Option Value)} {oc_FReach kV_FReach dc_FReach pm_FReach cd_FReach ct_FReach : Value}
    {f_FBleeds : Addr} {od_FBleeds an_FBleeds : Option Addr} {sl_FBleeds : Array (Option Value)} {oc_FBleeds kV_FBleeds dc_FBleeds pm_FBleeds cd_FBleeds ct_FBleeds : Value}
    {f_FGives : Addr} {od_FGives an_FGives : Option Addr} {sl_FGives : Array (Option Value)} {oc_FGives kV_FGives dc_FGives pm_FGives cd_FGives ct_FGives : Value}
    {f_FMost : Addr} {od_FMost an_FMost : Option Addr} {sl_FMost : Array (Option Value)} {oc_FMost kV_FMost dc_FMost pm_FMost cd_FMost ct_FMost : Value}
    {f_FLacks : Addr} {od_FLacks an_FLacks : Option Addr} {sl_FLacks : Array (Option Value)} {oc_FLacks kV_FLacks dc_FLacks pm_FLacks cd_FLacks ct_FLacks : Value}
    {f_FLeast : Addr} {od_FLeast an_FLeast : Option Addr} {sl_FLeast : Array (Option Value)} {oc_FLeast kV_FLeast dc_FLeast pm_FLeast cd_FLeast ct_FLeast : Value}
    {f_FWeakest : Addr} {od_FWeakest an_FWeakest : Option Addr} {sl_FWeakest : Array (Option Value)} {oc_FWeakest kV_FWeakest dc_FWeakest pm_FWeakest cd_FWeakest ct_FWeakest : Value}
    {f_FFullest : Addr} {od_FFullest an_FFullest : Option Addr} {sl_FFullest : Array (Option Value)} {oc_FFullest kV_FFullest dc_FFullest pm_FFullest cd_FFullest ct_FFullest : Value}
    {f_FDays : Addr} {od_FDays an_FDays : Option Addr} {sl_FDays : Array (Option Value)} {oc_FDays kV_FDays dc_FDays pm_FDays cd_FDays ct_FDays : Value}
    {f_FWhen : Addr} {od_FWhen an_FWhen : Option Addr} {sl_FWhen : Array (Option Value)} {oc_FWhen kV_FWhen dc_FWhen pm_FWhen cd_FWhen ct_FWhen : Value}
    {f_FSwap : Addr} {od_FSwap an_FSwap : Option Addr} {sl_FSwap : Array (Option Value)} {oc_FSwap kV_FSwap dc_FSwap pm_FSwap cd_FSwap ct_FSwap : Value}
    {f_FGain : Addr} {od_FGain an_FGain : Option Addr} {sl_FGain : Array (Option Value)} {oc_FGain kV_FGain dc_FGain pm_FGain cd_FGain ct_FGain : Value}
    {f_FBest : Addr} {od_FBest an_FBest : Option Addr} {sl_FBest : Array (Option Value)} {oc_FBest kV_FBest dc_FBest pm_FBest cd_FBest ct_FBest : Value}
    {f_FUnits : Addr} {od_FUnits an_FUnits : Option Addr} {sl_FUnits : Array (Option Value)} {oc_FUnits kV_FUnits dc_FUnits pm_FUnits cd_FUnits ct_FUnits : Value}
    {f_FLook : Addr} {od_FLook an_FLook : Option Addr} {sl_FLook : Array (Option Value)} {oc_FLook kV_FLook dc_FLook pm_FLook cd_FLook ct_FLook : Value}
    {f_FState : Addr} {od_FState an_FState : Option Addr} {sl_FState : Array (Option Value)} {oc_FState kV_FState dc_FState pm_FState cd_FState ct_FState : Value}
    {f_FAnswer : Addr} {od_FAnswer an_FAnswer : Option Addr} {sl_FAnswer : Array (Option Value)} {oc_FAnswer kV_FAnswer dc_FAnswer pm_FAnswer cd_FAnswer ct_FAnswer : Value}
    {f_FAnswers : Addr} {od_FAnswers an_FAnswers : Option Addr} {sl_FAnswers : Array (Option Value)} {oc_FAnswers kV_FAnswers dc_FAnswers pm_FAnswers cd_FAnswers ct_FAnswers : Value}
    {t_0 : Tok}
    {t_1 : Tok}
    {t_2 : Tok}
    {t_3 : Tok}
    {t_4 : Tok}
    {t_5 : Tok}
    {t_6 : Tok}
    {t_7 : Tok}
    {t_8 : Tok}
    {t_9 : Tok}
    {t_10 : Tok}
    {dA dN tw : Addr} {esA esN : Array DictEntry} {nA nN nW : Nat} {ocW : Value} {odW : Option Addr} {slW : Array (Option Value)} {itW : Array Value}
    (aC : PySem.W.nsIn K mainGlobals "Pack" = some (some (.ref C)))
    (a_Init : PySem.W.findIn K (.ref C) "__init__" = some (some (.ref f_Init)))
    (i_Init : PySem.W.isFn K (.ref f_Init) = true)
    (l_Init : K.lookup f_Init = some ⟨oc_Init, od_Init, .func (PySem.W.fnOf "__init__" "Pack.__init__" (defArgs sInit) (defBody sInit) (defScope sInit) .none kV_Init dc_Init pm_Init an_Init cd_Init ct_Init), sl_Init⟩)
    (c_Init : PySem.W.codeIn K cd_Init "Pack.__init__" = true)
    (k_Init : PySem.W.keepIn K (.ref f_Init) = true)
    (a_Started : PySem.W.findIn K (.ref C) "started" = some (some (.ref f_Started)))
    (i_Started : PySem.W.isFn K (.ref f_Started) = true)
    (l_Started : K.lookup f_Started = some ⟨oc_Started, od_Started, .func (PySem.W.fnOf "started" "Pack.started" (defArgs sStarted) (defBody sStarted) (defScope sStarted) .none kV_Started dc_Started pm_Started an_Started cd_Started ct_Started), sl_Started⟩)
    (c_Started : PySem.W.codeIn K cd_Started "Pack.started" = true)
    (k_Started : PySem.W.keepIn K (.ref f_Started) = true)
    (a_Begin : PySem.W.findIn K (.ref C) "begin" = some (some (.ref f_Begin)))
    (i_Begin : PySem.W.isFn K (.ref f_Begin) = true)
    (l_Begin : K.lookup f_Begin = some ⟨oc_Begin, od_Begin, .func (PySem.W.fnOf "begin" "Pack.begin" (defArgs sBegin) (defBody sBegin) (defScope sBegin) .none kV_Begin dc_Begin pm_Begin an_Begin cd_Begin ct_Begin), sl_Begin⟩)
    (c_Begin : PySem.W.codeIn K cd_Begin "Pack.begin" = true)
    (k_Begin : PySem.W.keepIn K (.ref f_Begin) = true)
    (a_Put : PySem.W.findIn K (.ref C) "put" = some (some (.ref f_Put)))
    (i_Put : PySem.W.isFn K (.ref f_Put) = true)
    (l_Put : K.lookup f_Put = some ⟨oc_Put, od_Put, .func (PySem.W.fnOf "put" "Pack.put" (defArgs sPut) (defBody sPut) (defScope sPut) .none kV_Put dc_Put pm_Put an_Put cd_Put ct_Put), sl_Put⟩)
    (c_Put : PySem.W.codeIn K cd_Put "Pack.put" = true)
    (k_Put : PySem.W.keepIn K (.ref f_Put) = true)
    (a_SetLeaks : PySem.W.findIn K (.ref C) "set_leaks" = some (some (.ref f_SetLeaks)))
    (i_SetLeaks : PySem.W.isFn K (.ref f_SetLeaks) = true)
    (l_SetLeaks : K.lookup f_SetLeaks = some ⟨oc_SetLeaks, od_SetLeaks, .func (PySem.W.fnOf "set_leaks" "Pack.set_leaks" (defArgs sSetLeaks) (defBody sSetLeaks) (defScope sSetLeaks) .none kV_SetLeaks dc_SetLeaks pm_SetLeaks an_SetLeaks cd_SetLeaks ct_SetLeaks), sl_SetLeaks⟩)
    (c_SetLeaks : PySem.W.codeIn K cd_SetLeaks "Pack.set_leaks" = true)
    (k_SetLeaks : PySem.W.keepIn K (.ref f_SetLeaks) = true)
    (a_Lacks : PySem.W.findIn K (.ref C) "lacks" = some (some (.ref f_Lacks)))
    (i_Lacks : PySem.W.isFn K (.ref f_Lacks) = true)
    (l_Lacks : K.lookup f_Lacks = some ⟨oc_Lacks, od_Lacks, .func (PySem.W.fnOf "lacks" "Pack.lacks" (defArgs sLacks) (defBody sLacks) (defScope sLacks) .none kV_Lacks dc_Lacks pm_Lacks an_Lacks cd_Lacks ct_Lacks), sl_Lacks⟩)
    (c_Lacks : PySem.W.codeIn K cd_Lacks "Pack.lacks" = true)
    (k_Lacks : PySem.W.keepIn K (.ref f_Lacks) = true)
    (a_LacksH : PySem.W.findIn K (.ref C) "lacks_holding" = some (some (.ref f_LacksH)))
    (i_LacksH : PySem.W.isFn K (.ref f_LacksH) = true)
    (l_LacksH : K.lookup f_LacksH = some ⟨oc_LacksH, od_LacksH, .func (PySem.W.fnOf "lacks_holding" "Pack.lacks_holding" (defArgs sLacksH) (defBody sLacksH) (defScope sLacksH) .none kV_LacksH dc_LacksH pm_LacksH an_LacksH cd_LacksH ct_LacksH), sl_LacksH⟩)
    (c_LacksH : PySem.W.codeIn K cd_LacksH "Pack.lacks_holding" = true)
    (k_LacksH : PySem.W.keepIn K (.ref f_LacksH) = true)
    (a_Gives : PySem.W.findIn K (.ref C) "gives" = some (some (.ref f_Gives)))
    (i_Gives : PySem.W.isFn K (.ref f_Gives) = true)
    (l_Gives : K.lookup f_Gives = some ⟨oc_Gives, od_Gives, .func (PySem.W.fnOf "gives" "Pack.gives" (defArgs sGives) (defBody sGives) (defScope sGives) .none kV_Gives dc_Gives pm_Gives an_Gives cd_Gives ct_Gives), sl_Gives⟩)
    (c_Gives : PySem.W.codeIn K cd_Gives "Pack.gives" = true)
    (k_Gives : PySem.W.keepIn K (.ref f_Gives) = true)
    (a_GivesH : PySem.W.findIn K (.ref C) "gives_holding" = some (some (.ref f_GivesH)))
    (i_GivesH : PySem.W.isFn K (.ref f_GivesH) = true)
    (l_GivesH : K.lookup f_GivesH = some ⟨oc_GivesH, od_GivesH, .func (PySem.W.fnOf "gives_holding" "Pack.gives_holding" (defArgs sGivesH) (defBody sGivesH) (defScope sGivesH) .none kV_GivesH dc_GivesH pm_GivesH an_GivesH cd_GivesH ct_GivesH), sl_GivesH⟩)
    (c_GivesH : PySem.W.codeIn K cd_GivesH "Pack.gives_holding" = true)
    (k_GivesH : PySem.W.keepIn K (.ref f_GivesH) = true)
    (a_Most : PySem.W.findIn K (.ref C) "most" = some (some (.ref f_Most)))
    (i_Most : PySem.W.isFn K (.ref f_Most) = true)
    (l_Most : K.lookup f_Most = some ⟨oc_Most, od_Most, .func (PySem.W.fnOf "most" "Pack.most" (defArgs sMost) (defBody sMost) (defScope sMost) .none kV_Most dc_Most pm_Most an_Most cd_Most ct_Most), sl_Most⟩)
    (c_Most : PySem.W.codeIn K cd_Most "Pack.most" = true)
    (k_Most : PySem.W.keepIn K (.ref f_Most) = true)
    (a_MostW : PySem.W.findIn K (.ref C) "most_with" = some (some (.ref f_MostW)))
    (i_MostW : PySem.W.isFn K (.ref f_MostW) = true)
    (l_MostW : K.lookup f_MostW = some ⟨oc_MostW, od_MostW, .func (PySem.W.fnOf "most_with" "Pack.most_with" (defArgs sMostW) (defBody sMostW) (defScope sMostW) .none kV_MostW dc_MostW pm_MostW an_MostW cd_MostW ct_MostW), sl_MostW⟩)
    (c_MostW : PySem.W.codeIn K cd_MostW "Pack.most_with" = true)
    (k_MostW : PySem.W.keepIn K (.ref f_MostW) = true)
    (a_Units : PySem.W.findIn K (.ref C) "units" = some (some (.ref f_Units)))
    (i_Units : PySem.W.isFn K (.ref f_Units) = true)
    (l_Units : K.lookup f_Units = some ⟨oc_Units, od_Units, .func (PySem.W.fnOf "units" "Pack.units" (defArgs sUnits) (defBody sUnits) (defScope sUnits) .none kV_Units dc_Units pm_Units an_Units cd_Units ct_Units), sl_Units⟩)
    (c_Units : PySem.W.codeIn K cd_Units "Pack.units" = true)
    (k_Units : PySem.W.keepIn K (.ref f_Units) = true)
    (a_Fill : PySem.W.findIn K (.ref C) "fill" = some (some (.ref f_Fill)))
    (i_Fill : PySem.W.isFn K (.ref f_Fill) = true)
    (l_Fill : K.lookup f_Fill = some ⟨oc_Fill, od_Fill, .func (PySem.W.fnOf "fill" "Pack.fill" (defArgs sFill) (defBody sFill) (defScope sFill) .none kV_Fill dc_Fill pm_Fill an_Fill cd_Fill ct_Fill), sl_Fill⟩)
    (c_Fill : PySem.W.codeIn K cd_Fill "Pack.fill" = true)
    (k_Fill : PySem.W.keepIn K (.ref f_Fill) = true)
    (a_Draw : PySem.W.findIn K (.ref C) "draw" = some (some (.ref f_Draw)))
    (i_Draw : PySem.W.isFn K (.ref f_Draw) = true)
    (l_Draw : K.lookup f_Draw = some ⟨oc_Draw, od_Draw, .func (PySem.W.fnOf "draw" "Pack.draw" (defArgs sDraw) (defBody sDraw) (defScope sDraw) .none kV_Draw dc_Draw pm_Draw an_Draw cd_Draw ct_Draw), sl_Draw⟩)
    (c_Draw : PySem.W.codeIn K cd_Draw "Pack.draw" = true)
    (k_Draw : PySem.W.keepIn K (.ref f_Draw) = true)
    (a_BleedEach : PySem.W.findIn K (.ref C) "bleed_each" = some (some (.ref f_BleedEach)))
    (i_BleedEach : PySem.W.isFn K (.ref f_BleedEach) = true)
    (l_BleedEach : K.lookup f_BleedEach = some ⟨oc_BleedEach, od_BleedEach, .func (PySem.W.fnOf "bleed_each" "Pack.bleed_each" (defArgs sBleedEach) (defBody sBleedEach) (defScope sBleedEach) .none kV_BleedEach dc_BleedEach pm_BleedEach an_BleedEach cd_BleedEach ct_BleedEach), sl_BleedEach⟩)
    (c_BleedEach : PySem.W.codeIn K cd_BleedEach "Pack.bleed_each" = true)
    (k_BleedEach : PySem.W.keepIn K (.ref f_BleedEach) = true)
    (a_CanBleed : PySem.W.findIn K (.ref C) "can_bleed" = some (some (.ref f_CanBleed)))
    (i_CanBleed : PySem.W.isFn K (.ref f_CanBleed) = true)
    (l_CanBleed : K.lookup f_CanBleed = some ⟨oc_CanBleed, od_CanBleed, .func (PySem.W.fnOf "can_bleed" "Pack.can_bleed" (defArgs sCanBleed) (defBody sCanBleed) (defScope sCanBleed) .none kV_CanBleed dc_CanBleed pm_CanBleed an_CanBleed cd_CanBleed ct_CanBleed), sl_CanBleed⟩)
    (c_CanBleed : PySem.W.codeIn K cd_CanBleed "Pack.can_bleed" = true)
    (k_CanBleed : PySem.W.keepIn K (.ref f_CanBleed) = true)
    (a_OfOne : PySem.W.findIn K (.ref C) "amounts_of_one" = some (some (.ref f_OfOne)))
    (i_OfOne : PySem.W.isFn K (.ref f_OfOne) = true)
    (l_OfOne : K.lookup f_OfOne = some ⟨oc_OfOne, od_OfOne, .func (PySem.W.fnOf "amounts_of_one" "Pack.amounts_of_one" (defArgs sOfOne) (defBody sOfOne) (defScope sOfOne) .none kV_OfOne dc_OfOne pm_OfOne an_OfOne cd_OfOne ct_OfOne), sl_OfOne⟩)
    (c_OfOne : PySem.W.codeIn K cd_OfOne "Pack.amounts_of_one" = true)
    (k_OfOne : PySem.W.keepIn K (.ref f_OfOne) = true)
    (a_ToLack : PySem.W.findIn K (.ref C) "amounts_to_lack" = some (some (.ref f_ToLack)))
    (i_ToLack : PySem.W.isFn K (.ref f_ToLack) = true)
    (l_ToLack : K.lookup f_ToLack = some ⟨oc_ToLack, od_ToLack, .func (PySem.W.fnOf "amounts_to_lack" "Pack.amounts_to_lack" (defArgs sToLack) (defBody sToLack) (defScope sToLack) .none kV_ToLack dc_ToLack pm_ToLack an_ToLack cd_ToLack ct_ToLack), sl_ToLack⟩)
    (c_ToLack : PySem.W.codeIn K cd_ToLack "Pack.amounts_to_lack" = true)
    (k_ToLack : PySem.W.keepIn K (.ref f_ToLack) = true)
    (a_ToEven : PySem.W.findIn K (.ref C) "amounts_to_even" = some (some (.ref f_ToEven)))
    (i_ToEven : PySem.W.isFn K (.ref f_ToEven) = true)
    (l_ToEven : K.lookup f_ToEven = some ⟨oc_ToEven, od_ToEven, .func (PySem.W.fnOf "amounts_to_even" "Pack.amounts_to_even" (defArgs sToEven) (defBody sToEven) (defScope sToEven) .none kV_ToEven dc_ToEven pm_ToEven an_ToEven cd_ToEven ct_ToEven), sl_ToEven⟩)
    (c_ToEven : PySem.W.codeIn K cd_ToEven "Pack.amounts_to_even" = true)
    (k_ToEven : PySem.W.keepIn K (.ref f_ToEven) = true)
    (a_ToGive : PySem.W.findIn K (.ref C) "amounts_to_give" = some (some (.ref f_ToGive)))
    (i_ToGive : PySem.W.isFn K (.ref f_ToGive) = true)
    (l_ToGive : K.lookup f_ToGive = some ⟨oc_ToGive, od_ToGive, .func (PySem.W.fnOf "amounts_to_give" "Pack.amounts_to_give" (defArgs sToGive) (defBody sToGive) (defScope sToGive) .none kV_ToGive dc_ToGive pm_ToGive an_ToGive cd_ToGive ct_ToGive), sl_ToGive⟩)
    (c_ToGive : PySem.W.codeIn K cd_ToGive "Pack.amounts_to_give" = true)
    (k_ToGive : PySem.W.keepIn K (.ref f_ToGive) = true)
    (a_After : PySem.W.findIn K (.ref C) "held_after" = some (some (.ref f_After)))
    (i_After : PySem.W.isFn K (.ref f_After) = true)
    (l_After : K.lookup f_After = some ⟨oc_After, od_After, .func (PySem.W.fnOf "held_after" "Pack.held_after" (defArgs sAfter) (defBody sAfter) (defScope sAfter) .none kV_After dc_After pm_After an_After cd_After ct_After), sl_After⟩)
    (c_After : PySem.W.codeIn K cd_After "Pack.held_after" = true)
    (k_After : PySem.W.keepIn K (.ref f_After) = true)
    (a_Lose : PySem.W.findIn K (.ref C) "lose" = some (some (.ref f_Lose)))
    (i_Lose : PySem.W.isFn K (.ref f_Lose) = true)
    (l_Lose : K.lookup f_Lose = some ⟨oc_Lose, od_Lose, .func (PySem.W.fnOf "lose" "Pack.lose" (defArgs sLose) (defBody sLose) (defScope sLose) .none kV_Lose dc_Lose pm_Lose an_Lose cd_Lose ct_Lose), sl_Lose⟩)
    (c_Lose : PySem.W.codeIn K cd_Lose "Pack.lose" = true)
    (k_Lose : PySem.W.keepIn K (.ref f_Lose) = true)
    (a_Till : PySem.W.findIn K (.ref C) "days_till_below" = some (some (.ref f_Till)))
    (i_Till : PySem.W.isFn K (.ref f_Till) = true)
    (l_Till : K.lookup f_Till = some ⟨oc_Till, od_Till, .func (PySem.W.fnOf "days_till_below" "Pack.days_till_below" (defArgs sTill) (defBody sTill) (defScope sTill) .none kV_Till dc_Till pm_Till an_Till cd_Till ct_Till), sl_Till⟩)
    (c_Till : PySem.W.codeIn K cd_Till "Pack.days_till_below" = true)
    (k_Till : PySem.W.keepIn K (.ref f_Till) = true)
    (a_Swap : PySem.W.findIn K (.ref C) "swap" = some (some (.ref f_Swap)))
    (i_Swap : PySem.W.isFn K (.ref f_Swap) = true)
    (l_Swap : K.lookup f_Swap = some ⟨oc_Swap, od_Swap, .func (PySem.W.fnOf "swap" "Pack.swap" (defArgs sSwap) (defBody sSwap) (defScope sSwap) .none kV_Swap dc_Swap pm_Swap an_Swap cd_Swap ct_Swap), sl_Swap⟩)
    (c_Swap : PySem.W.codeIn K cd_Swap "Pack.swap" = true)
    (k_Swap : PySem.W.keepIn K (.ref f_Swap) = true)
    (a_FIsRoom : PySem.W.nsIn K mainGlobals "is_room" = some (some (.ref f_FIsRoom)))
    (l_FIsRoom : K.lookup f_FIsRoom = some ⟨oc_FIsRoom, od_FIsRoom, .func (PySem.W.fnOf "is_room" "is_room" (defArgs sIsRoom) (defBody sIsRoom) (defScope sIsRoom) .none kV_FIsRoom dc_FIsRoom pm_FIsRoom an_FIsRoom cd_FIsRoom ct_FIsRoom), sl_FIsRoom⟩)
    (c_FIsRoom : PySem.W.codeIn K cd_FIsRoom "is_room" = true)
    (k_FIsRoom : PySem.W.keepIn K (.ref f_FIsRoom) = true)
    (a_FIsGroup : PySem.W.nsIn K mainGlobals "is_group" = some (some (.ref f_FIsGroup)))
    (l_FIsGroup : K.lookup f_FIsGroup = some ⟨oc_FIsGroup, od_FIsGroup, .func (PySem.W.fnOf "is_group" "is_group" (defArgs sIsGroup) (defBody sIsGroup) (defScope sIsGroup) .none kV_FIsGroup dc_FIsGroup pm_FIsGroup an_FIsGroup cd_FIsGroup ct_FIsGroup), sl_FIsGroup⟩)
    (c_FIsGroup : PySem.W.codeIn K cd_FIsGroup "is_group" = true)
    (k_FIsGroup : PySem.W.keepIn K (.ref f_FIsGroup) = true)
    (a_FStart : PySem.W.nsIn K mainGlobals "start" = some (some (.ref f_FStart)))
    (l_FStart : K.lookup f_FStart = some ⟨oc_FStart, od_FStart, .func (PySem.W.fnOf "start" "start" (defArgs sStart) (defBody sStart) (defScope sStart) .none kV_FStart dc_FStart pm_FStart an_FStart cd_FStart ct_FStart), sl_FStart⟩)
    (c_FStart : PySem.W.codeIn K cd_FStart "start" = true)
    (k_FStart : PySem.W.keepIn K (.ref f_FStart) = true)
    (a_FHold : PySem.W.nsIn K mainGlobals "hold" = some (some (.ref f_FHold)))
    (l_FHold : K.lookup f_FHold = some ⟨oc_FHold, od_FHold, .func (PySem.W.fnOf "hold" "hold" (defArgs sHold) (defBody sHold) (defScope sHold) .none kV_FHold dc_FHold pm_FHold an_FHold cd_FHold ct_FHold), sl_FHold⟩)
    (c_FHold : PySem.W.codeIn K cd_FHold "hold" = true)
    (k_FHold : PySem.W.keepIn K (.ref f_FHold) = true)
    (a_FLeak : PySem.W.nsIn K mainGlobals "leak" = some (some (.ref f_FLeak)))
    (l_FLeak : K.lookup f_FLeak = some ⟨oc_FLeak, od_FLeak, .func (PySem.W.fnOf "leak" "leak" (defArgs sLeak) (defBody sLeak) (defScope sLeak) .none kV_FLeak dc_FLeak pm_FLeak an_FLeak cd_FLeak ct_FLeak), sl_FLeak⟩)
    (c_FLeak : PySem.W.codeIn K cd_FLeak "leak" = true)
    (k_FLeak : PySem.W.keepIn K (.ref f_FLeak) = true)
    (a_FMay : PySem.W.nsIn K mainGlobals "may_move" = some (some (.ref f_FMay)))
    (l_FMay : K.lookup f_FMay = some ⟨oc_FMay, od_FMay, .func (PySem.W.fnOf "may_move" "may_move" (defArgs sMayMove) (defBody sMayMove) (defScope sMayMove) .none kV_FMay dc_FMay pm_FMay an_FMay cd_FMay ct_FMay), sl_FMay⟩)
    (c_FMay : PySem.W.codeIn K cd_FMay "may_move" = true)
    (k_FMay : PySem.W.keepIn K (.ref f_FMay) = true)
    (a_FFill : PySem.W.nsIn K mainGlobals "fill" = some (some (.ref f_FFill)))
    (l_FFill : K.lookup f_FFill = some ⟨oc_FFill, od_FFill, .func (PySem.W.fnOf "fill" "fill" (defArgs sFillF) (defBody sFillF) (defScope sFillF) .none kV_FFill dc_FFill pm_FFill an_FFill cd_FFill ct_FFill), sl_FFill⟩)
    (c_FFill : PySem.W.codeIn K cd_FFill "fill" = true)
    (k_FFill : PySem.W.keepIn K (.ref f_FFill) = true)
    (a_FDraw : PySem.W.nsIn K mainGlobals "draw" = some (some (.ref f_FDraw)))
    (l_FDraw : K.lookup f_FDraw = some ⟨oc_FDraw, od_FDraw, .func (PySem.W.fnOf "draw" "draw" (defArgs sDrawF) (defBody sDrawF) (defScope sDrawF) .none kV_FDraw dc_FDraw pm_FDraw an_FDraw cd_FDraw ct_FDraw), sl_FDraw⟩)
    (c_FDraw : PySem.W.codeIn K cd_FDraw "draw" = true)
    (k_FDraw : PySem.W.keepIn K (.ref f_FDraw) = true)
    (a_FBleed : PySem.W.nsIn K mainGlobals "bleed" = some (some (.ref f_FBleed)))
    (l_FBleed : K.lookup f_FBleed = some ⟨oc_FBleed, od_FBleed, .func (PySem.W.fnOf "bleed" "bleed" (defArgs sBleedF) (defBody sBleedF) (defScope sBleedF) .none kV_FBleed dc_FBleed pm_FBleed an_FBleed cd_FBleed ct_FBleed), sl_FBleed⟩)
    (c_FBleed : PySem.W.codeIn K cd_FBleed "bleed" = true)
    (k_FBleed : PySem.W.keepIn K (.ref f_FBleed) = true)
    (a_FEven : PySem.W.nsIn K mainGlobals "even" = some (some (.ref f_FEven)))
    (l_FEven : K.lookup f_FEven = some ⟨oc_FEven, od_FEven, .func (PySem.W.fnOf "even" "even" (defArgs sEvenF) (defBody sEvenF) (defScope sEvenF) .none kV_FEven dc_FEven pm_FEven an_FEven cd_FEven ct_FEven), sl_FEven⟩)
    (c_FEven : PySem.W.codeIn K cd_FEven "even" = true)
    (k_FEven : PySem.W.keepIn K (.ref f_FEven) = true)
    (a_FEvens : PySem.W.nsIn K mainGlobals "evens" = some (some (.ref f_FEvens)))
    (l_FEvens : K.lookup f_FEvens = some ⟨oc_FEvens, od_FEvens, .func (PySem.W.fnOf "evens" "evens" (defArgs sEvensF) (defBody sEvensF) (defScope sEvensF) .none kV_FEvens dc_FEvens pm_FEvens an_FEvens cd_FEvens ct_FEvens), sl_FEvens⟩)
    (c_FEvens : PySem.W.codeIn K cd_FEvens "evens" = true)
    (k_FEvens : PySem.W.keepIn K (.ref f_FEvens) = true)
    (a_FReach : PySem.W.nsIn K mainGlobals "reach" = some (some (.ref f_FReach)))
    (l_FReach : K.lookup f_FReach = some ⟨oc_FReach, od_FReach, .func (PySem.W.fnOf "reach" "reach" (defArgs sReachF) (defBody sReachF) (defScope sReachF) .none kV_FReach dc_FReach pm_FReach an_FReach cd_FReach ct_FReach), sl_FReach⟩)
    (c_FReach : PySem.W.codeIn K cd_FReach "reach" = true)
    (k_FReach : PySem.W.keepIn K (.ref f_FReach) = true)
    (a_FBleeds : PySem.W.nsIn K mainGlobals "bleeds" = some (some (.ref f_FBleeds)))
    (l_FBleeds : K.lookup f_FBleeds = some ⟨oc_FBleeds, od_FBleeds, .func (PySem.W.fnOf "bleeds" "bleeds" (defArgs sBleedsF) (defBody sBleedsF) (defScope sBleedsF) .none kV_FBleeds dc_FBleeds pm_FBleeds an_FBleeds cd_FBleeds ct_FBleeds), sl_FBleeds⟩)
    (c_FBleeds : PySem.W.codeIn K cd_FBleeds "bleeds" = true)
    (k_FBleeds : PySem.W.keepIn K (.ref f_FBleeds) = true)
    (a_FGives : PySem.W.nsIn K mainGlobals "gives" = some (some (.ref f_FGives)))
    (l_FGives : K.lookup f_FGives = some ⟨oc_FGives, od_FGives, .func (PySem.W.fnOf "gives" "gives" (defArgs sGivesF) (defBody sGivesF) (defScope sGivesF) .none kV_FGives dc_FGives pm_FGives an_FGives cd_FGives ct_FGives), sl_FGives⟩)
    (c_FGives : PySem.W.codeIn K cd_FGives "gives" = true)
    (k_FGives : PySem.W.keepIn K (.ref f_FGives) = true)
    (a_FMost : PySem.W.nsIn K mainGlobals "most" = some (some (.ref f_FMost)))
    (l_FMost : K.lookup f_FMost = some ⟨oc_FMost, od_FMost, .func (PySem.W.fnOf "most" "most" (defArgs sMostF) (defBody sMostF) (defScope sMostF) .none kV_FMost dc_FMost pm_FMost an_FMost cd_FMost ct_FMost), sl_FMost⟩)
    (c_FMost : PySem.W.codeIn K cd_FMost "most" = true)
    (k_FMost : PySem.W.keepIn K (.ref f_FMost) = true)
    (a_FLacks : PySem.W.nsIn K mainGlobals "lacks" = some (some (.ref f_FLacks)))
    (l_FLacks : K.lookup f_FLacks = some ⟨oc_FLacks, od_FLacks, .func (PySem.W.fnOf "lacks" "lacks" (defArgs sLacksF) (defBody sLacksF) (defScope sLacksF) .none kV_FLacks dc_FLacks pm_FLacks an_FLacks cd_FLacks ct_FLacks), sl_FLacks⟩)
    (c_FLacks : PySem.W.codeIn K cd_FLacks "lacks" = true)
    (k_FLacks : PySem.W.keepIn K (.ref f_FLacks) = true)
    (a_FLeast : PySem.W.nsIn K mainGlobals "least_and_first" = some (some (.ref f_FLeast)))
    (l_FLeast : K.lookup f_FLeast = some ⟨oc_FLeast, od_FLeast, .func (PySem.W.fnOf "least_and_first" "least_and_first" (defArgs sLeastFirst) (defBody sLeastFirst) (defScope sLeastFirst) .none kV_FLeast dc_FLeast pm_FLeast an_FLeast cd_FLeast ct_FLeast), sl_FLeast⟩)
    (c_FLeast : PySem.W.codeIn K cd_FLeast "least_and_first" = true)
    (k_FLeast : PySem.W.keepIn K (.ref f_FLeast) = true)
    (a_FWeakest : PySem.W.nsIn K mainGlobals "weakest" = some (some (.ref f_FWeakest)))
    (l_FWeakest : K.lookup f_FWeakest = some ⟨oc_FWeakest, od_FWeakest, .func (PySem.W.fnOf "weakest" "weakest" (defArgs sWeakestF) (defBody sWeakestF) (defScope sWeakestF) .none kV_FWeakest dc_FWeakest pm_FWeakest an_FWeakest cd_FWeakest ct_FWeakest), sl_FWeakest⟩)
    (c_FWeakest : PySem.W.codeIn K cd_FWeakest "weakest" = true)
    (k_FWeakest : PySem.W.keepIn K (.ref f_FWeakest) = true)
    (a_FFullest : PySem.W.nsIn K mainGlobals "fullest" = some (some (.ref f_FFullest)))
    (l_FFullest : K.lookup f_FFullest = some ⟨oc_FFullest, od_FFullest, .func (PySem.W.fnOf "fullest" "fullest" (defArgs sFullestF) (defBody sFullestF) (defScope sFullestF) .none kV_FFullest dc_FFullest pm_FFullest an_FFullest cd_FFullest ct_FFullest), sl_FFullest⟩)
    (c_FFullest : PySem.W.codeIn K cd_FFullest "fullest" = true)
    (k_FFullest : PySem.W.keepIn K (.ref f_FFullest) = true)
    (a_FDays : PySem.W.nsIn K mainGlobals "days" = some (some (.ref f_FDays)))
    (l_FDays : K.lookup f_FDays = some ⟨oc_FDays, od_FDays, .func (PySem.W.fnOf "days" "days" (defArgs sDaysF) (defBody sDaysF) (defScope sDaysF) .none kV_FDays dc_FDays pm_FDays an_FDays cd_FDays ct_FDays), sl_FDays⟩)
    (c_FDays : PySem.W.codeIn K cd_FDays "days" = true)
    (k_FDays : PySem.W.keepIn K (.ref f_FDays) = true)
    (a_FWhen : PySem.W.nsIn K mainGlobals "when" = some (some (.ref f_FWhen)))
    (l_FWhen : K.lookup f_FWhen = some ⟨oc_FWhen, od_FWhen, .func (PySem.W.fnOf "when" "when" (defArgs sWhenF) (defBody sWhenF) (defScope sWhenF) .none kV_FWhen dc_FWhen pm_FWhen an_FWhen cd_FWhen ct_FWhen), sl_FWhen⟩)
    (c_FWhen : PySem.W.codeIn K cd_FWhen "when" = true)
    (k_FWhen : PySem.W.keepIn K (.ref f_FWhen) = true)
    (a_FSwap : PySem.W.nsIn K mainGlobals "swap" = some (some (.ref f_FSwap)))
    (l_FSwap : K.lookup f_FSwap = some ⟨oc_FSwap, od_FSwap, .func (PySem.W.fnOf "swap" "swap" (defArgs sSwapF) (defBody sSwapF) (defScope sSwapF) .none kV_FSwap dc_FSwap pm_FSwap an_FSwap cd_FSwap ct_FSwap), sl_FSwap⟩)
    (c_FSwap : PySem.W.codeIn K cd_FSwap "swap" = true)
    (k_FSwap : PySem.W.keepIn K (.ref f_FSwap) = true)
    (a_FGain : PySem.W.nsIn K mainGlobals "gain" = some (some (.ref f_FGain)))
    (l_FGain : K.lookup f_FGain = some ⟨oc_FGain, od_FGain, .func (PySem.W.fnOf "gain" "gain" (defArgs sGainF) (defBody sGainF) (defScope sGainF) .none kV_FGain dc_FGain pm_FGain an_FGain cd_FGain ct_FGain), sl_FGain⟩)
    (c_FGain : PySem.W.codeIn K cd_FGain "gain" = true)
    (k_FGain : PySem.W.keepIn K (.ref f_FGain) = true)
    (a_FBest : PySem.W.nsIn K mainGlobals "best" = some (some (.ref f_FBest)))
    (l_FBest : K.lookup f_FBest = some ⟨oc_FBest, od_FBest, .func (PySem.W.fnOf "best" "best" (defArgs sBestF) (defBody sBestF) (defScope sBestF) .none kV_FBest dc_FBest pm_FBest an_FBest cd_FBest ct_FBest), sl_FBest⟩)
    (c_FBest : PySem.W.codeIn K cd_FBest "best" = true)
    (k_FBest : PySem.W.keepIn K (.ref f_FBest) = true)
    (a_FUnits : PySem.W.nsIn K mainGlobals "units" = some (some (.ref f_FUnits)))
    (l_FUnits : K.lookup f_FUnits = some ⟨oc_FUnits, od_FUnits, .func (PySem.W.fnOf "units" "units" (defArgs sUnitsF) (defBody sUnitsF) (defScope sUnitsF) .none kV_FUnits dc_FUnits pm_FUnits an_FUnits cd_FUnits ct_FUnits), sl_FUnits⟩)
    (c_FUnits : PySem.W.codeIn K cd_FUnits "units" = true)
    (k_FUnits : PySem.W.keepIn K (.ref f_FUnits) = true)
    (a_FLook : PySem.W.nsIn K mainGlobals "look" = some (some (.ref f_FLook)))
    (l_FLook : K.lookup f_FLook = some ⟨oc_FLook, od_FLook, .func (PySem.W.fnOf "look" "look" (defArgs sLookF) (defBody sLookF) (defScope sLookF) .none kV_FLook dc_FLook pm_FLook an_FLook cd_FLook ct_FLook), sl_FLook⟩)
    (c_FLook : PySem.W.codeIn K cd_FLook "look" = true)
    (k_FLook : PySem.W.keepIn K (.ref f_FLook) = true)
    (a_FState : PySem.W.nsIn K mainGlobals "state" = some (some (.ref f_FState)))
    (l_FState : K.lookup f_FState = some ⟨oc_FState, od_FState, .func (PySem.W.fnOf "state" "state" (defArgs sStateF) (defBody sStateF) (defScope sStateF) .none kV_FState dc_FState pm_FState an_FState cd_FState ct_FState), sl_FState⟩)
    (c_FState : PySem.W.codeIn K cd_FState "state" = true)
    (k_FState : PySem.W.keepIn K (.ref f_FState) = true)
    (a_FAnswer : PySem.W.nsIn K mainGlobals "answer" = some (some (.ref f_FAnswer)))
    (l_FAnswer : K.lookup f_FAnswer = some ⟨oc_FAnswer, od_FAnswer, .func (PySem.W.fnOf "answer" "answer" (defArgs sAnswer) (defBody sAnswer) (defScope sAnswer) .none kV_FAnswer dc_FAnswer pm_FAnswer an_FAnswer cd_FAnswer ct_FAnswer), sl_FAnswer⟩)
    (c_FAnswer : PySem.W.codeIn K cd_FAnswer "answer" = true)
    (k_FAnswer : PySem.W.keepIn K (.ref f_FAnswer) = true)
    (a_FAnswers : PySem.W.nsIn K mainGlobals "answers" = some (some (.ref f_FAnswers)))
    (l_FAnswers : K.lookup f_FAnswers = some ⟨oc_FAnswers, od_FAnswers, .func (PySem.W.fnOf "answers" "answers" (defArgs sAnswers) (defBody sAnswers) (defScope sAnswers) .none kV_FAnswers dc_FAnswers pm_FAnswers an_FAnswers cd_FAnswers ct_FAnswers), sl_FAnswers⟩)
    (c_FAnswers : PySem.W.codeIn K cd_FAnswers "answers" = true)
    (k_FAnswers : PySem.W.keepIn K (.ref f_FAnswers) = true)
    (pg : PySem.W.plainGet K C Str.empty = true)
    (hd : PySem.W.hasDictIn K C = true)
    (po : PySem.W.plainOver K C = true)
    (sa : PySem.W.findIn K (.ref C) "__setattr__" = some (some (.builtin "object.__setattr__")))
    (mk : PySem.W.makesIn K C = true)
    (kc : PySem.W.keepIn K (.ref C) = true)
    (n_rooms : PySem.W.findIn K (.ref C) "rooms" = some none)
    (n_leaks : PySem.W.findIn K (.ref C) "leaks" = some none)
    (n_held : PySem.W.findIn K (.ref C) "held" = some none)
    (n_put_in : PySem.W.findIn K (.ref C) "put_in" = some none)
    (n_filled : PySem.W.findIn K (.ref C) "filled" = some none)
    (n_drawn : PySem.W.findIn K (.ref C) "drawn" = some none)
    (n_bled : PySem.W.findIn K (.ref C) "bled" = some none)
    (n_leaked : PySem.W.findIn K (.ref C) "leaked" = some none)
    (z_len : PySem.W.nsIn K mainGlobals "len" = some none)
    (z_min : PySem.W.nsIn K mainGlobals "min" = some none)
    (z_max : PySem.W.nsIn K mainGlobals "max" = some none)
    (z_sum : PySem.W.nsIn K mainGlobals "sum" = some none)
    (z_zip : PySem.W.nsIn K mainGlobals "zip" = some none)
    (z_range : PySem.W.nsIn K mainGlobals "range" = some none)
    (z_list : PySem.W.nsIn K mainGlobals "list" = some none)
    (z_any : PySem.W.nsIn K mainGlobals "any" = some none)
    (z_all : PySem.W.nsIn K mainGlobals "all" = some none)
    (z_enumerate : PySem.W.nsIn K mainGlobals "enumerate" = some none)
    (v_0 : PySem.W.nsIn K mainGlobals "NO_SUCH_GROUP" = some (some (.int (-2) t_0)))
    (v_1 : PySem.W.nsIn K mainGlobals "NOT_STARTED" = some (some (.int (-11) t_1)))
    (v_2 : PySem.W.nsIn K mainGlobals "HOLDS_FEWER" = some (some (.int (-12) t_2)))
    (v_3 : PySem.W.nsIn K mainGlobals "NOT_AS_TOLD" = some (some (.int (-22) t_3)))
    (v_4 : PySem.W.nsIn K mainGlobals "OUT_OF_REACH" = some (some (.int (-33) t_4)))
    (v_5 : PySem.W.nsIn K mainGlobals "START" = some (some (.int (0) t_5)))
    (v_6 : PySem.W.nsIn K mainGlobals "MOST_GROUPS" = some (some (.int (10) t_6)))
    (v_7 : PySem.W.nsIn K mainGlobals "MOST_ROOM" = some (some (.int (10000) t_7)))
    (v_8 : PySem.W.nsIn K mainGlobals "MOST_LEAK" = some (some (.int (1000) t_8)))
    (v_9 : PySem.W.nsIn K mainGlobals "MOST_MOVED" = some (some (.int (100000) t_9)))
    (v_10 : PySem.W.nsIn K mainGlobals "MOST_DAYS" = some (some (.int (1000) t_10)))
    (aA : PySem.W.nsIn K mainGlobals "ANSWERED_BY" = some (some (.ref dA)))
    (lA : K.lookup dA = some ⟨.type "dict", none, .dict esA nA, #[]⟩)
    (iA : intKeys esA = true)
    (e_0 : dAt esA ((0 : Nat) : Int) = some (.ref f_FStart))
    (e_1 : dAt esA ((1 : Nat) : Int) = some (.ref f_FHold))
    (e_2 : dAt esA ((2 : Nat) : Int) = some (.ref f_FLeak))
    (e_3 : dAt esA ((3 : Nat) : Int) = some (.ref f_FFill))
    (e_4 : dAt esA ((4 : Nat) : Int) = some (.ref f_FDraw))
    (e_5 : dAt esA ((5 : Nat) : Int) = some (.ref f_FBleed))
    (e_6 : dAt esA ((6 : Nat) : Int) = some (.ref f_FEven))
    (e_7 : dAt esA ((7 : Nat) : Int) = some (.ref f_FEvens))
    (e_8 : dAt esA ((8 : Nat) : Int) = some (.ref f_FReach))
    (e_9 : dAt esA ((9 : Nat) : Int) = some (.ref f_FBleeds))
    (e_10 : dAt esA ((10 : Nat) : Int) = some (.ref f_FGives))
    (e_11 : dAt esA ((11 : Nat) : Int) = some (.ref f_FMost))
    (e_12 : dAt esA ((12 : Nat) : Int) = some (.ref f_FLacks))
    (e_13 : dAt esA ((13 : Nat) : Int) = some (.ref f_FWeakest))
    (e_14 : dAt esA ((14 : Nat) : Int) = some (.ref f_FFullest))
    (e_15 : dAt esA ((15 : Nat) : Int) = some (.ref f_FDays))
    (e_16 : dAt esA ((16 : Nat) : Int) = some (.ref f_FWhen))
    (e_17 : dAt esA ((17 : Nat) : Int) = some (.ref f_FSwap))
    (e_18 : dAt esA ((18 : Nat) : Int) = some (.ref f_FGain))
    (e_19 : dAt esA ((19 : Nat) : Int) = some (.ref f_FBest))
    (e_20 : dAt esA ((20 : Nat) : Int) = some (.ref f_FUnits))
    (e_21 : dAt esA ((21 : Nat) : Int) = some (.ref f_FLook))
    (e_22 : dAt esA ((22 : Nat) : Int) = some (.ref f_FState))
    (aW : PySem.W.nsIn K mainGlobals "WITH_A_ROW" = some (some (.ref tw)))
    (lW : K.lookup tw = some ⟨ocW, odW, .seq itW nW, slW⟩)
    (cW : ocW = .type "tuple")
    (iW : itW.toList.map absV = [some (.int 0), some (.int 1), some (.int 2)])
    (aN : PySem.W.nsIn K mainGlobals "WHOLE_NUMBERS" = some (some (.ref dN)))
    (lN : K.lookup dN = some ⟨.type "dict", none, .dict esN nN, #[]⟩)
    (iN : intKeys esN = true)
    (w_3 : (dAt esN 3).bind absV = some (.int 1))
    (w_4 : (dAt esN 4).bind absV = some (.int 1))
    (w_5 : (dAt esN 5).bind absV = some (.int 2))
    (w_6 : (dAt esN 6).bind absV = some (.int 0))
    (w_7 : (dAt esN 7).bind absV = some (.int 0))
    (w_8 : (dAt esN 8).bind absV = some (.int 1))
    (w_9 : (dAt esN 9).bind absV = some (.int 1))
    (w_10 : (dAt esN 10).bind absV = some (.int 0))
    (w_11 : (dAt esN 11).bind absV = some (.int 0))
    (w_12 : (dAt esN 12).bind absV = some (.int 0))
    (w_13 : (dAt esN 13).bind absV = some (.int 0))
    (w_14 : (dAt esN 14).bind absV = some (.int 0))
    (w_15 : (dAt esN 15).bind absV = some (.int 1))
    (w_16 : (dAt esN 16).bind absV = some (.int 1))
    (w_17 : (dAt esN 17).bind absV = some (.int 3))
    (w_18 : (dAt esN 18).bind absV = some (.int 2))
    (w_19 : (dAt esN 19).bind absV = some (.int 1))
    (w_20 : (dAt esN 20).bind absV = some (.int 0))
    (w_21 : (dAt esN 21).bind absV = some (.int 1))
    (w_22 : (dAt esN 22).bind absV = some (.int 0)) :
    ∃ fd : FuncData, (∀ (s : Shared) (us : List Value), us.length = (["calls"] : List Str).length → BindsTo s fd ⟨us, []⟩ ((["calls"] : List Str).zip us)) ∧ ∀ base : Heap, K.In base → base.Ns mainGlobals mg → FnOk P w K mg base CX0 7 fa fd ["calls"] (spAnswers K) := by
  have e := hfa.symm.trans (PySem.W.mg_of X G a_FAnswers)
  cases e
  have T : Txt K mg C := ⟨⟨pg, hd, po, sa⟩, n_rooms, n_leaks, n_held, n_put_in, n_filled, n_drawn, n_bled, n_leaked, PySem.W.mg_of X G aC, PySem.W.mg_none_of X G z_len, PySem.W.mg_none_of X G z_min, PySem.W.mg_none_of X G z_max, PySem.W.mg_none_of X G z_sum, PySem.W.mg_none_of X G z_zip, PySem.W.mg_none_of X G z_range, PySem.W.mg_none_of X G z_list, PySem.W.mg_none_of X G z_any, PySem.W.mg_none_of X G z_all, PySem.W.mg_none_of X G z_enumerate⟩
  have N : Nums mg := ⟨⟨_, PySem.W.mg_of X G v_0⟩, ⟨_, PySem.W.mg_of X G v_1⟩, ⟨_, PySem.W.mg_of X G v_2⟩, ⟨_, PySem.W.mg_of X G v_3⟩, ⟨_, PySem.W.mg_of X G v_4⟩, ⟨_, PySem.W.mg_of X G v_5⟩, ⟨_, PySem.W.mg_of X G v_6⟩, ⟨_, PySem.W.mg_of X G v_7⟩, ⟨_, PySem.W.mg_of X G v_8⟩, ⟨_, PySem.W.mg_of X G v_9⟩, ⟨_, PySem.W.mg_of X G v_10⟩⟩
  have F_Init := fun_mk (st := sInit) l_Init c_Init k_Init
  have b_Init := F_Init.binds (ps := ["self"]) fun _ _ _ _ _ _ us hl => by obtain ⟨_, rfl⟩ := len1 hl; rfl
  have F_Started := fun_mk (st := sStarted) l_Started c_Started k_Started
  have b_Started := F_Started.binds (ps := ["self"]) fun _ _ _ _ _ _ us hl => by obtain ⟨_, rfl⟩ := len1 hl; rfl
  have F_Begin := fun_mk (st := sBegin) l_Begin c_Begin k_Begin
  have b_Begin := F_Begin.binds (ps := ["self", "rooms"]) fun _ _ _ _ _ _ us hl => by obtain ⟨_, _, rfl⟩ := len2 hl; rfl
  have F_Put := fun_mk (st := sPut) l_Put c_Put k_Put
  have b_Put := F_Put.binds (ps := ["self", "held"]) fun _ _ _ _ _ _ us hl => by obtain ⟨_, _, rfl⟩ := len2 hl; rfl
  have F_SetLeaks := fun_mk (st := sSetLeaks) l_SetLeaks c_SetLeaks k_SetLeaks
  have b_SetLeaks := F_SetLeaks.binds (ps := ["self", "leaks"]) fun _ _ _ _ _ _ us hl => by obtain ⟨_, _, rfl⟩ := len2 hl; rfl
  have F_Lacks := fun_mk (st := sLacks) l_Lacks c_Lacks k_Lacks
  have b_Lacks := F_Lacks.binds (ps := ["self"]) fun _ _ _ _ _ _ us hl => by obtain ⟨_, rfl⟩ := len1 hl; rfl
  have F_LacksH := fun_mk (st := sLacksH) l_LacksH c_LacksH k_LacksH
  have b_LacksH := F_LacksH.binds (ps := ["self", "held"]) fun _ _ _ _ _ _ us hl => by obtain ⟨_, _, rfl⟩ := len2 hl; rfl
  have F_Gives := fun_mk (st := sGives) l_Gives c_Gives k_Gives
  have b_Gives := F_Gives.binds (ps := ["self"]) fun _ _ _ _ _ _ us hl => by obtain ⟨_, rfl⟩ := len1 hl; rfl
  have F_GivesH := fun_mk (st := sGivesH) l_GivesH c_GivesH k_GivesH
  have b_GivesH := F_GivesH.binds (ps := ["self", "held"]) fun _ _ _ _ _ _ us hl => by obtain ⟨_, _, rfl⟩ := len2 hl; rfl
  have F_Most := fun_mk (st := sMost) l_Most c_Most k_Most
  have b_Most := F_Most.binds (ps := ["self"]) fun _ _ _ _ _ _ us hl => by obtain ⟨_, rfl⟩ := len1 hl; rfl
  have F_MostW := fun_mk (st := sMostW) l_MostW c_MostW k_MostW
  have b_MostW := F_MostW.binds (ps := ["self", "group", "room"]) fun _ _ _ _ _ _ us hl => by obtain ⟨_, _, _, rfl⟩ := len3 hl; rfl
  have F_Units := fun_mk (st := sUnits) l_Units c_Units k_Units
  have b_Units := F_Units.binds (ps := ["self"]) fun _ _ _ _ _ _ us hl => by obtain ⟨_, rfl⟩ := len1 hl; rfl
  have F_Fill := fun_mk (st := sFill) l_Fill c_Fill k_Fill
  have b_Fill := F_Fill.binds (ps := ["self", "n"]) fun _ _ _ _ _ _ us hl => by obtain ⟨_, _, rfl⟩ := len2 hl; rfl
  have F_Draw := fun_mk (st := sDraw) l_Draw c_Draw k_Draw
  have b_Draw := F_Draw.binds (ps := ["self", "n"]) fun _ _ _ _ _ _ us hl => by obtain ⟨_, _, rfl⟩ := len2 hl; rfl
  have F_BleedEach := fun_mk (st := sBleedEach) l_BleedEach c_BleedEach k_BleedEach
  have b_BleedEach := F_BleedEach.binds (ps := ["self", "amounts"]) fun _ _ _ _ _ _ us hl => by obtain ⟨_, _, rfl⟩ := len2 hl; rfl
  have F_CanBleed := fun_mk (st := sCanBleed) l_CanBleed c_CanBleed k_CanBleed
  have b_CanBleed := F_CanBleed.binds (ps := ["self", "amounts"]) fun _ _ _ _ _ _ us hl => by obtain ⟨_, _, rfl⟩ := len2 hl; rfl
  have F_OfOne := fun_mk (st := sOfOne) l_OfOne c_OfOne k_OfOne
  have b_OfOne := F_OfOne.binds (ps := ["self", "group", "n"]) fun _ _ _ _ _ _ us hl => by obtain ⟨_, _, _, rfl⟩ := len3 hl; rfl
  have F_ToLack := fun_mk (st := sToLack) l_ToLack c_ToLack k_ToLack
  have b_ToLack := F_ToLack.binds (ps := ["self", "mark"]) fun _ _ _ _ _ _ us hl => by obtain ⟨_, _, rfl⟩ := len2 hl; rfl
  have F_ToEven := fun_mk (st := sToEven) l_ToEven c_ToEven k_ToEven
  have b_ToEven := F_ToEven.binds (ps := ["self"]) fun _ _ _ _ _ _ us hl => by obtain ⟨_, rfl⟩ := len1 hl; rfl
  have F_ToGive := fun_mk (st := sToGive) l_ToGive c_ToGive k_ToGive
  have b_ToGive := F_ToGive.binds (ps := ["self", "t"]) fun _ _ _ _ _ _ us hl => by obtain ⟨_, _, rfl⟩ := len2 hl; rfl
  have F_After := fun_mk (st := sAfter) l_After c_After k_After
  have b_After := F_After.binds (ps := ["self", "days"]) fun _ _ _ _ _ _ us hl => by obtain ⟨_, _, rfl⟩ := len2 hl; rfl
  have F_Lose := fun_mk (st := sLose) l_Lose c_Lose k_Lose
  have b_Lose := F_Lose.binds (ps := ["self", "days"]) fun _ _ _ _ _ _ us hl => by obtain ⟨_, _, rfl⟩ := len2 hl; rfl
  have F_Till := fun_mk (st := sTill) l_Till c_Till k_Till
  have b_Till := F_Till.binds (ps := ["self", "t", "limit"]) fun _ _ _ _ _ _ us hl => by obtain ⟨_, _, _, rfl⟩ := len3 hl; rfl
  have F_Swap := fun_mk (st := sSwap) l_Swap c_Swap k_Swap
  have b_Swap := F_Swap.binds (ps := ["self", "group", "room", "holds"]) fun _ _ _ _ _ _ us hl => by obtain ⟨_, _, _, _, rfl⟩ := len4 hl; rfl
  have F_FIsRoom := fun_mk (st := sIsRoom) l_FIsRoom c_FIsRoom k_FIsRoom
  have b_FIsRoom := F_FIsRoom.binds (ps := ["number"]) fun _ _ _ _ _ _ us hl => by obtain ⟨_, rfl⟩ := len1 hl; rfl
  have F_FIsGroup := fun_mk (st := sIsGroup) l_FIsGroup c_FIsGroup k_FIsGroup
  have b_FIsGroup := F_FIsGroup.binds (ps := ["pack", "number"]) fun _ _ _ _ _ _ us hl => by obtain ⟨_, _, rfl⟩ := len2 hl; rfl
  have F_FStart := fun_mk (st := sStart) l_FStart c_FStart k_FStart
  have b_FStart := F_FStart.binds (ps := ["pack", "rooms"]) fun _ _ _ _ _ _ us hl => by obtain ⟨_, _, rfl⟩ := len2 hl; rfl
  have F_FHold := fun_mk (st := sHold) l_FHold c_FHold k_FHold
  have b_FHold := F_FHold.binds (ps := ["pack", "held"]) fun _ _ _ _ _ _ us hl => by obtain ⟨_, _, rfl⟩ := len2 hl; rfl
  have F_FLeak := fun_mk (st := sLeak) l_FLeak c_FLeak k_FLeak
  have b_FLeak := F_FLeak.binds (ps := ["pack", "leaks"]) fun _ _ _ _ _ _ us hl => by obtain ⟨_, _, rfl⟩ := len2 hl; rfl
  have F_FMay := fun_mk (st := sMayMove) l_FMay c_FMay k_FMay
  have b_FMay := F_FMay.binds (ps := ["n"]) fun _ _ _ _ _ _ us hl => by obtain ⟨_, rfl⟩ := len1 hl; rfl
  have F_FFill := fun_mk (st := sFillF) l_FFill c_FFill k_FFill
  have b_FFill := F_FFill.binds (ps := ["pack", "numbers"]) fun _ _ _ _ _ _ us hl => by obtain ⟨_, _, rfl⟩ := len2 hl; rfl
  have F_FDraw := fun_mk (st := sDrawF) l_FDraw c_FDraw k_FDraw
  have b_FDraw := F_FDraw.binds (ps := ["pack", "numbers"]) fun _ _ _ _ _ _ us hl => by obtain ⟨_, _, rfl⟩ := len2 hl; rfl
  have F_FBleed := fun_mk (st := sBleedF) l_FBleed c_FBleed k_FBleed
  have b_FBleed := F_FBleed.binds (ps := ["pack", "numbers"]) fun _ _ _ _ _ _ us hl => by obtain ⟨_, _, rfl⟩ := len2 hl; rfl
  have F_FEven := fun_mk (st := sEvenF) l_FEven c_FEven k_FEven
  have b_FEven := F_FEven.binds (ps := ["pack", "numbers"]) fun _ _ _ _ _ _ us hl => by obtain ⟨_, _, rfl⟩ := len2 hl; rfl
  have F_FEvens := fun_mk (st := sEvensF) l_FEvens c_FEvens k_FEvens
  have b_FEvens := F_FEvens.binds (ps := ["pack", "numbers"]) fun _ _ _ _ _ _ us hl => by obtain ⟨_, _, rfl⟩ := len2 hl; rfl
  have F_FReach := fun_mk (st := sReachF) l_FReach c_FReach k_FReach
  have b_FReach := F_FReach.binds (ps := ["pack", "numbers"]) fun _ _ _ _ _ _ us hl => by obtain ⟨_, _, rfl⟩ := len2 hl; rfl
  have F_FBleeds := fun_mk (st := sBleedsF) l_FBleeds c_FBleeds k_FBleeds
  have b_FBleeds := F_FBleeds.binds (ps := ["pack", "numbers"]) fun _ _ _ _ _ _ us hl => by obtain ⟨_, _, rfl⟩ := len2 hl; rfl
  have F_FGives := fun_mk (st := sGivesF) l_FGives c_FGives k_FGives
  have b_FGives := F_FGives.binds (ps := ["pack", "numbers"]) fun _ _ _ _ _ _ us hl => by obtain ⟨_, _, rfl⟩ := len2 hl; rfl
  have F_FMost := fun_mk (st := sMostF) l_FMost c_FMost k_FMost
  have b_FMost := F_FMost.binds (ps := ["pack", "numbers"]) fun _ _ _ _ _ _ us hl => by obtain ⟨_, _, rfl⟩ := len2 hl; rfl
  have F_FLacks := fun_mk (st := sLacksF) l_FLacks c_FLacks k_FLacks
  have b_FLacks := F_FLacks.binds (ps := ["pack", "numbers"]) fun _ _ _ _ _ _ us hl => by obtain ⟨_, _, rfl⟩ := len2 hl; rfl
  have F_FLeast := fun_mk (st := sLeastFirst) l_FLeast c_FLeast k_FLeast
  have b_FLeast := F_FLeast.binds (ps := ["amounts"]) fun _ _ _ _ _ _ us hl => by obtain ⟨_, rfl⟩ := len1 hl; rfl
  have F_FWeakest := fun_mk (st := sWeakestF) l_FWeakest c_FWeakest k_FWeakest
  have b_FWeakest := F_FWeakest.binds (ps := ["pack", "numbers"]) fun _ _ _ _ _ _ us hl => by obtain ⟨_, _, rfl⟩ := len2 hl; rfl
  have F_FFullest := fun_mk (st := sFullestF) l_FFullest c_FFullest k_FFullest
  have b_FFullest := F_FFullest.binds (ps := ["pack", "numbers"]) fun _ _ _ _ _ _ us hl => by obtain ⟨_, _, rfl⟩ := len2 hl; rfl
  have F_FDays := fun_mk (st := sDaysF) l_FDays c_FDays k_FDays
  have b_FDays := F_FDays.binds (ps := ["pack", "numbers"]) fun _ _ _ _ _ _ us hl => by obtain ⟨_, _, rfl⟩ := len2 hl; rfl
  have F_FWhen := fun_mk (st := sWhenF) l_FWhen c_FWhen k_FWhen
  have b_FWhen := F_FWhen.binds (ps := ["pack", "numbers"]) fun _ _ _ _ _ _ us hl => by obtain ⟨_, _, rfl⟩ := len2 hl; rfl
  have F_FSwap := fun_mk (st := sSwapF) l_FSwap c_FSwap k_FSwap
  have b_FSwap := F_FSwap.binds (ps := ["pack", "numbers"]) fun _ _ _ _ _ _ us hl => by obtain ⟨_, _, rfl⟩ := len2 hl; rfl
  have F_FGain := fun_mk (st := sGainF) l_FGain c_FGain k_FGain
  have b_FGain := F_FGain.binds (ps := ["pack", "numbers"]) fun _ _ _ _ _ _ us hl => by obtain ⟨_, _, rfl⟩ := len2 hl; rfl
  have F_FBest := fun_mk (st := sBestF) l_FBest c_FBest k_FBest
  have b_FBest := F_FBest.binds (ps := ["pack", "numbers"]) fun _ _ _ _ _ _ us hl => by obtain ⟨_, _, rfl⟩ := len2 hl; rfl
  have F_FUnits := fun_mk (st := sUnitsF) l_FUnits c_FUnits k_FUnits
  have b_FUnits := F_FUnits.binds (ps := ["pack", "numbers"]) fun _ _ _ _ _ _ us hl => by obtain ⟨_, _, rfl⟩ := len2 hl; rfl
  have F_FLook := fun_mk (st := sLookF) l_FLook c_FLook k_FLook
  have b_FLook := F_FLook.binds (ps := ["pack", "numbers"]) fun _ _ _ _ _ _ us hl => by obtain ⟨_, _, rfl⟩ := len2 hl; rfl
  have F_FState := fun_mk (st := sStateF) l_FState c_FState k_FState
  have b_FState := F_FState.binds (ps := ["pack", "numbers"]) fun _ _ _ _ _ _ us hl => by obtain ⟨_, _, rfl⟩ := len2 hl; rfl
  have F_FAnswer := fun_mk (st := sAnswer) l_FAnswer c_FAnswer k_FAnswer
  have b_FAnswer := F_FAnswer.binds (ps := ["pack", "call", "numbers"]) fun _ _ _ _ _ _ us hl => by obtain ⟨_, _, _, rfl⟩ := len3 hl; rfl
  have F_FAnswers := fun_mk (st := sAnswers) l_FAnswers c_FAnswers k_FAnswers
  have b_FAnswers := F_FAnswers.binds (ps := ["calls"]) fun _ _ _ _ _ _ us hl => by obtain ⟨_, rfl⟩ := len1 hl; rfl
  have m_Init : Meth K C "__init__" f_Init := ⟨a_Init, i_Init, k_Init⟩
  have m_Started : Meth K C "started" f_Started := ⟨a_Started, i_Started, k_Started⟩
  have m_Begin : Meth K C "begin" f_Begin := ⟨a_Begin, i_Begin, k_Begin⟩
  have m_Put : Meth K C "put" f_Put := ⟨a_Put, i_Put, k_Put⟩
  have m_SetLeaks : Meth K C "set_leaks" f_SetLeaks := ⟨a_SetLeaks, i_SetLeaks, k_SetLeaks⟩
  have m_Lacks : Meth K C "lacks" f_Lacks := ⟨a_Lacks, i_Lacks, k_Lacks⟩
  have m_LacksH : Meth K C "lacks_holding" f_LacksH := ⟨a_LacksH, i_LacksH, k_LacksH⟩
  have m_Gives : Meth K C "gives" f_Gives := ⟨a_Gives, i_Gives, k_Gives⟩
  have m_GivesH : Meth K C "gives_holding" f_GivesH := ⟨a_GivesH, i_GivesH, k_GivesH⟩
  have m_Most : Meth K C "most" f_Most := ⟨a_Most, i_Most, k_Most⟩
  have m_MostW : Meth K C "most_with" f_MostW := ⟨a_MostW, i_MostW, k_MostW⟩
  have m_Units : Meth K C "units" f_Units := ⟨a_Units, i_Units, k_Units⟩
  have m_Fill : Meth K C "fill" f_Fill := ⟨a_Fill, i_Fill, k_Fill⟩
  have m_Draw : Meth K C "draw" f_Draw := ⟨a_Draw, i_Draw, k_Draw⟩
  have m_BleedEach : Meth K C "bleed_each" f_BleedEach := ⟨a_BleedEach, i_BleedEach, k_BleedEach⟩
  have m_CanBleed : Meth K C "can_bleed" f_CanBleed := ⟨a_CanBleed, i_CanBleed, k_CanBleed⟩
  have m_OfOne : Meth K C "amounts_of_one" f_OfOne := ⟨a_OfOne, i_OfOne, k_OfOne⟩
  have m_ToLack : Meth K C "amounts_to_lack" f_ToLack := ⟨a_ToLack, i_ToLack, k_ToLack⟩
  have m_ToEven : Meth K C "amounts_to_even" f_ToEven := ⟨a_ToEven, i_ToEven, k_ToEven⟩
  have m_ToGive : Meth K C "amounts_to_give" f_ToGive := ⟨a_ToGive, i_ToGive, k_ToGive⟩
  have m_After : Meth K C "held_after" f_After := ⟨a_After, i_After, k_After⟩
  have m_Lose : Meth K C "lose" f_Lose := ⟨a_Lose, i_Lose, k_Lose⟩
  have m_Till : Meth K C "days_till_below" f_Till := ⟨a_Till, i_Till, k_Till⟩
  have m_Swap : Meth K C "swap" f_Swap := ⟨a_Swap, i_Swap, k_Swap⟩
  have g_FIsRoom := PySem.W.mg_of X G a_FIsRoom
  have g_FIsGroup := PySem.W.mg_of X G a_FIsGroup
  have g_FStart := PySem.W.mg_of X G a_FStart
  have g_FHold := PySem.W.mg_of X G a_FHold
  have g_FLeak := PySem.W.mg_of X G a_FLeak
  have g_FMay := PySem.W.mg_of X G a_FMay
  have g_FFill := PySem.W.mg_of X G a_FFill
  have g_FDraw := PySem.W.mg_of X G a_FDraw
  have g_FBleed := PySem.W.mg_of X G a_FBleed
  have g_FEven := PySem.W.mg_of X G a_FEven
  have g_FEvens := PySem.W.mg_of X G a_FEvens
  have g_FReach := PySem.W.mg_of X G a_FReach
  have g_FBleeds := PySem.W.mg_of X G a_FBleeds
  have g_FGives := PySem.W.mg_of X G a_FGives
  have g_FMost := PySem.W.mg_of X G a_FMost
  have g_FLacks := PySem.W.mg_of X G a_FLacks
  have g_FLeast := PySem.W.mg_of X G a_FLeast
  have g_FWeakest := PySem.W.mg_of X G a_FWeakest
  have g_FFullest := PySem.W.mg_of X G a_FFullest
  have g_FDays := PySem.W.mg_of X G a_FDays
  have g_FWhen := PySem.W.mg_of X G a_FWhen
  have g_FSwap := PySem.W.mg_of X G a_FSwap
  have g_FGain := PySem.W.mg_of X G a_FGain
  have g_FBest := PySem.W.mg_of X G a_FBest
  have g_FUnits := PySem.W.mg_of X G a_FUnits
  have g_FLook := PySem.W.mg_of X G a_FLook
  have g_FState := PySem.W.mg_of X G a_FState
  have g_FAnswer := PySem.W.mg_of X G a_FAnswer
  have g_FAnswers := PySem.W.mg_of X G a_FAnswers
  have DA : DicK K dA esA := ⟨⟨_, lA⟩, iA⟩
  have DN : DicK K dN esN := ⟨⟨_, lN⟩, iN⟩
  have hW : ∀ H : Hp, SqT K H tw [.int 0, .int 1, .int 2] := fun H => by
    refine .inr ⟨_, itW, nW, lW, cW, rfl, ?_, vals_abs iW fun x hx => ?_⟩
    · have e := congrArg List.length iW
      rw [List.length_map, Array.length_toList] at e
      rw [e]
      decide
    · simp at hx
      rcases hx with rfl | rfl | rfl
      · exact ⟨0, rfl⟩
      · exact ⟨1, rfl⟩
      · exact ⟨2, rfl⟩
  refine ⟨PySem.W.fnOf "answers" "answers" (defArgs sAnswers) (defBody sAnswers) (defScope sAnswers) .none kV_FAnswers dc_FAnswers pm_FAnswers an_FAnswers cd_FAnswers ct_FAnswers, fun s us hu => by obtain ⟨_, rfl⟩ := len1 hu; exact .of_eq rfl, fun base _ _ => ?_⟩
  have hE : ∀ i s ns, Pr i s ns → Entry P w K mg base C esA i (Pr i) (FF i) := fun i s ns pr => by
    obtain ⟨h0, h1, _⟩ := pr
    have ei : i = ((i.toNat : Nat) : Int) := by omega
    generalize i.toNat = n at ei h1
    subst ei
    match n, h1 with
    | 0, _ => exact entry_of rfl rfl e_0 ((ok_start F_FStart T N F_Begin b_Begin m_Begin F_Put b_Put m_Put F_FIsRoom b_FIsRoom g_FIsRoom).mono (by decide)) b_FStart k_FStart
    | 1, _ => exact entry_of rfl rfl e_1 ((ok_hold F_FHold T N F_Put b_Put m_Put).mono (by decide)) b_FHold k_FHold
    | 2, _ => exact entry_of rfl rfl e_2 ((ok_leak F_FLeak T N F_SetLeaks b_SetLeaks m_SetLeaks).mono (by decide)) b_FLeak k_FLeak
    | 3, _ => exact entry_of rfl rfl e_3 ((ok_fillF F_FFill T N (ok_fill F_Fill T (ok_lacks F_Lacks T (ok_lacksH F_LacksH T) b_LacksH m_LacksH) b_Lacks m_Lacks) b_Fill m_Fill F_FMay b_FMay g_FMay).mono (by decide)) b_FFill k_FFill
    | 4, _ => exact entry_of rfl rfl e_4 ((ok_drawF F_FDraw T N F_Draw b_Draw m_Draw F_FMay b_FMay g_FMay).mono (by decide)) b_FDraw k_FDraw
    | 5, _ => exact entry_of rfl rfl e_5 ((ok_bleedF F_FBleed T N F_OfOne b_OfOne m_OfOne F_CanBleed b_CanBleed m_CanBleed F_BleedEach b_BleedEach m_BleedEach F_FIsGroup b_FIsGroup g_FIsGroup).mono (by decide)) b_FBleed k_FBleed
    | 6, _ => exact entry_of rfl rfl e_6 ((ok_evenF F_FEven T N (ok_toEven F_ToEven T (ok_lacks F_Lacks T (ok_lacksH F_LacksH T) b_LacksH m_LacksH) b_Lacks m_Lacks F_ToLack b_ToLack m_ToLack) b_ToEven m_ToEven F_CanBleed b_CanBleed m_CanBleed F_BleedEach b_BleedEach m_BleedEach).mono (by decide)) b_FEven k_FEven
    | 7, _ => exact entry_of rfl rfl e_7 ((ok_evensF F_FEvens T (ok_toEven F_ToEven T (ok_lacks F_Lacks T (ok_lacksH F_LacksH T) b_LacksH m_LacksH) b_Lacks m_Lacks F_ToLack b_ToLack m_ToLack) b_ToEven m_ToEven).mono (by decide)) b_FEvens k_FEvens
    | 8, _ => exact entry_of rfl rfl e_8 ((ok_reachF F_FReach T N F_Most b_Most m_Most (ok_toGive F_ToGive T (ok_lacks F_Lacks T (ok_lacksH F_LacksH T) b_LacksH m_LacksH) b_Lacks m_Lacks F_ToLack b_ToLack m_ToLack) b_ToGive m_ToGive).mono (by decide)) b_FReach k_FReach
    | 9, _ => exact entry_of rfl rfl e_9 ((ok_bleedsF F_FBleeds T N F_Most b_Most m_Most (ok_toGive F_ToGive T (ok_lacks F_Lacks T (ok_lacksH F_LacksH T) b_LacksH m_LacksH) b_Lacks m_Lacks F_ToLack b_ToLack m_ToLack) b_ToGive m_ToGive F_BleedEach b_BleedEach m_BleedEach).mono (by decide)) b_FBleeds k_FBleeds
    | 10, _ => exact entry_of rfl rfl e_10 ((ok_givesF F_FGives T (ok_gives F_Gives T (ok_givesH F_GivesH T (ok_lacksH F_LacksH T) b_LacksH m_LacksH) b_GivesH m_GivesH) b_Gives m_Gives).mono (by decide)) b_FGives k_FGives
    | 11, _ => exact entry_of rfl rfl e_11 ((ok_mostF F_FMost T F_Most b_Most m_Most).mono (by decide)) b_FMost k_FMost
    | 12, _ => exact entry_of rfl rfl e_12 ((ok_lacksF F_FLacks T (ok_lacks F_Lacks T (ok_lacksH F_LacksH T) b_LacksH m_LacksH) b_Lacks m_Lacks).mono (by decide)) b_FLacks k_FLacks
    | 13, _ => exact entry_of rfl rfl e_13 ((ok_weakestF F_FWeakest T F_FLeast b_FLeast g_FLeast).mono (by decide)) b_FWeakest k_FWeakest
    | 14, _ => exact entry_of rfl rfl e_14 ((ok_fullestF F_FFullest T F_FLeast b_FLeast g_FLeast (ok_lacks F_Lacks T (ok_lacksH F_LacksH T) b_LacksH m_LacksH) b_Lacks m_Lacks).mono (by decide)) b_FFullest k_FFullest
    | 15, _ => exact entry_of rfl rfl e_15 ((ok_daysF F_FDays T N (ok_lose F_Lose T F_After b_After m_After) b_Lose m_Lose).mono (by decide)) b_FDays k_FDays
    | 16, _ => exact entry_of rfl rfl e_16 ((ok_whenF F_FWhen T N (ok_till F_Till T F_After b_After m_After (ok_givesH F_GivesH T (ok_lacksH F_LacksH T) b_LacksH m_LacksH) b_GivesH m_GivesH) b_Till m_Till).mono (by decide)) b_FWhen k_FWhen
    | 17, _ => exact entry_of rfl rfl e_17 ((ok_swapF F_FSwap T N (ok_swap F_Swap T) b_Swap m_Swap F_FIsGroup b_FIsGroup g_FIsGroup F_FIsRoom b_FIsRoom g_FIsRoom).mono (by decide)) b_FSwap k_FSwap
    | 18, _ => exact entry_of rfl rfl e_18 ((ok_gainF F_FGain T N F_Most b_Most m_Most F_MostW b_MostW m_MostW F_FIsGroup b_FIsGroup g_FIsGroup F_FIsRoom b_FIsRoom g_FIsRoom).mono (by decide)) b_FGain k_FGain
    | 19, _ => exact entry_of rfl rfl e_19 ((ok_bestF F_FBest T N F_Most b_Most m_Most F_MostW b_MostW m_MostW F_FIsRoom b_FIsRoom g_FIsRoom).mono (by decide)) b_FBest k_FBest
    | 20, _ => exact entry_of rfl rfl e_20 ((ok_unitsF F_FUnits T (ok_units F_Units T) b_Units m_Units).mono (by decide)) b_FUnits k_FUnits
    | 21, _ => exact entry_of rfl rfl e_21 ((ok_lookF F_FLook T N F_FIsGroup b_FIsGroup g_FIsGroup).mono (by decide)) b_FLook k_FLook
    | 22, _ => exact entry_of rfl rfl e_22 ((ok_stateF F_FState T (ok_gives F_Gives T (ok_givesH F_GivesH T (ok_lacksH F_LacksH T) b_LacksH m_LacksH) b_GivesH m_GivesH) b_Gives m_Gives F_Most b_Most m_Most).mono (by decide)) b_FState k_FState
    | n + 23, h1 => omega
  have GA := ok_answer (base := base) (P := P) (w := w) F_FAnswer T N F_Started b_Started m_Started (PySem.W.mg_of X G aA) DA hE
  exact ok_answers F_FAnswers T ⟨mk, a_Init, i_Init, kc⟩ F_Init b_Init F_Put b_Put m_Put GA b_FAnswer g_FAnswer k_FAnswer (PySem.W.mg_of X G aW) hW (PySem.W.mg_of X G aN) DN (hN_of (int_abs w_3) (int_abs w_4) (int_abs w_5) (int_abs w_6) (int_abs w_7) (int_abs w_8) (int_abs w_9) (int_abs w_10) (int_abs w_11) (int_abs w_12) (int_abs w_13) (int_abs w_14) (int_abs w_15) (int_abs w_16) (int_abs w_17) (int_abs w_18) (int_abs w_19) (int_abs w_20) (int_abs w_21) (int_abs w_22)) hC_of
end EvC

set_option Elab.async false
set_option linter.all false
def PySem.W.Fast.tw6727523256555822790 : Unit := ()
def PySem.W.Fast.tw2978715101375554187 : Unit := ()
def PySem.W.Fast.tw13742058581931464614 : Unit := ()
def PySem.W.Fast.tw9126831428479764912 : Unit := ()
def PySem.W.Fast.tw6009107173421509230 : Unit := ()
def PySem.W.Fast.tw14837813383346895609 : Unit := ()
def PySem.W.Fast.tw4386086790047895815 : Unit := ()
def PySem.W.Fast.tw1912994892777543720 : Unit := ()
open PySem PySem.W PyProof.Rows
set_option maxRecDepth 100000 in
set_option maxHeartbeats 0 in
theorem PySem.Challenge.cw_evenpack_s01_answers_holds : PySem.Challenge.rw_evenpack_s01_answers.Holds := by
  w_on; k_headS; (case hw => exact ⟨[.list [.int 6]], by decide +kernel, by decide +kernel⟩)
  k_fillS
  refine L2.walk_specK (r := PySem.Challenge.rw_evenpack_s01_answers) (k := 7) (CX := L2.CX0) (ps := ["calls"]) (sp := EvC.spAnswers) (by decide +kernel) rfl rfl ⟨rfl, by decide, by decide⟩ (fun w h Y => PySem.W.kIn_of Y) ?F ?S (fun _ _ _ _ z => z)
  case F =>
    intro w mg fa h Y KX G hmg
    refine' EvC.all_mk KX G hmg ?aC ?a_Init ?i_Init ?l_Init ?c_Init ?k_Init ?a_Started ?i_Started ?l_Started ?c_Started ?k_Started ?a_Begin ?i_Begin ?l_Begin ?c_Begin ?k_Begin ?a_Put ?i_Put ?l_Put ?c_Put ?k_Put ?a_SetLeaks ?i_SetLeaks ?l_SetLeaks ?c_SetLeaks ?k_SetLeaks ?a_Lacks ?i_Lacks ?l_Lacks ?c_Lacks ?k_Lacks ?a_LacksH ?i_LacksH ?l_LacksH ?c_LacksH ?k_LacksH ?a_Gives ?i_Gives ?l_Gives ?c_Gives ?k_Gives ?a_GivesH ?i_GivesH ?l_GivesH ?c_GivesH ?k_GivesH ?a_Most ?i_Most ?l_Most ?c_Most ?k_Most ?a_MostW ?i_MostW ?l_MostW ?c_MostW ?k_MostW ?a_Units ?i_Units ?l_Units ?c_Units ?k_Units ?a_Fill ?i_Fill ?l_Fill ?c_Fill ?k_Fill ?a_Draw ?i_Draw ?l_Draw ?c_Draw ?k_Draw ?a_BleedEach ?i_BleedEach ?l_BleedEach ?c_BleedEach ?k_BleedEach ?a_CanBleed ?i_CanBleed ?l_CanBleed ?c_CanBleed ?k_CanBleed ?a_OfOne ?i_OfOne ?l_OfOne ?c_OfOne ?k_OfOne ?a_ToLack ?i_ToLack ?l_ToLack ?c_ToLack ?k_ToLack ?a_ToEven ?i_ToEven ?l_ToEven ?c_ToEven ?k_ToEven ?a_ToGive ?i_ToGive ?l_ToGive ?c_ToGive ?k_ToGive ?a_After ?i_After ?l_After ?c_After ?k_After ?a_Lose ?i_Lose ?l_Lose ?c_Lose ?k_Lose ?a_Till ?i_Till ?l_Till ?c_Till ?k_Till ?a_Swap ?i_Swap ?l_Swap ?c_Swap ?k_Swap ?a_FIsRoom ?l_FIsRoom ?c_FIsRoom ?k_FIsRoom ?a_FIsGroup ?l_FIsGroup ?c_FIsGroup ?k_FIsGroup ?a_FStart ?l_FStart ?c_FStart ?k_FStart ?a_FHold ?l_FHold ?c_FHold ?k_FHold ?a_FLeak ?l_FLeak ?c_FLeak ?k_FLeak ?a_FMay ?l_FMay ?c_FMay ?k_FMay ?a_FFill ?l_FFill ?c_FFill ?k_FFill ?a_FDraw ?l_FDraw ?c_FDraw ?k_FDraw ?a_FBleed ?l_FBleed ?c_FBleed ?k_FBleed ?a_FEven ?l_FEven ?c_FEven ?k_FEven ?a_FEvens ?l_FEvens ?c_FEvens ?k_FEvens ?a_FReach ?l_FReach ?c_FReach ?k_FReach ?a_FBleeds ?l_FBleeds ?c_FBleeds ?k_FBleeds ?a_FGives ?l_FGives ?c_FGives ?k_FGives ?a_FMost ?l_FMost ?c_FMost ?k_FMost ?a_FLacks ?l_FLacks ?c_FLacks ?k_FLacks ?a_FLeast ?l_FLeast ?c_FLeast ?k_FLeast ?a_FWeakest ?l_FWeakest ?c_FWeakest ?k_FWeakest ?a_FFullest ?l_FFullest ?c_FFullest ?k_FFullest ?a_FDays ?l_FDays ?c_FDays ?k_FDays ?a_FWhen ?l_FWhen ?c_FWhen ?k_FWhen ?a_FSwap ?l_FSwap ?c_FSwap ?k_FSwap ?a_FGain ?l_FGain ?c_FGain ?k_FGain ?a_FBest ?l_FBest ?c_FBest ?k_FBest ?a_FUnits ?l_FUnits ?c_FUnits ?k_FUnits ?a_FLook ?l_FLook ?c_FLook ?k_FLook ?a_FState ?l_FState ?c_FState ?k_FState ?a_FAnswer ?l_FAnswer ?c_FAnswer ?k_FAnswer ?a_FAnswers ?l_FAnswers ?c_FAnswers ?k_FAnswers ?pg ?hd ?po ?sa ?mk ?kc ?n_rooms ?n_leaks ?n_held ?n_put_in ?n_filled ?n_drawn ?n_bled ?n_leaked ?z_len ?z_min ?z_max ?z_sum ?z_zip ?z_range ?z_list ?z_any ?z_all ?z_enumerate ?v_0 ?v_1 ?v_2 ?v_3 ?v_4 ?v_5 ?v_6 ?v_7 ?v_8 ?v_9 ?v_10 ?aA ?lA ?iA ?e_0 ?e_1 ?e_2 ?e_3 ?e_4 ?e_5 ?e_6 ?e_7 ?e_8 ?e_9 ?e_10 ?e_11 ?e_12 ?e_13 ?e_14 ?e_15 ?e_16 ?e_17 ?e_18 ?e_19 ?e_20 ?e_21 ?e_22 ?aW ?lW ?cW ?iW ?aN ?lN ?iN ?w_3 ?w_4 ?w_5 ?w_6 ?w_7 ?w_8 ?w_9 ?w_10 ?w_11 ?w_12 ?w_13 ?w_14 ?w_15 ?w_16 ?w_17 ?w_18 ?w_19 ?w_20 ?w_21 ?w_22
    (case aC => k_is)
    (case a_Init => k_is)
    (case i_Init => k_is)
    (case l_Init => k_is)
    (case c_Init => k_is)
    (case k_Init => k_is)
    (case a_Started => k_is)
    (case i_Started => k_is)
    (case l_Started => k_is)
    (case c_Started => k_is)
    (case k_Started => k_is)
    (case a_Begin => k_is)
    (case i_Begin => k_is)
    (case l_Begin => k_is)
    (case c_Begin => k_is)
    (case k_Begin => k_is)
    (case a_Put => k_is)
    (case i_Put => k_is)
    (case l_Put => k_is)
    (case c_Put => k_is)
    (case k_Put => k_is)
    (case a_SetLeaks => k_is)
    (case i_SetLeaks => k_is)
    (case l_SetLeaks => k_is)
    (case c_SetLeaks => k_is)
    (case k_SetLeaks => k_is)
    (case a_Lacks => k_is)
    (case i_Lacks => k_is)
    (case l_Lacks => k_is)
    (case c_Lacks => k_is)
    (case k_Lacks => k_is)
    (case a_LacksH => k_is)
    (case i_LacksH => k_is)
    (case l_LacksH => k_is)
    (case c_LacksH => k_is)
    (case k_LacksH => k_is)
    (case a_Gives => k_is)
    (case i_Gives => k_is)
    (case l_Gives => k_is)
    (case c_Gives => k_is)
    (case k_Gives => k_is)
    (case a_GivesH => k_is)
    (case i_GivesH => k_is)
    (case l_GivesH => k_is)
    (case c_GivesH => k_is)
    (case k_GivesH => k_is)
    (case a_Most => k_is)
    (case i_Most => k_is)
    (case l_Most => k_is)
    (case c_Most => k_is)
    (case k_Most => k_is)
    (case a_MostW => k_is)
    (case i_MostW => k_is)
    (case l_MostW => k_is)
    (case c_MostW => k_is)
    (case k_MostW => k_is)
    (case a_Units => k_is)
    (case i_Units => k_is)
    (case l_Units => k_is)
    (case c_Units => k_is)
    (case k_Units => k_is)
    (case a_Fill => k_is)
    (case i_Fill => k_is)
    (case l_Fill => k_is)
    (case c_Fill => k_is)
    (case k_Fill => k_is)
    (case a_Draw => k_is)
    (case i_Draw => k_is)
    (case l_Draw => k_is)
    (case c_Draw => k_is)
    (case k_Draw => k_is)
    (case a_BleedEach => k_is)
    (case i_BleedEach => k_is)
    (case l_BleedEach => k_is)
    (case c_BleedEach => k_is)
    (case k_BleedEach => k_is)
    (case a_CanBleed => k_is)
    (case i_CanBleed => k_is)
    (case l_CanBleed => k_is)
    (case c_CanBleed => k_is)
    (case k_CanBleed => k_is)
    (case a_OfOne => k_is)
    (case i_OfOne => k_is)
    (case l_OfOne => k_is)
    (case c_OfOne => k_is)
    (case k_OfOne => k_is)
    (case a_ToLack => k_is)
    (case i_ToLack => k_is)
    (case l_ToLack => k_is)
    (case c_ToLack => k_is)
    (case k_ToLack => k_is)
    (case a_ToEven => k_is)
    (case i_ToEven => k_is)
    (case l_ToEven => k_is)
    (case c_ToEven => k_is)
    (case k_ToEven => k_is)
    (case a_ToGive => k_is)
    (case i_ToGive => k_is)
    (case l_ToGive => k_is)
    (case c_ToGive => k_is)
    (case k_ToGive => k_is)
    (case a_After => k_is)
    (case i_After => k_is)
    (case l_After => k_is)
    (case c_After => k_is)
    (case k_After => k_is)
    (case a_Lose => k_is)
    (case i_Lose => k_is)
    (case l_Lose => k_is)
    (case c_Lose => k_is)
    (case k_Lose => k_is)
    (case a_Till => k_is)
    (case i_Till => k_is)
    (case l_Till => k_is)
    (case c_Till => k_is)
    (case k_Till => k_is)
    (case a_Swap => k_is)
    (case i_Swap => k_is)
    (case l_Swap => k_is)
    (case c_Swap => k_is)
    (case k_Swap => k_is)
    (case a_FIsRoom => k_is)
    (case l_FIsRoom => k_is)
    (case c_FIsRoom => k_is)
    (case k_FIsRoom => k_is)
    (case a_FIsGroup => k_is)
    (case l_FIsGroup => k_is)
    (case c_FIsGroup => k_is)
    (case k_FIsGroup => k_is)
    (case a_FStart => k_is)
    (case l_FStart => k_is)
    (case c_FStart => k_is)
    (case k_FStart => k_is)
    (case a_FHold => k_is)
    (case l_FHold => k_is)
    (case c_FHold => k_is)
    (case k_FHold => k_is)
    (case a_FLeak => k_is)
    (case l_FLeak => k_is)
    (case c_FLeak => k_is)
    (case k_FLeak => k_is)
    (case a_FMay => k_is)
    (case l_FMay => k_is)
    (case c_FMay => k_is)
    (case k_FMay => k_is)
    (case a_FFill => k_is)
    (case l_FFill => k_is)
    (case c_FFill => k_is)
    (case k_FFill => k_is)
    (case a_FDraw => k_is)
    (case l_FDraw => k_is)
    (case c_FDraw => k_is)
    (case k_FDraw => k_is)
    (case a_FBleed => k_is)
    (case l_FBleed => k_is)
    (case c_FBleed => k_is)
    (case k_FBleed => k_is)
    (case a_FEven => k_is)
    (case l_FEven => k_is)
    (case c_FEven => k_is)
    (case k_FEven => k_is)
    (case a_FEvens => k_is)
    (case l_FEvens => k_is)
    (case c_FEvens => k_is)
    (case k_FEvens => k_is)
    (case a_FReach => k_is)
    (case l_FReach => k_is)
    (case c_FReach => k_is)
    (case k_FReach => k_is)
    (case a_FBleeds => k_is)
    (case l_FBleeds => k_is)
    (case c_FBleeds => k_is)
    (case k_FBleeds => k_is)
    (case a_FGives => k_is)
    (case l_FGives => k_is)
    (case c_FGives => k_is)
    (case k_FGives => k_is)
    (case a_FMost => k_is)
    (case l_FMost => k_is)
    (case c_FMost => k_is)
    (case k_FMost => k_is)
    (case a_FLacks => k_is)
    (case l_FLacks => k_is)
    (case c_FLacks => k_is)
    (case k_FLacks => k_is)
    (case a_FLeast => k_is)
    (case l_FLeast => k_is)
    (case c_FLeast => k_is)
    (case k_FLeast => k_is)
    (case a_FWeakest => k_is)
    (case l_FWeakest => k_is)
    (case c_FWeakest => k_is)
    (case k_FWeakest => k_is)
    (case a_FFullest => k_is)
    (case l_FFullest => k_is)
    (case c_FFullest => k_is)
    (case k_FFullest => k_is)
    (case a_FDays => k_is)
    (case l_FDays => k_is)
    (case c_FDays => k_is)
    (case k_FDays => k_is)
    (case a_FWhen => k_is)
    (case l_FWhen => k_is)
    (case c_FWhen => k_is)
    (case k_FWhen => k_is)
    (case a_FSwap => k_is)
    (case l_FSwap => k_is)
    (case c_FSwap => k_is)
    (case k_FSwap => k_is)
    (case a_FGain => k_is)
    (case l_FGain => k_is)
    (case c_FGain => k_is)
    (case k_FGain => k_is)
    (case a_FBest => k_is)
    (case l_FBest => k_is)
    (case c_FBest => k_is)
    (case k_FBest => k_is)
    (case a_FUnits => k_is)
    (case l_FUnits => k_is)
    (case c_FUnits => k_is)
    (case k_FUnits => k_is)
    (case a_FLook => k_is)
    (case l_FLook => k_is)
    (case c_FLook => k_is)
    (case k_FLook => k_is)
    (case a_FState => k_is)
    (case l_FState => k_is)
    (case c_FState => k_is)
    (case k_FState => k_is)
    (case a_FAnswer => k_is)
    (case l_FAnswer => k_is)
    (case c_FAnswer => k_is)
    (case k_FAnswer => k_is)
    (case a_FAnswers => k_is)
    (case l_FAnswers => k_is)
    (case c_FAnswers => k_is)
    (case k_FAnswers => k_is)
    (case pg => k_is)
    (case hd => k_is)
    (case po => k_is)
    (case sa => k_is)
    (case mk => k_is)
    (case kc => k_is)
    (case n_rooms => k_is)
    (case n_leaks => k_is)
    (case n_held => k_is)
    (case n_put_in => k_is)
    (case n_filled => k_is)
    (case n_drawn => k_is)
    (case n_bled => k_is)
    (case n_leaked => k_is)
    (case z_len => k_is)
    (case z_min => k_is)
    (case z_max => k_is)
    (case z_sum => k_is)
    (case z_zip => k_is)
    (case z_range => k_is)
    (case z_list => k_is)
    (case z_any => k_is)
    (case z_all => k_is)
    (case z_enumerate => k_is)
    (case v_0 => k_is)
    (case v_1 => k_is)
    (case v_2 => k_is)
    (case v_3 => k_is)
    (case v_4 => k_is)
    (case v_5 => k_is)
    (case v_6 => k_is)
    (case v_7 => k_is)
    (case v_8 => k_is)
    (case v_9 => k_is)
    (case v_10 => k_is)
    (case aA => k_is)
    (case lA => k_is)
    (case iA => decide +kernel)
    (case e_0 => rfl)
    (case e_1 => rfl)
    (case e_2 => rfl)
    (case e_3 => rfl)
    (case e_4 => rfl)
    (case e_5 => rfl)
    (case e_6 => rfl)
    (case e_7 => rfl)
    (case e_8 => rfl)
    (case e_9 => rfl)
    (case e_10 => rfl)
    (case e_11 => rfl)
    (case e_12 => rfl)
    (case e_13 => rfl)
    (case e_14 => rfl)
    (case e_15 => rfl)
    (case e_16 => rfl)
    (case e_17 => rfl)
    (case e_18 => rfl)
    (case e_19 => rfl)
    (case e_20 => rfl)
    (case e_21 => rfl)
    (case e_22 => rfl)
    (case aW => k_is)
    (case lW => k_is)
    (case cW => rfl)
    (case iW => rfl)
    (case aN => k_is)
    (case lN => k_is)
    (case iN => decide +kernel)
    (case w_3 => rfl)
    (case w_4 => rfl)
    (case w_5 => rfl)
    (case w_6 => rfl)
    (case w_7 => rfl)
    (case w_8 => rfl)
    (case w_9 => rfl)
    (case w_10 => rfl)
    (case w_11 => rfl)
    (case w_12 => rfl)
    (case w_13 => rfl)
    (case w_14 => rfl)
    (case w_15 => rfl)
    (case w_16 => rfl)
    (case w_17 => rfl)
    (case w_18 => rfl)
    (case w_19 => rfl)
    (case w_20 => rfl)
    (case w_21 => rfl)
    (case w_22 => rfl)
  case S =>
    intro K H xs a hO hwi hask hx
    cases hx with
    | cons h1 h2 =>
      cases h2
      cases h1 with
      | lst hs ha =>
        have e := L2.ints_dw a.1 _ ha
        subst e
        have q : ((PySem.W.Codec.inLen 0 12400 a.1 && a.1.all (PySem.W.Codec.inInt 0 4294967295)) && true) = true := hwi
        rw [Bool.and_eq_true, Bool.and_eq_true] at q
        have hask' : PyKqb5.answers_asked a.1 = true := hask
        obtain ⟨cs, e1, e2, e3, e4⟩ := EvP.asked_calls hask'
        refine ⟨_, a.1, cs, rfl, EvC.froz_of hO hs, e2, e3, e4, Nat.le_trans (PySem.W.Codec.inNat_iff.mp q.1.1).2 (by decide), fun H' p hp => ?_⟩
        show L2.Dw K H' _ (.list ((PyKqb5.answers a.1).map PySem.W.WData.int))
        rw [e1]
        exact .lst (L2.SqL.of hp) (L2.dw_ints _)
