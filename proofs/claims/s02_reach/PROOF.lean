import PyProof.Rows.All
import Wide.All
import OpenK.AllK
import Wide.FinOn
import PyProof.EqAt
import PyProof.EqKinds
import PyProof.TupleCall
import KE.BitLaws
import Open.SpecLaws
import KE.OsHead
import KE.OsGo
import PyProof.Rows.SetFrom
import PyProof.CollectWalk
import PyProof.Rows.SortShell
import PyProof.FactsTree
import PyProof.TableTree
import PyProof.Rows.SortWalk
import PyProof.P3In
import KE.KEqSeq
import PyProof.SetScanFacts
import PyProof.Rows.SortShellAny
import PySem.Challenge.RW_cutreach_s02_reach
set_option Elab.async false
set_option linter.all false
set_option maxRecDepth 100000
namespace L2
open PySem PySem.Spec PyProof.Rows
abbrev Key := Sum Int Str
def keyIs : Key → Value → Bool
  | .inl k, v => Value.isInt k v
  | .inr x, v => Value.isStrOf x v
def keyH (w : World) : Key → Int
  | .inl k => hashInt k
  | .inr x => hashStr w x
theorem keyIs_shape : ∀ {k : Key} {v : Value}, keyIs k v = true → (∃ i t, k = Sum.inl i ∧ v = Value.int i t) ∨ (∃ x t, k = Sum.inr x ∧ v = Value.str x t)
  | .inl i, v, h => by
    obtain ⟨t, e⟩ := Value.isInt_shape (k := i) (v := v) h
    exact .inl ⟨i, t, rfl, e⟩
  | .inr x, v, h => by
    obtain ⟨t, e⟩ := Value.isStrOf_shape (x := x) (v := v) h
    exact .inr ⟨x, t, rfl, e⟩
theorem keyIs_int (i : Int) (t : Tok) : keyIs (.inl i) (.int i t) = true := by simp [keyIs, Value.isInt]
theorem keyIs_str (x : Str) (t : Tok) : keyIs (.inr x) (.str x t) = true := by simp [keyIs, Value.isStrOf]
theorem key_ll (a b : Int) : decide ((Sum.inl a : Key) = Sum.inl b) = (a == b) := by
  by_cases e : a = b
  · subst e; simp
  · have h : ¬ (Sum.inl a : Key) = Sum.inl b := fun q => e (Sum.inl.inj q)
    rw [decide_eq_false h]
    exact (beq_eq_false_iff_ne.mpr e).symm
theorem key_rr (a b : Str) : decide ((Sum.inr a : Key) = Sum.inr b) = decide (a = b) := by
  by_cases e : a = b
  · subst e; simp
  · have h : ¬ (Sum.inr a : Key) = Sum.inr b := fun q => e (Sum.inr.inj q)
    rw [decide_eq_false h, decide_eq_false e]
theorem key_lr (a : Int) (b : Str) : decide ((Sum.inl a : Key) = Sum.inr b) = false := decide_eq_false (fun q => nomatch q)
theorem key_rl (a : Str) (b : Int) : decide ((Sum.inr a : Key) = Sum.inl b) = false := decide_eq_false (fun q => nomatch q)
def mixKind (prog : Program) (w : World) : PySem.KeyKind prog w Key where
  is := keyIs
  hash := keyH w
  inj := fun v a b ha hb => by
    rcases keyIs_shape ha with ⟨i, t, rfl, rfl⟩ | ⟨x, t, rfl, rfl⟩
    · rcases keyIs_shape hb with ⟨j, u, rfl, e⟩ | ⟨y, u, rfl, e⟩
      · injection e with e1 _; rw [e1]
      · exact nomatch e
    · rcases keyIs_shape hb with ⟨j, u, rfl, e⟩ | ⟨y, u, rfl, e⟩
      · exact nomatch e
      · injection e with e1 _; rw [e1]
  byValue := fun k v h => by
    rcases keyIs_shape h with ⟨i, t, rfl, rfl⟩ | ⟨x, t, rfl, rfl⟩ <;> rfl
  pyHash := fun hv h => by
    rcases keyIs_shape hv with ⟨i, t, rfl, rfl⟩ | ⟨x, t, rfl, rfl⟩
    · exact wpAny_pyHash_int h
    · exact wpAny_pyHash_str h
  eqBool := fun hu hv h => by
    rcases keyIs_shape hu with ⟨i, t, rfl, rfl⟩ | ⟨x, t, rfl, rfl⟩
    · rcases keyIs_shape hv with ⟨j, u, rfl, rfl⟩ | ⟨y, u, rfl, rfl⟩
      · rw [key_ll] at h; exact wpAny_eqBool_int h
      · rw [key_lr] at h; exact SeqAt.EqAt.int_str i t y u _ _ _ _ h
    · rcases keyIs_shape hv with ⟨j, u, rfl, rfl⟩ | ⟨y, u, rfl, rfl⟩
      · rw [key_rl] at h; exact SeqAt.EqAt.str_int x t j u _ _ _ _ h
      · rw [key_rr] at h; exact wpAny_eqBool_str h
  «strs» := fun k x t v h => by
    rcases keyIs_shape h with ⟨i, u, rfl, e⟩ | ⟨y, u, rfl, e⟩
    · exact nomatch e
    · injection e with e1 _
      subst e1
      cases v <;> rfl
theorem mixKind_int (prog : Program) (w : World) (i : Int) (t : Tok) : (mixKind prog w).is (.inl i) (.int i t) = true := keyIs_int i t
theorem mixKind_str (prog : Program) (w : World) (x : Str) (t : Tok) : (mixKind prog w).is (.inr x) (.str x t) = true := keyIs_str x t
end L2
namespace L2
open PySem PySem.Spec PyProof.Rows
inductive V where
  | non | bl (b : Bool) | int (i : Int) | str (x : Str) | byt (b : Array UInt8) | flt (b : UInt64) | ref (a : Addr) | ty (n : String)
  deriving DecidableEq
def RelV : V → Value → Prop
  | .non, u => u = Value.none
  | .bl b, u => u = Value.bool b
  | .int i, u => ∃ t, u = Value.int i t
  | .str x, u => ∃ t, u = Value.str x t
  | .byt b, u => ∃ t, u = Value.bytes b t
  | .flt b, u => ∃ t, u = Value.float b t
  | .ref a, u => u = Value.ref a
  | .ty n, u => u = Value.type n
abbrev Vals : List V → List Value → Prop := Paired RelV
theorem Vals.length {xs : List V} {us : List Value} (r : Vals xs us) : xs.length = us.length := Paired.length r
theorem Vals.get : ∀ {xs : List V} {us : List Value} {i : Nat} {x : V}, Vals xs us → xs[i]? = some x → ∃ u, us[i]? = some u ∧ RelV x u
  | _, _, _, _, .nil, e => by simp at e
  | _, _, 0, _, .cons r _, e => by simp at e; subst e; exact ⟨_, rfl, r⟩
  | _, _, i + 1, x, .cons _ t, e => by
    obtain ⟨u, h1, h2⟩ := Vals.get (i := i) (x := x) t (by simpa using e)
    exact ⟨u, by simpa using h1, h2⟩
theorem Vals.set {x : V} {u : Value} (r : RelV x u) : ∀ {xs : List V} {us : List Value} (i : Nat), Vals xs us → Vals (xs.set i x) (us.set i u)
  | _, _, _, .nil => .nil
  | _, _, 0, .cons _ t => .cons r t
  | _, _, i + 1, .cons q t => .cons q (Vals.set r i t)
theorem Vals.append : ∀ {xs ys : List V} {us ws : List Value}, Vals xs us → Vals ys ws → Vals (xs ++ ys) (us ++ ws)
  | _, _, _, _, .nil, s => s
  | _, _, _, _, .cons r t, s => .cons r (Vals.append t s)
theorem Vals.take : ∀ {xs : List V} {us : List Value} (n : Nat), Vals xs us → Vals (xs.take n) (us.take n)
  | _, _, 0, _ => .nil
  | _, _, _ + 1, .nil => .nil
  | _, _, n + 1, .cons r t => .cons r (Vals.take n t)
theorem Vals.drop : ∀ {xs : List V} {us : List Value} (n : Nat), Vals xs us → Vals (xs.drop n) (us.drop n)
  | _, _, 0, r => r
  | _, _, _ + 1, .nil => .nil
  | _, _, n + 1, .cons _ t => Vals.drop n t
def RelO : Option V → Option Value → Prop
  | some v, some u => RelV v u
  | none, none => True
  | _, _ => False
def KV {κ : Type} : List (κ × V) → List (κ × Value) → Prop := Paired fun (p : κ × V) (q : κ × Value) => p.1 = q.1 ∧ RelV p.2 q.2
def kV : Key → V
  | .inl i => .int i
  | .inr x => .str x
inductive HO where
  /-- a list -/
  | lst (xs : List V)
  /-- a tuple (never changes) -/
  | tup (xs : List V)
  /-- a dict whose keys are ints and texts; one whose keys are tuples of ints and texts (the empty one is both) -/
  | dK (kvs : List (Key × V)) | dT (kvs : List (List Key × V))
  /-- a set of ints: its members, its size -/
  | set (S : Int → Bool) (n : Nat)
  /-- an instance of the class at C, its dict at dx, its attributes -/
  | ins (C dx : Addr) (fs : List (Str × V))
  /-- the dict of the instance at x -/
  | own (x : Addr)
  /-- the dict of an exception -/
  | xd (fs : List (Str × V))
  /-- a bound method, f of x -/
  | met (f x : Addr)
  /-- a range object lo, lo + 1, .. below hi -/
  | rng (lo hi : Int)
  /-- a thing that is known to the object (the script; a dict while a loop walks it): read, never written while it is so -/
  | frz (o : Obj) (u : HO)
  /-- a code object's table -/
  | tbl (ps : Array Value)
  /-- any other thing, by what is true of its one object (a def of one's own: SetO a S n := HO.ext fun h => ..) -/
  | ext (φ : Heap → Prop)
abbrev Hp := Addr → Option HO
def upd (H : Hp) (a : Addr) (o : HO) : Hp := fun b => if b = a then some o else H b
theorem upd_same {H : Hp} {a : Addr} {o : HO} : upd H a o a = some o := by unfold upd; rw [if_pos rfl]
theorem upd_ne {H : Hp} {a b : Addr} {o : HO} (h : b ≠ a) : upd H a o b = H b := by unfold upd; rw [if_neg h]
theorem ne_of {H : Hp} {a b : Addr} {o u : HO} (h : H a = some o) (h' : H b = some u) (d : o ≠ u) : a ≠ b := by
  intro e; subst e; rw [h] at h'; exact d (Option.some.inj h')
theorem ne_of_none {H : Hp} {a b : Addr} {o : HO} (h : H a = some o) (h' : H b = none) : a ≠ b := by
  intro e; subst e; rw [h] at h'; cases h'
section
variable (P : Program) (w : World)
def ObjOk (H : Hp) (h : Heap) (a : Addr) : HO → Prop
  | .lst xs => xs.length ≤ sizeLine ∧ ∃ (its : List Value) (n : Nat), Vals xs its ∧ h.get? a = some { cls := .type "list", data := .seq its.toArray n }
  | .tup xs => xs.length ≤ sizeLine ∧ ∃ its : List Value, Vals xs its ∧ IsTup h a its.toArray
  | .dK kvs => kvs.length ≤ sizeLine ∧ (a == sysModules) = false ∧ ∃ vs, KV kvs vs ∧ h.DictOf (mixKind P w) a vs
  | .dT kvs => kvs.length ≤ sizeLine ∧ (a == sysModules) = false ∧ ∃ xs : List (List Key × Addr × Value),
      Paired (fun (p : List Key × V) (q : List Key × Addr × Value) => p.1 = q.1 ∧ H q.2.1 = some (.tup (p.1.map kV)) ∧ RelV p.2 q.2.2) kvs xs ∧
      ∃ o es ep, h.get? a = some o ∧ o.ExactDict ∧ o.data = .dict es ep ∧ es.toList = xs.map (entryOfKey (tupleKind (mixKind P w))) ∧ (xs.map (·.1)).Nodup
  | .set S n => h.SetOf (intKind P w) a S n
  | .ins C dx fs => H dx = some (.own a) ∧ fs.length ≤ 1000 ∧ dx ≠ a ∧ h.get? a = some (PySem.W.instObj C dx) ∧
      ∃ mA, h.Ns1 dx mA ∧ (∀ f, RelO (fs.lookup f) (mA f)) ∧ PySem.Within mA (fs.map (·.1))
  | .own _ => ∃ o, h.get? a = some o
  | .xd fs => ∃ mA, h.Ns1 a mA ∧ ∀ f, RelO (fs.lookup f) (mA f)
  | .rng lo hi => ∃ t u v, h.get? a = some { cls := .type "range", data := .fields #[.int lo t, .int hi u, .int 1 v] }
  | .frz o u => h.get? a = some o ∧ ObjOk H h a u
  | .tbl ps => h.get? a = some { cls := .none, data := .fields ps }
  | .met f x => h.get? a = some (PySem.W.methodObj (.ref f) (.ref x))
  | .ext φ => φ h ∧ (∃ o, h.get? a = some o) ∧ ∀ h1 h2 : Heap, φ h1 → (∀ o, h1.get? a = some o → h2.get? a = some o) → φ h2
def HOk (H : Hp) (h : Heap) : Prop := ∀ a o, H a = some o → ObjOk P w H h a o
end
section
variable {P : Program} {w : World} {H H' : Hp} {h h' : Heap} {a : Addr} {o : HO}
theorem ObjOk.lt (x : ObjOk P w H h a o) : a < h.objs.size := by
  cases o with
  | lst xs => obtain ⟨_, _, _, _, e⟩ := x; exact Heap.lt_size e
  | tup xs => obtain ⟨_, _, _, p⟩ := x; exact p.lt
  | dK kvs => obtain ⟨_, _, _, _, o, _, _, e, _⟩ := x; exact Heap.lt_size e
  | dT kvs => obtain ⟨_, _, _, _, o, _, _, e, _⟩ := x; exact Heap.lt_size e
  | set S n => obtain ⟨o, _, _, _, e, _⟩ := x; exact Heap.lt_size e
  | ins C dx fs => obtain ⟨_, _, _, e, _⟩ := x; exact Heap.lt_size e
  | own y => obtain ⟨_, e⟩ := x; exact Heap.lt_size e
  | xd fs => obtain ⟨_, ⟨_, _, _, e, _⟩, _⟩ := x; exact Heap.lt_size e
  | rng lo hi => obtain ⟨_, _, _, e⟩ := x; exact Heap.lt_size e
  | frz ob u => obtain ⟨e, _⟩ := x; exact Heap.lt_size e
  | tbl ps => exact Heap.lt_size (show h.get? a = some _ from x)
  | met f y => exact Heap.lt_size (show h.get? a = some _ from x)
  | ext φ => obtain ⟨_, ⟨_, e⟩, _⟩ := x; exact Heap.lt_size e
theorem Paired.mapP {α β : Type} {F G : α → β → Prop} : ∀ {l₁ : List α} {l₂ : List β}, Paired F l₁ l₂ → (∀ a b, F a b → G a b) → Paired G l₁ l₂
  | _, _, .nil, _ => .nil
  | _, _, .cons r t, f => .cons (f _ _ r) (Paired.mapP t f)
theorem ObjOk.stay (x : ObjOk P w H h a o) (k : ∀ b u, (b = a ∨ H b = some (.own a)) → h.get? b = some u → h'.get? b = some u)
    (ho : ∀ b, H b = some (.own a) → H' b = some (.own a)) (ht : ∀ b xs, H b = some (.tup xs) → H' b = some (.tup xs)) : ObjOk P w H' h' a o := by
  induction o with
  | lst xs => obtain ⟨z, its, n, r, e⟩ := x; exact ⟨z, its, n, r, k _ _ (.inl rfl) e⟩
  | tup xs => obtain ⟨z, its, r, ob, e, c⟩ := x; exact ⟨z, its, r, ob, k _ _ (.inl rfl) e, c⟩
  | dK kvs => obtain ⟨z, y, vs, r, ob, es, ep, e, c⟩ := x; exact ⟨z, y, vs, r, ob, es, ep, k _ _ (.inl rfl) e, c⟩
  | dT kvs =>
    obtain ⟨z, y, xs, r, ob, es, ep, e, c⟩ := x
    exact ⟨z, y, xs, Paired.mapP r fun p q z => ⟨z.1, ht _ _ z.2.1, z.2.2⟩, ob, es, ep, k _ _ (.inl rfl) e, c⟩
  | set S n => obtain ⟨ob, es, ep, t, e, c⟩ := x; exact ⟨ob, es, ep, t, k _ _ (.inl rfl) e, c⟩
  | ins C dx fs =>
    obtain ⟨d, z, ne, e, mA, ⟨od, es, ep, e2, c⟩, r⟩ := x
    exact ⟨ho _ d, z, ne, k _ _ (.inl rfl) e, mA, ⟨od, es, ep, k _ _ (.inr d) e2, c⟩, r⟩
  | own y => obtain ⟨ob, e⟩ := x; exact ⟨ob, k _ _ (.inl rfl) e⟩
  | xd fs => obtain ⟨mA, ⟨od, es, ep, e, c⟩, r⟩ := x; exact ⟨mA, ⟨od, es, ep, k _ _ (.inl rfl) e, c⟩, r⟩
  | rng lo hi => obtain ⟨t, u, v, e⟩ := x; exact ⟨t, u, v, k _ _ (.inl rfl) e⟩
  | frz ob u ih => obtain ⟨e, q⟩ := x; exact ⟨k _ _ (.inl rfl) e, ih q⟩
  | tbl ps =>
    have e : h.get? a = some { cls := .none, data := .fields ps } := x
    show h'.get? a = some { cls := .none, data := .fields ps }
    exact k a _ (.inl rfl) e
  | met f y =>
    have e : h.get? a = some (PySem.W.methodObj (.ref f) (.ref y)) := x
    show h'.get? a = some (PySem.W.methodObj (.ref f) (.ref y))
    exact k a _ (.inl rfl) e
  | ext φ => obtain ⟨p, ⟨o, e⟩, st⟩ := x; exact ⟨st _ _ p fun o q => k _ _ (.inl rfl) q, ⟨o, k _ _ (.inl rfl) e⟩, st⟩
theorem HOk.lt (x : HOk P w H h) (e : H a = some o) : a < h.objs.size := (x a o e).lt
theorem HOk.fresh (x : HOk P w H h) (e : h.objs.size ≤ a) : H a = none := by
  cases q : H a with
  | none => rfl
  | some u => exact absurd (Nat.lt_of_lt_of_le (x.lt q) e) (Nat.lt_irrefl _)
theorem HOk.kept (x : HOk P w H h) (k : ∀ b u, h.get? b = some u → h'.get? b = some u) : HOk P w H h' := fun a o e =>
  (x a o e).stay (fun b u _ q => k b u q) (fun _ q => q) fun _ _ q => q
theorem HOk.laid (x : HOk P w H h) (k : ∀ b u, h.get? b = some u → h'.get? b = some u) (hp : h.objs.size ≤ a) (new : ObjOk P w (upd H a o) h' a o) : HOk P w (upd H a o) h' := fun b u e => by
  have hn := x.fresh hp
  by_cases hb : b = a
  · subst hb; rw [upd_same] at e; cases e; exact new
  · rw [upd_ne hb] at e
    exact (x b u e).stay (fun c v _ q => k c v q) (fun c q => by rw [upd_ne (ne_of_none q hn)]; exact q) fun c xs q => by rw [upd_ne (ne_of_none q hn)]; exact q
end
def Rd (H : Hp) (a : Addr) (u : HO) : Prop := H a = some u ∨ ∃ o, H a = some (.frz o u)
theorem Rd.ok {P : Program} {w : World} {H : Hp} {h : Heap} {a : Addr} {u : HO} (r : Rd H a u) (x : HOk P w H h) : ObjOk P w H h a u := by
  rcases r with r | ⟨o, r⟩
  · exact x a u r
  · obtain ⟨_, q⟩ := x a _ r
    exact q
def Mut : Option HO → Prop
  | some (.lst _) => True
  | some (.dK _) => True
  | some (.dT _) => True
  | some (.set _ _) => True
  | some (.ins _ _ _) => True
  | some (.ext _) => True
  | _ => False
section
variable {P : Program} {w : World} {H : Hp} {h h' : Heap} {x e : Addr} {o' : HO}
theorem HOk.write (ok : HOk P w H h) (mu : Mut (H x)) (he : e = x ∨ H e = some (.own x)) (k : ∀ b u, b ≠ e → h.get? b = some u → h'.get? b = some u) (heo : ∃ u, h'.get? e = some u)
    (new : ObjOk P w (upd H x o') h' x o') : HOk P w (upd H x o') h' := fun b u q => by
  have nown : ∀ c y, H c = some (.own y) → c ≠ x := fun c y r z => by subst z; rw [r] at mu; exact mu
  have ntup : ∀ c xs, H c = some (.tup xs) → c ≠ x := fun c xs r z => by subst z; rw [r] at mu; exact mu
  by_cases hb : b = x
  · subst hb; rw [upd_same] at q; cases q; exact new
  · rw [upd_ne hb] at q
    by_cases hbe : b = e
    · have q' : H b = some (.own x) := by
        rcases he with z | z
        · exact absurd (hbe.trans z) hb
        · rw [hbe]; exact z
      rw [q] at q'; cases q'
      obtain ⟨v, hv⟩ := heo
      exact ⟨v, by rw [hbe]; exact hv⟩
    · refine (ok b u q).stay (fun c v hc r => k c v ?_ r) (fun c r => by rw [upd_ne (nown c b r)]; exact r) fun c xs r => by rw [upd_ne (ntup c xs r)]; exact r
      rcases hc with rfl | hc
      · exact hbe
      · rintro rfl
        rcases he with z | z
        · exact nown c b hc z
        · rw [hc] at z; cases z; exact hb rfl
end
structure Un (fs ex : List Addr) (H H' : Hp) (h h' : Heap) : Prop where
  keep : ∀ b o, h.get? b = some o → H b = none → b ∉ fs → b ∉ ex → h'.get? b = some o
  slot : ∀ b o, h.get? b = some o → H b = none → b ∈ fs → b ∉ ex → ∃ sl, h'.get? b = some { o with slots := sl }
  free : ∀ b o, h.get? b = some o → H b = none → b ∉ ex → H' b = none
  there : ∀ b o, h.get? b = some o → b ∉ ex → ∃ o', h'.get? b = some o'
  tups : ∀ b xs, H b = some (.tup xs) → H' b = some (.tup xs)
  frzs : ∀ b o u, H b = some (.frz o u) → H' b = some (.frz o u)
  tbls : ∀ b ps, H b = some (.tbl ps) → ∃ more, H' b = some (.tbl (ps ++ more))
section
variable {fs fs' ex ex' : List Addr} {H H1 H2 : Hp} {h h1 h2 h' : Heap} {a x e : Addr} {o : HO}
theorem Un.any (u : Un fs ex H H1 h h1) {b : Addr} {ob : Obj} (q : h.get? b = some ob) (n : H b = none) (hx : b ∉ ex) : ∃ sl, h1.get? b = some { ob with slots := sl } := by
  by_cases hb : b ∈ fs
  · exact u.slot b ob q n hb hx
  · exact ⟨ob.slots, u.keep b ob q n hb hx⟩
theorem Un.kept (k : ∀ b u, h.get? b = some u → h'.get? b = some u) : Un fs ex H H h h' :=
  ⟨fun b ob q _ _ _ => k b ob q, fun b ob q _ _ _ => ⟨ob.slots, k b ob q⟩, fun _ _ _ n _ => n, fun b ob q _ => ⟨ob, k b ob q⟩, fun _ _ q => q, fun _ _ _ q => q, fun _ ps q => ⟨#[], by rw [q]; simp⟩⟩
theorem Un.refl : Un fs ex H H h h := Un.kept fun _ _ q => q
theorem Un.laid (k : ∀ b u, h.get? b = some u → h'.get? b = some u) (hp : h.objs.size ≤ a) (hn : H a = none) : Un fs ex H (upd H a o) h h' where
  keep := fun b u q _ _ _ => k b u q
  slot := fun b u q _ _ _ => ⟨u.slots, k b u q⟩
  free := fun b u q n _ => by rw [upd_ne (Nat.ne_of_lt (Nat.lt_of_lt_of_le (Heap.lt_size q) hp))]; exact n
  there := fun b u q _ => ⟨u, k b u q⟩
  tups := fun b xs q => by rw [upd_ne (ne_of_none q hn)]; exact q
  frzs := fun b u xs q => by rw [upd_ne (ne_of_none q hn)]; exact q
  tbls := fun b ps q => ⟨#[], by rw [upd_ne (ne_of_none q hn), q]; simp⟩
theorem Un.write (mu : Mut (H x)) (he : e = x ∨ H e = some (.own x)) (k : ∀ b u, b ≠ e → h.get? b = some u → h'.get? b = some u) (heo : ∃ u, h'.get? e = some u) : Un fs ex H (upd H x o) h h' := by
  have hx : ∀ b, H b = none → b ≠ x := fun b n z => by subst z; rw [n] at mu; exact mu
  have hb : ∀ b, H b = none → b ≠ e := fun b n z => by
    subst z
    rcases he with r | r
    · exact hx b n r
    · rw [n] at r; cases r
  have hm : ∀ b u, H b = some u → ¬ Mut (some u) → b ≠ x := fun b u q nm z => by subst z; rw [q] at mu; exact nm mu
  refine ⟨fun b u q n _ _ => k b u (hb b n) q, fun b u q n _ _ => ⟨u.slots, k b u (hb b n) q⟩, fun b u q n _ => by rw [upd_ne (hx b n)]; exact n, fun b u q _ => ?_,
    fun b xs q => by rw [upd_ne (hm b _ q fun z => z)]; exact q, fun b u xs q => by rw [upd_ne (hm b _ q fun z => z)]; exact q, fun b ps q => ⟨#[], by rw [upd_ne (hm b _ q fun z => z), q]; simp⟩⟩
  by_cases hbe : b = e
  · subst hbe; exact heo
  · exact ⟨u, k b u hbe q⟩
end
def trk (h : Heap) (H : Hp) : List Addr := (List.range h.objs.size).filter fun a => (H a).isSome
def hidT (h : Heap) (H : Hp) : Heap := PySem.W.hideAll h (trk h H)
theorem hidT_size (h : Heap) (H : Hp) : (hidT h H).objs.size = h.objs.size := PySem.W.hideAll_size _ _
theorem hidT_get {h : Heap} {H : Hp} {b : Addr} {o : Obj} (e : h.get? b = some o) (n : H b = none) : (hidT h H).get? b = some o :=
  PySem.W.hideAll_get _ e fun hm => by
    have q : (H b).isSome = true := (List.mem_filter.mp hm).2
    rw [n] at q; simp at q
theorem of_hidT {h : Heap} {H : Hp} {b : Addr} {o : Obj} (e : (hidT h H).get? b = some o) : h.get? b = some o ∧ H b = none := by
  have e' : h.get? b = some o := PySem.W.of_hideAll (trk h H) e
  refine ⟨e', ?_⟩
  cases q : H b with
  | none => rfl
  | some x =>
    have hm : b ∈ trk h H := List.mem_filter.mpr ⟨List.mem_range.mpr (Heap.lt_size e'), by simp [q]⟩
    have z : (hidT h H).get? b = none := PySem.W.hideAll_none (trk h H) hm
    rw [z] at e; cases e
end L2
namespace L2
open PySem PySem.Spec PyProof.Rows
structure Mod (K : PySem.W.Frag) (mg : Str → Option Value) (base : Heap) : Prop where
  kin : K.In base
  glob : base.Ns mainGlobals mg
  blt : ∃ mb, base.Ns builtinsNs mb ∧ ∀ x : Str, x ≠ "__name__" → mb x = bootBuiltins x
  nolimit : base.NoLimit
/-- the context: a def's body (or a comprehension's block) running. base: fixed through the whole law; s₀, H₀: the entry; outer: the frames whose slots others may change (a def's callers); stack: all frames that run;
   ex: iterators that were made ahead of the entry and are walked here (a comprehension's); fn: the names whose cells were made at the entry (a def: all; a comprehension's block: its own); calm: not within an except suite; pn: pins that every state bears; xe: what is wanted of an exception that leaves the code -/
structure Cx where
  prog : Program
  w : World
  K : PySem.W.Frag
  mg : Str → Option Value
  base : Heap
  A : Around
  N : List Str
  s_0 : Shared
  H_0 : Hp
  env : Env
  outer : List Env
  stack : List Env
  ex : List Addr
  fn : Str → Bool
  calm : Bool
  pn : List (Addr × Obj)
  xe : Value → Shared → Prop
def frs (l : List Env) : List Addr := l.filterMap (·.frame)
abbrev Cx.fs (X : Cx) : List Addr := frs X.outer
def Vis (sc : Scope) (x : Str) : Prop := sc.names.lookup x = some .local ∨ sc.names.lookup x = some .cell ∨ sc.names.lookup x = some .free
def Loc (sc : Scope) (x : Str) : Prop := sc.names.lookup x = some .local ∨ sc.names.lookup x = some .cell
def Look (env : Env) (h : Heap) (m : Str → Option Value) (x : Str) (u : Value) : Prop :=
  (env.kindOf x = some .local ∧ m x = some u) ∨ ((env.kindOf x = some .cell ∨ env.kindOf x = some .free) ∧ ∃ c, env.cells.lookup x = some c ∧ h.IsCell c (some u))
structure Cx.Ok (X : Cx) : Prop where
  mod : Mod X.K X.mg X.base
  kind : X.env.scope.kind = .function
  glob : X.env.globals = mainGlobals
  blt : X.env.builtins = builtinsNs
  above : X.s_0.heap.objs.size ≤ X.env.locals
  inj : ∀ x y c, X.env.cells.lookup x = some c → X.env.cells.lookup y = some c → x = y
  has : ∀ x, (X.env.kindOf x = some .cell ∨ X.env.kindOf x = some .free) → ∃ c, X.env.cells.lookup x = some c
  cab : ∀ x c, X.fn x = true → X.env.cells.lookup x = some c → X.s_0.heap.objs.size ≤ c
  hd : X.calm = true → X.A.handled = none
  frames : X.A.frames = some X.stack
  stk : X.stack = X.outer ∨ (X.stack = X.env :: X.outer ∧ X.env.frame = some X.env.locals)
  exf : ∀ b ∈ X.ex, b ≠ X.env.locals ∧ ∀ x c, X.env.cells.lookup x = some c → c ≠ b
  bs : ∀ b o, X.base.get? b = some o → X.s_0.heap.get? b = some o ∧ X.H_0 b = none
  bsz : X.base.objs.size ≤ X.s_0.heap.objs.size
  noex : ∀ b o, X.base.get? b = some o → b ∉ X.ex
  exfs : ∀ b ∈ X.ex, b ∉ X.fs
  funs : X.s_0.heap.FunFrames X.base X.outer
  frf : ∀ b ∈ X.fs, X.H_0 b = none
structure Inv (X : Cx) (pins : List (Addr × Obj)) (σ : List (Option V)) (H : Hp) (s : Shared) : Prop where
  ok : X.Ok
  os : s.os = X.s_0.os
  bare : AllBare s.gens
  base : Un X.fs X.ex X.H_0 H X.s_0.heap s.heap
  loc : ∃ m, s.heap.Ns X.env.locals m ∧ ∀ (i : Nat) (x : Str) (v : V), X.N[i]? = some x → σ[i]? = some (some v) → Vis X.env.scope x → ∃ u, RelV v u ∧ Look X.env s.heap m x u
  cell : ∀ x c, X.env.cells.lookup x = some c → ∃ v, s.heap.IsCell c v
  free : H X.env.locals = none
  freeC : ∀ x c, X.env.cells.lookup x = some c → H c = none
  pin : ∀ p ∈ X.pn ++ pins, s.heap.get? p.1 = some p.2 ∧ H p.1 = none ∧ p.1 ≠ X.env.locals ∧ p.1 ∉ X.fs ∧ ∀ v, p.2.data ≠ .cell v
  hok : HOk X.prog X.w H s.heap
  len : σ.length = X.N.length
section
variable {X : Cx} {pins : List (Addr × Obj)} {σ : List (Option V)} {H H' : Hp} {s : Shared} {h' : Heap}
theorem Cx.Ok.nofr (ok : X.Ok) {b : Addr} {o : Obj} (e : X.base.get? b = some o) : b ∉ X.fs := fun hb => by
  have := (ok.funs.mem hb).1
  rw [e] at this; cases this
theorem Inv.bs (I : Inv X pins σ H s) : ∀ b o, X.base.get? b = some o → s.heap.get? b = some o ∧ H b = none := fun b o e =>
  ⟨I.base.keep b o (I.ok.bs b o e).1 (I.ok.bs b o e).2 (I.ok.nofr e) (I.ok.noex b o e), I.base.free b o (I.ok.bs b o e).1 (I.ok.bs b o e).2 (I.ok.noex b o e)⟩
theorem Inv.bk (I : Inv X pins σ H s) : ∀ b o, X.base.get? b = some o → s.heap.get? b = some o := fun b o e => (I.bs b o e).1
theorem Inv.mod (I : Inv X pins σ H s) : Mod X.K X.mg X.base := I.ok.mod
theorem Inv.kIn (I : Inv X pins σ H s) : X.K.In s.heap := I.ok.mod.kin.keeps I.bk
theorem Inv.lt (I : Inv X pins σ H s) : X.env.locals < s.heap.objs.size := let ⟨_, hn, _⟩ := I.loc; hn.lt
theorem Inv.sz (I : Inv X pins σ H s) : X.s_0.heap.objs.size ≤ s.heap.objs.size := Nat.le_trans I.ok.above (Nat.le_of_lt I.lt)
theorem Inv.nofs (I : Inv X pins σ H s) {a : Addr} (h : s.heap.objs.size ≤ a) : a ∉ X.fs := fun hb => by
  obtain ⟨_, o, ho, _⟩ := I.ok.funs.mem hb
  exact absurd (Nat.lt_of_lt_of_le (Heap.lt_size ho) (Nat.le_trans I.sz h)) (Nat.lt_irrefl _)
theorem Inv.cne (I : Inv X pins σ H s) : ∀ x c, X.env.cells.lookup x = some c → c ≠ X.env.locals := fun x c e z => by
  obtain ⟨v, o, ho, hd⟩ := I.cell x c e
  obtain ⟨m, ⟨o', es, ep, ho', hd', _⟩, _⟩ := I.loc
  rw [z, ho'] at ho; cases ho; rw [hd'] at hd; cases hd
theorem Inv.funs (I : Inv X pins σ H s) : s.heap.FunFrames X.base X.outer := by
  have all : ∀ (l : List Env), (∀ b ∈ frs l, b ∈ X.fs) → X.s_0.heap.FunFrames X.base l → s.heap.FunFrames X.base l := by
    intro l
    induction l with
    | nil => intro _ _; trivial
    | cons env r ih =>
      intro hs hl
      obtain ⟨hk, ⟨L, o, hf, hn, ho, hd⟩, hr⟩ := hl
      have hL : L ∈ X.fs := hs L (by unfold frs; rw [List.filterMap_cons, hf]; exact List.mem_cons_self)
      obtain ⟨sl, e⟩ := I.base.slot L o ho (I.ok.frf L hL) hL fun z => I.ok.exfs L z hL
      exact ⟨hk, ⟨L, _, hf, hn, e, hd⟩, ih (fun b hb => hs b (by unfold frs; rw [List.filterMap_cons, hf]; exact List.mem_cons_of_mem _ hb)) hr⟩
  exact all X.outer (fun _ hb => hb) I.ok.funs
theorem Inv.stack (I : Inv X pins σ H s) : s.heap.FunFrames X.base X.stack := by
  rcases I.ok.stk with e | ⟨e, hf⟩
  · rw [e]; exact I.funs
  · rw [e]
    obtain ⟨m, hn, _⟩ := I.loc
    refine .cons (by rw [I.ok.kind]; decide) hf hn ?_ I.funs
    exact Heap.get?_none_of_le (Nat.le_trans I.ok.bsz I.ok.above)
theorem Inv.stkSub (I : Inv X pins σ H s) : ∀ b ∈ frs X.stack, b ∈ X.env.locals :: X.fs := fun b hb => by
  rcases I.ok.stk with e | ⟨e, hf⟩
  · rw [e] at hb; exact List.mem_cons_of_mem _ hb
  · rw [e] at hb
    unfold frs at hb
    rw [List.filterMap_cons, hf] at hb
    exact hb
theorem Inv.stkFree (I : Inv X pins σ H s) : ∀ b ∈ frs X.stack, H b = none := fun b hb => by
  rcases List.mem_cons.mp (I.stkSub b hb) with e | hb
  · rw [e]; exact I.free
  · obtain ⟨_, o, ho, _⟩ := I.ok.funs.mem hb
    exact I.base.free b o ho (I.ok.frf b hb) fun z => I.ok.exfs b z hb
theorem Inv.step {g' : Array GenState} {t' : Nat} {d' : Drawn} {ch : List Addr} (I : Inv X pins σ H s)
    (hch : ∀ b ∈ ch, (b ∈ X.ex ∨ X.s_0.heap.objs.size ≤ b) ∧ b ≠ X.env.locals ∧ (∀ x c, X.env.cells.lookup x = some c → c ≠ b) ∧ ∀ p ∈ X.pn ++ pins, p.1 ≠ b)
    (keep : ∀ b o, b ≠ X.env.locals → b ∉ X.fs → b ∉ ch → s.heap.get? b = some o → H b = none → h'.get? b = some o)
    (slot : ∀ b o, b ≠ X.env.locals → b ∈ X.fs → b ∉ ch → s.heap.get? b = some o → H b = none → ∃ sl, h'.get? b = some { o with slots := sl }) (free : ∀ b o, b ∉ ch → s.heap.get? b = some o → H b = none → H' b = none)
    (there : ∀ b o, b ∉ ch → s.heap.get? b = some o → ∃ o', h'.get? b = some o')
    (tups : ∀ b xs, H b = some (.tup xs) → H' b = some (.tup xs)) (frzs : ∀ b o u, H b = some (.frz o u) → H' b = some (.frz o u)) (tbls : ∀ b ps, H b = some (.tbl ps) → ∃ more, H' b = some (.tbl (ps ++ more)))
    (ns : ∀ m, s.heap.Ns X.env.locals m → h'.Ns X.env.locals m) (hok : HOk X.prog X.w H' h') (hg : AllBare g') :
    Inv X pins σ H' { s with heap := h', gens := g', drawn := d', toks := t' } := by
  have neL : ∀ b o, X.s_0.heap.get? b = some o → b ≠ X.env.locals := fun b o e => Nat.ne_of_lt (Nat.lt_of_lt_of_le (Heap.lt_size e) I.ok.above)
  have neC : ∀ b o, X.s_0.heap.get? b = some o → b ∉ X.ex → b ∉ ch := fun b o e hx hb => by
    rcases (hch b hb).1 with z | z
    · exact hx z
    · exact absurd (Nat.lt_of_lt_of_le (Heap.lt_size e) z) (Nat.lt_irrefl _)
  have cellK : ∀ x c, X.env.cells.lookup x = some c → ∀ v, s.heap.IsCell c v → h'.IsCell c v := fun x c e v ⟨o, ho, hd⟩ => by
    have nch : c ∉ ch := fun z => (hch c z).2.2.1 x c e rfl
    by_cases hc : c ∈ X.fs
    · obtain ⟨sl, q⟩ := slot c o (I.cne x c e) hc nch ho (I.freeC x c e)
      exact ⟨_, q, hd⟩
    · exact ⟨o, keep c o (I.cne x c e) hc nch ho (I.freeC x c e), hd⟩
  refine ⟨I.ok, I.os, hg, ⟨fun b o e n hb hx => ?_, fun b o e n hb hx => ?_, fun b o e n hx => ?_, fun b o e hx => ?_, fun b xs e => tups b xs (I.base.tups b xs e), fun b o xs e => frzs b o xs (I.base.frzs b o xs e), fun b ps e => ?_⟩, ?_, fun x c e => ?_, ?_, fun x c e => ?_, fun p hp => ?_, hok, I.len⟩
  · exact keep b o (neL b o e) hb (neC b o e hx) (I.base.keep b o e n hb hx) (I.base.free b o e n hx)
  · obtain ⟨sl, e1⟩ := I.base.slot b o e n hb hx
    obtain ⟨sl', e2⟩ := slot b _ (neL b o e) hb (neC b o e hx) e1 (I.base.free b o e n hx)
    exact ⟨sl', e2⟩
  · obtain ⟨o', e1⟩ := I.base.there b o e hx
    exact free b o' (neC b o e hx) e1 (I.base.free b o e n hx)
  · obtain ⟨o', e1⟩ := I.base.there b o e hx
    exact there b o' (neC b o e hx) e1
  · obtain ⟨m1, e1⟩ := I.base.tbls b ps e
    obtain ⟨m2, e2⟩ := tbls b _ e1
    exact ⟨m1 ++ m2, by rw [e2, Array.append_assoc]⟩
  · obtain ⟨m, hn, hl⟩ := I.loc
    refine ⟨m, ns m hn, fun i x v e1 e2 e3 => ?_⟩
    obtain ⟨u, r, l⟩ := hl i x v e1 e2 e3
    refine ⟨u, r, ?_⟩
    rcases l with l | ⟨k, c, e, z⟩
    · exact .inl l
    · exact .inr ⟨k, c, e, cellK x c e _ z⟩
  · obtain ⟨v, z⟩ := I.cell x c e
    exact ⟨v, cellK x c e v z⟩
  · obtain ⟨m, ⟨o, _, _, ho, _⟩, _⟩ := I.loc
    exact free _ o (fun z => (hch _ z).2.1 rfl) ho I.free
  · obtain ⟨v, o, ho, hd⟩ := I.cell x c e
    exact free c o (fun z => (hch c z).2.2.1 x c e rfl) ho (I.freeC x c e)
  · obtain ⟨e, n, ne, nf, d⟩ := I.pin p hp
    have nch : p.1 ∉ ch := fun z => (hch p.1 z).2.2.2 p hp rfl
    exact ⟨keep p.1 p.2 ne nf nch e n, free p.1 p.2 nch e n, ne, nf, d⟩
theorem Inv.un {t' : Nat} (I : Inv X pins σ H s) (u : Un X.fs [] H H' s.heap h') (hok : HOk X.prog X.w H' h') : Inv X pins σ H' { s with heap := h', toks := t' } := by
  obtain ⟨m, ⟨o, es, ep, ho, r⟩, _⟩ := id I.loc
  obtain ⟨sl, hL⟩ := u.any ho I.free (by simp)
  exact I.step (g' := s.gens) (d' := s.drawn) (ch := []) (fun _ z => nomatch z) (fun b o _ hb _ e n => u.keep b o e n hb (by simp)) (fun b o _ hb _ e n => u.slot b o e n hb (by simp)) (fun b o _ e n => u.free b o e n (by simp)) (fun b o _ e => u.there b o e (by simp)) u.tups u.frzs u.tbls (fun m' hm => by
    obtain ⟨o', es', ep', ho', r'⟩ := hm
    rw [ho] at ho'; cases ho'
    exact ⟨_, es', ep', hL, r'⟩) hok I.bare
theorem Inv.call {g' : Array GenState} {t' : Nat} {d' : Drawn} {ch : List Addr} (I : Inv X pins σ H s) (u : Un (frs X.stack) ch H H' s.heap h') (hok : HOk X.prog X.w H' h') (hg : AllBare g')
    (hch : ∀ b ∈ ch, (b ∈ X.ex ∨ X.s_0.heap.objs.size ≤ b) ∧ b ≠ X.env.locals ∧ (∀ x c, X.env.cells.lookup x = some c → c ≠ b) ∧ ∀ p ∈ X.pn ++ pins, p.1 ≠ b) :
    Inv X pins σ H' { s with heap := h', gens := g', drawn := d', toks := t' } := by
  obtain ⟨m, ⟨o, es, ep, ho, r⟩, _⟩ := id I.loc
  obtain ⟨sl, hL⟩ := u.any ho I.free fun z => (hch _ z).2.1 rfl
  exact I.step (ch := ch) hch (fun b o hL hb hc e n => u.keep b o e n (fun z => (List.mem_cons.mp (I.stkSub b z)).elim hL hb) hc) (fun b o _ _ hc e n => u.any e n hc) (fun b o hc e n => u.free b o e n hc) (fun b o hc e => u.there b o e hc) u.tups u.frzs u.tbls (fun m' hm => by
    obtain ⟨o', es', ep', ho', r'⟩ := hm
    rw [ho] at ho'; cases ho'
    exact ⟨_, es', ep', hL, r'⟩) hok hg
theorem Inv.turned {t' : Nat} {it : Addr} (I : Inv X pins σ H s) (k : ∀ b o, b ≠ it → s.heap.get? b = some o → h'.get? b = some o) (hn : H it = none) (hL : it ≠ X.env.locals)
    (h1 : it ∈ X.ex ∨ X.s_0.heap.objs.size ≤ it) (h2 : ∀ x c, X.env.cells.lookup x = some c → c ≠ it) (h3 : ∀ p ∈ X.pn ++ pins, p.1 ≠ it) : Inv X pins σ H { s with heap := h', toks := t' } := by
  have nit : ∀ b u, H b = some u → b ≠ it := fun b u e z => by rw [z, hn] at e; cases e
  refine I.step (g' := s.gens) (d' := s.drawn) (ch := [it]) (fun b hb => ?_) (fun b o _ _ hc e _ => k b o (fun z => hc (by simp [z])) e) (fun b o _ _ hc e _ => ⟨o.slots, k b o (fun z => hc (by simp [z])) e⟩) (fun _ _ _ _ n => n)
    (fun b o hc e => ⟨o, k b o (fun z => hc (by simp [z])) e⟩) (fun _ _ e => e) (fun _ _ _ e => e) (fun b ps e => ⟨#[], by rw [e]; simp⟩) (fun m hm => ?_) (fun b u e => ?_) I.bare
  · have e : b = it := by simpa using hb
    subst e
    exact ⟨h1, hL, h2, h3⟩
  · obtain ⟨o, es, ep, ho, r⟩ := hm
    exact ⟨o, es, ep, k _ o (Ne.symm hL) ho, r⟩
  · refine (I.hok b u e).stay (fun c v hc q => k c v ?_ q) (fun _ q => q) fun _ _ q => q
    rcases hc with z | z
    · rw [z]; exact nit b u e
    · exact nit c _ z
theorem Inv.tok (I : Inv X pins σ H s) (t : Nat) : Inv X pins σ H { s with toks := t } := I.un (h' := s.heap) (t' := t) Un.refl I.hok
theorem Inv.kept {t' : Nat} (I : Inv X pins σ H s) (k : ∀ b u, s.heap.get? b = some u → h'.get? b = some u) : Inv X pins σ H { s with heap := h', toks := t' } := I.un (Un.kept k) (I.hok.kept k)
theorem Inv.laid {a : Addr} {o : HO} {t' : Nat} (I : Inv X pins σ H s) (k : ∀ b u, s.heap.get? b = some u → h'.get? b = some u) (hp : s.heap.objs.size ≤ a) (new : ObjOk X.prog X.w (upd H a o) h' a o) :
    Inv X pins σ (upd H a o) { s with heap := h', toks := t' } := I.un (Un.laid k hp (I.hok.fresh hp)) (I.hok.laid k hp new)
theorem Inv.write {x e : Addr} {o : HO} {t' : Nat} (I : Inv X pins σ H s) (mu : Mut (H x)) (he : e = x ∨ H e = some (.own x)) (k : ∀ b u, b ≠ e → s.heap.get? b = some u → h'.get? b = some u) (heo : ∃ u, h'.get? e = some u)
    (new : ObjOk X.prog X.w (upd H x o) h' x o) : Inv X pins σ (upd H x o) { s with heap := h', toks := t' } := I.un (Un.write mu he k heo) (I.hok.write mu he k heo new)
theorem Inv.weak {σ' : List (Option V)} (I : Inv X pins σ H s) (hl : σ'.length = σ.length) (w : ∀ (i : Nat) v, σ'[i]? = some (some v) → σ[i]? = some (some v)) : Inv X pins σ' H s :=
  ⟨I.ok, I.os, I.bare, I.base, let ⟨m, hn, hl'⟩ := I.loc; ⟨m, hn, fun i x v e1 e2 e3 => hl' i x v e1 (w i v e2) e3⟩, I.cell, I.free, I.freeC, I.pin, I.hok, hl.trans I.len⟩
theorem Inv.pins_of {pins' : List (Addr × Obj)} (I : Inv X pins σ H s) (h : ∀ p ∈ pins', s.heap.get? p.1 = some p.2 ∧ H p.1 = none ∧ p.1 ≠ X.env.locals ∧ p.1 ∉ X.fs ∧ ∀ v, p.2.data ≠ .cell v) : Inv X pins' σ H s :=
  ⟨I.ok, I.os, I.bare, I.base, I.loc, I.cell, I.free, I.freeC, fun p hp => (List.mem_append.mp hp).elim (fun z => I.pin p (List.mem_append_left _ z)) (h p), I.hok, I.len⟩
theorem nodup_ix {N : List Str} (hN : N.Nodup) {i j : Nat} {x : Str} (a : N[i]? = some x) (b : N[j]? = some x) : i = j := by
  obtain ⟨h1, e1⟩ := List.getElem?_eq_some_iff.mp a
  obtain ⟨h2, e2⟩ := List.getElem?_eq_some_iff.mp b
  exact (List.getElem_inj hN).mp (e1.trans e2.symm)
theorem store_ok2 {M : Model} {A : Around} {E : Value → Shared → Prop} {i : Nat} {x : Str} {v : V} {u : Value} {Q : Unit → Shared → Prop} (I : Inv X pins σ H s) (hN : X.N.Nodup) (hi : X.N[i]? = some x) (hx : Loc X.env.scope x) (r : RelV v u)
    (h : ∀ s', Inv X pins (σ.set i (some v)) H s' → (∃ a, Heap.SameBut a s.heap s'.heap ∧ (a = X.env.locals ∨ X.env.cells.lookup x = some a)) → Q () s') (hf : X.fn x = true ∨ X.env.scope.names.lookup x = some .local := by first | exact .inl rfl | exact .inr rfl | assumption) : wpAny M A (storeName X.env x u) Q E s := by
  obtain ⟨m, hn, hl⟩ := id I.loc
  have hcls : (X.env.scope.kind == .class || (X.env.scope.kind == .module && X.env.locals != X.env.globals)) = false := by rw [I.ok.kind]; rfl
  have hiσ : i < σ.length := by rw [I.len]; exact (List.getElem?_eq_some_iff.mp hi).1
  have cne := I.cne
  have tracked : ∀ {a : Addr} {h' : Heap}, (∃ o, s.heap.get? a = some o ∧ H a = none) → Heap.SameBut a s.heap h' → HOk X.prog X.w H h' := fun {a h'} ha hs b ob e => by
    obtain ⟨_, _, hfree⟩ := ha
    refine (I.hok b ob e).stay (fun c w' hc q => (hs.2 c ?_).trans q) (fun _ q => q) fun _ _ q => q
    rintro rfl
    rcases hc with rfl | hc
    · rw [hfree] at e; cases e
    · rw [hfree] at hc; cases hc
  rcases hx with hk | hk
  · refine wpAny_storeName_local hk hn (fun h' hn' hs => ?_) hcls
    obtain ⟨oL, _, _, hoL, _⟩ := id hn
    refine h _ ⟨I.ok, I.os, I.bare, ⟨fun b o e n hb hx => ?_, fun b o e n hb hx => ?_, I.base.free, fun b o e hx => ?_, I.base.tups, I.base.frzs, I.base.tbls⟩, ⟨_, hn', fun j y v' e1 e2 e3 => ?_⟩, fun y c e => ?_, I.free, I.freeC, fun p hp => ?_, tracked ⟨oL, hoL, I.free⟩ hs, by simpa using I.len⟩ ⟨_, hs, .inl rfl⟩
    · exact (hs.2 b (Nat.ne_of_lt (Nat.lt_of_lt_of_le (Heap.lt_size e) I.ok.above))).trans (I.base.keep b o e n hb hx)
    · obtain ⟨sl, e1⟩ := I.base.slot b o e n hb hx
      exact ⟨sl, (hs.2 b (Nat.ne_of_lt (Nat.lt_of_lt_of_le (Heap.lt_size e) I.ok.above))).trans e1⟩
    · obtain ⟨o', e1⟩ := I.base.there b o e hx
      exact ⟨o', (hs.2 b (Nat.ne_of_lt (Nat.lt_of_lt_of_le (Heap.lt_size e) I.ok.above))).trans e1⟩
    · by_cases hj : j = i
      · subst hj
        rw [hi] at e1; cases e1
        rw [List.getElem?_set_self hiσ] at e2
        cases e2
        exact ⟨u, r, .inl ⟨hk, by simp⟩⟩
      · rw [List.getElem?_set_ne (Ne.symm hj)] at e2
        obtain ⟨u', r', q⟩ := hl j y v' e1 e2 e3
        refine ⟨u', r', ?_⟩
        rcases q with ⟨k, e⟩ | ⟨k, c, e, z⟩
        · refine .inl ⟨k, ?_⟩
          have : y ≠ x := fun e => hj (nodup_ix hN e1 (e ▸ hi))
          simp [this, e]
        · exact .inr ⟨k, c, e, z.sameBut hs (cne y c e)⟩
    · obtain ⟨w', z⟩ := I.cell y c e
      exact ⟨w', z.sameBut hs (cne y c e)⟩
    · obtain ⟨e, n, ne, nf, d⟩ := I.pin p hp
      exact ⟨(hs.2 p.1 ne).trans e, n, ne, nf, d⟩
  · have hfn : X.fn x = true := by
      rcases hf with z | z
      · exact z
      · rw [z] at hk; cases hk
    obtain ⟨c, hc⟩ := I.ok.has x (.inl hk)
    obtain ⟨w', z⟩ := I.cell x c hc
    refine wpAny_storeName_cell I.ok.kind hk hc z (fun h' hc' hs => ?_)
    obtain ⟨oc, hoc, hocd⟩ := id z
    refine h { s with heap := h' } ⟨I.ok, I.os, I.bare, ⟨fun b o e n hb hx => ?_, fun b o e n hb hx => ?_, I.base.free, fun b o e hx => ?_, I.base.tups, I.base.frzs, I.base.tbls⟩, ⟨m, hn.sameBut hs (Ne.symm (cne x c hc)), fun j y v' e1 e2 e3 => ?_⟩, fun y c' e => ?_, I.free, I.freeC, fun p hp => ?_, tracked ⟨oc, hoc, I.freeC x c hc⟩ hs, by simpa using I.len⟩ ⟨c, hs, .inr hc⟩
    · exact (hs.2 b (Nat.ne_of_lt (Nat.lt_of_lt_of_le (Heap.lt_size e) (I.ok.cab x c hfn hc)))).trans (I.base.keep b o e n hb hx)
    · obtain ⟨sl, e1⟩ := I.base.slot b o e n hb hx
      exact ⟨sl, (hs.2 b (Nat.ne_of_lt (Nat.lt_of_lt_of_le (Heap.lt_size e) (I.ok.cab x c hfn hc)))).trans e1⟩
    · obtain ⟨o', e1⟩ := I.base.there b o e hx
      exact ⟨o', (hs.2 b (Nat.ne_of_lt (Nat.lt_of_lt_of_le (Heap.lt_size e) (I.ok.cab x c hfn hc)))).trans e1⟩
    · by_cases hj : j = i
      · subst hj
        rw [hi] at e1; cases e1
        rw [List.getElem?_set_self hiσ] at e2
        cases e2
        exact ⟨u, r, .inr ⟨.inl hk, c, hc, hc'⟩⟩
      · rw [List.getElem?_set_ne (Ne.symm hj)] at e2
        obtain ⟨u', r', q⟩ := hl j y v' e1 e2 e3
        refine ⟨u', r', ?_⟩
        rcases q with q | ⟨k, c', e, z'⟩
        · exact .inl q
        · refine .inr ⟨k, c', e, z'.sameBut hs ?_⟩
          rintro rfl
          exact hj (nodup_ix hN e1 (I.ok.inj _ _ _ e hc ▸ hi))
    · by_cases hcc : c' = c
      · subst hcc; exact ⟨_, hc'⟩
      · obtain ⟨w2, z2⟩ := I.cell y c' e
        exact ⟨w2, z2.sameBut hs hcc⟩
    · obtain ⟨e, n, ne, nf, d⟩ := I.pin p hp
      refine ⟨(hs.2 p.1 ?_).trans e, n, ne, nf, d⟩
      intro q
      rw [q, hoc] at e
      have q' : oc = p.2 := Option.some.inj e
      exact d w' (by rw [← q']; exact hocd)
theorem store_ok {M : Model} {A : Around} {E : Value → Shared → Prop} {i : Nat} {x : Str} {v : V} {u : Value} {Q : Unit → Shared → Prop} (I : Inv X pins σ H s) (hN : X.N.Nodup) (hi : X.N[i]? = some x) (hx : Loc X.env.scope x) (r : RelV v u)
    (h : ∀ s', Inv X pins (σ.set i (some v)) H s' → Q () s') (hf : X.fn x = true ∨ X.env.scope.names.lookup x = some .local := by first | exact .inl rfl | exact .inr rfl | assumption) : wpAny M A (storeName X.env x u) Q E s :=
  store_ok2 I hN hi hx r (fun s' I' _ => h s' I') hf
theorem Inv.call' {s' : Shared} {ch : List Addr} (I : Inv X pins σ H s) (ho : s'.os = s.os) (u : Un (frs X.stack) ch H H' s.heap s'.heap) (hok : HOk X.prog X.w H' s'.heap) (hg : AllBare s'.gens)
    (hch : ∀ b ∈ ch, (b ∈ X.ex ∨ X.s_0.heap.objs.size ≤ b) ∧ b ≠ X.env.locals ∧ (∀ x c, X.env.cells.lookup x = some c → c ≠ b) ∧ ∀ p ∈ X.pn ++ pins, p.1 ≠ b) : Inv X pins σ H' s' := by
  obtain ⟨h', g', d', t', o'⟩ := s'
  have e : o' = s.os := ho
  subst e
  exact I.call (g' := g') (t' := t') (d' := d') u hok hg hch
end
abbrev XK := Value → Option Addr → Hp → Prop
abbrev St := List (Option V)
abbrev VK := V → Hp → Prop
abbrev TE := St → Hp → VK → Prop
abbrev TT := St → Hp → (Bool → Hp → Prop) → Prop
abbrev TA := St → Hp → (List V → Hp → Prop) → Prop
structure Ends where
  nx : St → Hp → Prop
  rt : VK
  bk : St → Hp → Prop := fun _ _ => False
  ct : St → Hp → Prop := fun _ _ => False
abbrev TS := Ends → St → Hp → Prop
def EP (X : Cx) (pins : List (Addr × Obj)) (σ : St) (Q : VK) (u : Value) (s' : Shared) : Prop := ∃ v H', Inv X pins σ H' s' ∧ RelV v u ∧ Q v H'
def TP (X : Cx) (pins : List (Addr × Obj)) (σ : St) (Q : Bool → Hp → Prop) (b : Bool) (s' : Shared) : Prop := ∃ H', Inv X pins σ H' s' ∧ Q b H'
def AP (X : Cx) (pins : List (Addr × Obj)) (σ : St) (Q : List V → Hp → Prop) (us : List Value) (s' : Shared) : Prop := ∃ vs H', Inv X pins σ H' s' ∧ Vals vs us ∧ Q vs H'
def SP (X : Cx) (pins : List (Addr × Obj)) (D : Ends) (f : Flow) (s' : Shared) : Prop :=
  match f with
  | .next => ∃ σ' H', Inv X pins σ' H' s' ∧ D.nx σ' H'
  | .brk => ∃ σ' H', Inv X pins σ' H' s' ∧ D.bk σ' H'
  | .cont => ∃ σ' H', Inv X pins σ' H' s' ∧ D.ct σ' H'
  | .ret u => ∃ v σ' H', Inv X pins σ' H' s' ∧ RelV v u ∧ D.rt v H'
def PE (X : Cx) (e : Expr) (t : TE) : Prop :=
  ∀ (pins : List (Addr × Obj)) (s : Shared) (σ : St) (H : Hp) (Q : VK), Inv X pins σ H s → t σ H Q → wpAny (model X.prog X.w) X.A (eval e X.env) (EP X pins σ Q) X.xe s
def PT (X : Cx) (e : Expr) (t : TT) : Prop :=
  ∀ (pins : List (Addr × Obj)) (s : Shared) (σ : St) (H : Hp) (Q : Bool → Hp → Prop), Inv X pins σ H s → t σ H Q → wpAny (model X.prog X.w) X.A (isTrue e X.env (eval e X.env)) (TP X pins σ Q) X.xe s
def PW (X : Cx) (e : Expr) (t : TT) : Prop :=
  ∀ (whole : Sem Value) (pins : List (Addr × Obj)) (s : Shared) (σ : St) (H : Hp) (Q : Bool → Hp → Prop), Inv X pins σ H s → t σ H Q → wpAny (model X.prog X.w) X.A (isTrue e X.env whole) (TP X pins σ Q) X.xe s
theorem PW.pt {X : Cx} {e : Expr} {t : TT} (h : PW X e t) : PT X e t := h _
def PA (X : Cx) (es : List Expr) (t : TA) : Prop :=
  ∀ (pos : Pos) (pins : List (Addr × Obj)) (s : Shared) (σ : St) (H : Hp) (Q : List V → Hp → Prop), Inv X pins σ H s → t σ H Q → wpAny (model X.prog X.w) X.A (spliced (backTo pos (starEach es X.env))) (AP X pins σ Q) X.xe s
def PS (X : Cx) (st : Stmt) (t : TS) : Prop :=
  ∀ (pins : List (Addr × Obj)) (s : Shared) (σ : St) (H : Hp) (D : Ends), Inv X pins σ H s → t D σ H → wpAny (model X.prog X.w) X.A (exec st X.env) (SP X pins D) X.xe s
def PSs (X : Cx) (st : List Stmt) (t : TS) : Prop :=
  ∀ (pins : List (Addr × Obj)) (s : Shared) (σ : St) (H : Hp) (D : Ends), Inv X pins σ H s → t D σ H → wpAny (model X.prog X.w) X.A (execs st X.env) (SP X pins D) X.xe s
theorem thn {α : Type} {t : Sem α} {Q Q' : α → Shared → Prop} {M : Model} {A : Around} {E : Value → Shared → Prop} {s : Shared} (h : wpAny M A t Q E s) (hQ : ∀ a s, Q a s → Q' a s) : wpAny M A t Q' E s := wpAny_mono h hQ fun _ _ x => x
end L2
namespace L2
open PySem PySem.Spec PyProof.Rows
section
variable {X : Cx}
def tVar (i : Nat) : TE := fun σ H Q => ∃ v, σ[i]? = some (some v) ∧ Q v H
def tC (v : V) : TE := fun _ H Q => Q v H
theorem pe_var {i : Nat} {x : Str} {pos : Pos} (hN : X.N[i]? = some x) (hv : Vis X.env.scope x) (hd : (x == ("__debug__" : Str)) = false := by decide) (hcd : (x == ("__classdict__" : Str)) = false := by decide) : PE X (.Name x pos) (tVar i) := by
  intro pins s σ H Q I h
  obtain ⟨v, e, h⟩ := h
  obtain ⟨m, hn, hl⟩ := I.loc
  obtain ⟨u, r, l⟩ := hl i x v hN e hv
  have fin : EP X pins σ Q u s := ⟨v, H, I, r, h⟩
  rcases l with ⟨hk, hm⟩ | ⟨hk, c, hc, hcell⟩
  · exact wpAny_Name (wpAny_loadName_local I.ok.kind hk hn hm fin) hd
  · rcases hk with hk | hk
    · exact wpAny_Name (wpAny_loadName_cell I.ok.kind hk hc hcell fin) hd
    · exact wpAny_Name (wpAny_loadName_free I.ok.kind hk hc hcell fin hcd) hd
theorem pe_int {i j pos} : PE X (.Constant (.int i) j pos) (tC (.int i)) := fun _ _ _ H _ I h => wpAny_Constant_int ⟨.int i, H, I.tok _, ⟨_, rfl⟩, h⟩
theorem pe_bl {b j pos} : PE X (.Constant (.bool b) j pos) (tC (.bl b)) := fun _ _ _ H _ I h => Constant_bool ⟨.bl b, H, I, rfl, h⟩
theorem pe_str {x j pos} : PE X (.Constant (.str x) j pos) (tC (.str x)) := fun _ _ _ H _ I h => Calls.Constant_str ⟨.str x, H, I.tok _, ⟨_, rfl⟩, h⟩
def Gl (X : Cx) (x : Str) : Prop := X.env.kindOf x = some .globalImplicit
theorem ld_glob {E : Value → Shared → Prop} {pins : List (Addr × Obj)} {s : Shared} {σ : St} {H : Hp} {x : Str} {u : Value} {pos : Pos} {Q : Value → Shared → Prop} (I : Inv X pins σ H s) (hg : Gl X x) (hm : X.mg x = some u) (h : Q u s)
    (hd : (x == ("__debug__" : Str)) = false := by decide) : wpAny (model X.prog X.w) X.A (eval (.Name x pos) X.env) Q E s :=
  Calls.Name_function_global I.ok.kind hg (Calls.loadGlobal_global (by rw [I.ok.glob]; exact I.mod.glob.keeps I.bk) hm h) hd
theorem ld_blt {E : Value → Shared → Prop} {pins : List (Addr × Obj)} {s : Shared} {σ : St} {H : Hp} {x : Str} {u : Value} {pos : Pos} {Q : Value → Shared → Prop} (I : Inv X pins σ H s) (hg : Gl X x) (hm : X.mg x = none) (hv : bootBuiltins x = some u) (h : Q u s)
    (hn : x ≠ "__name__" := by decide) (hd : (x == ("__debug__" : Str)) = false := by decide) : wpAny (model X.prog X.w) X.A (eval (.Name x pos) X.env) Q E s := by
  obtain ⟨mb, h1, h2⟩ := I.mod.blt
  exact Calls.Name_function_global I.ok.kind hg (Calls.loadGlobal_builtin (by rw [I.ok.glob]; exact I.mod.glob.keeps I.bk) hm (by rw [I.ok.blt]; exact h1.keeps I.bk) ((h2 x hn).trans hv) h) hd
theorem pe_glob {x : Str} {v : V} {u : Value} {pos : Pos} (hg : Gl X x) (hm : X.mg x = some u) (r : RelV v u) (hd : (x == ("__debug__" : Str)) = false := by decide) : PE X (.Name x pos) (tC v) :=
  fun _ _ _ H _ I h => ld_glob I hg hm ⟨v, H, I, r, h⟩ hd
variable {a b : Expr} {ta tb : TE} {pos : Pos}
def PC (X : Cx) (op : CmpOp) (a b : Expr) (t : TE) : Prop :=
  ∀ (pins : List (Addr × Obj)) (s : Shared) (σ : St) (H : Hp) (Q : VK), Inv X pins σ H s → t σ H Q →
    wpAny (model X.prog X.w) X.A (eval a X.env) (fun v s₁ => wpAny (model X.prog X.w) X.A (eval b X.env) (fun u s₂ => wpAny (model X.prog X.w) X.A (compareOp op v u) (EP X pins σ Q) X.xe s₂) X.xe s₁) X.xe s
def tB (t : TE) : TT := fun σ H Q => t σ H fun x H1 => ∃ c, x = .bl c ∧ Q c H1
theorem pt_cmp {op : CmpOp} {t : TE} (h : PC X op a b t) (h1 : behindInMarks op b = false := by first | exact nobehind _ (by decide) (by decide) | rfl) : PT X (.Compare a [op] [b] pos) (tB t) := by
  intro pins s σ H Q I hw
  refine wpAny_isTrue_Compare1 (thn (h pins s σ H _ I hw) fun v s1 h1 => thn h1 fun u s2 h2 => thn h2 fun c s3 ⟨x, H1, I1, r1, q1⟩ => ?_) h1
  obtain ⟨d, rfl, q⟩ := q1
  cases r1
  exact wpAny_truthy_bool ⟨H1, I1, q⟩
theorem pt_val {e : Expr} {t : TE} (h : PE X e t) (he : ∀ whole, isTrue e X.env whole = (do let v ← whole; standAt e.pos; holding [v] (truthy v)) := by intro _; rfl) : PT X e (tB t) := by
  intro pins s σ H Q I hw
  refine isTrue_plain (thn (h pins s σ H _ I hw) fun v s1 ⟨x, H1, I1, r1, q1⟩ => ?_) (he _)
  obtain ⟨d, rfl, q⟩ := q1
  cases r1
  exact wpAny_truthy_bool ⟨H1, I1, q⟩
variable {tA tB' : TT} {rest : List Expr}
def tAnd (t u : TT) : TT := fun σ H Q => t σ H fun c H1 => if c = true then u σ H1 Q else Q false H1
def tOr (t u : TT) : TT := fun σ H Q => t σ H fun c H1 => if c = true then Q true H1 else u σ H1 Q
def tNot (t : TT) : TT := fun σ H Q => t σ H fun c H1 => Q (!c) H1
theorem pw_and1 (ha : PT X a tA) : PW X (.BoolOp .And [a] pos) tA := by
  intro wh pins s σ H Q I h
  refine isTrue_and (thn (ha pins s σ H Q I h) fun c s1 e => ?_)
  cases c with
  | true => exact isTrue_and_nil e
  | false => exact e
theorem pw_or1 (ha : PT X a tA) : PW X (.BoolOp .Or [a] pos) tA := by
  intro wh pins s σ H Q I h
  refine isTrue_or (thn (ha pins s σ H Q I h) fun c s1 e => ?_)
  cases c with
  | false => exact isTrue_or_nil e
  | true => exact e
theorem pw_and (ha : PT X a tA) (hb : PW X (.BoolOp .And (b :: rest) pos) tB') : PW X (.BoolOp .And (a :: b :: rest) pos) (tAnd tA tB') := by
  intro wh pins s σ H Q I h
  refine isTrue_and (thn (ha pins s σ H _ I h) fun c s1 ⟨H1, I1, q1⟩ => ?_)
  cases c with
  | true => exact hb wh pins s1 σ H1 Q I1 q1
  | false => exact ⟨H1, I1, q1⟩
theorem pw_or (ha : PT X a tA) (hb : PW X (.BoolOp .Or (b :: rest) pos) tB') : PW X (.BoolOp .Or (a :: b :: rest) pos) (tOr tA tB') := by
  intro wh pins s σ H Q I h
  refine isTrue_or (thn (ha pins s σ H _ I h) fun c s1 ⟨H1, I1, q1⟩ => ?_)
  cases c with
  | true => exact ⟨H1, I1, q1⟩
  | false => exact hb wh pins s1 σ H1 Q I1 q1
theorem pt_not (ha : PT X a tA) : PT X (.UnaryOp .Not a pos) (tNot tA) := by
  intro pins s σ H Q I h
  exact isTrue_not (ha pins s σ H (fun c H1 => Q (!c) H1) I h)
def tOrV (ta tb : TE) : TE := fun σ H Q => ta σ H fun x H1 => ∃ c, x = .bl c ∧ if c = true then Q (.bl true) H1 else tb σ H1 Q
theorem pe_one {op} {t : TE} (h : PE X a t) : PE X (.BoolOp op [a] pos) t := fun pins s σ H Q I hw => BoolOp_one (h pins s σ H Q I hw)
theorem pe_or (ha : PE X a ta) (hb : PE X (.BoolOp .Or (b :: rest) pos) tb) : PE X (.BoolOp .Or (a :: b :: rest) pos) (tOrV ta tb) := by
  intro pins s σ H Q I h
  refine BoolOp_or (thn (ha pins s σ H _ I h) fun v s1 ⟨x, H1, I1, r1, q1⟩ => ?_)
  obtain ⟨c, rfl, q1⟩ := q1
  cases r1
  refine wpAny_truthy_bool ?_
  cases c with
  | false => exact hb pins s1 σ H1 Q I1 q1
  | true => exact ⟨.bl true, H1, I1, rfl, q1⟩
def tIf (t : TT) (ta tb : TE) : TE := fun σ H Q => t σ H fun c H1 => if c = true then ta σ H1 Q else tb σ H1 Q
theorem pe_ifExp {c : Expr} (hc : PT X c tA) (ha : PE X a ta) (hb : PE X b tb) : PE X (.IfExp c a b pos) (tIf tA ta tb) := by
  intro pins s σ H Q I h
  refine wpAny_IfExp (thn (hc pins s σ H _ I h) fun d s1 ⟨H1, I1, q1⟩ => ?_)
  cases d with
  | true => exact ha pins s1 σ H1 Q I1 q1
  | false => exact hb pins s1 σ H1 Q I1 q1
end
end L2
namespace L2
open PySem PySem.Spec PyProof.Rows
def SqL (K : PySem.W.Frag) (H : Hp) (a : Addr) (xs : List V) : Prop :=
  Rd H a (.lst xs) ∨
    ∃ (o : Obj) (its : Array Value) (n : Nat), K.lookup a = some o ∧ o.cls = .type "list" ∧ o.dict = none ∧ o.data = .seq its n ∧ its.size ≤ sizeLine ∧ Vals xs its.toList
def SqT (K : PySem.W.Frag) (H : Hp) (a : Addr) (xs : List V) : Prop :=
  Rd H a (.tup xs) ∨
    ∃ (o : Obj) (its : Array Value) (n : Nat), K.lookup a = some o ∧ o.cls = .type "tuple" ∧ o.data = .seq its n ∧ its.size ≤ sizeLine ∧ Vals xs its.toList
def absV : Value → Option V
  | .none => some .non
  | .bool b => some (.bl b)
  | .int i _ => some (.int i)
  | .str x _ => some (.str x)
  | .bytes b _ => some (.byt b)
  | .float b _ => some (.flt b)
  | .ref a => some (.ref a)
  | .type n => some (.ty n)
  | _ => none
theorem RelV.abs {x : V} {u : Value} (r : RelV x u) : absV u = some x := by
  cases x with
  | non => cases r; rfl
  | bl _ => cases r; rfl
  | int _ => obtain ⟨t, rfl⟩ := r; rfl
  | str _ => obtain ⟨t, rfl⟩ := r; rfl
  | byt _ => obtain ⟨t, rfl⟩ := r; rfl
  | flt _ => obtain ⟨t, rfl⟩ := r; rfl
  | ref _ => cases r; rfl
  | ty _ => cases r; rfl
theorem RelV.inj {x y : V} {u : Value} (r : RelV x u) (q : RelV y u) : x = y := Option.some.inj (r.abs.symm.trans q.abs)
theorem Vals.inj : ∀ {xs ys : List V} {us : List Value}, Vals xs us → Vals ys us → xs = ys
  | _, _, _, .nil, .nil => rfl
  | _, _, _, .cons r t, .cons r' t' => by rw [r.inj r', Vals.inj t t']
section
variable {X : Cx} {pins : List (Addr × Obj)} {σ : St} {H : Hp} {s : Shared} {a : Addr} {xs ys : List V}
theorem SqL.of {K : PySem.W.Frag} (h : H a = some (.lst xs)) : SqL K H a xs := .inl (.inl h)
theorem SqT.of {K : PySem.W.Frag} (h : H a = some (.tup xs)) : SqT K H a xs := .inl (.inl h)
theorem Inv.list (I : Inv X pins σ H s) (h : SqL X.K H a xs) : ∃ its : List Value, Vals xs its ∧ PlainL s.heap a its.toArray ∧ xs.length ≤ sizeLine := by
  rcases h with h | ⟨o, its, n, hk, hc, hd, hs, hz, r⟩
  · obtain ⟨z, its, n, r, e⟩ := h.ok I.hok
    exact ⟨its, r, ⟨_, n, e, rfl, rfl, rfl⟩, z⟩
  · refine ⟨its.toList, r, ⟨o, n, I.kIn a o hk, hc, hd, by simpa using hs⟩, ?_⟩
    have e := r.length
    simp only [Array.length_toList] at e
    omega
theorem Inv.tuple (I : Inv X pins σ H s) (h : SqT X.K H a xs) : ∃ its : List Value, Vals xs its ∧ IsTup s.heap a its.toArray ∧ xs.length ≤ sizeLine := by
  rcases h with h | ⟨o, its, n, hk, hc, hs, hz, r⟩
  · obtain ⟨z, its, r, p⟩ := h.ok I.hok
    exact ⟨its, r, p, z⟩
  · refine ⟨its.toList, r, ⟨o, I.kIn a o hk, hc, n, by simpa using hs⟩, ?_⟩
    have e := r.length
    simp only [Array.length_toList] at e
    omega
theorem Inv.list_inj (I : Inv X pins σ H s) (h : SqL X.K H a xs) (h' : SqL X.K H a ys) : xs = ys := by
  obtain ⟨its, r, ⟨o, n, e, _, _, d⟩, _⟩ := I.list h
  obtain ⟨its', r', ⟨o', n', e', _, _, d'⟩, _⟩ := I.list h'
  rw [e] at e'; cases e'
  rw [d] at d'
  injection d' with d1 _
  have : its = its' := by simpa using congrArg Array.toList d1
  subst this
  exact r.inj r'
theorem Inv.tuple_inj (I : Inv X pins σ H s) (h : SqT X.K H a xs) (h' : SqT X.K H a ys) : xs = ys := by
  obtain ⟨its, r, ⟨o, e, _, n, d⟩, _⟩ := I.tuple h
  obtain ⟨its', r', ⟨o', e', _, n', d'⟩, _⟩ := I.tuple h'
  rw [e] at e'; cases e'
  rw [d] at d'
  injection d' with d1 _
  have : its = its' := by simpa using congrArg Array.toList d1
  subst this
  exact r.inj r'
end
abbrev Cx.wish (X : Cx) (E : Value → Shared → Prop) : Cx := { X with xe := E }
abbrev Cx.nox (X : Cx) : Cx := X.wish fun _ _ => False
theorem Cx.Ok.wish {X : Cx} (ok : X.Ok) (E : Value → Shared → Prop) : (X.wish E).Ok :=
  ⟨ok.mod, ok.kind, ok.glob, ok.blt, ok.above, ok.inj, ok.has, ok.cab, ok.hd, ok.frames, ok.stk, ok.exf, ok.bs, ok.bsz, ok.noex, ok.exfs, ok.funs, ok.frf⟩
theorem Cx.Ok.unwish {X : Cx} {E : Value → Shared → Prop} (ok : (X.wish E).Ok) : X.Ok :=
  ⟨ok.mod, ok.kind, ok.glob, ok.blt, ok.above, ok.inj, ok.has, ok.cab, ok.hd, ok.frames, ok.stk, ok.exf, ok.bs, ok.bsz, ok.noex, ok.exfs, ok.funs, ok.frf⟩
section
variable {X : Cx} {pins : List (Addr × Obj)} {σ : St} {H : Hp} {s : Shared} {E : Value → Shared → Prop}
theorem Inv.wish (I : Inv X pins σ H s) (E : Value → Shared → Prop) : Inv (X.wish E) pins σ H s := ⟨I.ok.wish E, I.os, I.bare, I.base, I.loc, I.cell, I.free, I.freeC, I.pin, I.hok, I.len⟩
theorem Inv.unwish (I : Inv (X.wish E) pins σ H s) : Inv X pins σ H s := ⟨I.ok.unwish, I.os, I.bare, I.base, I.loc, I.cell, I.free, I.freeC, I.pin, I.hok, I.len⟩
theorem SP.unwish {D : Ends} {f : Flow} {s' : Shared} (h : SP (X.wish E) pins D f s') : SP X pins D f s' := by
  cases f with
  | next => obtain ⟨σ', H', I, q⟩ := h; exact ⟨σ', H', I.unwish, q⟩
  | brk => obtain ⟨σ', H', I, q⟩ := h; exact ⟨σ', H', I.unwish, q⟩
  | cont => obtain ⟨σ', H', I, q⟩ := h; exact ⟨σ', H', I.unwish, q⟩
  | ret u => obtain ⟨v, σ', H', I, r, q⟩ := h; exact ⟨v, σ', H', I.unwish, r, q⟩
theorem PSs.nox {st : List Stmt} {t : TS} (h : PSs X.nox st t) : PSs X st t := fun pins s σ H D I hw =>
  wpAny_mono (h pins s σ H D (I.wish _) hw) (fun _ _ q => q.unwish) fun _ _ z => False.elim z
end
section
variable {X : Cx} {st : Stmt} {rest : List Stmt} {t u : TS} {e : Expr} {te : TE} {pos : Pos}
def tNext : TS := fun D σ H => D.nx σ H
def tSeq (t u : TS) : TS := fun D σ H => t { D with nx := u D } σ H
theorem pss_nil : PSs X [] tNext := fun _ _ σ H _ I h => wpAny_execs_nil ⟨σ, H, I, h⟩
theorem pss_cons (h1 : PS X st t) (h2 : PSs X rest u) : PSs X (st :: rest) (tSeq t u) := by
  intro pins s σ H D I h
  refine wpAny_execs_cons (thn (h1 pins s σ H { D with nx := u D } I h) fun f s1 q => ?_)
  cases f with
  | next =>
    obtain ⟨σ', H', I', q⟩ := q
    exact h2 pins s1 σ' H' D I' q
  | ret v => exact q
  | brk => exact q
  | cont => exact q
theorem pss_one (h1 : PS X st t) : PSs X [st] t := by
  intro pins s σ H D I h
  refine wpAny_execs_cons (thn (h1 pins s σ H D I h) fun f s1 q => ?_)
  cases f with
  | next => exact wpAny_execs_nil q
  | ret v => exact q
  | brk => exact q
  | cont => exact q
theorem Inv.quiet {pins : List (Addr × Obj)} {σ : St} {H : Hp} {s : Shared} (I : Inv X pins σ H s) : interactive X.env = false := by simp [interactive, I.ok.kind]
def tDrop (te : TE) : TS := fun D σ H => te σ H fun _ H1 => D.nx σ H1
theorem ps_expr (he : PE X e te) (hs : swapsWith e none pos.line X.env = pure false := by rfl) : PS X (.Expr e pos) (tDrop te) := by
  intro pins s σ H D I h
  exact wpAny_Expr_any (thn (he pins s σ H _ I h) fun v s1 ⟨x, H1, I1, r1, q1⟩ => ⟨σ, H1, I1, q1⟩) I.quiet hs
def tRet (te : TE) : TS := fun D σ H => te σ H D.rt
theorem ps_ret (he : PE X e te) : PS X (.Return (some e) pos) (tRet te) := by
  intro pins s σ H D I h
  exact wpAny_Return_some (thn (he pins s σ H _ I h) fun v s1 ⟨x, H1, I1, r1, q1⟩ => ⟨x, σ, H1, I1, r1, q1⟩)
def tIfS (c : TT) (t u : TS) : TS := fun D σ H => c σ H fun b H1 => if b = true then t D σ H1 else u D σ H1
theorem ps_if {c : Expr} {a b : List Stmt} {tc : TT} (hc : PT X c tc) (ha : PSs X a t) (hb : PSs X b u) : PS X (.If c a b pos) (tIfS tc t u) := by
  intro pins s σ H D I h
  refine wpAny_If (thn (hc pins s σ H _ I h) fun d s1 ⟨H1, I1, q1⟩ => ?_)
  cases d with
  | true => exact ha pins s1 σ H1 D I1 q1
  | false => exact hb pins s1 σ H1 D I1 q1
end
abbrev TG := V → St → Hp → (St → Hp → Prop) → Prop
abbrev TGs := List V → St → Hp → (St → Hp → Prop) → Prop
def PG (X : Cx) (target : Expr) (t : TG) : Prop :=
  ∀ (pins : List (Addr × Obj)) (s : Shared) (σ : St) (H : Hp) (v : V) (u : Value) (Q : St → Hp → Prop), Inv X pins σ H s → RelV v u → t v σ H Q →
    wpAny (model X.prog X.w) X.A (assign target X.env u) (fun _ s' => ∃ σ' H', Inv X pins σ' H' s' ∧ Q σ' H') X.xe s
def PGs (X : Cx) (ts : List Expr) (t : TGs) : Prop :=
  ∀ (pins : List (Addr × Obj)) (s : Shared) (σ : St) (H : Hp) (vs : List V) (us : List Value) (Q : St → Hp → Prop), Inv X pins σ H s → Vals vs us → t vs σ H Q →
    wpAny (model X.prog X.w) X.A (assignInOrder ((assignEach ts X.env).map (·.2)) us) (fun _ s' => ∃ σ' H', Inv X pins σ' H' s' ∧ Q σ' H') X.xe s
abbrev TSet := V → V → V → Hp → (Hp → Prop) → Prop
def PSet (X : Cx) (t : TSet) : Prop :=
  ∀ (pins : List (Addr × Obj)) (s : Shared) (σ : St) (H : Hp) (o i v : V) (ov iv u : Value) (Q : Hp → Prop), Inv X pins σ H s → RelV o ov → RelV i iv → RelV v u → t o i v H Q →
    wpAny (model X.prog X.w) X.A (setItem ov iv u) (fun _ s' => ∃ H', Inv X pins σ H' s' ∧ Q H') X.xe s
section
variable {X : Cx} {pos : Pos}
def gName (i : Nat) : TG := fun v σ H Q => Q (σ.set i (some v)) H
theorem pg_name {i : Nat} {x : Str} (hN : X.N.Nodup) (hi : X.N[i]? = some x) (hx : Loc X.env.scope x) (hf : X.fn x = true ∨ X.env.scope.names.lookup x = some .local := by first | exact .inl rfl | exact .inr rfl | assumption) : PG X (.Name x pos) (gName i) := by
  intro pins s σ H v u Q I r h
  exact wpAny_assign_Name (store_ok I hN hi hx r (fun s' I' => ⟨_, H, I', h⟩) hf)
def gNil : TGs := fun vs σ H Q => vs = [] ∧ Q σ H
def gCons (t : TG) (u : TGs) : TGs := fun vs σ H Q => ∃ v r, vs = v :: r ∧ t v σ H fun σ' H' => u r σ' H' Q
theorem pgs_nil : PGs X [] gNil := by
  intro pins s σ H vs us Q I r h
  obtain ⟨e, h⟩ := h
  subst e
  cases r
  exact assignInOrder_nil ⟨σ, H, I, h⟩
theorem pgs_cons {e : Expr} {es : List Expr} {t : TG} {u : TGs} (h1 : PG X e t) (h2 : PGs X es u)
    (hs : (assignEach (e :: es) X.env).map (·.2) = assign e X.env :: (assignEach es X.env).map (·.2) := by rfl) : PGs X (e :: es) (gCons t u) := by
  intro pins s σ H vs us Q I r h
  obtain ⟨v, vr, e1, h⟩ := h
  subst e1
  cases r with
  | cons r rr =>
    rw [hs]
    refine assignInOrder_cons (thn (h1 pins s σ H _ _ _ I r h) fun _ s1 ⟨σ1, H1, I1, q1⟩ => ?_)
    exact h2 pins s1 σ1 H1 _ _ Q I1 rr q1
def gTup (K : PySem.W.Frag) (n : Nat) (t : TGs) : TG := fun v σ H Q => ∃ a xs, v = .ref a ∧ SqT K H a xs ∧ xs.length = n ∧ t xs σ H Q
theorem pg_tup {es : List Expr} {k : Nat} {t : TGs} {n : Nat} (hc : X.calm = true) (h : PGs X es t)
    (hn : (assignEach es X.env).length = n := by rfl) (hst : (assignEach es X.env).findIdx? (·.1) = none := by rfl) : PG X (.Tuple es k pos) (gTup X.K n t) := by
  intro pins s σ H v u Q I r hw
  obtain ⟨a, xs, e1, hq, hl, hw⟩ := hw
  subst e1
  cases r
  obtain ⟨its, rv, ht, hz⟩ := I.tuple hq
  refine assign_Tuple_tuple (I.ok.hd hc) ht (by simp [hn, ← hl, rv.length]) hst fun h' hx => ?_
  have I1 : Inv X pins σ H { s with heap := h' } := I.kept (t' := s.toks) fun b o e => hx b o (Nat.ne_of_lt (Heap.lt_size e)) e
  exact h pins _ σ H xs _ Q I1 (by simpa using rv) hw
def gSub (to ti : TE) (t : TSet) : TG := fun v σ H Q => to σ H fun o H1 => ti σ H1 fun i H2 => t o i v H2 fun H3 => Q σ H3
theorem pg_sub {o i : Expr} {to ti : TE} {t : TSet} (ho : PE X o to) (hi : PE X i ti) (hs : PSet X t)
    (ha : ∀ v, assign (.Subscript o i pos) X.env v = (do
      let ov ← holding [v] (eval o X.env)
      let iv ← holding [v, ov] (eval i X.env)
      standAt pos
      holding [v, ov, iv] (setItem ov iv v)
      release [v, ov, iv] []) := by intro _; rfl) : PG X (.Subscript o i pos) (gSub to ti t) := by
  intro pins s σ H v u Q I r h
  rw [ha]
  refine wpAny_bind (wpAny_holding (thn (ho pins s σ H _ I h) fun ov s1 ⟨x, H1, I1, r1, q1⟩ => ?_))
  refine wpAny_bind (wpAny_holding (thn (hi pins s1 σ H1 _ I1 q1) fun iv s2 ⟨y, H2, I2, r2, q2⟩ => ?_))
  refine wpAny_bind (wpAny_standAt (wpAny_bind (wpAny_holding (thn (hs pins s2 σ H2 x y v ov iv u _ I2 r1 r2 r q2) fun _ s3 ⟨H3, I3, q3⟩ => ?_))))
  exact wpAny_release ⟨σ, H3, I3, q3⟩
def tAsg (te : TE) (g : TG) : TS := fun D σ H => te σ H fun x H1 => g x σ H1 D.nx
theorem ps_asg {tg e : Expr} {te : TE} {g : TG} (he : PE X e te) (hg : PG X tg g) (hs : swapsWithSole [tg] e pos.line X.env = pure false := by rfl) (hw : swappedStores [tg] e X.env = pure none := by rfl)
    (h1 : (assignEach [tg] X.env).map (·.2) = [assign tg X.env] := by rfl) : PS X (.Assign [tg] e pos) (tAsg te g) := by
  intro pins s σ H D I h
  refine wpAny_Assign_stores (thn (he pins s σ H _ I h) fun v s1 ⟨x, H1, I1, r1, q1⟩ => ?_) hs hw
  rw [h1]
  exact thn (hg pins s1 σ H1 x v _ I1 r1 q1) fun _ s2 q => q
theorem ps_set {i : Nat} {x : Str} {e : Expr} {te : TE} {pos' : Pos} (hN : X.N.Nodup) (hi : X.N[i]? = some x) (hx : Loc X.env.scope x) (he : PE X e te) (hs : swapsWith e (some (.Name x pos')) pos.line X.env = pure false := by rfl) (hf : X.fn x = true ∨ X.env.scope.names.lookup x = some .local := by first | exact .inl rfl | exact .inr rfl | assumption) :
    PS X (.Assign [.Name x pos'] e pos) (tAsg te (gName i)) := by
  intro pins s σ H D I h
  refine wpAny_Assign_Name (thn (he pins s σ H _ I h) fun v s1 ⟨y, H1, I1, r1, q1⟩ => ?_) hs
  exact store_ok I1 hN hi hx r1 (fun s2 I2 => ⟨_, H1, I2, q1⟩) hf
end
section
variable {X : Cx} {pos : Pos}
end
structure It where
  go : Nat → Hp → Prop
  yld : Nat → Hp → V → Hp → Prop
  stop : Nat → Hp → Prop
def FpOk (X : Cx) (pins : List (Addr × Obj)) (H : Hp) (b : Addr) : Prop :=
  H b = none ∧ b ≠ X.env.locals ∧ b ∉ X.fs ∧ (b ∈ X.ex ∨ X.s_0.heap.objs.size ≤ b) ∧ (∀ x c, X.env.cells.lookup x = some c → c ≠ b) ∧ ∀ p ∈ X.pn ++ pins, p.1 ≠ b
theorem Inv.fpOk {X : Cx} {pins : List (Addr × Obj)} {σ : St} {H H' : Hp} {s : Shared} {b : Addr} (I : Inv X pins σ H s) (hb : s.heap.objs.size ≤ b) (hn : H' b = none) : FpOk X pins H' b := by
  refine ⟨hn, Nat.ne_of_gt (Nat.lt_of_lt_of_le I.lt hb), I.nofs hb, .inr (Nat.le_trans I.sz hb), fun x c e z => ?_, fun p hp z => ?_⟩
  · obtain ⟨v, q⟩ := I.cell x c e
    exact absurd (Nat.lt_of_lt_of_le q.lt (by rw [z]; exact hb)) (Nat.lt_irrefl _)
  · exact absurd (Nat.lt_of_lt_of_le (Heap.lt_size (I.pin p hp).1) (by rw [z]; exact hb)) (Nat.lt_irrefl _)
structure Turn (P : Program) (w : World) (K : PySem.W.Frag) (tg : Expr) (J : It) (fp : List Addr) (it : Addr) (tn : Nat → Heap → Prop) : Prop where
  mem : it ∈ fp
  obj : ∀ i h, tn i h → ∀ b ∈ fp, ∃ o, h.get? b = some o ∧ ∀ v, o.data ≠ .cell v
  keep : ∀ i h h', tn i h → (∀ b ∈ fp, ∀ o, h.get? b = some o → h'.get? b = some o) → tn i h'
  item : ∀ (X : Cx), X.prog = P → X.w = w → X.K = K → X.calm = true → ∀ (i : Nat) (pins : List (Addr × Obj)) (s : Shared) (σ : St) (H : Hp) (E : Value → Shared → Prop), Inv X pins σ H s → (∀ b ∈ fp, FpOk X pins H b) → tn i s.heap → J.go i H →
    wpAny (model P w) X.A (pyNext (.ref it)) (fun r s1 => ∃ u, r = some u ∧
      wpAny (model P w) X.A (letOwnedTupleGo tg (.ref it) u) (fun _ s2 => ∃ x H', Inv X pins σ H' s2 ∧ RelV x u ∧ J.yld i H x H' ∧ tn (i + 1) s2.heap ∧ ∀ b ∈ fp, H' b = none) E s1) E s
  done : ∀ (X : Cx), X.prog = P → X.w = w → X.K = K → X.calm = true → ∀ (i : Nat) (pins : List (Addr × Obj)) (s : Shared) (σ : St) (H : Hp) (E : Value → Shared → Prop), Inv X pins σ H s → (∀ b ∈ fp, FpOk X pins H b) → tn i s.heap → J.stop i H →
    wpAny (model P w) X.A (pyNext (.ref it)) (fun r s1 => r = none ∧ Inv X pins σ H s1) E s
  self : ∀ (A : Around) (i : Nat) (s : Shared) (Q : Value → Shared → Prop) (E : Value → Shared → Prop), tn i s.heap → Q (.ref it) s → wpAny (model P w) A (pyIter (.ref it)) Q E s
abbrev TI := St → Hp → (It → Hp → Prop) → Prop
def PIE (X : Cx) (pins : List (Addr × Obj)) (σ : St) (tg : Expr) (R : It → Hp → Prop) (itv : Value) (s2 : Shared) : Prop :=
  ∃ (it : Addr) (fp : List Addr) (tn : Nat → Heap → Prop) (J : It) (H' : Hp), itv = .ref it ∧ Inv X pins σ H' s2 ∧ Turn X.prog X.w X.K tg J fp it tn ∧ tn 0 s2.heap ∧ (∀ b ∈ fp, FpOk X pins H' b) ∧ R J H'
def PI (X : Cx) (tg iter : Expr) (wi : TI) : Prop :=
  ∀ (pins : List (Addr × Obj)) (s : Shared) (σ : St) (H : Hp) (R : It → Hp → Prop), Inv X pins σ H s → wi σ H R →
    wpAny (model X.prog X.w) X.A (eval iter X.env) (fun v s1 => wpAny (model X.prog X.w) X.A (pyIter v) (PIE X pins σ tg R) X.xe s1) X.xe s
theorem go_of {M : Model} {A : Around} {E : Value → Shared → Prop} {s : Shared} {tg : Expr} {it : Addr} {u : Value} {o : Obj} {n : String} {vs : Array Value} {Q : Unit → Shared → Prop} (ho : s.heap.get? it = some o) (hc : o.cls = .type n) (hd : o.data = .fields vs)
    (hn : ["enumerate", "zip", "dict_itemiterator", "dict_reverseitemiterator", "odict_iterator", "itertools.zip_longest", "itertools.pairwise"].contains n = false) (hQ : Q () s) : wpAny M A (letOwnedTupleGo tg (.ref it) u) Q E s := by
  unfold letOwnedTupleGo
  cases tg <;> first
    | exact wpAny_pure hQ
    | (cases u <;> first
        | exact wpAny_pure hQ
        | (refine wpAny_bind (wpAny_load ho ?_)
           rw [hc, hd]
           show wpAny M A (if (["enumerate", "zip", "dict_itemiterator", "dict_reverseitemiterator", "odict_iterator", "itertools.zip_longest", "itertools.pairwise"].contains n && vs[0]? == some (rawInt _)) = true then _ else _) Q E s
           rw [if_neg (by intro h; rw [hn, Bool.false_and] at h; cases h)]
           exact wpAny_pure hQ))
def Itl (K : PySem.W.Frag) (a : Addr) : It :=
  ⟨fun i H => ∃ xs x, SqL K H a xs ∧ xs[i]? = some x, fun i H x H' => H' = H ∧ ∀ xs, SqL K H a xs → xs[i]? = some x, fun i H => ∃ xs, SqL K H a xs ∧ xs.length ≤ i⟩
def Itt (K : PySem.W.Frag) (a : Addr) : It :=
  ⟨fun i H => ∃ xs x, SqT K H a xs ∧ xs[i]? = some x, fun i H x H' => H' = H ∧ ∀ xs, SqT K H a xs → xs[i]? = some x, fun i H => ∃ xs, SqT K H a xs ∧ xs.length ≤ i⟩
def Itr (lo : Int) (n : Nat) : It := ⟨fun i _ => i < n, fun i H x H' => H' = H ∧ x = .int (lo + i), fun i _ => n ≤ i⟩
theorem turn_list {P : Program} {w : World} {K : PySem.W.Frag} {tg : Expr} (a it : Addr) : Turn P w K tg (Itl K a) [it] it (fun i h => h.IsListIter it a i) where
  mem := by simp
  obj := fun i h st b hb => by
    have e : b = it := by simpa using hb
    subst e
    obtain ⟨o, e, c, d⟩ := st
    exact ⟨o, e, fun v z => by rw [d] at z; cases z⟩
  keep := fun i h h' st k => st.at fun o e => k it (by simp) o e
  item := by
    intro X hP hw hK hc i pins s σ H E I hf st hg
    subst hP hw hK
    obtain ⟨xs, x, hq, hx⟩ := hg
    obtain ⟨its, rv, p, hz⟩ := I.list hq
    obtain ⟨u, hu, ru⟩ := rv.get hx
    obtain ⟨f0, f1, f2, f3, f4, f5⟩ := hf it (by simp)
    refine wpAny_pyNext_list_item st p.isList (x := u) (by simpa using hu) fun h' st' sb => ?_
    have I1 : Inv X pins σ H { s with heap := h' } := I.turned (t' := s.toks) (fun b o hb e => (sb.2 b hb).trans e) f0 f1 f3 f4 f5
    obtain ⟨o, e, c, d⟩ := id st'
    exact ⟨u, rfl, go_of (s := { s with heap := h' }) e c d (by decide) ⟨x, H, I1, ru, ⟨rfl, fun ys hy => by rw [I.list_inj hy hq]; exact hx⟩, st', fun b hb => (hf b hb).1⟩⟩
  done := by
    intro X hP hw hK hc i pins s σ H E I hf st hg
    subst hP hw hK
    obtain ⟨xs, hq, hx⟩ := hg
    obtain ⟨its, rv, p, hz⟩ := I.list hq
    obtain ⟨f0, f1, f2, f3, f4, f5⟩ := hf it (by simp)
    have hl := rv.length
    exact wpAny_pyNext_list_end (I.ok.hd hc) st p.isList (by simp; omega) fun h' eb => ⟨rfl, I.turned (t' := s.toks) (fun b o hb e => eb b o hb e) f0 f1 f3 f4 f5⟩
  self := fun _ _ _ _ _ st h => wpAny_pyIter_listiter st h
theorem turn_tuple {P : Program} {w : World} {K : PySem.W.Frag} {tg : Expr} (a it : Addr) : Turn P w K tg (Itt K a) [it] it (fun i h => h.IsTupleIter it a i) where
  mem := by simp
  obj := fun i h st b hb => by
    have e : b = it := by simpa using hb
    subst e
    obtain ⟨o, e, c, d⟩ := st
    exact ⟨o, e, fun v z => by rw [d] at z; cases z⟩
  keep := fun i h h' st k => st.at fun o e => k it (by simp) o e
  item := by
    intro X hP hw hK hc i pins s σ H E I hf st hg
    subst hP hw hK
    obtain ⟨xs, x, hq, hx⟩ := hg
    obtain ⟨its, rv, p, hz⟩ := I.tuple hq
    obtain ⟨u, hu, ru⟩ := rv.get hx
    obtain ⟨f0, f1, f2, f3, f4, f5⟩ := hf it (by simp)
    refine wpAny_pyNext_tuple_item st (show s.heap.IsTuple a its.toArray from p) (x := u) (by simpa using hu) fun h' st' sb => ?_
    have I1 : Inv X pins σ H { s with heap := h' } := I.turned (t' := s.toks) (fun b o hb e => (sb.2 b hb).trans e) f0 f1 f3 f4 f5
    obtain ⟨o, e, c, d⟩ := id st'
    exact ⟨u, rfl, go_of (s := { s with heap := h' }) e c d (by decide) ⟨x, H, I1, ru, ⟨rfl, fun ys hy => by rw [I.tuple_inj hy hq]; exact hx⟩, st', fun b hb => (hf b hb).1⟩⟩
  done := by
    intro X hP hw hK hc i pins s σ H E I hf st hg
    subst hP hw hK
    obtain ⟨xs, hq, hx⟩ := hg
    obtain ⟨its, rv, p, hz⟩ := I.tuple hq
    obtain ⟨f0, f1, f2, f3, f4, f5⟩ := hf it (by simp)
    have hl := rv.length
    exact wpAny_pyNext_tuple_end (I.ok.hd hc) st (show s.heap.IsTuple a its.toArray from p) (by simp; omega) fun h' eb => ⟨rfl, I.turned (t' := s.toks) (fun b o hb e => eb b o hb e) f0 f1 f3 f4 f5⟩
  self := fun _ _ _ _ _ st h => wpAny_pyIter_tupleiter st h
theorem turn_range {P : Program} {w : World} {K : PySem.W.Frag} {tg : Expr} (it : Addr) (lo : Int) (n : Nat) : Turn P w K tg (Itr lo n) [it] it (fun i h => IsRangeIter h it (lo + (i : Nat) * 1) ((n : Int) - (i : Nat)) 1) where
  mem := by simp
  obj := fun i h st b hb => by
    have e : b = it := by simpa using hb
    subst e
    exact ⟨_, st, fun v z => by
      have z' : Data.fields _ = Data.cell v := z
      cases z'⟩
  keep := fun i h h' st k => k it (by simp) _ st
  item := by
    intro X hP hw hK hc i pins s σ H E I hf st hg
    subst hP hw hK
    obtain ⟨f0, f1, f2, f3, f4, f5⟩ := hf it (by simp)
    have W := Walks.range (prog := X.prog) (w := X.w) (I.ok.hd hc) it lo 1 n
    refine W.item i s _ _ hg st fun v h' tk hv st' kk => ?_
    obtain ⟨t, rfl⟩ := hv
    have I1 : Inv X pins σ H { s with heap := h', toks := tk } := I.turned (fun b o hb e => kk b o (by simpa using hb) e) f0 f1 f3 f4 f5
    refine ⟨_, rfl, go_of (s := { s with heap := h', toks := tk }) (n := "range_iterator") st' rfl rfl (by decide) ⟨.int (lo + i), H, I1, ⟨t, ?_⟩, ⟨rfl, rfl⟩, st', fun b hb => (hf b hb).1⟩⟩
    rw [Int.mul_one]
  done := by
    intro X hP hw hK hc i pins s σ H E I hf st hg
    subst hP hw hK
    obtain ⟨f0, f1, f2, f3, f4, f5⟩ := hf it (by simp)
    exact wpAny_pyNext_range_end (I.ok.hd hc) st (by have : n ≤ i := hg; omega) fun h' eb => ⟨rfl, I.turned (t' := s.toks) (fun b o hb e => eb b o hb e) f0 f1 f3 f4 f5⟩
  self := fun _ _ _ _ _ st h => wpAny_pyIter_rangeiter st h
end L2
namespace L2
open PySem PySem.Spec PyProof.Rows
section
variable {X : Cx} {tg : Expr}
def iList (K : PySem.W.Frag) (tl : TE) : TI := fun σ H R => tl σ H fun x H1 => ∃ a, x = .ref a ∧ (∃ xs, SqL K H1 a xs) ∧ R (Itl K a) H1
theorem pi_list {l : Expr} {tl : TE} (hl : PE X l tl) : PI X tg l (iList X.K tl) := by
  intro pins s σ H R I h
  refine thn (hl pins s σ H _ I h) fun v s1 ⟨x, H1, I1, r1, q1⟩ => ?_
  obtain ⟨a, e, ⟨xs, hq⟩, q⟩ := q1
  subst e
  cases r1
  obtain ⟨its, rv, p, hz⟩ := I1.list hq
  refine wpAny_pyIter_list p.isList ?_
  refine ⟨s1.heap.objs.size, [s1.heap.objs.size], _, _, H1, rfl, I1.kept (t' := s1.toks) fun b o e => Heap.get?_push_of_some _ e, turn_list a _, ⟨_, Heap.get?_push_size _ rfl, rfl, rfl⟩, fun b hb => ?_, q⟩
  have e : b = s1.heap.objs.size := by simpa using hb
  subst e
  exact I1.fpOk (Nat.le_refl _) (I1.hok.fresh (Nat.le_refl _))
theorem range_it {pins : List (Addr × Obj)} {σ : St} {H : Hp} {s : Shared} {R : It → Hp → Prop} {E : Value → Shared → Prop} {lo hi : Int} {t u v : Tok} {tk : Nat} (I : Inv X pins σ H s) (h1 : -(2 ^ 62) ≤ lo) (h2 : lo < 2 ^ 62) (h3 : -(2 ^ 62) ≤ hi) (h4 : hi < 2 ^ 62)
    (q : R (Itr lo (hi - lo).toNat) H) : wpAny (model X.prog X.w) X.A (pyIter (.ref s.heap.objs.size)) (PIE X pins σ tg R) E { s with heap := s.heap.push { cls := .type "range", data := .fields #[.int lo t, .int hi u, .int 1 v] }, toks := tk } := by
  refine wpAny_pyIter_range (IsRange.new ..) (small_one h1 h2 h3 h4) ?_
  have I1 : Inv X pins σ H { s with heap := s.heap.push { cls := .type "range", data := .fields #[.int lo t, .int hi u, .int 1 v] }, toks := tk } := I.kept fun b o e => Heap.get?_push_of_some _ e
  refine ⟨(s.heap.push { cls := .type "range", data := .fields #[.int lo t, .int hi u, .int 1 v] }).objs.size, [(s.heap.push { cls := .type "range", data := .fields #[.int lo t, .int hi u, .int 1 v] }).objs.size], _, _, H, rfl,
    I1.kept (t' := tk) fun b o e => Heap.get?_push_of_some _ e, turn_range _ lo (hi - lo).toNat, ?_, fun b hb => ?_, q⟩
  · have e1 : lo + ((0 : Nat) : Int) * 1 = lo := by simp
    have e2 : (((hi - lo).toNat : Nat) : Int) - ((0 : Nat) : Int) = Builtin.Range.rangeSize lo hi 1 := by rw [rangeSize_one]; split <;> omega
    show IsRangeIter _ _ (lo + ((0 : Nat) : Int) * 1) ((((hi - lo).toNat : Nat) : Int) - ((0 : Nat) : Int)) 1
    rw [e1, e2]
    exact Heap.get?_push_size _ rfl
  · have e : b = (s.heap.push { cls := .type "range", data := .fields #[.int lo t, .int hi u, .int 1 v] }).objs.size := by simpa using hb
    subst e
    exact I1.fpOk (Nat.le_refl _) (I1.hok.fresh (Nat.le_refl _))
def iRng1 (ta : TA) : TI := fun σ H R => ta σ H fun vs H1 => ∃ j : Int, vs = [.int j] ∧ -(2 ^ 62) ≤ j ∧ j < 2 ^ 62 ∧ R (Itr 0 j.toNat) H1
def iRng2 (ta : TA) : TI := fun σ H R => ta σ H fun vs H1 => ∃ i j : Int, vs = [.int i, .int j] ∧ (-(2 ^ 62) ≤ i ∧ i < 2 ^ 62 ∧ -(2 ^ 62) ≤ j ∧ j < 2 ^ 62) ∧ R (Itr i (j - i).toNat) H1
theorem pi_range1 {a : Expr} {ta : TA} {p pos : Pos} (hg : Gl X "range") (hm : X.mg "range" = none) (ha : PA X [a] ta) (hs : starEach [a] X.env = [(false, eval a X.env)] := by rfl) : PI X tg (.Call (.Name "range" p) [a] [] pos) (iRng1 ta) := by
  intro pins s σ H R I h
  refine Call_ (ld_blt I hg hm boot_range (PyProof.Rows.callWith_type1 (thn (ha pos pins s σ H _ I h) fun us s1 ⟨vs, H1, I1, r1, q1⟩ => ?_) hs rfl))
  obtain ⟨j, e, q1, q2, q⟩ := q1
  subst e
  cases r1 with
  | cons r rr =>
    cases rr
    obtain ⟨t, rfl⟩ := r
    exact call_range_1 (range_it I1 (by omega) (by omega) q1 q2 (by simpa using q))
theorem pi_range2 {a b : Expr} {ta : TA} {p pos : Pos} (hg : Gl X "range") (hm : X.mg "range" = none) (ha : PA X [a, b] ta) (hs : starEach [a, b] X.env = [(false, eval a X.env), (false, eval b X.env)] := by rfl) (hs2 : starEach [b] X.env = [(false, eval b X.env)] := by rfl) :
    PI X tg (.Call (.Name "range" p) [a, b] [] pos) (iRng2 ta) := by
  intro pins s σ H R I h
  refine Call_ (ld_blt I hg hm boot_range (PyProof.Rows.callWith_type1 (thn (ha pos pins s σ H _ I h) fun us s1 ⟨vs, H1, I1, r1, q1⟩ => ?_) (by rw [hs, hs2]) (by rw [hs2]; rfl)))
  obtain ⟨i, j, e, ⟨q1, q2, q3, q4⟩, q⟩ := q1
  subst e
  cases r1 with
  | cons r rr =>
    cases rr with
    | cons r' rr =>
      cases rr
      obtain ⟨t, rfl⟩ := r
      obtain ⟨t', rfl⟩ := r'
      exact call_range_2 (range_it I1 q1 q2 q3 q4 q)
def tFor (wi : TI) (g : TG) (tb : TS) : TS := fun D σ H => wi σ H fun J H1 => ∃ W : Nat → Nat → St → Hp → Prop, (∃ m, W 0 m σ H1) ∧ ∀ i m σ H, W i m σ H →
  (J.stop i H ∧ D.nx σ H) ∨ (J.go i H ∧ ∃ N : St → Hp → Prop, (∀ σ' H', N σ' H' → ∃ m', m' < m ∧ W (i + 1) m' σ' H') ∧ ∀ x H', J.yld i H x H' → g x σ H' fun σ2 H2 => tb { D with nx := N, ct := N, bk := D.nx } σ2 H2)
def pinsAt (fp : List Addr) (h : Heap) : List (Addr × Obj) := fp.filterMap fun b => (h.get? b).map fun o => (b, o)
theorem mem_pinsAt {fp : List Addr} {h : Heap} {b : Addr} {o : Obj} (hb : b ∈ fp) (e : h.get? b = some o) : (b, o) ∈ pinsAt fp h := List.mem_filterMap.mpr ⟨b, hb, by rw [e]; rfl⟩
theorem of_pinsAt {fp : List Addr} {h : Heap} {p : Addr × Obj} (hp : p ∈ pinsAt fp h) : p.1 ∈ fp ∧ h.get? p.1 = some p.2 := by
  obtain ⟨b, hb, e⟩ := List.mem_filterMap.mp hp
  cases q : h.get? b with
  | none => rw [q] at e; cases e
  | some o =>
    rw [q] at e
    have e' : (b, o) = p := Option.some.inj e
    subst e'
    exact ⟨hb, q⟩
theorem Inv.pinned {pins : List (Addr × Obj)} {σ : St} {H : Hp} {s : Shared} {fp : List Addr} (I : Inv X pins σ H s) (hf : ∀ b ∈ fp, FpOk X pins H b) (ho : ∀ b ∈ fp, ∃ o, s.heap.get? b = some o ∧ ∀ v, o.data ≠ .cell v) : Inv X (pins ++ pinsAt fp s.heap) σ H s :=
  I.pins_of fun p hp => (List.mem_append.mp hp).elim (fun z => I.pin p (List.mem_append_right _ z)) fun z => by
    obtain ⟨hb, e⟩ := of_pinsAt z
    obtain ⟨f0, f1, f2, _⟩ := hf p.1 hb
    obtain ⟨o, e', d⟩ := ho p.1 hb
    rw [e] at e'; cases e'
    exact ⟨e, f0, f1, f2, d⟩
theorem Inv.unpinned {pins pl : List (Addr × Obj)} {σ : St} {H : Hp} {s : Shared} (I : Inv X (pins ++ pl) σ H s) : Inv X pins σ H s := I.pins_of fun p hp => I.pin p (List.mem_append_right _ (List.mem_append_left _ hp))
theorem ps_for {iter : Expr} {body : List Stmt} {wi : TI} {g : TG} {tb : TS} {pos : Pos} (hp : PassesOwn (model X.prog X.w) X.A X.env X.xe) (hc : X.calm = true) (hi : PI X tg iter wi) (hg : PG X tg g) (hb : PSs X body tb)
    (hs : ∀ x, foldedSetIterable iter X.env x = pure x := by intro _; rfl) : PS X (.For tg iter body [] pos) (tFor wi g tb) := by
  intro pins s σ H D I h
  refine wpAny_For (thn (hi pins s σ H _ I h) fun v s1 h1 => thn h1 fun itv s2 h2 => ?_) hs
  obtain ⟨it, fp, tn, J, H2, e, I2, T, st2, f2, W, ⟨m0, w0⟩, turn⟩ := h2
  subst e
  -- what stays true of the iterator's objects through the loop
  have stat : ∀ {H' : Hp}, (∀ b ∈ fp, H' b = none) → ∀ b ∈ fp, FpOk X pins H' b := fun hn b hb => ⟨hn b hb, (f2 b hb).2⟩
  refine codeAny_forLoop_any (fun n s' => ∃ i σ' H', Inv X pins σ' H' s' ∧ tn i s'.heap ∧ (∀ b ∈ fp, H' b = none) ∧ W i n σ' H') ?_ m0 ⟨0, σ, H2, I2, st2, fun b hb => (f2 b hb).1, w0⟩
  rintro n s3 ⟨i, σ3, H3, I3, st3, fr3, w3⟩
  rcases turn i n σ3 H3 w3 with ⟨stop, qn⟩ | ⟨go, N, hN, step⟩
  · refine wpAny_passesOwn hp (thn (T.done X rfl rfl rfl hc i pins s3 σ3 H3 X.xe I3 (stat fr3) st3 stop) fun r s4 ⟨hr, I4⟩ => ?_)
    subst hr
    exact wpAny_execs_nil ⟨σ3, H3, I4, qn⟩
  · refine wpAny_passesOwn hp (thn (T.item X rfl rfl rfl hc i pins s3 σ3 H3 X.xe I3 (stat fr3) st3 go) fun r s4 ⟨u, hr, h4⟩ => ?_)
    subst hr
    refine wpAny_passesOwn hp (thn h4 fun _ s5 ⟨x, H5, I5, r5, y5, st5, fr5⟩ => ?_)
    have I5' := I5.pinned (stat fr5) (T.obj _ _ st5)
    refine wpAny_passesOwn hp (thn (hg _ s5 σ3 H5 x u _ I5' r5 (step x H5 y5)) fun _ s6 ⟨σ6, H6, I6, q6⟩ => ?_)
    refine wpAny_passesOwn hp (thn (hb _ s6 σ6 H6 _ I6 q6) fun f s7 q7 => ?_)
    have again : ∀ {σ7 : St} {H7 : Hp}, Inv X (pins ++ pinsAt fp s5.heap) σ7 H7 s7 → N σ7 H7 → ∃ m, m < n ∧ ∃ i σ' H', Inv X pins σ' H' s7 ∧ tn i s7.heap ∧ (∀ b ∈ fp, H' b = none) ∧ W i m σ' H' := fun {σ7 H7} I7 n7 => by
      obtain ⟨m', hm, w7⟩ := hN σ7 H7 n7
      refine ⟨m', hm, i + 1, σ7, H7, I7.unpinned, T.keep _ _ _ st5 fun b hb o e => (I7.pin (b, o) (List.mem_append_right _ (List.mem_append_right _ (mem_pinsAt hb e)))).1, fun b hb => ?_, w7⟩
      obtain ⟨o, e, d⟩ := T.obj _ _ st5 b hb
      exact (I7.pin (b, o) (List.mem_append_right _ (List.mem_append_right _ (mem_pinsAt hb e)))).2.1
    cases f with
    | next => obtain ⟨σ7, H7, I7, n7⟩ := q7; exact again I7 n7
    | cont => obtain ⟨σ7, H7, I7, n7⟩ := q7; exact again I7 n7
    | brk => obtain ⟨σ7, H7, I7, q7⟩ := q7; exact ⟨σ7, H7, I7.unpinned, q7⟩
    | ret v => obtain ⟨x7, σ7, H7, I7, r7, q7⟩ := q7; exact ⟨x7, σ7, H7, I7.unpinned, r7, q7⟩
end
theorem for_list {K : PySem.W.Frag} {a : Addr} {xs : List V} {g : TG} {tb : TS} {D : Ends} {σ : St} {H : Hp} (Pv : Nat → St → Hp → Prop) (h0 : Pv 0 σ H) (hl : ∀ i σ H, i ≤ xs.length → Pv i σ H → SqL K H a xs)
    (hs : ∀ i x σ H, xs[i]? = some x → Pv i σ H → g x σ H fun σ2 H2 => tb { D with nx := Pv (i + 1), ct := Pv (i + 1), bk := D.nx } σ2 H2) (hd : ∀ σ H, Pv xs.length σ H → D.nx σ H) :
    ∃ W : Nat → Nat → St → Hp → Prop, (∃ m, W 0 m σ H) ∧ ∀ i m σ H, W i m σ H →
      ((Itl K a).stop i H ∧ D.nx σ H) ∨ ((Itl K a).go i H ∧ ∃ N : St → Hp → Prop, (∀ σ' H', N σ' H' → ∃ m', m' < m ∧ W (i + 1) m' σ' H') ∧ ∀ x H', (Itl K a).yld i H x H' → g x σ H' fun σ2 H2 => tb { D with nx := N, ct := N, bk := D.nx } σ2 H2) := by
  refine ⟨fun i m σ H => m = xs.length - i ∧ i ≤ xs.length ∧ Pv i σ H, ⟨xs.length, by simp, Nat.zero_le _, h0⟩, ?_⟩
  rintro i m σ H ⟨rfl, hi, p⟩
  have q := hl i σ H hi p
  by_cases hlt : i < xs.length
  · refine .inr ⟨⟨xs, xs[i], q, by simp [hlt]⟩, Pv (i + 1), fun σ' H' p' => ⟨xs.length - (i + 1), by omega, rfl, hlt, p'⟩, fun x H' y => ?_⟩
    obtain ⟨e, y⟩ := y
    subst e
    exact hs i x σ _ (y xs q) p
  · have e : i = xs.length := by omega
    subst e
    exact .inl ⟨⟨xs, q, Nat.le_refl _⟩, hd σ H p⟩
theorem for_range {lo : Int} {n : Nat} {g : TG} {tb : TS} {D : Ends} {σ : St} {H : Hp} (Pv : Nat → St → Hp → Prop) (h0 : Pv 0 σ H)
    (hs : ∀ i σ H, i < n → Pv i σ H → g (.int (lo + i)) σ H fun σ2 H2 => tb { D with nx := Pv (i + 1), ct := Pv (i + 1), bk := D.nx } σ2 H2) (hd : ∀ σ H, Pv n σ H → D.nx σ H) :
    ∃ W : Nat → Nat → St → Hp → Prop, (∃ m, W 0 m σ H) ∧ ∀ i m σ H, W i m σ H →
      ((Itr lo n).stop i H ∧ D.nx σ H) ∨ ((Itr lo n).go i H ∧ ∃ N : St → Hp → Prop, (∀ σ' H', N σ' H' → ∃ m', m' < m ∧ W (i + 1) m' σ' H') ∧ ∀ x H', (Itr lo n).yld i H x H' → g x σ H' fun σ2 H2 => tb { D with nx := N, ct := N, bk := D.nx } σ2 H2) := by
  refine ⟨fun i m σ H => m = n - i ∧ i ≤ n ∧ Pv i σ H, ⟨n, by simp, Nat.zero_le _, h0⟩, ?_⟩
  rintro i m σ H ⟨rfl, hi, p⟩
  by_cases hlt : i < n
  · refine .inr ⟨hlt, Pv (i + 1), fun σ' H' p' => ⟨n - (i + 1), by omega, rfl, hlt, p'⟩, fun x H' y => ?_⟩
    obtain ⟨e, y⟩ := y
    subst e y
    exact hs i σ _ hlt p
  · have e : i = n := by omega
    subst e
    exact .inl ⟨Nat.le_refl _, hd σ H p⟩
end L2
namespace L2
open PySem PySem.Spec PyProof.Rows
abbrev R2 := V → V → Hp → VK → Prop
def OpR (X : Cx) (f : Value → Value → Sem Value) (r : R2) : Prop :=
  ∀ (pins : List (Addr × Obj)) (s : Shared) (σ : St) (H : Hp) (x y : V) (v u : Value) (Q : VK), Inv X pins σ H s → RelV x v → RelV y u → r x y H Q →
    wpAny (model X.prog X.w) X.A (f v u) (EP X pins σ Q) X.xe s
def UnR (X : Cx) (f : Value → Sem Value) (r : V → Hp → VK → Prop) : Prop :=
  ∀ (pins : List (Addr × Obj)) (s : Shared) (σ : St) (H : Hp) (x : V) (v : Value) (Q : VK), Inv X pins σ H s → RelV x v → r x H Q →
    wpAny (model X.prog X.w) X.A (f v) (EP X pins σ Q) X.xe s
def CallR (X : Cx) (f : Value) (r : List V → Hp → VK → Prop) : Prop :=
  ∀ (pins : List (Addr × Obj)) (s : Shared) (σ : St) (H : Hp) (xs : List V) (us : List Value) (Q : VK), Inv X pins σ H s → Vals xs us → r xs H Q →
    wpAny (model X.prog X.w) X.A (call f us) (EP X pins σ Q) X.xe s
def TruR (X : Cx) (r : V → Hp → (Bool → Hp → Prop) → Prop) : Prop :=
  ∀ (pins : List (Addr × Obj)) (s : Shared) (σ : St) (H : Hp) (x : V) (v : Value) (Q : Bool → Hp → Prop), Inv X pins σ H s → RelV x v → r x H Q →
    wpAny (model X.prog X.w) X.A (truthy v) (TP X pins σ Q) X.xe s
def tOp (r : R2) (ta tb : TE) : TE := fun σ H Q => ta σ H fun x H1 => tb σ H1 fun y H2 => r x y H2 Q
def tUn (r : V → Hp → VK → Prop) (ta : TE) : TE := fun σ H Q => ta σ H fun x H1 => r x H1 Q
def rI (C : Int → Int → Prop) (g : Int → Int → V) : R2 := fun x y H Q => ∃ i j, x = .int i ∧ y = .int j ∧ C i j ∧ Q (g i j) H
def rI0 (g : Int → Int → V) : R2 := fun x y H Q => ∃ i j, x = .int i ∧ y = .int j ∧ Q (g i j) H
def rU (g : Int → V) : V → Hp → VK → Prop := fun x H Q => ∃ i, x = .int i ∧ Q (g i) H
section
variable {X : Cx} {a b c : Expr} {ta tb tc : TE} {pos : Pos}
theorem binT (ha : PE X a ta) (hb : PE X b tb) {pins : List (Addr × Obj)} {s : Shared} {σ : St} {H : Hp} {R : V → V → Hp → Prop} (I : Inv X pins σ H s)
    (h : ta σ H fun x H1 => tb σ H1 fun y H2 => R x y H2) {Q : Value → Shared → Prop} {f : Value → Value → Sem Value}
    (hf : ∀ v u s2 x y H2, Inv X pins σ H2 s2 → RelV x v → RelV y u → R x y H2 → wpAny (model X.prog X.w) X.A (f v u) Q X.xe s2) :
    wpAny (model X.prog X.w) X.A (eval a X.env) (fun v s₁ => wpAny (model X.prog X.w) X.A (eval b X.env) (fun u s₂ => wpAny (model X.prog X.w) X.A (f v u) Q X.xe s₂) X.xe s₁) X.xe s := by
  refine thn (ha pins s σ H _ I h) fun v s1 ⟨x, H1, I1, r1, q1⟩ => ?_
  refine thn (hb pins s1 σ H1 _ I1 q1) fun u s2 ⟨y, H2, I2, r2, q2⟩ => ?_
  exact hf v u s2 x y H2 I2 r1 r2 q2
theorem pe_op {op : Operator} {r : R2} (ho : OpR X (binaryOp op) r) (ha : PE X a ta) (hb : PE X b tb) : PE X (.BinOp a op b pos) (tOp r ta tb) := by
  intro pins s σ H Q I h
  exact wpAny_BinOp (binT ha hb I h fun v u s2 x y H2 I2 rx ry q => ho pins s2 σ H2 x y v u Q I2 rx ry q)
theorem pe_un {op : UnaryOp} {r : V → Hp → VK → Prop} (ho : UnR X (unaryOp op) r) (ha : PE X a ta) : PE X (.UnaryOp op a pos) (tUn r ta) := by
  intro pins s σ H Q I h
  exact UnaryOp_ (thn (ha pins s σ H _ I h) fun v s1 ⟨x, H1, I1, r1, q1⟩ => ho pins s1 σ H1 x v Q I1 r1 q1)
theorem opI {f : Value → Value → Sem Value} {C : Int → Int → Prop} {g : Int → Int → Int}
    (rule : ∀ (i j : Int) (t u : Tok) (s : Shared) (Q : Value → Shared → Prop) (E : Value → Shared → Prop), C i j → Q (.int (g i j) s.toks) { s with toks := s.toks + 1 } → wpAny (model X.prog X.w) X.A (f (.int i t) (.int j u)) Q E s) :
    OpR X f (rI C fun i j => .int (g i j)) := by
  intro pins s σ H x y v u Q I rx ry h
  obtain ⟨i, j, rfl, rfl, hc, q⟩ := h
  obtain ⟨t, rfl⟩ := rx
  obtain ⟨t', rfl⟩ := ry
  exact rule i j t t' s _ _ hc ⟨.int (g i j), H, I.tok _, ⟨_, rfl⟩, q⟩
theorem opI0 {f : Value → Value → Sem Value} {g : Int → Int → Int}
    (rule : ∀ (i j : Int) (t u : Tok) (s : Shared) (Q : Value → Shared → Prop) (E : Value → Shared → Prop), Q (.int (g i j) s.toks) { s with toks := s.toks + 1 } → wpAny (model X.prog X.w) X.A (f (.int i t) (.int j u)) Q E s) :
    OpR X f (rI0 fun i j => .int (g i j)) := by
  intro pins s σ H x y v u Q I rx ry h
  obtain ⟨i, j, rfl, rfl, q⟩ := h
  obtain ⟨t, rfl⟩ := rx
  obtain ⟨t', rfl⟩ := ry
  exact rule i j t t' s _ _ ⟨.int (g i j), H, I.tok _, ⟨_, rfl⟩, q⟩
theorem opB0 {f : Value → Value → Sem Value} {g : Int → Int → Bool}
    (rule : ∀ (i j : Int) (t u : Tok) (s : Shared) (Q : Value → Shared → Prop) (E : Value → Shared → Prop), Q (.bool (g i j)) s → wpAny (model X.prog X.w) X.A (f (.int i t) (.int j u)) Q E s) :
    OpR X f (rI0 fun i j => .bl (g i j)) := by
  intro pins s σ H x y v u Q I rx ry h
  obtain ⟨i, j, rfl, rfl, q⟩ := h
  obtain ⟨t, rfl⟩ := rx
  obtain ⟨t', rfl⟩ := ry
  exact rule i j t t' s _ _ ⟨.bl (g i j), H, I, rfl, q⟩
def CDiv (i j : Int) : Prop := 0 < j ∧ j < 1073741824
def CPow (i j : Int) : Prop := 0 ≤ j ∧ j ≤ 1000000 ∧ i.natAbs < 2 ^ 64
def CMul (i j : Int) : Prop := (-(2 ^ 64) < i ∧ i < 2 ^ 64) ∨ (-(2 ^ 64) < j ∧ j < 2 ^ 64)
theorem CMul.ok {i j : Int} (h : CMul i j) : IntMulOk i j := by
  rcases h with ⟨h1, h2⟩ | ⟨h1, h2⟩
  · exact .of_left (intBits_le_64 h1 h2)
  · exact .of_right (intBits_le_64 h1 h2)
theorem op_add : OpR X (binaryOp .Add) (rI0 fun i j => .int (i + j)) := opI0 fun _ _ _ _ _ _ _ q => add_int q
theorem op_sub : OpR X (binaryOp .Sub) (rI0 fun i j => .int (i - j)) := opI0 fun _ _ _ _ _ _ _ q => sub_int q
theorem op_mul : OpR X (binaryOp .Mult) (rI CMul fun i j => .int (i * j)) := opI fun _ _ _ _ _ _ _ hc q => mul_int q hc.ok
theorem op_fdiv : OpR X (binaryOp .FloorDiv) (rI CDiv fun i j => .int (i / j)) := opI fun i j _ _ _ _ _ hc q => by
  have h1 : (0 : Int) < j := hc.1
  have h2 : j < 1073741824 := hc.2
  exact floordiv_int (by omega) (by rw [Int.fdiv_eq_ediv_of_nonneg i (by omega)]; exact q) (.inl (PyProof.noPylong_small (by omega)))
theorem op_mod : OpR X (binaryOp .Mod) (rI (fun _ j => 0 < j) fun i j => .int (i % j)) := opI fun i j _ _ _ _ _ hc q => by
  have h1 : (0 : Int) < j := hc
  exact mod_int' (by omega) (by rw [Int.fmod_eq_emod_of_nonneg i (by omega)]; exact q)
theorem op_shl : OpR X (binaryOp .LShift) (rI CPow fun i j => .int (i * 2 ^ j.toNat)) := opI fun _ _ _ _ _ _ _ hc q => lshift_int_small hc.1 hc.2.1 hc.2.2 q
theorem op_and : OpR X (binaryOp .BitAnd) (rI0 fun i j => .int (Builtin.bitAnd i j)) := opI0 fun _ _ _ _ _ _ _ q => and_int q
theorem op_or : OpR X (binaryOp .BitOr) (rI0 fun i j => .int (Builtin.bitOr i j)) := opI0 fun _ _ _ _ _ _ _ q => or_int q
theorem unI {f : Value → Sem Value} {g : Int → Int}
    (rule : ∀ (i : Int) (t : Tok) (s : Shared) (Q : Value → Shared → Prop) (E : Value → Shared → Prop), Q (.int (g i) s.toks) { s with toks := s.toks + 1 } → wpAny (model X.prog X.w) X.A (f (.int i t)) Q E s) :
    UnR X f (rU fun i => .int (g i)) := by
  intro pins s σ H x v Q I rx h
  obtain ⟨i, rfl, q⟩ := h
  obtain ⟨t, rfl⟩ := rx
  exact rule i t s _ _ ⟨.int (g i), H, I.tok _, ⟨_, rfl⟩, q⟩
theorem un_inv : UnR X (unaryOp .Invert) (rU fun i => .int (Builtin.bitNot i)) := unI fun _ _ _ _ _ q => invert_int q
end
def scal : V → V → Bool
  | .non, .non => true | .non, .int _ => true | .int _, .non => true | .non, .bl _ => true | .bl _, .non => true | .non, .str _ => true | .str _, .non => true
  | .int _, .int _ => true | .bl _, .bl _ => true | .str _, .str _ => true | .byt _, .byt _ => true
  | .int _, .str _ => true | .str _, .int _ => true | .bl _, .str _ => true | .str _, .bl _ => true
  | _, _ => false
def rEq : R2 := fun x y H Q => scal x y = true ∧ Q (.bl (decide (x = y))) H
def rNe : R2 := fun x y H Q => scal x y = true ∧ Q (.bl (!decide (x = y))) H
theorem dec_int {i j : Int} : decide (V.int i = V.int j) = (i == j) := by
  rw [Bool.eq_iff_iff]
  simp
theorem dec_bl {i j : Bool} : decide (V.bl i = V.bl j) = (i == j) := by
  rw [Bool.eq_iff_iff]
  simp
theorem dec_str {i j : Str} : decide (V.str i = V.str j) = (i == j) := by
  rw [Bool.eq_iff_iff]
  simp
theorem dec_byt {i j : Array UInt8} : decide (V.byt i = V.byt j) = (i.toList == j.toList) := by
  rw [Bool.eq_iff_iff]
  cases i
  cases j
  simp
section
variable {X : Cx} {a b c : Expr} {ta tb tc : TE} {pos : Pos}
theorem fin_bl {pins : List (Addr × Obj)} {σ : St} {H : Hp} {s : Shared} {Q : VK} {k k' : Bool} (I : Inv X pins σ H s) (q : Q (.bl k) H) (e : k = k') : EP X pins σ Q (.bool k') s := by
  subst e
  exact ⟨.bl k, H, I, rfl, q⟩
theorem op_eq : OpR X (compareOp .Eq) rEq := by
  intro pins s σ H x y v u Q I rx ry h
  obtain ⟨hs, q⟩ := h
  cases x with
  | non =>
    cases rx
    cases y with
    | non => cases ry; exact PySem.EqNone.eq_none_none (fin_bl I q (by simp))
    | bl j => cases ry; exact PySem.EqNone.eq_none_bool (fin_bl I q (by simp))
    | int j => obtain ⟨t', rfl⟩ := ry; exact PySem.EqNone.eq_none_int (fin_bl I q (by simp))
    | str j => obtain ⟨t', rfl⟩ := ry; exact PySem.EqNone.eq_none_str (fin_bl I q (by simp))
    | _ => exact absurd (show false = true from hs) Bool.false_ne_true
  | bl i =>
    cases rx
    cases y with
    | non => cases ry; exact PySem.EqNone.eq_bool_none (fin_bl I q (by simp))
    | bl j => cases ry; exact eq_bool (fin_bl I q dec_bl)
    | str j => obtain ⟨t', rfl⟩ := ry; exact PySem.EqMixed.eq_bool_str (fin_bl I q (by simp))
    | _ => exact absurd (show false = true from hs) Bool.false_ne_true
  | int i =>
    obtain ⟨t, rfl⟩ := rx
    cases y with
    | non => cases ry; exact PySem.EqNone.eq_int_none (fin_bl I q (by simp))
    | int j => obtain ⟨t', rfl⟩ := ry; exact eq_int (fin_bl I q dec_int)
    | str j => obtain ⟨t', rfl⟩ := ry; exact PySem.EqMixed.eq_int_str (fin_bl I q (by simp))
    | _ => exact absurd (show false = true from hs) Bool.false_ne_true
  | str i =>
    obtain ⟨t, rfl⟩ := rx
    cases y with
    | non => cases ry; exact PySem.EqNone.eq_str_none (fin_bl I q (by simp))
    | bl j => cases ry; exact PySem.EqMixed.eq_str_bool (fin_bl I q (by simp))
    | int j => obtain ⟨t', rfl⟩ := ry; exact PySem.EqMixed.eq_str_int (fin_bl I q (by simp))
    | str j => obtain ⟨t', rfl⟩ := ry; exact eq_str (fin_bl I q dec_str)
    | _ => exact absurd (show false = true from hs) Bool.false_ne_true
  | byt i =>
    obtain ⟨t, rfl⟩ := rx
    cases y with
    | byt j => obtain ⟨t', rfl⟩ := ry; exact PySem.W.eq_bytes (fin_bl I q dec_byt)
    | _ => exact absurd (show false = true from hs) Bool.false_ne_true
  | _ => cases y <;> exact absurd (show false = true from hs) Bool.false_ne_true
theorem op_ne : OpR X (compareOp .NotEq) rNe := by
  intro pins s σ H x y v u Q I rx ry h
  obtain ⟨hs, q⟩ := h
  cases x with
  | non =>
    cases rx
    cases y with
    | non => cases ry; exact PySem.EqNone.ne_none_none (fin_bl I q (by simp))
    | bl j => cases ry; exact PySem.EqNone.ne_none_bool (fin_bl I q (by simp))
    | int j => obtain ⟨t', rfl⟩ := ry; exact PySem.EqNone.ne_none_int (fin_bl I q (by simp))
    | str j => obtain ⟨t', rfl⟩ := ry; exact PySem.EqNone.ne_none_str (fin_bl I q (by simp))
    | _ => exact absurd (show false = true from hs) Bool.false_ne_true
  | bl i =>
    cases rx
    cases y with
    | non => cases ry; exact PySem.EqNone.ne_bool_none (fin_bl I q (by simp))
    | bl j => cases ry; exact ne_bool (fin_bl I q (congrArg not dec_bl))
    | str j => obtain ⟨t', rfl⟩ := ry; exact PySem.EqMixed.ne_bool_str (fin_bl I q (by simp))
    | _ => exact absurd (show false = true from hs) Bool.false_ne_true
  | int i =>
    obtain ⟨t, rfl⟩ := rx
    cases y with
    | non => cases ry; exact PySem.EqNone.ne_int_none (fin_bl I q (by simp))
    | int j => obtain ⟨t', rfl⟩ := ry; exact ne_int (fin_bl I q (congrArg not dec_int))
    | str j => obtain ⟨t', rfl⟩ := ry; exact PySem.EqMixed.ne_int_str (fin_bl I q (by simp))
    | _ => exact absurd (show false = true from hs) Bool.false_ne_true
  | str i =>
    obtain ⟨t, rfl⟩ := rx
    cases y with
    | non => cases ry; exact PySem.EqNone.ne_str_none (fin_bl I q (by simp))
    | bl j => cases ry; exact PySem.EqMixed.ne_str_bool (fin_bl I q (by simp))
    | int j => obtain ⟨t', rfl⟩ := ry; exact PySem.EqMixed.ne_str_int (fin_bl I q (by simp))
    | str j => obtain ⟨t', rfl⟩ := ry; exact ne_str (fin_bl I q (congrArg not dec_str))
    | _ => exact absurd (show false = true from hs) Bool.false_ne_true
  | byt i =>
    obtain ⟨t, rfl⟩ := rx
    cases y with
    | byt j => obtain ⟨t', rfl⟩ := ry; exact PySem.W.ne_bytes (fin_bl I q (congrArg not dec_byt))
    | _ => exact absurd (show false = true from hs) Bool.false_ne_true
  | _ => cases y <;> exact absurd (show false = true from hs) Bool.false_ne_true
theorem op_lt : OpR X (compareOp .Lt) (rI0 fun i j => .bl (decide (i < j))) := opB0 fun _ _ _ _ _ _ _ q => lt_int q
theorem op_le : OpR X (compareOp .LtE) (rI0 fun i j => .bl (decide (i ≤ j))) := opB0 fun _ _ _ _ _ _ _ q => le_int q
theorem op_gt : OpR X (compareOp .Gt) (rI0 fun i j => .bl (decide (j < i))) := opB0 fun _ _ _ _ _ _ _ q => gt_int q
theorem op_ge : OpR X (compareOp .GtE) (rI0 fun i j => .bl (decide (j ≤ i))) := opB0 fun _ _ _ _ _ _ _ q => ge_int q
theorem nomark (b : Expr) {op : CmpOp} (h : op ≠ .In := by decide) (h2 : op ≠ .NotIn := by decide) : behindInMarks op b = false := by
  have e1 : (op == CmpOp.In) = false := by cases op <;> first | rfl | exact absurd rfl h
  have e2 : (op == CmpOp.NotIn) = false := by cases op <;> first | rfl | exact absurd rfl h2
  cases b <;> simp [behindInMarks, e1, e2]
theorem pe_cmpR {op : CmpOp} {r : R2} (ho : OpR X (compareOp op) r) (ha : PE X a ta) (hb : PE X b tb) (hm : behindInMarks op b = false) : PE X (.Compare a [op] [b] pos) (tOp r ta tb) := by
  intro pins s σ H Q I h
  exact wpAny_Compare1 (binT ha hb I h fun v u s2 x y H2 I2 rx ry q => ho pins s2 σ H2 x y v u Q I2 rx ry q) hm
def tTest (t : TE) : TT := fun σ H Q => t σ H fun x H' => ∃ k, x = .bl k ∧ Q k H'
theorem pt_cmpR {op : CmpOp} {r : R2} (ho : OpR X (compareOp op) r) (ha : PE X a ta) (hb : PE X b tb) (hm : behindInMarks op b = false) : PT X (.Compare a [op] [b] pos) (tTest (tOp r ta tb)) := by
  intro pins s σ H Q I h
  refine wpAny_isTrue_Compare1 (thn (ha pins s σ H _ I h) fun v s1 ⟨x, H1, I1, r1, q1⟩ => thn (hb pins s1 σ H1 _ I1 q1) fun u s2 ⟨y, H2, I2, r2, q2⟩ =>
    thn (ho pins s2 σ H2 x y v u _ I2 r1 r2 q2) fun c s3 ⟨z, H3, I3, r3, k, e, q3⟩ => ?_) hm
  subst e
  cases r3
  exact wpAny_truthy_bool ⟨H3, I3, q3⟩
def tChain (r r' : R2) (ta tb tc : TE) : TE := fun σ H Q => ta σ H fun x H1 => tb σ H1 fun y H2 => r x y H2 fun z H3 => ∃ k, z = .bl k ∧
  (if k = true then tc σ H3 fun w' H4 => r' y w' H4 Q else Q (.bl false) H3)
theorem pe_chain {op op' : CmpOp} {r r' : R2} (ho : OpR X (compareOp op) r) (ho' : OpR X (compareOp op') r') (ha : PE X a ta) (hb : PE X b tb) (hc : PE X c tc)
    (hm : lastMarks [op, op'] [b, c] = false := by with_unfolding_all rfl) : PE X (.Compare a [op, op'] [b, c] pos) (tChain r r' ta tb tc) := by
  intro pins s σ H Q I h
  refine Compare_chain (thn (ha pins s σ H _ I h) fun v s1 ⟨x, H1, I1, r1, q1⟩ => chain_link (thn (hb pins s1 σ H1 _ I1 q1) fun u s2 ⟨y, H2, I2, r2, q2⟩ =>
    thn (ho pins s2 σ H2 x y v u _ I2 r1 r2 q2) fun d s3 ⟨z, H3, I3, r3, k, e, q3⟩ => ?_)) hm
  subst e
  cases r3
  refine wpAny_truthy_bool ?_
  cases k with
  | false => exact ite_ff ⟨.bl false, H3, I3, rfl, q3⟩
  | true => exact ite_tt (chain_last (thn (hc pins s3 σ H3 _ I3 q3) fun w' s4 ⟨z', H4, I4, r4, q4⟩ => ho' pins s4 σ H4 y z' u w' Q I4 r2 r4 q4))
def TruV (K : PySem.W.Frag) (x : V) (H : Hp) (k : Bool) : Prop :=
  match x with
  | .non => k = false
  | .bl b => k = b
  | .int i => k = (i != 0)
  | .str y => y.length ≤ sizeLine ∧ k = ((y.length : Int) != 0)
  | .byt y => y.size ≤ sizeLine ∧ k = ((y.size : Int) != 0)
  | .ref p => (∃ xs, SqL K H p xs ∧ k = !xs.isEmpty) ∨ (∃ xs, SqT K H p xs ∧ k = !xs.isEmpty) ∨ ∃ kvs, H p = some (.dK kvs) ∧ k = !kvs.isEmpty
  | _ => False
theorem isEmpty_kv {κ : Type} {kvs : List (κ × V)} {vs : List (κ × Value)} (r : KV kvs vs) : (!vs.isEmpty) = !kvs.isEmpty := by
  cases r <;> rfl
theorem isEmpty_of {xs : List V} {its : List Value} (r : Vals xs its) : (!its.toArray.isEmpty) = !xs.isEmpty := by
  cases r <;> simp
theorem line63 : (sizeLine : Nat) < 2 ^ 63 := by rw [sizeLine_eq]; decide
theorem tru_ok : TruR X (fun x H Q => ∃ k, TruV X.K x H k ∧ Q k H) := by
  intro pins s σ H x v Q I rx h
  obtain ⟨k, e, q⟩ := h
  have hl := line63
  have hs : sizeLine = 16777216 := sizeLine_eq
  cases x with
  | non =>
    cases rx
    have e' : k = false := e
    subst e'
    exact truthy_none ⟨H, I, q⟩
  | bl b =>
    cases rx
    have e' : k = b := e
    subst e'
    exact wpAny_truthy_bool ⟨H, I, q⟩
  | int i =>
    obtain ⟨t, rfl⟩ := rx
    have e' : k = (i != 0) := e
    subst e'
    exact PySem.P.truthy_int ⟨H, I, q⟩
  | str y =>
    obtain ⟨t, rfl⟩ := rx
    obtain ⟨hy, e'⟩ : y.length ≤ sizeLine ∧ k = ((y.length : Int) != 0) := e
    subst e'
    exact PySem.P.truthy_str (by omega) ⟨H, I.tok _, q⟩
  | byt y =>
    obtain ⟨t, rfl⟩ := rx
    obtain ⟨hy, e'⟩ : y.size ≤ sizeLine ∧ k = ((y.size : Int) != 0) := e
    subst e'
    exact PySem.W.truthy_bytes (by omega) ⟨H, I.tok _, q⟩
  | ref p =>
    cases rx
    have e' : (∃ xs, SqL X.K H p xs ∧ k = !xs.isEmpty) ∨ (∃ xs, SqT X.K H p xs ∧ k = !xs.isEmpty) ∨ ∃ kvs, H p = some (.dK kvs) ∧ k = !kvs.isEmpty := e
    rcases e' with ⟨xs, hx, e'⟩ | ⟨xs, hx, e'⟩ | ⟨kvs, hx, e'⟩
    · subst e'
      obtain ⟨its, r, pl, hz⟩ := I.list hx
      have hlen := r.length
      exact wpAny_truthy_list pl.isList (by simp only [List.size_toArray]; omega) ⟨H, I.tok _, by rw [isEmpty_of r]; exact q⟩
    · subst e'
      obtain ⟨its, r, pl, hz⟩ := I.tuple hx
      have hlen := r.length
      exact truthy_tuple pl (by simp only [List.size_toArray]; omega) ⟨H, I.tok _, by rw [isEmpty_of r]; exact q⟩
    · subst e'
      obtain ⟨hz, hS, vs, r, m⟩ : kvs.length ≤ sizeLine ∧ (p == sysModules) = false ∧ ∃ vs, KV kvs vs ∧ s.heap.DictOf (mixKind X.prog X.w) p vs := I.hok p _ hx
      have hlen : kvs.length = vs.length := Paired.length r
      exact wpAny_truthy_dict hS m (by omega) ⟨H, I.tok _, by rw [isEmpty_kv r]; exact q⟩
  | _ => exact (show False from e).elim
theorem pt_truth (ha : PE X a ta) (he : ∀ whole, isTrue a X.env whole = (do let v ← whole; standAt a.pos; holding [v] (truthy v))) :
    PT X a (fun σ H Q => ta σ H fun x H' => ∃ k, TruV X.K x H' k ∧ Q k H') := by
  intro pins s σ H Q I h
  exact isTrue_plain (thn (ha pins s σ H _ I h) fun v s1 ⟨x, H1, I1, r1, q1⟩ => tru_ok pins s1 σ H1 x v Q I1 r1 q1) (he _)
theorem vals1 {x : V} {us : List Value} (r : Vals [x] us) : ∃ u, us = [u] ∧ RelV x u := by
  cases r with
  | cons r1 r2 => cases r2; exact ⟨_, rfl, r1⟩
theorem vals2 {x y : V} {us : List Value} (r : Vals [x, y] us) : ∃ u w', us = [u, w'] ∧ RelV x u ∧ RelV y w' := by
  cases r with
  | cons r1 r2 =>
    cases r2 with
    | cons r3 r4 => cases r4; exact ⟨_, _, rfl, r1, r3⟩
theorem call_min2 (hc : X.calm = true) : CallR X (.builtin "min") (fun xs H Q => ∃ i j, xs = [.int i, .int j] ∧ Q (.int (if j < i then j else i)) H) := by
  intro pins s σ H xs us Q I r h
  obtain ⟨i, j, rfl, q⟩ := h
  obtain ⟨u, w', rfl, ⟨t, rfl⟩, ⟨t', rfl⟩⟩ := vals2 r
  refine min_two_ints (I.ok.hd hc) fun h' tk k => ⟨_, H, I.kept k, ?_, q⟩
  by_cases hj : j < i
  · rw [if_pos hj, if_pos hj]; exact ⟨_, rfl⟩
  · rw [if_neg hj, if_neg hj]; exact ⟨_, rfl⟩
theorem call_ord : CallR X (.builtin "ord") (fun xs H Q => ∃ x, xs = [.str x] ∧ x.length = 1 ∧ Q (.int (x.cps.getD 0 0 : Nat)) H) := by
  intro pins s σ H xs us Q I r h
  obtain ⟨x, rfl, hz, q⟩ := h
  obtain ⟨u, rfl, t, rfl⟩ := vals1 r
  exact ord_of_one hz ⟨.int _, H, I.tok _, ⟨_, rfl⟩, q⟩
end
end L2
namespace L2
open PySem PySem.Spec PyProof.Rows
structure ObjM (h : Heap) (x dx C : Addr) (mA : Str → Option Value) : Prop where
  obj : h.get? x = some (PySem.W.instObj C dx)
  ns : h.Ns1 dx mA
  ne : dx ≠ x
theorem lookIn_ns {h : Heap} {dx : Addr} {mA : Str → Option Value} (n : h.Ns1 dx mA) : ∃ od, h.get? dx = some od ∧ ∀ name, PySem.W.lookIn name od = some (mA name) := by
  obtain ⟨o, es, ep, ho, hd, hk, _, hm⟩ := n
  refine ⟨o, ho, fun name => ?_⟩
  have e := hm name
  unfold nsFind findBy at e
  rw [← Array.find?_toList] at e
  unfold PySem.W.lookIn
  rw [hd]
  dsimp only
  split
  · rename_i y q
    rw [q] at e
    exact congrArg some e
  · rename_i q
    rw [q] at e
    have a : es.toList.any (·.refKey) = false := by
      rw [List.any_eq_false]
      intro y hy
      obtain ⟨z, t, hkey⟩ := hk y (Array.mem_toList_iff.mp hy)
      simp [DictEntry.refKey, hkey]
    have a' : ¬ es.toList.any (·.refKey) = true := by rw [a]; exact Bool.false_ne_true
    rw [if_neg a']
    exact congrArg some e
theorem ObjM.look {h : Heap} {x dx C : Addr} {mA : Str → Option Value} (I : ObjM h x dx C mA) : ∃ od, PySem.W.InstAt h x (PySem.W.instObj C dx) C (some od) ∧ ∀ name, PySem.W.lookIn name od = some (mA name) :=
  let ⟨od, ho, hl⟩ := lookIn_ns I.ns
  ⟨od, ⟨I.obj, rfl, rfl, ho⟩, hl⟩
section
variable {prog : Program} {w : World} {A : Around} {E : Value → Shared → Prop} {s : Shared} {K : PySem.W.Frag} {x dx C f : Addr} {mA : Str → Option Value} {name : Str} {v : Value}
theorem get_map {expr : Bool} {Q : Value → Shared → Prop} (X : K.In s.heap) (I : ObjM s.heap x dx C mA) (hg : PySem.W.plainGet K C name = true) (hh : PySem.W.hasDictIn K C = true)
    (ha : PySem.W.findIn K (.ref C) name = some none) (hv : mA name = some v) (hv' : PySem.W.handedIn v = true) (h : Q v { s with toks := s.toks + 1 }) :
    wpAny (model prog w) A (getAttr (.ref x) name expr) Q E s := by
  obtain ⟨od, J, hl⟩ := I.look
  exact PySem.W.get_value X J (PySem.W.plainGet_of hg).1 (PySem.W.findObj_own hh ha rfl (by rw [hl, hv])) hv' h
theorem set_map {ns : List Str} {Q : Unit → Shared → Prop} (X : K.In s.heap) (I : ObjM s.heap x dx C mA)
    (hs : PySem.W.findIn K (.ref C) "__setattr__" = some (some (.builtin "object.__setattr__"))) (hp : PySem.W.plainOver K C = true) (ht : PySem.W.takerIn K C name = some none) (hh : PySem.W.hasDictIn K C = true)
    (hw : PySem.Within mA ns) (hsz : ns.length ≤ sizeLine)
    (h : ∀ h', ObjM h' x dx C (fun y => if y = name then some v else mA y) → Heap.SameBut dx s.heap h' → Q () { s with heap := h', toks := s.toks + 2 }) :
    wpAny (model prog w) A (setAttr (.ref x) name v) Q E s := by
  obtain ⟨od, J, hl⟩ := I.look
  refine PySem.W.set_plain X J hs (PySem.W.osa_open (s := { s with toks := s.toks + 1 }) (r := none) X J hp ht fun b => ?_)
  obtain ⟨cd, hc, hd'⟩ := PySem.W.any_some hh
  have hx : s.heap.get? x = some ⟨.ref C, some dx, .plain, #[]⟩ := I.obj
  refine wpAny_bind (wpAny_pure (wpAny_bind (wpAny_bind (wpAny_loadPart hx (wpAny_bind (PySem.W.Looks.here (s := { s with toks := s.toks + 1 }) (PySem.W.looks_clsIn X hc) ?_))))))
  rw [hd']
  refine wpAny_pure (a := some dx) (wpAny_bind (wpAny_pure (wpAny_bind ?_)))
  refine wpAny_nsSet1 (s := { s with toks := s.toks + 1 }) I.ns fun h' hn2 hs2 => ?_
  obtain ⟨oD, esD, epD, hoD, hdD, hcD⟩ := hn2.count (PySem.Within.cons name v hw)
  refine wpAny_bind (wpAny_lookBehind hoD (by rw [hdD]; exact pastItsLine_dict (Nat.le_trans hcD (by rw [List.length_cons]; omega))) ?_)
  exact wpAny_pure (h _ ⟨(hs2.2 _ (Ne.symm I.ne)).trans I.obj, hn2, I.ne⟩ hs2)
theorem make_map {R : Result → Shared → Prop} {vs : List Value} {kw : List (Str × Value)} (X : K.In s.heap) (hm : PySem.W.makesIn K C = true)
    (hi : PySem.W.findIn K (.ref C) "__init__" = some (some (.ref f))) (hf : PySem.W.typeIn K (.ref f) = some (.type "function"))
    (h : codeAny (model prog w) (A.under (.builtin "type.__call__" ⟨.ref C :: vs, kw⟩)) (.call (.ref f) ⟨.ref (s.heap.objs.size + 1) :: vs, kw⟩) (PySem.W.InitBack (s.heap.objs.size + 1) R)
      { s with heap := (s.heap.push PySem.W.emptyDict).push (PySem.W.instObj C s.heap.objs.size) }) :
    codeAny (model prog w) A (.call (.ref C) ⟨vs, kw⟩) R s := by
  obtain ⟨hh, g, d, t, os⟩ := s
  exact PySem.W.make_core (PySem.W.makes_of X hm) (PySem.W.looks_findIn X hi) (fun self => PySem.W.bind_fn X self hf) (.inl rfl) h
end
def putF (f : Str) (v : V) : List (Str × V) → List (Str × V)
  | [] => [(f, v)]
  | (g, x) :: r => if g = f then (g, v) :: r else (g, x) :: putF f v r
theorem lookup_putF (f g : Str) (v : V) : ∀ fs : List (Str × V), (putF f v fs).lookup g = if g = f then some v else fs.lookup g
  | [] => by
    show List.lookup g [(f, v)] = _
    by_cases h : g = f
    · have hb : (g == f) = true := beq_iff_eq.mpr h
      simp only [List.lookup, hb, if_pos h]
    · have hb : (g == f) = false := beq_eq_false_iff_ne.mpr h
      simp only [List.lookup, hb, if_neg h]
  | (k, x) :: r => by
    have ih := lookup_putF f g v r
    rw [show putF f v ((k, x) :: r) = (if k = f then (k, v) :: r else (k, x) :: putF f v r) from rfl]
    by_cases hk : k = f
    · rw [if_pos hk]
      by_cases h : g = k
      · have hb : (g == k) = true := beq_iff_eq.mpr h
        simp only [List.lookup, hb, if_pos (h.trans hk)]
      · have hb : (g == k) = false := beq_eq_false_iff_ne.mpr h
        simp only [List.lookup, hb, if_neg (fun e : g = f => h (e.trans hk.symm))]
    · rw [if_neg hk]
      by_cases h : g = k
      · have hb : (g == k) = true := beq_iff_eq.mpr h
        simp only [List.lookup, hb, if_neg (fun e : g = f => hk (h.symm.trans e))]
      · have hb : (g == k) = false := beq_eq_false_iff_ne.mpr h
        simp only [List.lookup, hb]
        exact ih
theorem keys_putF (f : Str) (v : V) : ∀ fs : List (Str × V), f ∈ (putF f v fs).map (·.1) ∧ ∀ g, g ∈ fs.map (·.1) → g ∈ (putF f v fs).map (·.1)
  | [] => ⟨by simp [putF], fun g h => by simp at h⟩
  | (k, x) :: r => by
    obtain ⟨i1, i2⟩ := keys_putF f v r
    rw [show putF f v ((k, x) :: r) = (if k = f then (k, v) :: r else (k, x) :: putF f v r) from rfl]
    by_cases hk : k = f
    · rw [if_pos hk]
      subst hk
      exact ⟨by simp, fun g h => by simpa using h⟩
    · rw [if_neg hk]
      refine ⟨?_, fun g h => ?_⟩
      · rw [List.map_cons]
        exact List.mem_cons_of_mem _ i1
      · rw [List.map_cons] at h ⊢
        rcases List.mem_cons.mp h with e | e
        · exact List.mem_cons.mpr (.inl e)
        · exact List.mem_cons_of_mem _ (i2 g e)
theorem length_putF (f : Str) (v : V) : ∀ fs : List (Str × V), (putF f v fs).length ≤ fs.length + 1
  | [] => by simp [putF]
  | (k, x) :: r => by
    have ih := length_putF f v r
    rw [show putF f v ((k, x) :: r) = (if k = f then (k, v) :: r else (k, x) :: putF f v r) from rfl]
    by_cases hk : k = f
    · rw [if_pos hk, List.length_cons, List.length_cons]; omega
    · rw [if_neg hk, List.length_cons, List.length_cons]; omega
theorem RelO.some_of {v : V} {o : Option Value} (r : RelO (some v) o) : ∃ u, o = some u ∧ RelV v u := by
  cases o with
  | none => exact (show False from r).elim
  | some u => exact ⟨u, rfl, r⟩
theorem handed_of {v : V} {u : Value} (r : RelV v u) : PySem.W.handedIn u = true := by
  cases v with
  | non => cases (show u = Value.none from r); rfl
  | bl b => cases (show u = Value.bool b from r); rfl
  | int i => obtain ⟨t, e⟩ := (show ∃ t, u = Value.int i t from r); cases e; rfl
  | str x => obtain ⟨t, e⟩ := (show ∃ t, u = Value.str x t from r); cases e; rfl
  | byt b => obtain ⟨t, e⟩ := (show ∃ t, u = Value.bytes b t from r); cases e; rfl
  | flt b => obtain ⟨t, e⟩ := (show ∃ t, u = Value.float b t from r); cases e; rfl
  | ref a => cases (show u = Value.ref a from r); rfl
  | ty n => cases (show u = Value.type n from r); rfl
section
variable {P : Program} {w : World} {H H' : Hp} {h h' : Heap} {a C dx : Addr} {fs fs' : List (Str × V)}
theorem ins_get (hok : HOk P w H h) (e : H a = some (.ins C dx fs)) : ∃ mA, ObjM h a dx C mA ∧ (∀ f, RelO (fs.lookup f) (mA f)) ∧ PySem.Within mA (fs.map (·.1)) ∧ fs.length ≤ 1000 ∧ H dx = some (.own a) := by
  obtain ⟨d, z, ne, ob, mA, n, r, q⟩ := (show ObjOk P w H h a (.ins C dx fs) from hok a _ e)
  exact ⟨mA, ⟨ob, n, ne⟩, r, q, z, d⟩
end
structure Cls (K : PySem.W.Frag) (C : Addr) : Prop where
  pg : PySem.W.plainGet K C Str.empty = true
  hd : PySem.W.hasDictIn K C = true
  po : PySem.W.plainOver K C = true
  sa : PySem.W.findIn K (.ref C) "__setattr__" = some (some (.builtin "object.__setattr__"))
theorem Cls.get {K : PySem.W.Frag} {C : Addr} (c : Cls K C) (f : Str) : PySem.W.plainGet K C f = true := c.pg
def NoAttr (K : PySem.W.Frag) (C : Addr) (f : Str) : Prop := PySem.W.findIn K (.ref C) f = some none
theorem NoAttr.taker {K : PySem.W.Frag} {C : Addr} {f : Str} (n : NoAttr K C f) : PySem.W.takerIn K C f = some none := by
  unfold PySem.W.takerIn
  rw [show PySem.W.findIn K (.ref C) f = some none from n]
  rfl
section
variable {X : Cx} {pins : List (Addr × Obj)} {σ : St} {H : Hp} {s : Shared} {a C dx : Addr} {fs : List (Str × V)} {f : Str} {v : V} {A : Around} {E : Value → Shared → Prop}
theorem getattr_ok {b : Bool} {Q : Value → Shared → Prop} (I : Inv X pins σ H s) (e : H a = some (.ins C dx fs)) (c : Cls X.K C) (n : NoAttr X.K C f) (l : fs.lookup f = some v)
    (h : ∀ u s', Inv X pins σ H s' → RelV v u → Q u s') : wpAny (model X.prog X.w) A (getAttr (.ref a) f b) Q E s := by
  obtain ⟨mA, O, r, _, _, _⟩ := ins_get I.hok e
  obtain ⟨u, hu, ru⟩ := RelO.some_of (v := v) (o := mA f) (by rw [← l]; exact r f)
  exact get_map I.kIn O (c.get f) c.hd n hu (handed_of ru) (h u _ (I.tok _) ru)
theorem setattr_ok {y : V} {u : Value} {Q : Unit → Shared → Prop} (I : Inv X pins σ H s) (e : H a = some (.ins C dx fs)) (c : Cls X.K C) (n : NoAttr X.K C f) (hl : fs.length < 1000) (ry : RelV y u)
    (h : ∀ s', Inv X pins σ (upd H a (.ins C dx (putF f y fs))) s' → Q () s') : wpAny (model X.prog X.w) A (setAttr (.ref a) f u) Q E s := by
  obtain ⟨mA, O, r, wi, _, ho⟩ := ins_get I.hok e
  have hz : (fs.map (·.1)).length ≤ sizeLine := by rw [List.length_map, sizeLine_eq]; omega
  refine set_map I.kIn O c.sa c.po n.taker c.hd wi hz fun h' O' sb => h _ ?_
  have hd : ∃ o, h'.get? dx = some o := let ⟨o, _, _, e', _⟩ := O'.ns; ⟨o, e'⟩
  refine I.write (x := a) (e := dx) (by rw [e]; exact True.intro) (.inr ho) (fun b q hb z => (sb.2 b hb).trans z) hd ?_
  refine ⟨by rw [upd_ne O.ne]; exact ho, ?_, O.ne, O'.obj, _, O'.ns, fun g => ?_, fun g hg => ?_⟩
  · have := length_putF f y fs; omega
  · show RelO ((putF f y fs).lookup g) (if g = f then some u else mA g)
    rw [lookup_putF]
    by_cases q : g = f
    · rw [if_pos q, if_pos q]; exact ry
    · rw [if_neg q, if_neg q]; exact r g
  · by_cases q : g = f
    · rw [q]; exact (keys_putF f y fs).1
    · refine (keys_putF f y fs).2 g (wi g fun z => hg ?_)
      show (if g = f then some u else mA g) = none
      rw [if_neg q]; exact z
theorem Inv.made (I : Inv X pins σ H s) : Inv X pins σ (upd (upd H s.heap.objs.size (.own (s.heap.objs.size + 1))) (s.heap.objs.size + 1) (.ins C s.heap.objs.size []))
    { s with heap := (s.heap.push PySem.W.emptyDict).push (PySem.W.instObj C s.heap.objs.size) } := by
  have e1 : (s.heap.push PySem.W.emptyDict).get? s.heap.objs.size = some PySem.W.emptyDict := Heap.get?_push_size s.heap rfl
  have e2 : ((s.heap.push PySem.W.emptyDict).push (PySem.W.instObj C s.heap.objs.size)).get? (s.heap.objs.size + 1) = some (PySem.W.instObj C s.heap.objs.size) := by
    have := Heap.get?_push_size (s.heap.push PySem.W.emptyDict) (o := PySem.W.instObj C s.heap.objs.size) rfl
    rwa [Heap.size_push] at this
  have e3 : (s.heap.push PySem.W.emptyDict).Ns s.heap.objs.size (fun _ => none) := ⟨PySem.W.emptyDict, #[], _, e1, rfl, (fun e he => absurd he (by simp)), fun _ => rfl⟩
  have I1 := I.laid (a := s.heap.objs.size) (o := .own (s.heap.objs.size + 1)) (h' := s.heap.push PySem.W.emptyDict) (t' := s.toks) (fun b u q => Heap.get?_push_of_some _ q) (Nat.le_refl _) ⟨_, e1⟩
  refine I1.laid (a := s.heap.objs.size + 1) (o := .ins C s.heap.objs.size []) (t' := s.toks) (fun b u q => Heap.get?_push_of_some _ q) (Nat.le_of_eq (Heap.size_push _ _)) ?_
  have ne : s.heap.objs.size ≠ s.heap.objs.size + 1 := Nat.ne_of_lt (Nat.lt_succ_self _)
  refine ⟨by rw [upd_ne ne, upd_same], Nat.zero_le _, ne, e2, fun _ => none, (Heap.Ns1.of_empty e3).at fun o q => Heap.get?_push_of_some _ q, fun _ => True.intro, fun y hy => absurd rfl hy⟩
theorem attr_of {prog : Program} {w : World} {env : Env} {e : Expr} {f : Str} {pos : Pos} {s : Shared} {Q : Value → Shared → Prop} (hb : attributeBase e f env (eval e env) = eval e env)
    (h : wpAny (model prog w) A (eval e env) (fun o s₁ => wpAny (model prog w) A (getAttr o f true) Q E s₁) E s) : wpAny (model prog w) A (eval (.Attribute e f pos) env) Q E s :=
  Attribute_any_ h (by rw [arm_eval_Attribute, hb])
end
def tFld (K : PySem.W.Frag) (ta : TE) (f : Str) : TE := fun σ H Q => ta σ H fun x H1 => ∃ a C dx fs v, x = .ref a ∧ H1 a = some (.ins C dx fs) ∧ Cls K C ∧ NoAttr K C f ∧ fs.lookup f = some v ∧ Q v H1
def sFld (K : PySem.W.Frag) (ta tv : TE) (f : Str) : TS := fun D σ H => tv σ H fun y H1 => ta σ H1 fun x H2 => ∃ a C dx fs, x = .ref a ∧ H2 a = some (.ins C dx fs) ∧ Cls K C ∧ NoAttr K C f ∧ fs.length < 1000 ∧
  D.nx σ (upd H2 a (.ins C dx (putF f y fs)))
section
variable {X : Cx} {o e value : Expr} {f : Str} {pos pos' tpos : Pos} {ta tv : TE}
theorem pe_fld (he : PE X e ta) (hb : attributeBase e f X.env (eval e X.env) = eval e X.env) : PE X (.Attribute e f pos) (tFld X.K ta f) := by
  intro pins s σ H Q I h
  refine attr_of hb (thn (he pins s σ H _ I h) fun u s1 ⟨x, H1, I1, rx, a, C, dx, fs, v, ex, ea, c, n, l, q⟩ => ?_)
  subst ex
  obtain rfl : u = Value.ref a := rx
  exact getattr_ok I1 ea c n l fun u' s2 I2 ru => ⟨v, H1, I2, ru, q⟩
theorem ps_fld (ha : PE X o ta) (hv : PE X value tv) (hs : swapsWith value (some (.Attribute o f pos')) pos.line X.env = pure false) : PS X (.Assign [.Attribute o f pos'] value pos) (sFld X.K ta tv f) := by
  intro pins s σ H D I h
  refine plainObj_wpAny_Assign_Attribute (thn (hv pins s σ H _ I h) fun u s1 ⟨y, H1, I1, ry, q⟩ => thn (ha pins s1 σ H1 _ I1 q) fun ov s2 ⟨x, H2, I2, rx, a, C, dx, fs, ex, ea, c, n, l, q2⟩ => ?_) hs
  subst ex
  obtain rfl : ov = Value.ref a := rx
  exact setattr_ok I2 ea c n l ry fun s3 I3 => ⟨σ, _, I3, q2⟩
end
section
variable {X : Cx} {pins : List (Addr × Obj)} {σ : St} {H : Hp} {s : Shared} {A : Around} {E : Value → Shared → Prop} {Q : Value → Shared → Prop} {c : Value} {b : Bool}
end
end L2
namespace L2
open PySem PySem.Spec PyProof.Rows
structure Room (k : Nat) (A : Around) : Prop where
  hd : A.handled = none
  dp : A.depth + 3 * k + 5 < recursionLimit
  un : A.units + 16 * k + 200 < cLine
theorem Room.mono {j k : Nat} {A : Around} (r : Room k A) (h : j ≤ k) : Room j A := ⟨r.hd, by have := r.dp; omega, by have := r.un; omega⟩
theorem Room.deeper {k : Nat} {A : Around} (r : Room (k + 1) A) (env : Env) : Room k (A.deeper env) :=
  ⟨r.hd, by have := r.dp; show A.depth + 1 + 3 * k + 5 < _; omega, by have := r.un; show A.units + 3 + 16 * k + 200 < _; omega⟩
theorem make_depth {A : Around} {C : Addr} {us : List Value} {kw : List (Str × Value)} : (A.under (.builtin "type.__call__" ⟨.ref C :: us, kw⟩)).depth = A.depth + 1 := by
  first | rfl | simp [Around.under, Code.weight, Code.isCreation, Code.isGuard, Code.isCaller, Code.frames, Code.isFrame, guardIds]
theorem make_units {A : Around} {C : Addr} {us : List Value} {kw : List (Str × Value)} : (A.under (.builtin "type.__call__" ⟨.ref C :: us, kw⟩)).units = A.units + 1 := by
  first | rfl | simp [Around.under, Code.cUnits, Code.frames, Code.isFrame]
theorem Room.make {k : Nat} {A : Around} (r : Room (k + 1) A) (C : Addr) (us : List Value) (kw : List (Str × Value)) : Room k (A.under (.builtin "type.__call__" ⟨.ref C :: us, kw⟩)) :=
  ⟨r.hd, by have := r.dp; rw [make_depth]; omega, by have := r.un; rw [make_units]; omega⟩
theorem Room.depth {k : Nat} {A : Around} (r : Room k A) : A.depth < recursionLimit := by have := r.dp; omega
theorem Room.units {k : Nat} {A : Around} (r : Room k A) : A.units + 64 < cLine := by have := r.un; omega
def tNil : TA := fun _ H Q => Q [] H
def tCons (ta : TE) (tr : TA) : TA := fun σ H Q => ta σ H fun x H1 => tr σ H1 fun xs H2 => Q (x :: xs) H2
section
variable {X : Cx} {e : Expr} {es : List Expr} {te : TE} {t : TA} {pos : Pos}
theorem pa_nil : PA X [] tNil := fun _ _ _ _ H Q I h => Calls.spliced_nil ⟨[], H, I, .nil, h⟩
theorem pa_cons (ha : PE X e te) (hr : PA X es t) (hs : starEach (e :: es) X.env = (false, eval e X.env) :: starEach es X.env := by rfl) : PA X (e :: es) (tCons te t) := by
  intro pos pins s σ H Q I h
  rw [hs]
  show wpAny _ _ (spliced ((false, eval e X.env) :: backTo pos (starEach es X.env))) _ _ s
  refine Calls.spliced_cons (thn (ha pins s σ H _ I h) fun u s1 ⟨x, H1, I1, r1, q1⟩ => ?_)
  exact thn (hr pos pins s1 σ H1 _ I1 q1) fun us s2 ⟨xs, H2, I2, r2, q2⟩ => ⟨x :: xs, H2, I2, .cons r1 r2, q2⟩
def tTup (t : TA) : TE := fun σ H Q => t σ H fun xs H1 => xs.length ≤ sizeLine ∧ ∀ p, H1 p = none → Q (.ref p) (upd H1 p (.tup xs))
def tLst (t : TA) : TE := fun σ H Q => t σ H fun xs H1 => xs.length ≤ sizeLine ∧ ∀ p, H1 p = none → Q (.ref p) (upd H1 p (.lst xs))
theorem pe_tup {x1} (h : PA X es t) : PE X (.Tuple es x1 pos) (tTup t) := by
  intro pins s σ H Q I hq
  refine wpAny_Tuple_spliced (thn (h pos pins s σ H _ I hq) fun us s1 ⟨xs, H1, I1, r, z, q⟩ => ⟨by rw [← r.length]; exact z, ?_⟩)
  have hf : H1 s1.heap.objs.size = none := I1.hok.fresh (Nat.le_refl _)
  refine ⟨.ref s1.heap.objs.size, upd H1 s1.heap.objs.size (.tup xs), I1.laid (t' := s1.toks) (fun b u e => Heap.get?_push_of_some _ e) (Nat.le_refl _) ?_, rfl, q _ hf⟩
  exact ⟨z, us, r, ⟨_, Heap.get?_push_size _ rfl, rfl, _, rfl⟩⟩
theorem pe_lst (h : PA X es t) : PE X (.List es pos) (tLst t) := by
  intro pins s σ H Q I hq
  refine wpAny_List_spliced (thn (h pos pins s σ H _ I hq) fun us s1 ⟨xs, H1, I1, r, z, q⟩ => ⟨by rw [← r.length]; exact z, ?_⟩)
  have hf : H1 s1.heap.objs.size = none := I1.hok.fresh (Nat.le_refl _)
  refine ⟨.ref s1.heap.objs.size, upd H1 s1.heap.objs.size (.lst xs), I1.laid (t' := s1.toks) (fun b u e => Heap.get?_push_of_some _ e) (Nat.le_refl _) ?_, rfl, q _ hf⟩
  exact ⟨z, us, 0, r, Heap.get?_push_size _ rfl⟩
end
abbrev Sp := List V → Hp → VK → XK → Prop
abbrev CXT := List Env → Hp → Shared → XK → Value → Shared → Prop
structure Env0 (P : Program) (w : World) (K : PySem.W.Frag) (mg : Str → Option Value) (base : Heap) (A : Around) (outer : List Env) (s : Shared) (H : Hp) : Prop where
  frames : A.frames = some outer
  mod : Mod K mg base
  bs : ∀ b o, base.get? b = some o → s.heap.get? b = some o ∧ H b = none
  bsz : base.objs.size ≤ s.heap.objs.size
  funs : s.heap.FunFrames base outer
  frf : ∀ b ∈ frs outer, H b = none
  hok : HOk P w H s.heap
  bare : AllBare s.gens
def CE (outer : List Env) (P : Program) (w : World) (H : Hp) (s : Shared) (Q : VK) (u : Value) (s' : Shared) : Prop :=
  ∃ v H', s'.os = s.os ∧ AllBare s'.gens ∧ Un (frs outer) [] H H' s.heap s'.heap ∧ HOk P w H' s'.heap ∧ RelV v u ∧ Q v H'
def CR (CX : CXT) (outer : List Env) (P : Program) (w : World) (H : Hp) (s : Shared) (Q : VK) (E : XK) (r : Result) (s' : Shared) : Prop :=
  match r with
  | .ok (.ret u) => CE outer P w H s Q u s'
  | .ok _ => False
  | .error e => CX outer H s E e s'
structure FnOk (P : Program) (w : World) (K : PySem.W.Frag) (mg : Str → Option Value) (base : Heap) (CX : CXT) (k : Nat) (f : Addr) (fd : FuncData) (ps : List Str) (sp : Sp) : Prop where
  len : ∀ vs H Q E, sp vs H Q E → vs.length = ps.length
  run : ∀ (A : Around) (outer : List Env) (s : Shared) (H : Hp) (args : Args) (us : List Value) (vs : List V) (Q : VK) (E : XK), Room k A → Env0 P w K mg base A outer s H → BindsTo s fd args (ps.zip us) → Vals vs us → sp vs H Q E →
    codeAny (model P w) A (.call (.ref f) args) (CR CX outer P w H s Q E) s
theorem Env0.make {P : Program} {w : World} {K : PySem.W.Frag} {mg : Str → Option Value} {base : Heap} {A : Around} {outer : List Env} {s : Shared} {H : Hp} (e : Env0 P w K mg base A outer s H) (C : Addr) (us : List Value) (kw : List (Str × Value)) :
    Env0 P w K mg base (A.under (.builtin "type.__call__" ⟨.ref C :: us, kw⟩)) outer s H := ⟨by first | exact e.frames | (simpa [Around.under, Code.envs, Code.isFrame, pushEnvs] using e.frames), e.mod, e.bs, e.bsz, e.funs, e.frf, e.hok, e.bare⟩
section
variable {X : Cx} {pins : List (Addr × Obj)} {σ : St} {H : Hp} {s s' : Shared}
theorem Inv.env0 (I : Inv X pins σ H s) : Env0 X.prog X.w X.K X.mg X.base X.A X.stack s H :=
  ⟨I.ok.frames, I.ok.mod, I.bs, Nat.le_trans I.ok.bsz I.sz, I.stack, I.stkFree, I.hok, I.bare⟩
theorem Inv.after {Q : VK} {u : Value} (I : Inv X pins σ H s) (h : CE X.stack X.prog X.w H s Q u s') : EP X pins σ Q u s' := by
  obtain ⟨v, H', os, bare, un, hok, r, q⟩ := h
  obtain ⟨hh, g, d, t, os'⟩ := s'
  obtain rfl : os' = s.os := os
  exact ⟨v, H', I.call (h' := hh) (g' := g) (d' := d) (t' := t) (ch := []) un hok bare (fun b z => absurd z (by simp)), r, q⟩
end
def tCall (sp : Sp) (dvs : List V) (E : XK) (t : TA) : TE := fun σ H Q => t σ H fun vs H1 => sp (vs ++ dvs) H1 Q E
def tMake (C : Addr) (sp : Sp) (dvs : List V) (E : XK) (t : TA) : TE := fun σ H Q => t σ H fun vs H1 => ∀ x dx, H1 x = none → H1 dx = none → dx ≠ x →
  sp (.ref x :: (vs ++ dvs)) (upd (upd H1 dx (.own x)) x (.ins C dx [])) (fun v H2 => v = .non ∧ Q (.ref x) H2) E
def Binds (K : PySem.W.Frag) (fd : FuncData) (ps : List Str) (ds : List Value) : Prop :=
  ∀ (s : Shared) (us : List Value), K.In s.heap → (us ++ ds).length = ps.length → BindsTo s fd ⟨us, []⟩ (ps.zip (us ++ ds))
theorem Binds.all {K : PySem.W.Frag} {fd : FuncData} {ps : List Str} (h : ∀ us : List Value, us.length = ps.length → bindArgs fd ⟨us, []⟩ = pure (ps.zip us)) : Binds K fd ps [] := fun s us _ hl => by
  rw [List.append_nil] at hl ⊢
  exact .of_eq (h us hl)
def Passes (CX : CXT) (X : Cx) (E : XK) : Prop := ∀ (pins : List (Addr × Obj)) (σ : St) (H : Hp) (s : Shared) (e : Value) (s' : Shared), Inv X pins σ H s → CX X.stack H s E e s' → X.xe e s'
section
variable {X : Cx} {CX : CXT} {k : Nat} {f C : Addr} {fd : FuncData} {ps : List Str} {sp : Sp} {dvs : List V} {ds : List Value} {E : XK} {x m : Str} {p pos apos : Pos} {e o : Expr} {es : List Expr} {ta : TE} {t : TA}
theorem run_fn {pins : List (Addr × Obj)} {σ : St} {H : Hp} {s : Shared} {Q : VK} {us : List Value} {vs : List V} (F : FnOk X.prog X.w X.K X.mg X.base CX k f fd ps sp) (hr : Room k X.A) (hb : Binds X.K fd ps ds) (hd : Vals dvs ds) (hx : Passes CX X E)
    (I : Inv X pins σ H s) (r : Vals vs us) (h : sp (vs ++ dvs) H Q E) : wpAny (model X.prog X.w) X.A (call (.ref f) us) (EP X pins σ Q) X.xe s := by
  have r2 : Vals (vs ++ dvs) (us ++ ds) := r.append hd
  have hl : (us ++ ds).length = ps.length := by rw [← r2.length]; exact F.len _ _ _ _ h
  refine wpAny_call (codeAny_mono (F.run X.A X.stack s H ⟨us, []⟩ (us ++ ds) (vs ++ dvs) Q E hr I.env0 (hb s us I.kIn hl) r2 h) fun r s' hq => ?_)
  cases r with
  | error e => exact hx pins σ H s e s' I hq
  | ok fl =>
    cases fl with
    | ret u => exact I.after hq
    | next => exact False.elim hq
    | brk => exact False.elim hq
    | cont => exact False.elim hq
theorem pe_call (F : FnOk X.prog X.w X.K X.mg X.base CX k f fd ps sp) (hr : Room k X.A) (hg : Gl X x) (hm : X.mg x = some (.ref f)) (hk : PySem.W.keepIn X.K (.ref f) = true) (hb : Binds X.K fd ps ds) (hd : Vals dvs ds) (hx : Passes CX X E)
    (ha : PA X (e :: es) t) (hdb : (x == ("__debug__" : Str)) = false := by decide) (he : starEach (e :: es) X.env = (false, eval e X.env) :: starEach es X.env := by rfl) (hpl : (backTo pos (starEach es X.env)).any (·.1) = false := by rfl) :
    PE X (.Call (.Name x p) (e :: es) [] pos) (tCall sp dvs E t) := by
  intro pins s σ H Q I h
  refine wpAny_Call_Name_kw (ld_glob I hg hm ?_ hdb)
  refine PySem.W.callWith_K (h₀ := X.base) I.ok.mod.kin hk (thn (ha pos pins s σ H _ I h) fun us s1 ⟨vs, H1, I1, r, q⟩ => ⟨I1.kIn, ?_⟩) he hpl
  exact run_fn F hr hb hd hx I1 r q
structure Mk (K : PySem.W.Frag) (C f : Addr) : Prop where
  makes : PySem.W.makesIn K C = true
  init : PySem.W.findIn K (.ref C) "__init__" = some (some (.ref f))
  fn : PySem.W.isFn K (.ref f) = true
  kp : PySem.W.keepIn K (.ref C) = true
theorem run_make {pins : List (Addr × Obj)} {σ : St} {H : Hp} {s : Shared} {Q : VK} {us : List Value} {vs : List V} (M : Mk X.K C f) (F : FnOk X.prog X.w X.K X.mg X.base CX k f fd ps sp) (hr : Room (k + 1) X.A) (hb : Binds X.K fd ps ds) (hd : Vals dvs ds)
    (hx : Passes CX X E) (I : Inv X pins σ H s) (r : Vals vs us)
    (h : ∀ x dx, H x = none → H dx = none → dx ≠ x → sp (.ref x :: (vs ++ dvs)) (upd (upd H dx (.own x)) x (.ins C dx [])) (fun v H2 => v = .non ∧ Q (.ref x) H2) E) :
    wpAny (model X.prog X.w) X.A (call (.ref C) us) (EP X pins σ Q) X.xe s := by
  have hq := h (s.heap.objs.size + 1) s.heap.objs.size (I.hok.fresh (Nat.le_succ _)) (I.hok.fresh (Nat.le_refl _)) (Nat.ne_of_lt (Nat.lt_succ_self _))
  have I2 := Inv.made (C := C) I
  have r2 : Vals (V.ref (s.heap.objs.size + 1) :: (vs ++ dvs)) (Value.ref (s.heap.objs.size + 1) :: (us ++ ds)) := .cons rfl (r.append hd)
  have hl : (Value.ref (s.heap.objs.size + 1) :: us ++ ds).length = ps.length := by
    have e := r2.length
    rw [F.len _ _ _ _ hq] at e
    exact e.symm
  refine wpAny_call (make_map (f := f) I.kIn M.makes M.init (beq_iff_eq.mp M.fn) (codeAny_mono (F.run _ X.stack _ _ ⟨Value.ref (s.heap.objs.size + 1) :: us, []⟩ (Value.ref (s.heap.objs.size + 1) :: (us ++ ds)) _ _ E (hr.make C us [])
    (I2.env0.make C us []) (hb _ (Value.ref (s.heap.objs.size + 1) :: us) I2.kIn hl) r2 hq) fun r s' hq' => ?_))
  cases r with
  | error e => exact hx pins σ _ _ e s' I2 hq'
  | ok fl =>
    cases fl with
    | ret u =>
      obtain ⟨v, H', I3, rv, ev, q3⟩ := I2.after hq'
      subst ev
      exact ⟨rv, ⟨V.ref (s.heap.objs.size + 1), H', I3, rfl, q3⟩⟩
    | next => exact False.elim hq'
    | brk => exact False.elim hq'
    | cont => exact False.elim hq'
theorem pe_make0 (M : Mk X.K C f) (F : FnOk X.prog X.w X.K X.mg X.base CX k f fd ps sp) (hr : Room (k + 1) X.A) (hg : Gl X x) (hm : X.mg x = some (.ref C)) (hb : Binds X.K fd ps ds) (hd : Vals dvs ds) (hx : Passes CX X E)
    (hdb : (x == ("__debug__" : Str)) = false := by decide) : PE X (.Call (.Name x p) [] [] pos) (tMake C sp dvs E tNil) := by
  intro pins s σ H Q I h
  refine wpAny_Call_Name_kw (ld_glob I hg hm ?_ hdb)
  exact PySem.W.callWith_K0 I.kIn M.kp (run_make (us := []) M F hr hb hd hx I .nil h)
end
section
variable {X : Cx} {CX : CXT} {k : Nat} {f C : Addr} {fd : FuncData} {ps ks : List Str} {sp : Sp} {E : XK} {x m : Str} {p pos apos kpos : Pos} {e o : Expr} {es : List Expr} {kws : List Keyword} {te ta : TE} {t tk : TA} {nm : Option Str}
variable {g : List Value → List Value → List Value} {gV : List V → List V → List V}
end
structure FnScope (N P : List Str) (sc : Scope) : Prop where
  kind : sc.kind = .function
  co : sc.isCoroutine = false
  gen : sc.isGenerator = false
  nd : N.Nodup
  pre : N.take P.length = P
  par : ∀ x ∈ P, sc.names.lookup x = some .local ∨ sc.names.lookup x = some .cell
  nofree : ∀ y ∈ sc.names, y.2 ≠ .free
theorem bindL_out {kindOf : Str → Option NameKind} {x : Str} : ∀ {binds : List (Str × Value)} {m : Str → Option Value}, (∀ v, (x, v) ∉ binds) → bindL kindOf binds m x = m x
  | [], _, _ => rfl
  | (n, v) :: r, m, h => by
    unfold bindL
    rw [bindL_out fun w hw => h w (List.mem_cons_of_mem _ hw)]
    split
    · have : x ≠ n := by rintro rfl; exact h v List.mem_cons_self
      simp [this]
    · rfl
theorem bindC_out {kindOf : Str → Option NameKind} {x : Str} : ∀ {binds : List (Str × Value)} {m : Str → Option Value}, (∀ v, (x, v) ∉ binds) → bindC kindOf binds m x = m x
  | [], _, _ => rfl
  | (n, v) :: r, m, h => by
    unfold bindC
    rw [bindC_out fun w hw => h w (List.mem_cons_of_mem _ hw)]
    split
    · rfl
    · have : x ≠ n := by rintro rfl; exact h v List.mem_cons_self
      simp [this]
theorem bindL_get {kindOf : Str → Option NameKind} {x : Str} {v : Value} : ∀ {P : List Str} {vs : List Value} {i : Nat} {m : Str → Option Value}, P.Nodup → P[i]? = some x → vs[i]? = some v → kindOf x = some .local →
    bindL kindOf (P.zip vs) m x = some v
  | [], _, _, _, _, h, _, _ => by simp at h
  | _ :: _, [], _, _, _, _, h, _ => by simp at h
  | p :: P, w :: vs, 0, m, nd, h1, h2, hk => by
    simp at h1 h2; subst h1; subst h2
    show bindL kindOf ((p, w) :: P.zip vs) m p = _
    unfold bindL
    rw [bindL_out fun v hv => (List.nodup_cons.mp nd).1 (List.of_mem_zip hv).1, if_pos hk]
    simp
  | p :: P, w :: vs, i + 1, m, nd, h1, h2, hk => by
    show bindL kindOf ((p, w) :: P.zip vs) m x = _
    unfold bindL
    exact bindL_get (i := i) (List.nodup_cons.mp nd).2 (by simpa using h1) (by simpa using h2) hk
theorem bindC_get {kindOf : Str → Option NameKind} {x : Str} {v : Value} : ∀ {P : List Str} {vs : List Value} {i : Nat} {m : Str → Option Value}, P.Nodup → P[i]? = some x → vs[i]? = some v → kindOf x ≠ some .local →
    bindC kindOf (P.zip vs) m x = some v
  | [], _, _, _, _, h, _, _ => by simp at h
  | _ :: _, [], _, _, _, _, h, _ => by simp at h
  | p :: P, w :: vs, 0, m, nd, h1, h2, hk => by
    simp at h1 h2; subst h1; subst h2
    show bindC kindOf ((p, w) :: P.zip vs) m p = _
    unfold bindC
    rw [bindC_out fun v hv => (List.nodup_cons.mp nd).1 (List.of_mem_zip hv).1, if_neg hk]
    simp
  | p :: P, w :: vs, i + 1, m, nd, h1, h2, hk => by
    show bindC kindOf ((p, w) :: P.zip vs) m x = _
    unfold bindC
    exact bindC_get (i := i) (List.nodup_cons.mp nd).2 (by simpa using h1) (by simpa using h2) hk
def start (N : List Str) (vs : List V) : St := vs.map some ++ List.replicate (N.length - vs.length) none
def cxOf (CX : CXT) (P : Program) (w : World) (K : PySem.W.Frag) (mg : Str → Option Value) (base : Heap) (N : List Str) (qual : Str) (scope : Scope) (f : Addr) (cd : Value) (A : Around) (outer : List Env) (s : Shared) (H : Hp) (E : XK) : Cx where
  prog := P
  w := w
  K := K
  mg := mg
  base := base
  A := A.deeper (envOfC qual scope s.heap.objs.size f cd)
  N := N
  s_0 := s
  H_0 := H
  env := envOfC qual scope s.heap.objs.size f cd
  outer := outer
  stack := envOfC qual scope s.heap.objs.size f cd :: outer
  ex := []
  calm := true
  fn := fun _ => true
  pn := []
  xe := fun e s' => wpAny (model P w) (A.deeper (envOfC qual scope s.heap.objs.size f cd)) (leaving (envOfC qual scope s.heap.objs.size f cd) e) (fun _ s'' => CX outer H s E e s'') (fun e' s'' => CX outer H s E e' s'') s'
theorem cell_has {sc : Scope} {n : Nat} {x : Str} (h : sc.names.lookup x = some .cell) : ∃ c, (cellsFrom n sc.names []).lookup x = some c := by
  have q := PySem.W.cellsFrom_some sc.names n [] (.inl h)
  exact Option.isSome_iff_exists.mp q
theorem inv_start {CX : CXT} {P : Program} {w : World} {K : PySem.W.Frag} {mg : Str → Option Value} {base : Heap} {N ps : List Str} {qual : Str} {scope : Scope} {f : Addr} {cd : Value} {A : Around} {outer : List Env} {s s1 : Shared} {H : Hp} {E : XK} {us : List Value} {vs : List V}
    (S : FnScope N ps scope) (hd : A.handled = none) (e0 : Env0 P w K mg base A outer s H) (hl : vs.length = ps.length) (r : Vals vs us)
    (x : InCallC s s.heap.objs.size (bindL (envOfC qual scope s.heap.objs.size f cd).kindOf (ps.zip us) fun _ => none) (cellsFrom (s.heap.objs.size + 1) scope.names []) (bindC (envOfC qual scope s.heap.objs.size f cd).kindOf (ps.zip us) fun _ => none) s1) :
    Inv (cxOf CX P w K mg base N qual scope f cd A outer s H E) [] (start N vs) H s1 := by
  have hpl : ps.length ≤ N.length := by have := congrArg List.length S.pre; rw [List.length_take] at this; omega
  obtain ⟨h1, tk, rfl, hk⟩ := x.done
  have noA : ∀ b : Addr, b ∉ (cxOf CX P w K mg base N qual scope f cd A outer s H E).ex := fun b z => absurd (show b ∈ ([] : List Addr) from z) (by simp)
  refine ⟨⟨e0.mod, S.kind, rfl, rfl, Nat.le_refl _, fun y z c h1 h2 => ?_, fun y hy => ?_, fun y c _ h => ?_, fun _ => hd, Around.frames_deeper e0.frames, .inr ⟨rfl, rfl⟩, fun b z => absurd z (noA b), e0.bs, e0.bsz, fun b _ _ => noA b, fun b z => absurd z (noA b), e0.funs, e0.frf⟩,
    rfl, e0.bare, Un.kept hk, ⟨_, x.toInCall.ns, fun i y v h1 h2 h3 => ?_⟩, fun y c h => ⟨_, x.cell y c h⟩, e0.hok.fresh (Nat.le_refl _), fun y c h => ?_, fun p hp => absurd (show p ∈ ([] : List (Addr × Obj)) from hp) (by simp), e0.hok.kept hk, ?_⟩
  · exact name_of_addr x.apart (PySem.mem_of_lookup h1) (PySem.mem_of_lookup h2)
  · have hy : scope.names.lookup y = some .cell ∨ scope.names.lookup y = some .free := hy
    rcases hy with hy | hy
    · exact cell_has hy
    · exact absurd rfl (S.nofree _ (PySem.mem_of_lookup hy))
  · exact Nat.le_of_lt (x.above y c (PySem.mem_of_lookup h))
  · have hi : i < vs.length := by
      unfold start at h2
      by_cases hi : i < vs.length
      · exact hi
      · rw [List.getElem?_append_right (by simpa using hi)] at h2
        rw [List.getElem?_replicate] at h2
        split at h2 <;> cases h2
    have ha : vs[i]? = some v := by
      unfold start at h2
      rw [List.getElem?_append_left (by simpa using hi), List.getElem?_map] at h2
      cases e : vs[i]? with
      | none => rw [e] at h2; cases h2
      | some a => rw [e] at h2; cases h2; rfl
    obtain ⟨u, hu, rv⟩ := r.get ha
    have hp : ps[i]? = some y := by
      rw [← S.pre, List.getElem?_take_of_lt (by omega)]; exact h1
    have ndP : ps.Nodup := by rw [← S.pre]; exact S.nd.sublist (List.take_sublist _ _)
    refine ⟨u, rv, ?_⟩
    rcases S.par y (List.mem_of_getElem? hp) with k | k
    · exact .inl ⟨k, bindL_get ndP hp hu k⟩
    · obtain ⟨c, e⟩ := cell_has (n := s.heap.objs.size + 1) k
      refine .inr ⟨.inl k, c, e, ?_⟩
      have q := x.cell y c e
      rw [bindC_get ndP hp hu (by show scope.names.lookup y ≠ _; rw [k]; decide)] at q
      exact q
  · exact e0.hok.fresh (Nat.le_of_lt (x.above y c (PySem.mem_of_lookup h)))
  · unfold start
    show _ = N.length
    rw [List.length_append, List.length_map, List.length_replicate]
    omega
theorem fn_of {CX : CXT} {P : Program} {w : World} {K : PySem.W.Frag} {mg : Str → Option Value} {base : Heap} {k : Nat} {f : Addr} {name qual : Str} {params : Arguments} {body : List Stmt} {scope : Scope} {dV kV doc pm cdv ct oc : Value} {an od : Option Addr}
    {osl : Array (Option Value)} {N ps : List Str} {sp : Sp} (lk : K.lookup f = some ⟨oc, od, .func (PySem.W.fnOf name qual params body scope dV kV doc pm an cdv ct), osl⟩) (hcd : PySem.W.codeIn K cdv qual = true) (S : FnScope N ps scope)
    (len : ∀ vs H Q E, sp vs H Q E → vs.length = ps.length)
    (hbody : ∀ (A : Around) (outer : List Env) (s : Shared) (H : Hp) (vs : List V) (Q : VK) (E : XK), Room k (A.deeper (envOfC qual scope s.heap.objs.size f cdv)) → sp vs H Q E →
      ∃ t, PSs (cxOf CX P w K mg base N qual scope f cdv A outer s H E) body t ∧ t { nx := fun _ H' => Q .non H', rt := Q } (start N vs) H) :
    FnOk P w K mg base CX (k + 1) f (PySem.W.fnOf name qual params body scope dV kV doc pm an cdv ct) ps sp := by
  refine ⟨len, fun A outer s H args us vs Q E hr e0 hb r hsp => ?_⟩
  have hl := len _ _ _ _ hsp
  have KX : K.In s.heap := e0.mod.kin.keeps fun b o e => (e0.bs b o e).1
  have lim : s.heap.NoLimit := e0.mod.nolimit.keeps fun b o e => (e0.bs b o e).1
  have hkind : ∀ y ∈ ps.zip us, scope.names.lookup y.1 = some .local ∨ (scope.names.lookup y.1 = some .cell ∧ ((cellsFrom (s.heap.objs.size + 1) scope.names []).lookup y.1).isSome = true) := fun ⟨n, v⟩ hy => by
    rcases S.par n (List.of_mem_zip hy).1 with q | q
    · exact .inl q
    · exact .inr ⟨q, PySem.W.cellsFrom_some _ _ _ (.inl q)⟩
  refine codeAny_call_function hr.depth (KX _ _ lk) rfl S.co S.gen rfl (PySem.W.codeRec_of KX hcd) (hb _ _ _ _ ?_)
  refine wpAny_newFunctionEnv_cells S.kind hkind fun env he s1 x => ?_
  subst he
  refine ⟨lim.keeps x.toInCall.keep, codeAny_func ?_⟩
  obtain ⟨t, ht, hq⟩ := hbody A outer s H vs Q E (hr.deeper _) hsp
  have I : Inv (cxOf CX P w K mg base N qual scope f cdv A outer s H E) [] (start N vs) H s1 := inv_start S hr.hd e0 hl r x
  refine wpAny_mono (ht [] s1 (start N vs) H _ I hq) (fun fl s' hs => ?_) fun e s' hs => hs
  have fin : ∀ {σ' : St} {H' : Hp} {v : V} {u : Value}, Inv (cxOf CX P w K mg base N qual scope f cdv A outer s H E) [] σ' H' s' → RelV v u → Q v H' → CE outer P w H s Q u s' :=
    fun {σ' H' v u} J rv q => ⟨v, H', J.os, J.bare, J.base, J.hok, rv, q⟩
  cases fl with
  | ret u =>
    obtain ⟨v, σ', H', J, rv, q⟩ := hs
    exact fin J rv q
  | next =>
    obtain ⟨σ', H', J, q⟩ := hs
    exact fin (v := V.non) (u := Value.none) J rfl q
  | brk =>
    obtain ⟨_, _, _, q⟩ := hs
    exact False.elim q
  | cont =>
    obtain ⟨_, _, _, q⟩ := hs
    exact False.elim q
end L2
namespace L2
open PySem PySem.Spec PyProof.Rows
section
variable {X : Cx} {x : Str} {p pos : Pos} {e : Expr} {es : List Expr} {t : TA} {id T : String} {r : List V → Hp → VK → Prop}
def tCB (r : List V → Hp → VK → Prop) (t : TA) : TE := fun σ H Q => t σ H fun vs H1 => r vs H1 Q
theorem pe_callB (hc : CallR X (.builtin id) r) (hg : Gl X x) (hm : X.mg x = none) (hv : bootBuiltins x = some (.builtin id)) (ha : PA X (e :: es) t) (hn : x ≠ "__name__" := by decide) (hdb : (x == ("__debug__" : Str)) = false := by decide)
    (he : starEach (e :: es) X.env = (false, eval e X.env) :: starEach es X.env := by rfl) (hpl : (backTo pos (starEach es X.env)).any (·.1) = false := by rfl) : PE X (.Call (.Name x p) (e :: es) [] pos) (tCB r t) := by
  intro pins s σ H Q I h
  refine wpAny_Call_Name_kw (ld_blt I hg hm hv ?_ hn hdb)
  exact PyProof.Rows.callWith_builtin1 (thn (ha pos pins s σ H _ I h) fun us s1 ⟨vs, H1, I1, r1, q1⟩ => hc pins s1 σ H1 vs us Q I1 r1 q1) he hpl
theorem pe_callTy (hc : CallR X (.type T) r) (hg : Gl X x) (hm : X.mg x = none) (hv : bootBuiltins x = some (.type T)) (ha : PA X (e :: es) t) (hn : x ≠ "__name__" := by decide) (hdb : (x == ("__debug__" : Str)) = false := by decide)
    (he : starEach (e :: es) X.env = (false, eval e X.env) :: starEach es X.env := by rfl) (hpl : (backTo pos (starEach es X.env)).any (·.1) = false := by rfl) : PE X (.Call (.Name x p) (e :: es) [] pos) (tCB r t) := by
  intro pins s σ H Q I h
  refine wpAny_Call_Name_kw (ld_blt I hg hm hv ?_ hn hdb)
  exact PyProof.Rows.callWith_type1 (thn (ha pos pins s σ H _ I h) fun us s1 ⟨vs, H1, I1, r1, q1⟩ => hc pins s1 σ H1 vs us Q I1 r1 q1) he hpl
end
end L2
namespace HT
open PySem PyProof.Rows
section
open PySem.SeqAt
open PySem.AutoSeq1 (wpAny_loadPart')
open PySem.MeetsSeq PySem.MeetsSeq2 PySem.MeetsSeq3
end
section
variable {prog : Program} {w : World} {A : Around} {E : Value → Shared → Prop} {s : Shared}
def sIx (n d : Nat) : Option Int → Nat
  | none => d
  | some v => if v < 0 then (v + (n : Int)).toNat else min v.toNat n
theorem sIx_none (n d : Nat) : sIx n d none = d := rfl
theorem sIx_nat (n d k : Nat) : sIx n d (some (k : Int)) = min k n := by
  show (if (k : Int) < 0 then ((k : Int) + (n : Int)).toNat else min (k : Int).toNat n) = min k n
  rw [if_neg (by omega), Int.toNat_natCast]
end
end HT
namespace L2
open PySem PySem.Spec PyProof.Rows
abbrev TO := St → Hp → (Option Int → Hp → Prop) → Prop
def PO (X : Cx) (e : Option Expr) (t : TO) : Prop :=
  ∀ (pins : List (Addr × Obj)) (s : Shared) (σ : St) (H : Hp) (Q : Option Int → Hp → Prop), Inv X pins σ H s → t σ H Q →
    wpAny (model X.prog X.w) X.A (evalPart e X.env) (fun u s' => ∃ o H', Inv X pins σ H' s' ∧ IsPart u o ∧ Q o H') X.xe s
def tNoPart : TO := fun _ H Q => Q none H
def tPart (t : TE) : TO := fun σ H Q => t σ H fun x H1 => ∃ i, x = .int i ∧ Q (some i) H1
section
variable {X : Cx} {e : Expr} {te : TE} {lo hi : Option Expr} {tl th : TO} {pos p2 : Pos}
theorem po_none : PO X none tNoPart := by
  intro pins s σ H Q I h
  rw [evalPart_none]
  exact wpAny_pure ⟨none, H, I, .none, h⟩
theorem po_some (h : PE X e te) : PO X (some e) (tPart te) := by
  intro pins s σ H Q I hw
  rw [evalPart_some]
  refine thn (h pins s σ H _ I hw) fun u s1 ⟨x, H1, I1, r1, q1⟩ => ?_
  obtain ⟨i, rfl, q⟩ := q1
  obtain ⟨t, rfl⟩ := r1
  exact ⟨some i, H1, I1, .int i t, q⟩
def SlR (X : Cx) (r : V → Option Int → Option Int → Hp → VK → Prop) : Prop :=
  ∀ (pins : List (Addr × Obj)) (s : Shared) (σ : St) (H : Hp) (x : V) (v vl vu : Value) (lo hi : Option Int) (sl : Addr) (Q : VK), Inv X pins σ H s → RelV x v → s.heap.IsSliceOf sl vl vu .none → IsPart vl lo → IsPart vu hi → r x lo hi H Q →
    ∃ T id, typeLookup (.type T) "__getitem__" = pure (some (.builtin id)) ∧ s.TypeIs v T ∧ wpAny (model X.prog X.w) X.A (getItem v (.ref sl)) (EP X pins σ Q) X.xe s
def tSl (r : V → Option Int → Option Int → Hp → VK → Prop) (te : TE) (tl th : TO) : TE := fun σ H Q => te σ H fun x H1 => tl σ H1 fun l H2 => th σ H2 fun u H3 => r x l u H3 Q
theorem pe_slice {r : V → Option Int → Option Int → Hp → VK → Prop} (hr : SlR X r) (he : PE X e te) (hl : PO X lo tl) (hu : PO X hi th) : PE X (.Subscript e (.Slice lo hi none p2) pos) (tSl r te tl th) := by
  intro pins s σ H Q I h
  refine Subscript_ (thn (he pins s σ H _ I h) fun v s1 ⟨x, H1, I1, r1, q1⟩ => ?_)
  refine wpAny_Slice (thn (hl pins s1 σ H1 _ I1 q1) fun vl s2 ⟨l, H2, I2, pl, q2⟩ => thn (hu pins s2 σ H2 _ I2 q2) fun vu s3 ⟨u, H3, I3, pu, q3⟩ => ?_)
  rw [evalPart_none]
  refine wpAny_pure ?_
  have I4 : Inv X pins σ H3 { s3 with heap := s3.heap.push { cls := .type "slice", data := .fields #[vl, vu, .none] } } := I3.kept (t' := s3.toks) fun b ob q => Heap.get?_push_of_some _ q
  obtain ⟨T, id, hT, ht, hg⟩ := hr pins { s3 with heap := s3.heap.push { cls := .type "slice", data := .fields #[vl, vu, .none] } } σ H3 x v vl vu l u s3.heap.objs.size Q I4 r1 (Heap.IsSliceOf.new ..) pl pu q3
  show wpAny (model X.prog X.w) X.A (subscriptTail e (.Slice lo hi none p2) v (.ref s3.heap.objs.size)) (EP X pins σ Q) X.xe { s3 with heap := s3.heap.push { cls := .type "slice", data := .fields #[vl, vu, .none] } }
  exact tail_any (ops := [.ref s3.heap.objs.size, v]) ht hT hg (by with_unfolding_all rfl)
def cutV (xs : List V) (lo hi : Option Int) : List V := (xs.drop (HT.sIx xs.length 0 lo)).take (HT.sIx xs.length xs.length hi - HT.sIx xs.length 0 lo)
theorem cutV_length (xs : List V) (lo hi : Option Int) : (cutV xs lo hi).length ≤ xs.length := by
  unfold cutV
  rw [List.length_take, List.length_drop]
  omega
end
end L2
namespace L2
open PySem PySem.Spec PyProof.Rows
def ixN (n : Nat) (i : Int) : Option Nat := if 0 ≤ i then (if i < n then some i.toNat else none) else if -(n : Int) ≤ i then some (i + n).toNat else none
def atI {α : Type} (xs : List α) (i : Int) : Option α := (ixN xs.length i).bind fun j => xs[j]?
theorem ixN_seq {n : Nat} {i : Int} {j : Nat} (h : ixN n i = some j) : seqIndex? i n = some j ∧ j < n ∧ -(n : Int) ≤ i ∧ i < n := by
  unfold ixN at h
  by_cases h0 : 0 ≤ i
  · rw [if_pos h0] at h
    by_cases h1 : i < n
    · rw [if_pos h1] at h
      have e : i.toNat = j := Option.some.inj h
      exact ⟨by rw [seqIndex_of h0 h1, e], by omega, by omega, h1⟩
    · rw [if_neg h1] at h; cases h
  · rw [if_neg h0] at h
    by_cases h1 : -(n : Int) ≤ i
    · rw [if_pos h1] at h
      have e : (i + n).toNat = j := Option.some.inj h
      exact ⟨by rw [seqIndex_neg (by omega) h1, e], by omega, h1, by omega⟩
    · rw [if_neg h1] at h; cases h
theorem atI_get {α : Type} {xs : List α} {i : Int} {v : α} (h : atI xs i = some v) : ∃ j, seqIndex? i xs.length = some j ∧ xs[j]? = some v ∧ j < xs.length ∧ -(xs.length : Int) ≤ i ∧ i < xs.length := by
  unfold atI at h
  cases e : ixN xs.length i with
  | none => rw [e] at h; cases h
  | some j =>
    rw [e] at h
    obtain ⟨h1, h2, h3, h4⟩ := ixN_seq e
    exact ⟨j, h1, h, h2, h3, h4⟩
theorem atI_nat {α : Type} {xs : List α} {j : Nat} {v : α} (h : xs[j]? = some v) : atI xs (j : Int) = some v := by
  have hj : j < xs.length := (List.getElem?_eq_some_iff.mp h).1
  have e : ixN xs.length (j : Int) = some j := by
    unfold ixN
    rw [if_pos (by omega), if_pos (by omega)]; simp
  unfold atI; rw [e]; exact h
def PlainIx (b : Expr) : Prop := ∀ o i, subscripted b false o i = operate [o, i] (getItem o i)
def IxR (X : Cx) (r : R2) : Prop :=
  ∀ (value slice : Expr) (pins : List (Addr × Obj)) (s : Shared) (σ : St) (H : Hp) (x y : V) (v u : Value) (Q : VK), Inv X pins σ H s → RelV x v → RelV y u → r x y H Q →
    subscripted slice false v u = operate [v, u] (getItem v u) → wpAny (model X.prog X.w) X.A (subscriptTail value slice v u) (EP X pins σ Q) X.xe s
def MtR (X : Cx) (id : String) (r : V → List V → Hp → VK → Prop) : Prop :=
  ∀ (pins : List (Addr × Obj)) (s : Shared) (σ : St) (H : Hp) (x : V) (xs : List V) (v : Value) (us : List Value) (Q : VK), Inv X pins σ H s → RelV x v → Vals xs us → r x xs H Q →
    wpAny (model X.prog X.w) X.A (call (.builtin id) (v :: us)) (EP X pins σ Q) X.xe s
section
variable {X : Cx} {a b : Expr} {ta tb : TE} {pos : Pos}
theorem pe_ix {r : R2} (hr : IxR X r) (ha : PE X a ta) (hb : PE X b tb) (hs : PlainIx b) : PE X (.Subscript a b pos) (tOp r ta tb) := by
  intro pins s σ H Q I h
  exact Subscript_ (binT ha hb I h fun v u s2 x y H2 I2 rx ry q => hr a b pins s2 σ H2 x y v u Q I2 rx ry q (hs _ _))
def rIxL (K : PySem.W.Frag) : R2 := fun x y H Q => ∃ p xs i v, x = .ref p ∧ y = .int i ∧ SqL K H p xs ∧ atI xs i = some v ∧ Q v H
def rIxT (K : PySem.W.Frag) : R2 := fun x y H Q => ∃ p xs i v, x = .ref p ∧ y = .int i ∧ SqT K H p xs ∧ atI xs i = some v ∧ Q v H
theorem ix_list : IxR X (rIxL X.K) := by
  intro value slice pins s σ H x y v u Q I rx ry h hs
  obtain ⟨p, xs, i, z, rfl, rfl, hq, he, q⟩ := h
  cases rx
  obtain ⟨t, rfl⟩ := ry
  obtain ⟨its, r, pl, hz⟩ := I.list hq
  obtain ⟨j, h1, h2, h3, h4, h5⟩ := atI_get he
  obtain ⟨w, ew, rw'⟩ := r.get h2
  have hl := r.length
  have hn := line63
  have fin : EP X pins σ Q w s := ⟨z, H, I, rw', q⟩
  by_cases h0 : 0 ≤ i
  · have hj : i.toNat = j := by
      rw [seqIndex_of h0 h5] at h1
      exact Option.some.inj h1
    exact item_listR pl.isList h0 (by omega) (by rw [hj]; simpa using ew) fin hs
  · have hj : (i + (its.toArray.size : Int)).toNat = j := by
      rw [seqIndex_neg (by omega) h4] at h1
      rw [List.size_toArray, ← hl]
      exact Option.some.inj h1
    exact subscriptTail_builtinR (x := w) pl.isList.typeIs slot_list_getitem.lookup
      (wpAny_getItem_list_neg (Q := fun r s' => r = w ∧ EP X pins σ Q r s') pl.isList (by omega) (by rw [List.size_toArray] <;> omega) (by omega) (by rw [hj]; simpa using ew) ⟨rfl, fin⟩) hs
theorem ix_tup : IxR X (rIxT X.K) := by
  intro value slice pins s σ H x y v u Q I rx ry h hs
  obtain ⟨p, xs, i, z, rfl, rfl, hq, he, q⟩ := h
  cases rx
  obtain ⟨t, rfl⟩ := ry
  obtain ⟨its, r, pl, hz⟩ := I.tuple hq
  obtain ⟨j, h1, h2, h3, h4, h5⟩ := atI_get he
  obtain ⟨w, ew, rw'⟩ := r.get h2
  have hl := r.length
  have hn := line63
  have fin : EP X pins σ Q w s := ⟨z, H, I, rw', q⟩
  exact subscriptTail_builtinR (x := w) pl.typeIs slot_tuple_getitem.lookup
    (getItem_tuple (j := j) (Q := fun r s' => r = w ∧ EP X pins σ Q r s') pl (by omega) (by omega) (by rw [List.size_toArray, ← hl]; exact h1) (by simpa using ew) ⟨rfl, fin⟩) hs
theorem mapSeq_set (its : List Value) (n j : Nat) (u : Value) : Obj.mapSeq (·.setIfInBounds j u) { cls := .type "list", data := .seq its.toArray n } = { cls := .type "list", data := .seq (its.set j u).toArray n } := by
  simp [Obj.mapSeq]
theorem Inv.lst {pins : List (Addr × Obj)} {σ : St} {H : Hp} {s : Shared} {p : Addr} {xs : List V} (I : Inv X pins σ H s) (h : H p = some (.lst xs)) :
    ∃ (its : List Value) (n : Nat), Vals xs its ∧ s.heap.get? p = some { cls := .type "list", data := .seq its.toArray n } ∧ xs.length ≤ sizeLine := by
  obtain ⟨z, its, n, r, e⟩ := I.hok p _ h
  exact ⟨its, n, r, e, z⟩
theorem Inv.lstUpd {pins : List (Addr × Obj)} {σ : St} {H : Hp} {s : Shared} {p : Addr} {xs ys : List V} {its its' : List Value} {n n' : Nat} {f : Obj → Obj} (I : Inv X pins σ H s) (h : H p = some (.lst xs))
    (ho : s.heap.get? p = some { cls := .type "list", data := .seq its.toArray n }) (hf : f { cls := .type "list", data := .seq its.toArray n } = { cls := .type "list", data := .seq its'.toArray n' }) (r : Vals ys its') (hz : ys.length ≤ sizeLine) (t : Nat) :
    Inv X pins σ (upd H p (.lst ys)) { s with heap := s.heap.update p f, toks := t } := by
  have e : (s.heap.update p f).get? p = some { cls := .type "list", data := .seq its'.toArray n' } := by
    rw [Heap.get?_update_self f ho (by rw [hf] <;> rfl), hf]
  refine I.write (x := p) (e := p) (by rw [h]; trivial) (.inl rfl) (fun b u hb q => (Heap.get?_update_other _ _ (Ne.symm hb)).trans q) ⟨_, e⟩ ?_
  exact ⟨hz, its', n', r, e⟩
def rSetL : V → V → V → Hp → (Hp → Prop) → Prop := fun o i v H Q => ∃ p xs k j, o = .ref p ∧ i = .int k ∧ H p = some (.lst xs) ∧ ixN xs.length k = some j ∧ Q (upd H p (.lst (xs.set j v)))
theorem set_list : PSet X rSetL := by
  intro pins s σ H o i v ov iv u Q I ro ri rv h
  obtain ⟨p, xs, k, j, rfl, rfl, hp, hj, q⟩ := h
  cases ro
  obtain ⟨t, rfl⟩ := ri
  obtain ⟨its, n, r, ho, hz⟩ := I.lst hp
  obtain ⟨h1, h2, h3, h4⟩ := ixN_seq hj
  have hl := r.length
  have hn := line63
  have I' : Inv X pins σ (upd H p (.lst (xs.set j v))) { s with heap := s.heap.update p (Obj.mapSeq (·.setIfInBounds j u)) } :=
    I.lstUpd hp ho (mapSeq_set its n j u) (r.set rv j) (by rw [List.length_set]; exact hz) s.toks
  by_cases h0 : 0 ≤ k
  · have hk : k.toNat = j := by
      rw [seqIndex_of h0 h4] at h1
      exact Option.some.inj h1
    exact PySem.W.ki_setAt ho h0 (by omega) (by rw [List.size_toArray, ← hl]; exact h4) (by rw [hk]; exact ⟨_, I', q⟩)
  · have hk : (k + (its.toArray.size : Int)).toNat = j := by
      rw [seqIndex_neg (by omega) h3] at h1
      rw [List.size_toArray, ← hl]
      exact Option.some.inj h1
    exact PySem.W.ki_setBack ho (by omega) (by rw [List.size_toArray, ← hl]; exact h3) (by omega) (by rw [hk]; exact ⟨_, I', q⟩)
theorem slice_bounds (lo hi : Option Int) (n : Nat) : (sliceBounds lo hi none n).1 = ((HT.sIx n 0 lo : Nat) : Int) ∧ (sliceBounds lo hi none n).2.1 = ((HT.sIx n n hi : Nat) : Int) ∧ (sliceBounds lo hi none n).2.2 = 1 := by
  refine ⟨?_, ?_, rfl⟩
  · cases lo with
    | none => simp [sliceBounds, HT.sIx]
    | some i =>
      simp only [sliceBounds, HT.sIx, Option.getD_none, show (1 : Int) > 0 by decide, if_true]
      by_cases h : i < 0
      · simp only [h, if_true] <;> omega
      · simp only [h, if_false] <;> omega
  · cases hi with
    | none => simp [sliceBounds, HT.sIx]
    | some i =>
      simp only [sliceBounds, HT.sIx, Option.getD_none, show (1 : Int) > 0 by decide, if_true]
      by_cases h : i < 0
      · simp only [h, if_true] <;> omega
      · simp only [h, if_false] <;> omega
theorem slicePick_cut (its : List Value) (lo hi : Option Int) : slicePick its.toArray lo hi none = ((its.drop (HT.sIx its.length 0 lo)).take (HT.sIx its.length its.length hi - HT.sIx its.length 0 lo)).toArray := by
  obtain ⟨h1, h2, h3⟩ := slice_bounds lo hi its.toArray.size
  unfold slicePick
  rw [h1, h2, h3]
  simp only [sliceRange_one, pick_run, List.size_toArray] <;> rfl
def rSlL (K : PySem.W.Frag) : V → Option Int → Option Int → Hp → VK → Prop := fun x lo hi H Q => ∃ a xs, x = .ref a ∧ SqL K H a xs ∧ ∀ p, H p = none → Q (.ref p) (upd H p (.lst (cutV xs lo hi)))
theorem sl_list : SlR X (rSlL X.K) := by
  intro pins s σ H x v vl vu lo hi sl Q I rx hs pl pu h
  obtain ⟨a, xs, rfl, hx, q⟩ := h
  cases rx
  obtain ⟨its, r, ht, hz⟩ := I.list hx
  have hlen := r.length
  refine ⟨"list", _, slot_list_getitem.lookup, ht.isList.typeIs, ?_⟩
  refine wpAny_getItem_list_slice ht.isList hs pl pu .none (by simp) ?_ (by rw [List.size_toArray] <;> omega)
  rw [slicePick_cut, ← hlen]
  refine ⟨.ref s.heap.objs.size, _, I.laid (t' := s.toks) (o := .lst (cutV xs lo hi)) (fun b ob q => Heap.get?_push_of_some _ q) (Nat.le_refl _) ?_, rfl, q _ (I.hok.fresh (Nat.le_refl _))⟩
  exact ⟨Nat.le_trans (cutV_length xs lo hi) hz, _, 0, (r.drop (HT.sIx xs.length 0 lo)).take (HT.sIx xs.length xs.length hi - HT.sIx xs.length 0 lo), Heap.get?_push_size _ rfl⟩
def flatV : V → Bool
  | .non => true
  | .bl _ => true
  | .int _ => true
  | .str _ => true
  | _ => false
def eqV : V → V → Bool
  | .non, .non => true
  | .bl a, .bl b => a == b
  | .bl a, .int b => (if a then 1 else 0) == b
  | .int a, .bl b => a == (if b then 1 else 0)
  | .int a, .int b => a == b
  | .str a, .str b => a == b
  | _, _ => false
theorem eqAt_V {A : Around} {s : Shared} {y x : V} {u v : Value} (ry : RelV y u) (rx : RelV x v) (fy : flatV y = true) (fx : flatV x = true) : SeqAt.EqAt A s u v (eqV y x) := by
  cases y with
  | non =>
    cases ry
    cases x with
    | non => cases rx; exact SeqAt.EqAt.same _
    | bl b => cases rx; exact SeqAt.EqAt.none_bool b
    | int b => obtain ⟨t, rfl⟩ := rx; exact SeqAt.EqAt.none_int b t
    | str b => obtain ⟨t, rfl⟩ := rx; exact SeqAt.EqAt.none_str b t
    | _ => exact absurd (show false = true from fx) Bool.false_ne_true
  | bl a =>
    cases ry
    cases x with
    | non => cases rx; exact SeqAt.EqAt.bool_none a
    | bl b => cases rx; exact SeqAt.EqAt.bool_bool a b
    | int b => obtain ⟨t, rfl⟩ := rx; exact SeqAt.EqAt.bool_int a b t
    | str b => obtain ⟨t, rfl⟩ := rx; exact SeqAt.EqAt.bool_str a b t
    | _ => exact absurd (show false = true from fx) Bool.false_ne_true
  | int a =>
    obtain ⟨t', rfl⟩ := ry
    cases x with
    | non => cases rx; exact SeqAt.EqAt.int_none a t'
    | bl b => cases rx; exact SeqAt.EqAt.int_bool a t' b
    | int b => obtain ⟨t, rfl⟩ := rx; exact SeqAt.EqAt.int_int a t' b t
    | str b => obtain ⟨t, rfl⟩ := rx; exact SeqAt.EqAt.int_str a t' b t
    | _ => exact absurd (show false = true from fx) Bool.false_ne_true
  | str a =>
    obtain ⟨t', rfl⟩ := ry
    cases x with
    | non => cases rx; exact SeqAt.EqAt.str_none a t'
    | bl b => cases rx; exact SeqAt.EqAt.str_bool a t' b
    | int b => obtain ⟨t, rfl⟩ := rx; exact SeqAt.EqAt.str_int a t' b t
    | str b => obtain ⟨t, rfl⟩ := rx; exact SeqAt.EqAt.str_str a t' b t
    | _ => exact absurd (show false = true from fx) Bool.false_ne_true
  | _ => exact absurd (show false = true from fy) Bool.false_ne_true
def eqU (x : V) (u : Value) : Bool := match u with
  | .none => eqV .non x
  | .bool b => eqV (.bl b) x
  | .int i _ => eqV (.int i) x
  | .str z _ => eqV (.str z) x
  | _ => false
theorem eqU_of {x y : V} {u : Value} (r : RelV y u) (f : flatV y = true) : eqU x u = eqV y x := by
  cases y with
  | non => cases r; rfl
  | bl b => cases r; rfl
  | int i => obtain ⟨t, rfl⟩ := r; rfl
  | str z => obtain ⟨t, rfl⟩ := r; rfl
  | _ => exact absurd (show false = true from f) Bool.false_ne_true
theorem any_eqU {x : V} : ∀ {xs : List V} {us : List Value}, Vals xs us → xs.all flatV = true → us.any (eqU x) = xs.any fun y => eqV y x
  | _, _, .nil, _ => rfl
  | y :: xs, u :: us, .cons r t, f => by
    rw [List.all_cons, Bool.and_eq_true] at f
    rw [List.any_cons, List.any_cons, eqU_of r f.1, any_eqU t f.2]
theorem mem_eqAt {A : Around} {s : Shared} {x : V} {v : Value} (rx : RelV x v) (fx : flatV x = true) : ∀ {xs : List V} {us : List Value}, Vals xs us → xs.all flatV = true → ∀ u ∈ us, SeqAt.EqAt A s u v (eqU x u)
  | _, _, .nil, _ => fun u hu => by cases hu
  | y :: xs, u :: us, .cons r t, f => fun u' hu => by
    rw [List.all_cons, Bool.and_eq_true] at f
    rcases List.mem_cons.mp hu with rfl | hu
    · rw [eqU_of r f.1]; exact eqAt_V r rx f.1 fx
    · exact mem_eqAt rx fx t f.2 u' hu
def inV (x : V) (xs : List V) : Bool := xs.any fun y => eqV y x
def rIn (K : PySem.W.Frag) (neg : Bool) : R2 := fun x y H Q => ∃ p xs, y = .ref p ∧ (SqL K H p xs ∨ SqT K H p xs) ∧ flatV x = true ∧ xs.all flatV = true ∧ Q (.bl (if neg then !inV x xs else inV x xs)) H
theorem op_in_seq : OpR X (compareOp .In) (rIn X.K false) := by
  intro pins s σ H x y v u Q I rx ry h
  obtain ⟨p, xs, rfl, hq, fx, fs, q⟩ := h
  cases ry
  rcases hq with hq | hq
  · obtain ⟨its, r, pl, hz⟩ := I.list hq
    refine SeqAt.in_listAt (eqU x) pl.isList (fun w hw => mem_eqAt rx fx r fs w (by simpa using hw)) ⟨.bl _, H, I, rfl, ?_⟩
    rw [show its.toArray.any (eqU x) = its.any (eqU x) by simp, any_eqU r fs]
    exact q
  · obtain ⟨its, r, pl, hz⟩ := I.tuple hq
    refine SeqAt.in_tupleAt (eqU x) pl (fun w hw => mem_eqAt rx fx r fs w (by simpa using hw)) ⟨.bl _, H, I, rfl, ?_⟩
    rw [show its.toArray.any (eqU x) = its.any (eqU x) by simp, any_eqU r fs]
    exact q
theorem call_len_seq : CallR X (.builtin "len") (fun xs H Q => ∃ p ys, xs = [.ref p] ∧ (SqL X.K H p ys ∨ SqT X.K H p ys) ∧ Q (.int ys.length) H) := by
  intro pins s σ H xs us Q I r h
  obtain ⟨p, ys, rfl, hq, q⟩ := h
  obtain ⟨u, rfl, rx⟩ := vals1 r
  cases rx
  have hn := line63
  rcases hq with hq | hq
  · obtain ⟨its, r', pl, hz⟩ := I.list hq
    have hlen := r'.length
    exact Calls.call_len_list pl.isList (by simp only [List.size_toArray] <;> omega) ⟨.int ys.length, H, I.tok _, ⟨s.toks + 1, by rw [List.size_toArray, hlen]⟩, q⟩
  · obtain ⟨its, r', pl, hz⟩ := I.tuple hq
    have hlen := r'.length
    exact len_tuple pl (by simp only [List.size_toArray] <;> omega) ⟨.int ys.length, H, I.tok _, ⟨s.toks + 1, by rw [List.size_toArray, hlen]⟩, q⟩
def tyV (K : PySem.W.Frag) (T : String) (x : V) (H : Hp) : Prop := match x with
  | .str _ => T = "str"
  | .int _ => T = "int"
  | .ref p => (T = "list" ∧ ∃ xs, SqL K H p xs) ∨ (T = "tuple" ∧ ∃ o, K.lookup p = some o ∧ o.cls = .type "tuple" ∧ o.dict = none) ∨
      (T = "dict" ∧ ((∃ kvs, H p = some (.dK kvs)) ∨ ∃ kvs, H p = some (.dT kvs))) ∨ (T = "set" ∧ ∃ S n, H p = some (.set S n))
  | _ => False
theorem tyV_is {pins : List (Addr × Obj)} {σ : St} {H : Hp} {s : Shared} {T : String} {x : V} {v : Value} (I : Inv X pins σ H s) (r : RelV x v) (ty : tyV X.K T x H) :
    s.TypeIs v T ∧ ∀ a, v = .ref a → ∃ ob, s.heap.get? a = some ob ∧ ob.dict = none := by
  cases x with
  | str z =>
    obtain ⟨t, rfl⟩ := r
    cases (show T = "str" from ty)
    exact ⟨typeIs_str s z t, fun _ e => nomatch e⟩
  | int i =>
    obtain ⟨t, rfl⟩ := r
    cases (show T = "int" from ty)
    exact ⟨typeIs_int s i t, fun _ e => nomatch e⟩
  | ref p =>
    cases r
    rcases ty with ⟨rfl, xs, hq⟩ | ⟨rfl, o, hk, hc, hd⟩ | ⟨rfl, hk⟩ | ⟨rfl, S, n, hk⟩
    · obtain ⟨its, _, pl, _⟩ := I.list hq
      refine ⟨pl.isList.typeIs, fun a e => ?_⟩
      cases e
      obtain ⟨o, n, e, c, hd, _⟩ := pl
      exact ⟨o, e, hd⟩
    · refine ⟨⟨o, I.kIn p o hk, hc⟩, fun a e => ?_⟩
      cases e
      exact ⟨o, I.kIn _ o hk, hd⟩
    · have z : ∃ o, s.heap.get? p = some o ∧ o.ExactDict := by
        rcases hk with ⟨kvs, hk⟩ | ⟨kvs, hk⟩
        · obtain ⟨_, _, _, _, o, _, _, e, ex, _⟩ := I.hok p _ hk
          exact ⟨o, e, ex⟩
        · obtain ⟨_, _, _, _, o, _, _, e, ex, _⟩ := I.hok p _ hk
          exact ⟨o, e, ex⟩
      obtain ⟨o, e, ex⟩ := z
      refine ⟨⟨o, e, ex.1⟩, fun a e2 => ?_⟩
      cases e2
      exact ⟨o, e, ex.2.1⟩
    · obtain ⟨o, _, _, _, e, ex, _⟩ := I.hok p _ hk
      refine ⟨⟨o, e, ex.1⟩, fun a e2 => ?_⟩
      cases e2
      exact ⟨o, e, ex.2.1⟩
  | _ => exact False.elim ty
def tBM0 (K : PySem.W.Frag) (T : String) (r : V → List V → Hp → VK → Prop) (to : TE) : TE := fun σ H Q => to σ H fun x H1 => tyV K T x H1 ∧ r x [] H1 Q
def tBM (K : PySem.W.Frag) (T : String) (r : V → List V → Hp → VK → Prop) (to : TE) (t : TA) : TE := fun σ H Q => to σ H fun x H1 => tyV K T x H1 ∧ t σ H1 fun xs H2 => r x xs H2 Q
variable {o e : Expr} {es : List Expr} {to : TE} {t : TA} {name : Str} {apos cpos : Pos} {T id : String} {r : V → List V → Hp → VK → Prop}
theorem pe_bm0 (pa : PlainAttrs T) (slot : Slot T name id) (hty : typeOf (.builtin id) = pure (.type "method_descriptor")) (hm : MtR X id r) (ho : PE X o to)
    (hbase : attributeBase o name X.env (eval o X.env) = eval o X.env := by rfl) (hline : (apos.endLine == cpos.line) = true := by rfl) : PE X (.Call (.Attribute o name apos) [] [] cpos) (tBM0 X.K T r to) := by
  intro pins s σ H Q I h
  refine wpAny_Call_method0_late hbase hline (thn (ho pins s σ H _ I h) fun v s1 ⟨x, H1, I1, r1, ty, q1⟩ => ?_)
  obtain ⟨h1, h2⟩ := tyV_is I1 r1 ty
  exact ⟨T, id, pa, slot, hty, h1, h2, Calls.callWith_builtin rfl (PySem.evalArgs_none (hm pins s1 σ H1 x [] v [] Q I1 r1 .nil q1))⟩
theorem pe_bm (pa : PlainAttrs T) (slot : Slot T name id) (hty : typeOf (.builtin id) = pure (.type "method_descriptor")) (hm : MtR X id r) (ho : PE X o to) (ha : PA X (e :: es) t)
    (hbase : attributeBase o name X.env (eval o X.env) = eval o X.env := by rfl)
    (hfew : ((backTo cpos (starEach (e :: es) X.env)).all (fun x => !x.1) && (backToKw cpos (keywordEach [] X.env)).all (fun x => x.1.isSome)
      && decide ((e :: es).length + ([] : List Keyword).length + (if ([] : List Keyword).isEmpty then 0 else 1) < 30)) = true := by rfl)
    (hline : (apos.endLine == cpos.line) = true := by rfl) (hs : starEach (e :: es) X.env = (false, eval e X.env) :: starEach es X.env := by rfl) (hplain : (backTo cpos (starEach es X.env)).any (·.1) = false := by rfl) :
    PE X (.Call (.Attribute o name apos) (e :: es) [] cpos) (tBM X.K T r to t) := by
  intro pins s σ H Q I h
  refine wpAny_Call_method_late hbase hfew hline rfl (thn (ho pins s σ H _ I h) fun v s1 ⟨x, H1, I1, r1, ty, q1⟩ => ?_)
  obtain ⟨h1, h2⟩ := tyV_is I1 r1 ty
  refine ⟨T, id, pa, slot, hty, h1, h2, ?_⟩
  have hA := ha cpos pins s1 σ H1 _ I1 q1
  rw [hs] at hA ⊢
  refine Calls.callWith_builtin (by show (false || (backTo cpos (starEach es X.env)).any (·.1)) = false; rw [hplain] <;> rfl) (Calls.evalArgs_plain ?_)
  exact thn hA fun us s2 ⟨vs, H2, I2, r2, q2⟩ => hm pins s2 σ H2 x vs v us Q I2 r1 r2 q2
/- xs.append(e), list.index on a module's tuple .. are MtR facts of 06m -/
end
end L2
namespace L2
open PySem PySem.Spec PyProof.Rows
def MtM (X : Cx) (id : String) (r : V → List V → Hp → VK → Prop) : Prop :=
  ∀ (pins : List (Addr × Obj)) (s : Shared) (σ : St) (H : Hp) (x : V) (xs : List V) (v : Value) (us : List Value) (Q : VK), Inv X pins σ H s → RelV x v → Vals xs us → r x xs H Q →
    wpAny (model X.prog X.w) X.A (call (.builtin id) (v :: us)) (EP X pins σ Q) X.xe s
theorem Vals.one : ∀ {x : V} {us : List Value}, Vals [x] us → ∃ u, us = [u] ∧ RelV x u
  | _, _, .cons r .nil => ⟨_, rfl, r⟩
theorem Vals.zero : ∀ {us : List Value}, Vals [] us → us = []
  | _, .nil => rfl
theorem Vals.dropLast {xs : List V} {us : List Value} (h : Vals xs us) : Vals xs.dropLast us.dropLast := by
  induction h with
  | nil => exact .nil
  | cons r t ih =>
    cases t with
    | nil => exact .nil
    | cons q t' => exact .cons r ih
theorem Vals.rep {xs : List V} {us : List Value} (h : Vals xs us) : ∀ k : Nat, Vals (List.replicate k xs).flatten (List.replicate k us).flatten
  | 0 => .nil
  | k + 1 => by
    rw [List.replicate_succ, List.replicate_succ, List.flatten_cons, List.flatten_cons]
    exact Vals.append h (Vals.rep h k)
theorem erase_last {α : Type} (l : List α) : l.eraseIdx (l.length - 1) = l.dropLast := by
  induction l with
  | nil => rfl
  | cons a r ih =>
    cases r with
    | nil => rfl
    | cons b r =>
      have e : (a :: b :: r).length - 1 = ((b :: r).length - 1) + 1 := by
        have h1 : (a :: b :: r).length = r.length + 2 := rfl
        have h2 : (b :: r).length = r.length + 1 := rfl
        omega
      rw [e, List.eraseIdx_cons_succ, ih]
      all_goals rfl
theorem foldl_rep (its : List Value) : ∀ (k : Nat) (acc : List Value),
    List.foldl (fun x1 x2 => x1 ++ x2) acc.toArray (List.replicate k its.toArray) = (acc ++ (List.replicate k its).flatten).toArray
  | 0, acc => by simp
  | k + 1, acc => by
    have e : acc.toArray ++ its.toArray = (acc ++ its).toArray := by simp
    have e2 : (acc ++ its) ++ (List.replicate k its).flatten = acc ++ (List.replicate (k + 1) its).flatten := by
      rw [List.replicate_succ, List.flatten_cons, List.append_assoc]
    rw [← e2, ← foldl_rep its k (acc ++ its), ← e, List.replicate_succ, List.foldl_cons]
section
variable {X : Cx} {pins : List (Addr × Obj)} {σ : St} {H : Hp} {s : Shared} {l b : Addr} {xs ys zs : List V}
theorem Inv.lset {its its' : List Value} {n : Nat} {f : Array Value → Array Value} {t' : Nat} (I : Inv X pins σ H s) (hH : H l = some (.lst xs))
    (e : s.heap.get? l = some { cls := .type "list", data := .seq its.toArray n }) (hf : f its.toArray = its'.toArray) (hv : Vals ys its') (hz : ys.length ≤ sizeLine) :
    Inv X pins σ (upd H l (.lst ys)) { s with heap := s.heap.update l (Obj.mapSeq f), toks := t' } := by
  have q := PySem.IsL.update e f
  rw [hf] at q
  refine I.write (x := l) (e := l) (by rw [hH]; exact trivial) (.inl rfl) (fun b' u hb hu => (Heap.get?_update_other s.heap (Obj.mapSeq f) (Ne.symm hb)).trans hu) ⟨_, q⟩ ?_
  exact ⟨hz, its', _, hv, q⟩
theorem Inv.lnew {its : List Value} {t' : Nat} (I : Inv X pins σ H s) (hv : Vals ys its) (hz : ys.length ≤ sizeLine) :
    Inv X pins σ (upd H s.heap.objs.size (.lst ys)) { s with heap := s.heap.push { cls := .type "list", data := .seq its.toArray }, toks := t' } :=
  I.laid (fun _ _ q => Heap.get?_push_of_some _ q) (Nat.le_refl _) ⟨hz, its, 0, hv, Heap.get?_push_size _ rfl⟩
theorem Inv.fresh (I : Inv X pins σ H s) : H s.heap.objs.size = none := I.hok.fresh (Nat.le_refl _)
theorem Inv.lstM (I : Inv X pins σ H s) (hH : H l = some (.lst xs)) : xs.length ≤ sizeLine ∧ ∃ (its : List Value) (n : Nat), Vals xs its ∧ xs.length = its.length ∧ s.heap.get? l = some { cls := .type "list", data := .seq its.toArray n } := by
  obtain ⟨z, its, n, r, e⟩ := I.hok l _ hH
  exact ⟨z, its, n, r, r.length, e⟩
theorem notLongL {n : Nat} (h : n ≤ sizeLine) : Builtin.List.listTooLong n = false := by
  unfold Builtin.List.listTooLong
  exact decide_eq_false (by omega)
end
section
variable {X : Cx}
def rAppend : V → List V → Hp → VK → Prop := fun x vs H Q => ∃ l xs y, x = .ref l ∧ vs = [y] ∧ H l = some (.lst xs) ∧ xs.length < sizeLine ∧ Q .non (upd H l (.lst (xs ++ [y])))
theorem mt_append : MtM X "list.append" rAppend := by
  intro pins s σ H x vs v us Q I rx rv h
  obtain ⟨l, xs, y, rfl, rfl, hH, hz, q⟩ := h
  cases rx
  obtain ⟨u, rfl, ru⟩ := rv.one
  obtain ⟨z, its, n, r, hl, e⟩ := I.lstM hH
  refine call_meets F.slot_list_append ⟨_, e, rfl⟩ F.entry_list_append (F.args_list_append_2 _ _) (PySem.list_append l its.toArray n u (by rw [List.size_toArray]; omega)) ⟨e, ?_⟩
  refine ⟨.non, _, I.lset (its' := its ++ [u]) hH e (by simp) (r.append (.cons ru .nil)) ?_, rfl, q⟩
  rw [List.length_append, List.length_singleton]
  omega
def rPop : V → List V → Hp → VK → Prop := fun x vs H Q => ∃ l xs y, x = .ref l ∧ vs = [] ∧ H l = some (.lst xs) ∧ xs[xs.length - 1]? = some y ∧ Q y (upd H l (.lst xs.dropLast))
theorem mt_pop : MtM X "list.pop" rPop := by
  intro pins s σ H x vs v us Q I rx rv h
  obtain ⟨l, xs, y, rfl, rfl, hH, hy, q⟩ := h
  cases rx
  have hus := rv.zero
  subst hus
  obtain ⟨z, its, n, r, hl, e⟩ := I.lstM hH
  obtain ⟨u, hu, ru⟩ := r.get hy
  have hy' : its.toArray[its.toArray.size - 1]? = some u := by
    show its.toArray[its.length - 1]? = some u
    rw [← Array.getElem?_toList, ← hl]
    exact hu
  refine call_meets F.slot_list_pop ⟨_, e, rfl⟩ F.entry_list_pop (F.args_list_pop_1 _) (MeetsSeq.list_pop_last l its.toArray n u hy' (by rw [List.size_toArray]; omega)) ⟨e, ?_⟩
  refine ⟨y, _, I.lset (its' := its.dropLast) hH e ?_ r.dropLast ?_, ru, q⟩
  · show its.toArray.eraseIdxIfInBounds (its.toArray.size - 1) = its.dropLast.toArray
    rw [List.size_toArray, List.eraseIdxIfInBounds_toArray, erase_last]
  · rw [List.length_dropLast]
    omega
def rCat : R2 := fun x y H Q => ∃ l b xs zs, x = .ref l ∧ y = .ref b ∧ H l = some (.lst xs) ∧ H b = some (.lst zs) ∧ xs.length + zs.length ≤ sizeLine ∧ ∀ p, H p = none → Q (.ref p) (upd H p (.lst (xs ++ zs)))
theorem op_cat : OpR X (binaryOp .Add) rCat := by
  intro pins s σ H x y v u Q I rx ry h
  obtain ⟨l, b, xs, zs, rfl, rfl, hH, hB, hz, q⟩ := h
  cases rx
  cases ry
  obtain ⟨z, its, n, r, hl, e⟩ := I.lstM hH
  obtain ⟨z2, its2, n2, r2, hl2, e2⟩ := I.lstM hB
  refine PySem.P.add_list e e2 ?_ (by rw [List.size_toArray, List.size_toArray]; omega)
  have ea : its.toArray ++ its2.toArray = (its ++ its2).toArray := by simp
  rw [ea]
  exact ⟨.ref _, _, I.lnew (t' := s.toks) (r.append r2) (by rw [List.length_append]; omega), rfl, q _ I.fresh⟩
def rRep : R2 := fun x y H Q => ∃ l k xs, x = .ref l ∧ y = .int k ∧ H l = some (.lst xs) ∧ -(2 ^ 63) ≤ k ∧ k < 2 ^ 63 ∧ xs.length * k.toNat ≤ sizeLine ∧
  ∀ p, H p = none → Q (.ref p) (upd H p (.lst (List.replicate k.toNat xs).flatten))
theorem len_rep {α : Type} (xs : List α) (k : Nat) : (List.replicate k xs).flatten.length = k * xs.length := by
  induction k with
  | zero => simp
  | succ k ih => rw [List.replicate_succ, List.flatten_cons, List.length_append, ih, Nat.succ_mul, Nat.add_comm]
theorem op_rep : OpR X (binaryOp .Mult) rRep := by
  intro pins s σ H x y v u Q I rx ry h
  obtain ⟨l, k, xs, rfl, rfl, hH, h1, h2, hz, q⟩ := h
  cases rx
  obtain ⟨t, rfl⟩ := ry
  obtain ⟨z, its, n, r, hl, e⟩ := I.lstM hH
  have hlen : its.toArray.size * k.toNat ≤ sizeLine := by rw [List.size_toArray, ← hl]; exact hz
  have hcap : ¬ its.toArray.size * k.toNat > (2 ^ 63 - 1) / 8 := by
    have : (sizeLine : Nat) ≤ (2 ^ 63 - 1) / 8 := by decide
    omega
  have hfit : ¬ (!Builtin.List.listFitsIndex k) = true := by
    rw [fitsIndex_both h1 h2]
    exact Bool.false_ne_true
  have hlong : ¬ Builtin.List.listTooLong (its.toArray.size * k.toNat) = true := by
    rw [notLongL hlen]
    exact Bool.false_ne_true
  have hnew : List.foldl (fun x1 x2 => x1 ++ x2) #[] (List.replicate (if its.toArray.isEmpty = true then 0 else k.toNat) its.toArray) = (List.replicate k.toNat its).flatten.toArray := by
    have f0 : ∀ m : Nat, List.foldl (fun x1 x2 => x1 ++ x2) #[] (List.replicate m its.toArray) = (List.replicate m its).flatten.toArray := fun m => by
      have := foldl_rep its m []
      rw [List.nil_append] at this
      exact this
    rw [f0]
    cases its with
    | nil => simp
    | cons a r' => rw [if_neg (by simp)]
  refine wpAny_binaryOp_repeat_ref (T := "list") (U := "int") (by decide) ⟨_, e, rfl⟩ (fun s' => typeIs_int s' k t) noFill_list_mul F.fills_int_mul F.slot_int_rmul repeat_list F.slot_int_index.lookup
    (call_meets F.slot_int_rmul (typeIs_int s k t) F.entry_int_rmul (F.args_int_rmul_2 _ _) (int___rmul___int_list k t l its.toArray n)
      ⟨e, rfl, ⟨_, e, rfl⟩, call_meets F.slot_list_mul ⟨_, e, rfl⟩ F.entry_list_mul (F.args_list_mul_2 _ _) (AutoListH.list___mul___list_int_3 l its.toArray n k t hfit hcap hlong) ⟨e, ?_⟩⟩)
  rw [hnew]
  exact ⟨.ref _, _, I.lnew (t' := s.toks) (r.rep k.toNat) (by rw [len_rep, Nat.mul_comm]; exact hz), rfl, q _ I.fresh⟩
end
section
variable {prog : Program} {w : World} {A : Around} {E : Value → Shared → Prop} {s : Shared}
end
section
variable {X : Cx}
end
end L2
set_option Elab.async false
set_option linter.all false
set_option maxRecDepth 100000
namespace L2
open PySem PySem.Spec PyProof.Rows
theorem Vals.ints : ∀ {ns : List Int} {us : List Value}, Vals (ns.map V.int) us → IntsAre us ns
  | [], us, h => by
    rw [List.map_nil] at h
    cases h
    exact IntsAre.nil
  | n :: ns, us, h => by
    rw [List.map_cons] at h
    cases h with
    | cons r t =>
      obtain ⟨k, rfl⟩ := r
      exact IntsAre.cons n k (Vals.ints t)
theorem vals_of_ints : ∀ {us : List Value} {ns : List Int}, IntsAre us ns → Vals (ns.map V.int) us
  | _, _, .nil => by rw [List.map_nil]; exact Paired.nil
  | _, _, .cons n t h => by rw [List.map_cons]; exact Paired.cons (show RelV (V.int n) (Value.int n t) from ⟨t, rfl⟩) (vals_of_ints h)
theorem Vals.bls : ∀ {bs : List Bool} {us : List Value}, Vals (bs.map V.bl) us → us = bs.map Value.bool
  | [], us, h => by
    rw [List.map_nil] at h
    cases h
    rfl
  | b :: bs, us, h => by
    rw [List.map_cons] at h
    cases h with
    | cons r t =>
      cases r
      rw [Vals.bls t, List.map_cons]
theorem Vals.ref1 {a : Addr} {us : List Value} (r : Vals [V.ref a] us) : us = [Value.ref a] := by
  cases r with
  | cons r t =>
    cases t
    cases r
    rfl
section
variable {prog : Program} {w : World} {A : Around} {E : Value → Shared → Prop} {s : Shared} {l : Addr} {its : List Value} {ns : List Int} {Q : Value → Shared → Prop}
theorem max_raw (hh : A.handled = none) (hl : s.heap.IsList l its.toArray) (hi : IntsAre its ns) (hne : 0 < ns.length)
    (h : ∀ h' tk M t', (∀ b o, s.heap.get? b = some o → h'.get? b = some o) → M ∈ ns → (∀ a, a ∈ ns → a ≤ M) → Q (.int M t') { s with heap := h', toks := tk }) : wpAny (model prog w) A (call (.builtin "max") [.ref l]) Q E s := by
  obtain ⟨xs, e⟩ := hi.allInts.items
  have hn : numsOf (intItems xs).toList = ns := by rw [← e]; exact hi.numsOf
  rw [nums_intItems] at hn
  subst hn
  rw [e] at hl
  have hsz : 0 < xs.size := by simpa using hne
  refine PySem.max_intList hh hl hsz fun v h' tk hv hk => ?_
  obtain ⟨t, rfl⟩ := intItems_at hv
  obtain ⟨h1, h2⟩ := argBest_gt (numAt xs) (xs.size - 1)
  refine h h' tk _ t hk ?_ fun a ha => ?_
  · rw [numAt_eq]; exact PySem.getD_mem (by rw [List.length_map, Array.length_toList]; omega)
  · obtain ⟨j, hj, rfl⟩ := mem_getD ha
    rw [List.length_map, Array.length_toList] at hj
    rw [← numAt_eq]; exact h2 j (by omega)
end
section
variable {X : Cx}
def rMax (K : PySem.W.Frag) : List V → Hp → VK → Prop := fun vs H Q => ∃ (a : Addr) (ns : List Int), vs = [V.ref a] ∧ SqL K H a (ns.map V.int) ∧ 0 < ns.length ∧ ∀ m, m ∈ ns → (∀ y, y ∈ ns → y ≤ m) → Q (.int m) H
theorem cr_max (hc : X.calm = true) : CallR X (.builtin "max") (rMax X.K) := by
  intro pins s σ H vs us Q I r h
  obtain ⟨a, ns, rfl, hs, hne, q⟩ := h
  obtain ⟨its, rv, hl, _⟩ := I.list hs
  rw [Vals.ref1 r]
  exact max_raw (I.ok.hd hc) hl.isList rv.ints hne fun h' tk m t' hk h1 h2 => ⟨.int _, H, I.kept hk, ⟨_, rfl⟩, q m h1 h2⟩
end
section
variable {X : Cx}
def rIndex (K : PySem.W.Frag) : V → List V → Hp → VK → Prop := fun x xs H Q => ∃ (a : Addr) (ys : List V) (y : V) (j : Nat) (z : V), x = V.ref a ∧ xs = [y] ∧ SqL K H a ys ∧ flatV y = true ∧ ys.all flatV = true ∧ ys[j]? = some z ∧ eqV z y = true ∧
  (∀ (m : Nat) (z' : V), m < j → ys[m]? = some z' → eqV z' y = false) ∧ Q (.int (j : Nat)) H
theorem flat_at {ys : List V} (f : ys.all flatV = true) {j : Nat} {z : V} (h : ys[j]? = some z) : flatV z = true := List.all_eq_true.mp f z (List.mem_of_getElem? h)
theorem mt_index : MtR X "list.index" (rIndex X.K) := by
  intro pins s σ H x xs v us Q I rx rxs h
  obtain ⟨a, ys, y, j, z, rfl, rfl, hs, fy, fys, hz, hzj, hno, q⟩ := h
  cases rx
  cases rxs with
  | cons ry rt =>
    rename_i uy ut
    cases rt
    obtain ⟨its, rv, ⟨⟨cls, dd, data, sl⟩, n, ho, hc, hdn, hd⟩, hlen⟩ := I.list hs
    simp only at hc hd
    subst hc hd
    obtain ⟨u, hu, ru⟩ := rv.get hz
    obtain ⟨hjl, hje⟩ := List.getElem?_eq_some_iff.mp hu
    have hvl := rv.length
    have hj : j < its.toArray.size := by simpa using hjl
    have hsl := sizeLine_eq
    refine call_meets PySem.F.slot_list_index ⟨_, ho, rfl⟩ PySem.F.entry_list_index (PySem.F.args_list_index_2 _ _)
      (SeqAt.list_indexAt a its.toArray n dd sl uy (eqU y) j hj (by omega) ?_ ?_) ⟨ho, fun u' hu' => mem_eqAt ry fy rv fys u' (by simpa using hu'), ?_⟩
    · have e1 : its.toArray[j] = u := by simpa using hje
      rw [e1, eqU_of ru (flat_at fys hz)]
      exact hzj
    · intro m hm hmj
      have hml : m < its.length := by simpa using hm
      have hmy : m < ys.length := by omega
      have hy' : ys[m]? = some ys[m] := List.getElem?_eq_getElem hmy
      obtain ⟨u2, hu2, ru2⟩ := rv.get hy'
      obtain ⟨_, hme⟩ := List.getElem?_eq_some_iff.mp hu2
      have e1 : its.toArray[m] = u2 := by simpa using hme
      rw [e1, eqU_of ru2 (flat_at fys hy')]
      exact hno m _ hmj hy'
    · exact ⟨.int (j : Nat), H, I.tok _, ⟨_, rfl⟩, q⟩
end
section
variable {X : Cx}
end
theorem iter_any {prog : Program} {w : World} {A : Around} {E : Value → Shared → Prop} {s : Shared} {l : Addr} {items : Array Value} {Q : Value → Shared → Prop} (hl : s.heap.IsList l items)
    (h : ∀ s₂ : Shared, s₂ = { s with heap := s.heap.push { cls := .type "list_iterator", data := .fields #[.ref l, .int 0 0] } } →
      (s₂.heap.IsListIter s.heap.objs.size l 0 ∧ s₂.heap.IsList l items) → l ≠ s.heap.objs.size → Q (.ref s.heap.objs.size) s₂) : wpAny (model prog w) A (pyIter (.ref l)) Q E s := by
  have hlt : l < s.heap.objs.size := by obtain ⟨_, e, _⟩ := hl; exact Heap.lt_size e
  exact wpAny_pyIter_list hl (h _ rfl ⟨⟨_, Heap.get?_push_size _ rfl, rfl, rfl⟩, hl.push _⟩ (Nat.ne_of_lt hlt))
theorem truth_bools {prog : Program} {w : World} {A : Around} {bs : List Bool} {its : List Value} (e : its = bs.map Value.bool) :
    TruthOf prog w A (fun i v => its.toArray[i]? = some v) (fun i => bs.getD i false) := fun i v s Q E hv hq => by
  have hv' : its[i]? = some v := by simpa using hv
  rw [e, List.getElem?_map] at hv'
  obtain ⟨b, hb, rfl⟩ := Option.map_eq_some_iff.mp hv'
  have hg : bs.getD i false = b := by rw [List.getD_eq_getElem?_getD, hb] <;> rfl
  have hq' : Q (bs.getD i false) s := hq
  rw [hg] at hq'
  exact wpAny_truthy_bool hq'
theorem any_range : ∀ bs : List Bool, (List.range bs.length).any (fun i => bs.getD i false) = bs.any id
  | [] => rfl
  | b :: bs => by
    rw [List.length_cons, List.range_succ_eq_map, List.any_cons, List.any_map, List.any_cons, ← any_range bs]
    all_goals rfl
theorem all_range : ∀ bs : List Bool, (List.range bs.length).all (fun i => bs.getD i false) = bs.all id
  | [] => rfl
  | b :: bs => by
    rw [List.length_cons, List.range_succ_eq_map, List.all_cons, List.all_map, List.all_cons, ← all_range bs]
    all_goals rfl
section
variable {X : Cx}
def rAny (K : PySem.W.Frag) : List V → Hp → VK → Prop := fun vs H Q => ∃ (a : Addr) (bs : List Bool), vs = [V.ref a] ∧ SqL K H a (bs.map V.bl) ∧ Q (.bl (bs.any id)) H
def rAll (K : PySem.W.Frag) : List V → Hp → VK → Prop := fun vs H Q => ∃ (a : Addr) (bs : List Bool), vs = [V.ref a] ∧ SqL K H a (bs.map V.bl) ∧ Q (.bl (bs.all id)) H
theorem cr_any (hc : X.calm = true) : CallR X (.builtin "any") (rAny X.K) := by
  intro pins s σ H vs us Q I r h
  obtain ⟨a, bs, rfl, hs, q⟩ := h
  obtain ⟨its, rv, hl, _⟩ := I.list hs
  rw [Vals.ref1 r]
  have hb := rv.bls
  refine call_any_walk (iter_any hl.isList fun s₂ e2 st hne => ?_)
  subst e2
  refine ⟨_, _, _, _, _, _, _, rfl, Walks.list (A := X.A.in1) (I.ok.hd hc) _ a hne its.toArray, st, truth_bools hb, fun h' tk hk => ?_⟩
  refine ⟨.bl _, H, I.kept fun b o eo => hk b o (fun hmem => ?_) (Heap.get?_push_of_some _ eo), ?_, q⟩
  · rcases List.mem_cons.mp hmem with e1 | hmem
    · exact absurd (e1 ▸ Heap.lt_size eo) (Nat.lt_irrefl _)
    · cases hmem
  · show Value.bool _ = Value.bool _
    rw [← any_range, hb, List.size_toArray, List.length_map]
theorem cr_all (hc : X.calm = true) : CallR X (.builtin "all") (rAll X.K) := by
  intro pins s σ H vs us Q I r h
  obtain ⟨a, bs, rfl, hs, q⟩ := h
  obtain ⟨its, rv, hl, _⟩ := I.list hs
  rw [Vals.ref1 r]
  have hb := rv.bls
  refine call_all_walk (iter_any hl.isList fun s₂ e2 st hne => ?_)
  subst e2
  refine ⟨_, _, _, _, _, _, _, rfl, Walks.list (A := X.A.in1) (I.ok.hd hc) _ a hne its.toArray, st, truth_bools hb, fun h' tk hk => ?_⟩
  refine ⟨.bl _, H, I.kept fun b o eo => hk b o (fun hmem => ?_) (Heap.get?_push_of_some _ eo), ?_, q⟩
  · rcases List.mem_cons.mp hmem with e1 | hmem
    · exact absurd (e1 ▸ Heap.lt_size eo) (Nat.lt_irrefl _)
    · cases hmem
  · show Value.bool _ = Value.bool _
    rw [← all_range, hb, List.size_toArray, List.length_map]
end
mutual
inductive Dp (K : PySem.W.Frag) (H : Hp) : V → PyData → Prop
  | non : Dp K H .non .none
  | bl (b : Bool) : Dp K H (.bl b) (.bool b)
  | int (i : Int) : Dp K H (.int i) (.int i)
  | str (x : Str) : Dp K H (.str x) (.str x)
  | lst {a : Addr} {xs : List V} {ds : List PyData} : SqL K H a xs → DpAll K H xs ds → Dp K H (.ref a) (.list ds)
  | tup {a : Addr} {xs : List V} {ds : List PyData} : SqT K H a xs → DpAll K H xs ds → Dp K H (.ref a) (.tuple ds)
inductive DpAll (K : PySem.W.Frag) (H : Hp) : List V → List PyData → Prop
  | nil : DpAll K H [] []
  | cons {v : V} {vs : List V} {d : PyData} {ds : List PyData} : Dp K H v d → DpAll K H vs ds → DpAll K H (v :: vs) (d :: ds)
end
section
variable {X : Cx} {pins : List (Addr × Obj)} {σ : St} {H : Hp} {s : Shared}
mutual
theorem Dp.reads (I : Inv X pins σ H s) : ∀ (d : PyData) (v : V) (u : Value), Dp X.K H v d → RelV v u → ∃ as, Reads s.heap u d as
  | .none, _, _, h, r => by
    cases h
    cases r
    exact ⟨_, Reads.none⟩
  | .bool b, _, _, h, r => by
    cases h
    cases r
    exact ⟨_, Reads.bool b⟩
  | .int i, _, _, h, r => by
    cases h
    obtain ⟨t, rfl⟩ := r
    exact ⟨_, Reads.int i t⟩
  | .str x, _, _, h, r => by
    cases h
    obtain ⟨t, rfl⟩ := r
    exact ⟨_, Reads.str x t⟩
  | .list ds, _, _, h, r => by
    cases h with
    | lst hs ha =>
      cases r
      obtain ⟨its, rv, ⟨o, n, ho, hc, _, hd⟩, _⟩ := I.list hs
      obtain ⟨as, hr⟩ := Dp.readsAll I ds _ its ha rv
      exact ⟨_, Reads.list ho hc hd hr⟩
  | .tuple ds, _, _, h, r => by
    cases h with
    | tup hs ha =>
      cases r
      obtain ⟨its, rv, ⟨o, ho, hc, n, hd⟩, _⟩ := I.tuple hs
      obtain ⟨as, hr⟩ := Dp.readsAll I ds _ its ha rv
      exact ⟨_, Reads.tuple ho hc hd hr⟩
  | .dict _, _, _, h, _ => by cases h
theorem Dp.readsAll (I : Inv X pins σ H s) : ∀ (ds : List PyData) (vs : List V) (us : List Value), DpAll X.K H vs ds → Vals vs us → ∃ as, ReadsAll s.heap us ds as
  | [], _, _, h, r => by
    cases h
    cases r
    exact ⟨_, ReadsAll.nil⟩
  | d :: ds, _, _, h, r => by
    cases h with
    | cons h1 h2 =>
      cases r with
      | cons r1 r2 =>
        obtain ⟨as, q1⟩ := Dp.reads I d _ _ h1 r1
        obtain ⟨bs, q2⟩ := Dp.readsAll I ds _ _ h2 r2
        exact ⟨_, ReadsAll.cons q1 q2⟩
end
end
section
variable {X : Cx}
def rNeD (K : PySem.W.Frag) : R2 := fun x y H Q => ∃ d e, Dp K H x d ∧ Dp K H y e ∧ SeqAt.shaped d = true ∧ SeqAt.shaped e = true ∧ Q (.bl (!PyData.eqv d e)) H
theorem op_neD (hu : X.A.units + 64 < cLine) : OpR X (compareOp .NotEq) (rNeD X.K) := by
  intro pins s σ H x y v u Q I rx ry h
  obtain ⟨d, e, hd, he, sd, se, q⟩ := h
  obtain ⟨as, r1⟩ := Dp.reads I d x v hd rx
  obtain ⟨bs, r2⟩ := Dp.reads I e y u he ry
  exact SeqAt.compareNe_shaped r1 r2 sd se hu ⟨.bl _, H, I, rfl, q⟩
end
end L2
namespace L2
open PySem PySem.Spec PyProof.Rows
abbrev CellAt (h : Heap) (c : Addr) (v : Option Value) : Prop := h.IsCell c v
def relS (scope sc : Scope) : Scope :=
  { scope with names := scope.names.map fun (n, k) => if (k == .free && sc.kind == .function && sc.names.lookup n == some .cell) then (n, .cell) else (n, k) }
def cloFrom (cells : List (Str × Addr)) : List (Str × NameKind) → List (Str × Addr) → List (Str × Addr)
  | [], acc => acc
  | (n, k) :: r, acc => if k == .free then cloFrom cells r ((n, (cells.lookup n).getD 0) :: acc) else cloFrom cells r acc
theorem closure_loop (env : Env) (f : Str × NameKind → List (Str × Addr) → Sem (ForInStep (List (Str × Addr))))
    (hf : ∀ n k c, f (n, k) c = if k == .free then (do let a ← cellOf env n; pure (.yield ((n, a) :: c))) else pure (.yield c)) :
    ∀ (names : List (Str × NameKind)) (acc : List (Str × Addr)), (∀ y ∈ names, y.2 = .free → ∃ c, env.cells.lookup y.1 = some c) → forIn names acc f = pure (cloFrom env.cells names acc)
  | [], acc, _ => by rw [List.forIn_nil]; rfl
  | (n, k) :: r, acc, h => by
    rw [List.forIn_cons, hf]
    have ih := fun acc => closure_loop env f hf r acc fun y hy => h y (List.mem_cons_of_mem _ hy)
    unfold cloFrom
    by_cases hk : (k == NameKind.free) = true
    · rw [if_pos hk, if_pos hk]
      obtain ⟨c, hc⟩ := h (n, k) List.mem_cons_self (by simpa using hk)
      have e : cellOf env n = pure c := by unfold cellOf; rw [hc]
      rw [e]
      have e2 : (env.cells.lookup n).getD 0 = c := by rw [hc]; rfl
      rw [e2]
      exact ih _
    · rw [if_neg hk, if_neg hk]
      exact ih _
theorem closure_ok {scope : Scope} {env : Env} (h : ∀ y ∈ scope.names, y.2 = .free → ∃ c, env.cells.lookup y.1 = some c) : closureFor scope env = pure (cloFrom env.cells scope.names []) := by
  simp only [closureFor]
  rw [closure_loop env _ (fun n k c => rfl) scope.names [] h]
  rfl
theorem mem_lookup {α : Type} : ∀ {l : List (Str × α)} {n : Str} {c : α}, (n, c) ∈ l → ∃ c', l.lookup n = some c'
  | (k, v) :: r, n, c, h => by
    rw [List.lookup_cons]
    cases hb : n == k with
    | true => exact ⟨_, rfl⟩
    | false =>
      rcases List.mem_cons.mp h with e | h
      · cases e; simp at hb
      · exact mem_lookup h
theorem cloFrom_mem {cells : List (Str × Addr)} : ∀ {names : List (Str × NameKind)} {acc : List (Str × Addr)} {n : Str} {c : Addr}, (n, c) ∈ cloFrom cells names acc → (n, c) ∈ acc ∨ ((n, .free) ∈ names ∧ c = (cells.lookup n).getD 0)
  | [], _, _, _, h => .inl h
  | (m, k) :: r, acc, n, c, h => by
    unfold cloFrom at h
    split at h
    · rename_i hk
      have hk : k = .free := by simpa using hk
      rcases cloFrom_mem h with h | ⟨h1, h2⟩
      · rcases List.mem_cons.mp h with e | h
        · cases e; exact .inr ⟨hk ▸ List.mem_cons_self, rfl⟩
        · exact .inl h
      · exact .inr ⟨List.mem_cons_of_mem _ h1, h2⟩
    · rcases cloFrom_mem h with h | ⟨h1, h2⟩
      · exact .inl h
      · exact .inr ⟨List.mem_cons_of_mem _ h1, h2⟩
theorem cloFrom_acc {cells : List (Str × Addr)} : ∀ {names : List (Str × NameKind)} {acc : List (Str × Addr)} {p : Str × Addr}, p ∈ acc → p ∈ cloFrom cells names acc
  | [], _, _, h => h
  | (m, k) :: r, acc, p, h => by
    unfold cloFrom
    split
    · exact cloFrom_acc (List.mem_cons_of_mem _ h)
    · exact cloFrom_acc h
theorem cloFrom_has {cells : List (Str × Addr)} : ∀ {names : List (Str × NameKind)} {acc : List (Str × Addr)} {n : Str}, (n, .free) ∈ names → (n, (cells.lookup n).getD 0) ∈ cloFrom cells names acc
  | (m, k) :: r, acc, n, h => by
    unfold cloFrom
    rcases List.mem_cons.mp h with e | h
    · cases e
      exact cloFrom_acc List.mem_cons_self
    · split
      · exact cloFrom_has h
      · exact cloFrom_has h
theorem cells_mem : ∀ {names : List (Str × NameKind)} {h : Heap} {acc : List (Str × Addr)} {x : Str} {c : Addr}, (x, c) ∈ cellsFrom h.objs.size names acc →
    (x, c) ∈ acc ∨ ((x, .cell) ∈ names ∧ h.objs.size ≤ c ∧ CellAt (pushCells h names) c none)
  | [], _, _, _, _, h => .inl h
  | (n, k) :: r, h, acc, x, c, hm => by
    unfold cellsFrom at hm
    unfold pushCells
    split at hm
    · rename_i hk
      rw [if_pos hk]
      have hk : k = .cell := by simpa using hk
      rw [← Heap.size_push h { cls := .type "cell", data := .cell none }] at hm
      rcases cells_mem hm with hm | ⟨h1, h2, h3⟩
      · rcases List.mem_cons.mp hm with e | hm
        · cases e
          exact .inr ⟨hk ▸ List.mem_cons_self, Nat.le_refl _, _, pushCells_keeps r _ _ _ (Heap.get?_push_size _ rfl), rfl⟩
        · exact .inl hm
      · rw [Heap.size_push] at h2
        exact .inr ⟨List.mem_cons_of_mem _ h1, Nat.le_of_succ_le h2, h3⟩
    · rename_i hk
      rw [if_neg hk]
      rcases cells_mem hm with hm | ⟨h1, h2, h3⟩
      · exact .inl hm
      · exact .inr ⟨List.mem_cons_of_mem _ h1, h2, h3⟩
theorem cells_acc : ∀ {names : List (Str × NameKind)} {n : Nat} {acc : List (Str × Addr)} {p : Str × Addr}, p ∈ acc → p ∈ cellsFrom n names acc
  | [], _, _, _, h => h
  | (m, k) :: r, n, acc, p, h => by
    unfold cellsFrom
    split
    · exact cells_acc (List.mem_cons_of_mem _ h)
    · exact cells_acc h
theorem cells_has : ∀ {names : List (Str × NameKind)} {n : Nat} {acc : List (Str × Addr)} {x : Str}, (x, .cell) ∈ names → ∃ c, (x, c) ∈ cellsFrom n names acc
  | (m, k) :: r, n, acc, x, h => by
    unfold cellsFrom
    rcases List.mem_cons.mp h with e | h
    · cases e
      exact ⟨n, cells_acc List.mem_cons_self⟩
    · split
      · exact cells_has h
      · exact cells_has h
theorem cells_inj : ∀ {names : List (Str × NameKind)} {h : Heap} {acc : List (Str × Addr)} {x y : Str} {c : Addr}, (∀ p ∈ acc, p.2 < h.objs.size) → (∀ x y c, (x, c) ∈ acc → (y, c) ∈ acc → x = y) →
    (x, c) ∈ cellsFrom h.objs.size names acc → (y, c) ∈ cellsFrom h.objs.size names acc → x = y
  | [], _, _, _, _, _, _, hi, h1, h2 => hi _ _ _ h1 h2
  | (n, k) :: r, h, acc, x, y, c, hl, hi, h1, h2 => by
    unfold cellsFrom at h1 h2
    split at h1
    · rename_i hk
      rw [if_pos hk] at h2
      rw [← Heap.size_push h { cls := .type "cell", data := .cell none }] at h1 h2
      refine cells_inj (h := h.push _) (fun p hp => ?_) (fun x y c a b => ?_) h1 h2
      · rw [Heap.size_push]
        rcases List.mem_cons.mp hp with rfl | hp
        · exact Nat.lt_succ_self _
        · exact Nat.lt_succ_of_lt (hl p hp)
      · rcases List.mem_cons.mp a with e | a <;> rcases List.mem_cons.mp b with e' | b
        · cases e; cases e'; rfl
        · cases e; exact absurd (hl _ b) (Nat.lt_irrefl _)
        · cases e'; exact absurd (hl _ a) (Nat.lt_irrefl _)
        · exact hi _ _ _ a b
    · rename_i hk
      rw [if_neg hk] at h2
      exact cells_inj hl hi h1 h2
theorem newEnv_comp {M : Model} {A : Around} {E : Value → Shared → Prop} {s : Shared} {scope : Scope} {globals : Addr} {closure : List (Str × Addr)} {qual : Str} {func : Option Addr} {code : Value} {around : Env} {builtins : Addr} {Q : Env → Shared → Prop}
    (h : Q (newEnv scope s.heap.objs.size globals (cellsFrom (s.heap.objs.size + 1) scope.names closure) qual func code (some around) builtins)
      { s with heap := pushCells (s.heap.push { cls := .type "dict", data := .dict #[] }) scope.names }) :
    wpAny M A (newFunctionEnv scope globals closure [] qual func code (some around) builtins) Q E s := by
  simp only [newFunctionEnv, Option.isSome_some, if_true]
  refine wpAny_bind (wpAny_alloc ?_)
  refine wpAny_bind (wpAny_layCells _ (fun n k c => rfl) scope.names closure _ _ ?_)
  rw [show ({ s with heap := s.heap.push { cls := .type "dict", data := .dict #[] } } : Shared).heap.objs.size = s.heap.objs.size + 1 from Heap.size_push ..]
  rw [List.forIn_nil]
  exact wpAny_bind (wpAny_pure (wpAny_pure h))
theorem lookup_relS {sc : Scope} : ∀ {names : List (Str × NameKind)} {x : Str} {k : NameKind},
    (names.map fun (n, k) => if (k == NameKind.free && sc.kind == .function && sc.names.lookup n == some .cell) then (n, NameKind.cell) else (n, k)).lookup x = some k →
    ∃ k', names.lookup x = some k' ∧ (k = k' ∨ (k' = .free ∧ k = .cell))
  | [], _, _, h => by simp at h
  | (n, k₀) :: r, x, k, h => by
    have ih := @lookup_relS sc r x k
    have h' : List.lookup x ((if (k₀ == NameKind.free && sc.kind == .function && sc.names.lookup n == some .cell) = true then (n, NameKind.cell) else (n, k₀)) :: (r.map _)) = some k := h
    cases hx : x == n with
    | true =>
      simp only [List.lookup_cons, hx]
      by_cases hc : (k₀ == NameKind.free && sc.kind == .function && sc.names.lookup n == some .cell) = true
      · rw [if_pos hc] at h'
        simp only [List.lookup_cons, hx] at h'
        cases h'
        simp only [Bool.and_eq_true, beq_iff_eq] at hc
        exact ⟨k₀, rfl, .inr ⟨hc.1.1, rfl⟩⟩
      · rw [if_neg hc] at h'
        simp only [List.lookup_cons, hx] at h'
        cases h'
        exact ⟨_, rfl, .inl rfl⟩
    | false =>
      simp only [List.lookup_cons, hx]
      by_cases hc : (k₀ == NameKind.free && sc.kind == .function && sc.names.lookup n == some .cell) = true
      · rw [if_pos hc] at h'
        simp only [List.lookup_cons, hx] at h'
        exact ih h'
      · rw [if_neg hc] at h'
        simp only [List.lookup_cons, hx] at h'
        exact ih h'
structure BlkOk (N : List Str) (sc scope : Scope) (own : List (Str × Nat)) : Prop where
  kind : scope.kind = .function
  uniq : ∀ y ∈ scope.names, scope.names.lookup y.1 = some y.2
  ix : ∀ p ∈ own, N[p.2]? = some p.1
  free : ∀ y ∈ scope.names, y.2 = .free → sc.names.lookup y.1 = some .cell ∨ sc.names.lookup y.1 = some .free
  own : ∀ y ∈ scope.names, y.2 = .local ∨ y.2 = .cell → y.1 ∈ own.map (·.1) ∨ y.1 ∉ N
def wipe (σ : St) : List Nat → St
  | [] => σ
  | v :: vs => (wipe σ vs).set v none
theorem wipe_length (σ : St) : ∀ vs : List Nat, (wipe σ vs).length = σ.length
  | [] => rfl
  | v :: vs => by unfold wipe; rw [List.length_set, wipe_length σ vs]
theorem wipe_some {σ : St} {i : Nat} {x : V} : ∀ {vs : List Nat}, (wipe σ vs)[i]? = some (some x) → σ[i]? = some (some x) ∧ i ∉ vs
  | [], h => ⟨h, by simp⟩
  | v :: vs, h => by
    unfold wipe at h
    by_cases hi : v = i
    · subst hi
      by_cases hv : v < (wipe σ vs).length
      · rw [List.getElem?_set_self hv] at h; cases h
      · rw [List.getElem?_eq_none (by simpa using hv)] at h; cases h
    · rw [List.getElem?_set_ne hi] at h
      obtain ⟨h1, h2⟩ := wipe_some h
      exact ⟨h1, by simp only [List.mem_cons, not_or]; exact ⟨fun e => hi e.symm, h2⟩⟩
abbrev Cx.blk (X : Cx) (s : Shared) (H : Hp) (scope : Scope) (cenv : Env) (fp : List Addr) : Cx := { X with s_0 := s, H_0 := H, env := cenv, outer := X.stack, ex := fp, fn := fun x => scope.names.lookup x == some .cell, pn := [], xe := fun _ _ => False }
section
variable {X : Cx} {pins : List (Addr × Obj)} {σ : St} {H : Hp} {s : Shared}
theorem block_start {scope : Scope} {own : List (Str × Nat)} {fp : List Addr} (I : Inv X pins σ H s) (ok : BlkOk X.N X.env.scope scope own) (hN : X.N.Nodup) (hfp : ∀ b ∈ fp, FpOk X pins H b ∧ b < s.heap.objs.size) :
    Inv (X.blk s H scope (compEnvC scope (cellsFrom (s.heap.objs.size + 1) scope.names (cloFrom X.env.cells scope.names [])) s.heap.objs.size X.env) fp) [] (wipe σ (own.map (·.2))) H { s with heap := pushCells (s.heap.push { cls := .type "dict", data := .dict #[] }) scope.names } := by
  have hfree : ∀ y ∈ scope.names, y.2 = .free → ∃ c, X.env.cells.lookup y.1 = some c := fun y hy e => by
    rcases ok.free y hy e with k | k
    · exact I.ok.has _ (.inl k)
    · exact I.ok.has _ (.inr k)
  generalize hcenv : compEnvC scope (cellsFrom (s.heap.objs.size + 1) scope.names (cloFrom X.env.cells scope.names [])) s.heap.objs.size X.env = cenv
  have kp : ∀ b o, s.heap.get? b = some o → (pushCells (s.heap.push { cls := .type "dict", data := .dict #[] }) scope.names).get? b = some o := fun b o e => pushCells_keeps _ _ _ _ (Heap.get?_push_of_some _ e)
  have hL : cenv.locals = s.heap.objs.size := by rw [← hcenv]; rfl
  have hcl : cenv.cells = cellsFrom (s.heap.objs.size + 1) scope.names (cloFrom X.env.cells scope.names []) := by rw [← hcenv]; rfl
  have hsc : cenv.scope = relS scope X.env.scope := by rw [← hcenv]; rfl
  rw [← Heap.size_push s.heap { cls := .type "dict", data := .dict #[] }] at hcl
  have cm : ∀ {y c}, (y, c) ∈ cloFrom X.env.cells scope.names [] → X.env.cells.lookup y = some c ∧ c < s.heap.objs.size := fun {y c} hm => by
    rcases cloFrom_mem hm with hm | ⟨h1, rfl⟩
    · cases hm
    · obtain ⟨c, hc⟩ := hfree _ h1 rfl
      rw [hc]
      obtain ⟨w, z⟩ := I.cell _ _ hc
      exact ⟨rfl, z.lt⟩
  have mem : ∀ {y c}, cenv.cells.lookup y = some c → (X.env.cells.lookup y = some c ∧ c < s.heap.objs.size) ∨ (s.heap.objs.size + 1 ≤ c ∧ CellAt (pushCells (s.heap.push { cls := .type "dict", data := .dict #[] }) scope.names) c none) := fun {y c} e => by
    rw [hcl] at e
    rcases cells_mem (PySem.mem_of_lookup e) with hm | ⟨_, h2, h3⟩
    · exact .inl (cm hm)
    · rw [Heap.size_push] at h2; exact .inr ⟨h2, h3⟩
  have look : ∀ {y}, scope.names.lookup y = some .free → ∃ c, cenv.cells.lookup y = some c ∧ X.env.cells.lookup y = some c := fun {y} hl => by
    have hy : (y, NameKind.free) ∈ scope.names := PySem.mem_of_lookup hl
    obtain ⟨c', e'⟩ := mem_lookup (cells_acc (names := scope.names) (n := (s.heap.push { cls := .type "dict", data := .dict #[] }).objs.size) (cloFrom_has (cells := X.env.cells) (acc := []) hy))
    rw [← hcl] at e'
    refine ⟨c', e', ?_⟩
    rw [hcl] at e'
    rcases cells_mem (PySem.mem_of_lookup e') with hm | ⟨h1, _, _⟩
    · exact (cm hm).1
    · have := ok.uniq _ h1
      rw [hl] at this; cases this
  have okB : (X.blk s H scope cenv fp).Ok := by
    refine ⟨I.ok.mod, by show cenv.scope.kind = _; rw [hsc]; exact ok.kind, by show cenv.globals = _; rw [← hcenv]; exact I.ok.glob, by show cenv.builtins = _; rw [← hcenv]; exact I.ok.blt, by show s.heap.objs.size ≤ cenv.locals; rw [hL]; exact Nat.le_refl _,
      fun y z c e1 e2 => ?_, fun y hy => ?_, fun y c z e => ?_, I.ok.hd, I.ok.frames, .inl rfl, fun b hb => ⟨?_, fun y c e z => ?_⟩, I.bs, Nat.le_trans I.ok.bsz I.sz, fun b o e hb => ?_, fun b hb z => ?_, I.stack, I.stkFree⟩
    · have e1 : cenv.cells.lookup y = some c := e1
      have e2 : cenv.cells.lookup z = some c := e2
      rw [hcl] at e1 e2
      refine cells_inj (fun p hp => ?_) (fun y z c a b => I.ok.inj y z c (cm a).1 (cm b).1) (PySem.mem_of_lookup e1) (PySem.mem_of_lookup e2)
      rw [Heap.size_push]
      exact Nat.lt_succ_of_lt (cm (y := p.1) (c := p.2) hp).2
    · show ∃ c, cenv.cells.lookup y = some c
      have key : ∀ k, cenv.kindOf y = some k → (k = .cell ∨ k = .free) → ∃ c, cenv.cells.lookup y = some c := fun k hk hk' => by
        unfold Env.kindOf at hk
        rw [hsc] at hk
        obtain ⟨k', e, r⟩ := lookup_relS hk
        have : k' = .cell ∨ k' = .free := by
          rcases r with rfl | ⟨rfl, _⟩
          · exact hk'
          · exact .inr rfl
        rcases this with rfl | rfl
        · obtain ⟨c, hm⟩ := cells_has (n := (s.heap.push { cls := .type "dict", data := .dict #[] }).objs.size) (acc := cloFrom X.env.cells scope.names []) (PySem.mem_of_lookup e)
          obtain ⟨c', e'⟩ := mem_lookup hm
          exact ⟨c', by rw [hcl]; exact e'⟩
        · obtain ⟨c, h1, _⟩ := look e
          exact ⟨c, h1⟩
      rcases hy with hy | hy
      · exact key _ hy (.inl rfl)
      · exact key _ hy (.inr rfl)
    · have z : (scope.names.lookup y == some NameKind.cell) = true := z
      have z : scope.names.lookup y = some .cell := by simpa using z
      have e : cenv.cells.lookup y = some c := e
      rw [hcl] at e
      rcases cells_mem (PySem.mem_of_lookup e) with hm | ⟨_, h2, _⟩
      · rcases cloFrom_mem hm with hm | ⟨h1, _⟩
        · cases hm
        · have q := ok.uniq _ h1
          rw [z] at q; cases q
      · rw [Heap.size_push] at h2
        exact Nat.le_of_succ_le h2
    · show b ≠ cenv.locals
      rw [hL]; exact Nat.ne_of_lt (hfp b hb).2
    · have e : cenv.cells.lookup y = some c := e
      rcases mem e with ⟨h1, _⟩ | ⟨h1, _⟩
      · exact (hfp b hb).1.2.2.2.2.1 y c h1 z
      · have h2 : s.heap.objs.size + 1 ≤ b := by rw [← z]; exact h1
        exact absurd (Nat.lt_of_lt_of_le (hfp b hb).2 (Nat.le_of_succ_le h2)) (Nat.lt_irrefl _)
    · rcases (hfp b hb).1.2.2.2.1 with z | z
      · exact I.ok.noex b o e z
      · exact absurd (Nat.lt_of_lt_of_le (Heap.lt_size e) (Nat.le_trans I.ok.bsz z)) (Nat.lt_irrefl _)
    · rcases List.mem_cons.mp (I.stkSub b z) with z | z
      · exact (hfp b hb).1.2.1 z
      · exact (hfp b hb).1.2.2.1 z
  refine ⟨okB, rfl, I.bare, Un.kept kp, ⟨fun _ => none, ?_, fun i y av e1 e2 e3 => ?_⟩, fun y c e => ?_, ?_, fun y c e => ?_, fun p hp => ?_, I.hok.kept kp, by rw [wipe_length]; exact I.len⟩
  · show Heap.Ns _ cenv.locals _
    rw [hL]
    exact Heap.Ns.keeps (Heap.Ns.new ..) fun b o e => pushCells_keeps _ _ _ _ e
  · obtain ⟨e2, hne⟩ := wipe_some e2
    have hfr : scope.names.lookup y = some .free ∧ (cenv.kindOf y = some .cell ∨ cenv.kindOf y = some .free) := by
      have key : ∀ k, cenv.scope.names.lookup y = some k → k = .local ∨ k = .cell ∨ k = .free → scope.names.lookup y = some .free ∧ (cenv.kindOf y = some .cell ∨ cenv.kindOf y = some .free) := fun k hk hk' => by
        have hk0 := hk
        rw [hsc] at hk
        obtain ⟨k', e, r⟩ := lookup_relS hk
        have no : ¬ (k' = .local ∨ k' = .cell) := fun hh => by
          rcases ok.own _ (PySem.mem_of_lookup e) hh with e' | e'
          · obtain ⟨p, hp, hpy⟩ := List.mem_map.mp e'
            have e3 := ok.ix p hp
            have : p.1 = y := hpy
            rw [this] at e3
            exact hne (List.mem_map.mpr ⟨p, hp, nodup_ix hN e3 e1⟩)
          · exact e' (List.mem_of_getElem? e1)
        rcases r with rfl | ⟨rfl, rfl⟩
        · rcases hk' with rfl | rfl | rfl
          · exact absurd (.inl rfl) no
          · exact absurd (.inr rfl) no
          · exact ⟨e, .inr hk0⟩
        · exact ⟨e, .inl hk0⟩
      have e3 : Vis cenv.scope y := e3
      rcases e3 with e3 | e3 | e3
      · exact key _ e3 (.inl rfl)
      · exact key _ e3 (.inr (.inl rfl))
      · exact key _ e3 (.inr (.inr rfl))
    obtain ⟨m, hn, hl⟩ := I.loc
    have hvis : Vis X.env.scope y := (ok.free _ (PySem.mem_of_lookup hfr.1) rfl).elim (fun k => .inr (.inl k)) (fun k => .inr (.inr k))
    obtain ⟨w, r, q⟩ := hl i y av e1 e2 hvis
    refine ⟨w, r, .inr ⟨hfr.2, ?_⟩⟩
    obtain ⟨c, h1, h2⟩ := look hfr.1
    rcases q with ⟨k, _⟩ | ⟨_, c', e', z⟩
    · have k : X.env.scope.names.lookup y = some .local := k
      rcases ok.free _ (PySem.mem_of_lookup hfr.1) rfl with k' | k' <;> rw [show X.env.scope.names.lookup y = _ from k'] at k <;> cases k
    · rw [h2] at e'; cases e'
      exact ⟨c, h1, z.keeps kp⟩
  · have e : cenv.cells.lookup y = some c := e
    rcases mem e with ⟨h1, _⟩ | ⟨_, z⟩
    · obtain ⟨w, z⟩ := I.cell y c h1
      exact ⟨w, z.keeps kp⟩
    · exact ⟨_, z⟩
  · show H cenv.locals = none
    rw [hL]; exact I.hok.fresh (Nat.le_refl _)
  · have e : cenv.cells.lookup y = some c := e
    rcases mem e with ⟨h1, _⟩ | ⟨h1, _⟩
    · exact I.freeC y c h1
    · exact I.hok.fresh (Nat.le_of_succ_le h1)
  · exact absurd (show p ∈ ([] : List (Addr × Obj)) ++ [] from hp) (by simp)
theorem app_ok {E : Value → Shared → Prop} {D : Addr} {xs : List V} {y : V} {v : Value} {Q : Value → Shared → Prop} (I : Inv X pins σ H s) (hD : H D = some (.lst xs)) (hz : xs.length < sizeLine) (r : RelV y v)
    (h : ∀ s', Inv X pins σ (upd H D (.lst (xs ++ [y]))) s' → Q .none s') : wpAny (model X.prog X.w) X.A (call (.builtin "list.append") [.ref D, v]) Q E s := by
  obtain ⟨hz', its, n, ri, e⟩ := I.hok D _ hD
  have hl := ri.length
  refine append_at (hsz := by rw [List.size_toArray]; omega) e fun h' sb ho' => ?_
  refine h { s with heap := h' } (I.write (t' := s.toks) (by rw [hD]; trivial) (.inl rfl) (fun b u hb q => (sb.2 b hb).trans q) ⟨_, ho'⟩ ⟨by rw [List.length_append]; exact hz, its ++ [v], n + 1, ri.append (.cons r .nil), ?_⟩)
  rw [ho']
  simp
def PTs (X : Cx) (ifs : List Expr) (t : TT) : Prop :=
  ∀ (pins : List (Addr × Obj)) (s : Shared) (σ : St) (H : Hp) (Q : Bool → Hp → Prop), Inv X pins σ H s → t σ H Q →
    wpAny (model X.prog X.w) X.A (forIn ifs true fun c r => if r = true then do let ok ← isTrue c X.env (eval c X.env); pure (ForInStep.yield ok) else pure (ForInStep.yield r)) (TP X pins σ Q) X.xe s
def tYes : TT := fun _ H Q => Q true H
theorem pts_nil : PTs X [] tYes := fun _ _ _ H _ I h => wpAny_tests_nil ⟨H, I, h⟩
theorem pts_one {c : Expr} {t : TT} (h : PT X c t) : PTs X [c] t := fun pins s σ H Q I hw => wpAny_tests_one (h pins s σ H Q I hw)
end
theorem thnF {α : Type} {t : Sem α} {Q Q' : α → Shared → Prop} {M : Model} {A : Around} {E : Value → Shared → Prop} {s : Shared} (h : wpAny M A t Q (fun _ _ => False) s) (hQ : ∀ a s, Q a s → Q' a s) : wpAny M A t Q' E s := wpAny_mono h hQ fun _ _ z => False.elim z
theorem compLoop_any {prog : Program} {w : World} {A : Around} {R : Result → Shared → Prop} {s : Shared} {elt target iter : Expr} {ifs : List Expr} {scope : Scope} {pos : Pos} {it acc : Value} {env : Env} (I : Nat → Shared → Prop)
    (turn : ∀ n s, I n s → wpAny (model prog w) A (pyNext it) (fun r s₁ => match r with
      | none => R (.ok .next) s₁
      | some v => wpAny (model prog w) A (letOwnedTupleGo target it v) (fun _ s₁' => wpAny (model prog w) A (assign target env v) (fun _ s₂ =>
          wpAny (model prog w) A (forIn ifs true fun c r => if r = true then do let ok ← isTrue c env (eval c env); pure (ForInStep.yield ok) else pure (ForInStep.yield r)) (fun ok s₃ =>
            if ok = true then wpAny (model prog w) A (eval elt env) (fun x s₄ =>
              wpAny (model prog w) A (call (.builtin "list.append") [acc, x]) (fun _ s₅ => ∃ m, m < n ∧ I m s₅) (notedBy (model prog w) A env fun e s' => R (.error e) s') s₄) (notedBy (model prog w) A env fun e s' => R (.error e) s') s₃
            else ∃ m, m < n ∧ I m s₃) (notedBy (model prog w) A env fun e s' => R (.error e) s') s₂) (notedBy (model prog w) A env fun e s' => R (.error e) s') s₁') (notedBy (model prog w) A env fun e s' => R (.error e) s') s₁) (notedBy (model prog w) A env fun e s' => R (.error e) s') s)
    (n : Nat) (h : I n s) :
    codeAny (model prog w) A (.compLoop (.ListComp elt [⟨target, iter, ifs, 0⟩] scope pos) 0 it acc env) R s := by
  refine codeAny_loop rfl I (fun n s hI => ?_) n h
  show wpAny _ A ((compTurn (.ListComp elt [⟨target, iter, ifs, 0⟩] scope pos) 0 it acc env).onRaise (fun x => do noteFrame x env; theTreesLotGoes x)) _ _ s
  refine wpAny_noted ?_
  rw [compTurn_list]
  refine wpAny_bind (wpAny_standAt (wpAny_bind (wpAny_mono (turn n s hI) (fun r s₁ h₁ => ?_) fun _ _ h' => h')))
  cases r with
  | none => exact wpAny_pure h₁
  | some v =>
    refine wpAny_bind (wpAny_mono h₁ (fun _ s₁' h₁' => ?_) fun _ _ h' => h')
    refine wpAny_bind (wpAny_mono h₁' (fun _ s₂ h₂ => wpAny_bind (wpAny_mono h₂ (fun ok s₃ h₃ => ?_) fun _ _ h' => h')) fun _ _ h' => h')
    cases ok with
    | false => exact wpAny_pure ⟨rfl, h₃⟩
    | true =>
      exact wpAny_bind (wpAny_bind (wpAny_mono h₃ (fun x s₄ h₄ => wpAny_bind (wpAny_mono h₄ (fun _ s₅ h₅ => wpAny_pure (wpAny_pure ⟨rfl, h₅⟩)) fun _ _ h' => h')) fun _ _ h' => h'))
section
variable {X : Cx}
def tLc (wi : TI) (g : TG) (tt : TT) (te : TE) (vs : List Nat) : TE := fun σ H Q => wi σ H fun J H1 => ∀ D, H1 D = none → ∃ W : Nat → Nat → Hp → Prop, (∃ m, W 0 m (upd H1 D (.lst []))) ∧ ∀ i m H, W i m H →
  (J.stop i H ∧ Q (.ref D) H) ∨ (J.go i H ∧ ∃ Nx : Hp → Prop, (∀ H', Nx H' → ∃ m', m' < m ∧ W (i + 1) m' H') ∧ ∀ x H', J.yld i H x H' → g x (wipe σ vs) H' fun σ2 H2 => wipe σ2 vs = wipe σ vs ∧ tt σ2 H2 fun b H3 =>
    if b = true then te σ2 H3 fun y H4 => ∃ acc, H4 D = some (.lst acc) ∧ acc.length < sizeLine ∧ Nx (upd H4 D (.lst (acc ++ [y]))) else Nx H3)
theorem lc_core {pins : List (Addr × Obj)} {s : Shared} {σ : St} {H : Hp} {Q : VK} {elt tg iter : Expr} {ifs : List Expr} {scope : Scope} {own : List (Str × Nat)} {pos pos' : Pos} {wi : TI} {g : TG} {tt : TT} {te : TE} {use : Option (Value → Sem Unit)} {Qf : Value → Shared → Prop}
    (hc : X.calm = true) (hN : X.N.Nodup) (I : Inv X pins σ H s) (hi : PI X tg iter wi) (ok : BlkOk X.N X.env.scope scope own)
    (hg : ∀ (s : Shared) (H : Hp) (C : Addr) (cl : List (Str × Addr)) (fp : List Addr), PG (X.blk s H scope (compEnvC scope cl C X.env) fp) tg g) (ht : ∀ (s : Shared) (H : Hp) (C : Addr) (cl : List (Str × Addr)) (fp : List Addr), PTs (X.blk s H scope (compEnvC scope cl C X.env) fp) ifs tt)
    (he : ∀ (s : Shared) (H : Hp) (C : Addr) (cl : List (Str × Addr)) (fp : List Addr), PE (X.blk s H scope (compEnvC scope cl C X.env) fp) elt te) (hs : ∀ x, foldedSetIterable iter X.env x = pure x)
    (h : tLc wi g tt te (own.map (·.2)) σ H Q)
    (hRR : ∀ D C s' m H', Inv X pins σ H' s' → Q (.ref D) H' → s'.heap.Ns C m → FpOk X pins H' C → compPost (model X.prog X.w) X.A X.xe use Qf (.ref D) C (.ok .next) s') :
    wpAny (model X.prog X.w) X.A (comprehension (.ListComp elt [⟨tg, iter, ifs, 0⟩] scope pos) scope X.env pos' (newList []) false (eval iter X.env) use) Qf X.xe s := by
  have hfree : ∀ y ∈ scope.names, y.2 = .free → ∃ c, X.env.cells.lookup y.1 = some c := fun y hy e => by
    rcases ok.free y hy e with k | k
    · exact I.ok.has _ (.inl k)
    · exact I.ok.has _ (.inr k)
  refine wpAny_comprehension_free (use := use) rfl hs (closure_ok hfree) ok.kind (fun y hy e => by rw [ok.uniq y hy, e])
    (thn (hi pins s σ H _ I h) fun xv s1 hx => thn hx fun itv s2 h2 => ?_)
  obtain ⟨it, fp, tn, J, H2, e, I2, T, st2, f2, q⟩ := h2
  subst e
  refine wpAny_newObj_type (newEnv_comp ?_) (by show 0 ≤ sizeLine; decide)
  generalize hD : s2.heap.objs.size = D
  have hDn : H2 D = none := I2.hok.fresh (Nat.le_of_eq hD)
  obtain ⟨W, ⟨m0, w0⟩, turn⟩ := q D hDn
  -- the new list
  generalize hs3 : ({ s2 with heap := s2.heap.push { cls := .type "list", data := .seq ([] : List Value).toArray } } : Shared) = s3
  have I3 : Inv X pins σ (upd H2 D (.lst [])) s3 := by
    rw [← hs3]
    refine I2.laid (t' := s2.toks) (fun b o e => Heap.get?_push_of_some _ e) (Nat.le_of_eq hD) ⟨Nat.zero_le _, [], 0, .nil, ?_⟩
    rw [← hD]
    exact Heap.get?_push_size _ rfl
  have h3 : s3.heap = s2.heap.push { cls := .type "list", data := .seq ([] : List Value).toArray } := by rw [← hs3]
  have sz : ∀ b ∈ fp, b < s2.heap.objs.size := fun b hb => by
    obtain ⟨o, e, _⟩ := T.obj _ _ st2 b hb
    exact Heap.lt_size e
  have f3 : ∀ b ∈ fp, FpOk X pins (upd H2 D (.lst [])) b ∧ b < s3.heap.objs.size := fun b hb => by
    have hlt := sz b hb
    refine ⟨⟨?_, (f2 b hb).2⟩, by rw [h3, Heap.size_push]; exact Nat.lt_succ_of_lt hlt⟩
    rw [upd_ne (by rw [← hD]; exact Nat.ne_of_lt hlt)]
    exact (f2 b hb).1
  have st3 : tn 0 s3.heap := T.keep _ _ _ st2 fun b _ o e => by rw [h3]; exact Heap.get?_push_of_some _ e
  have I4 := block_start I3 ok hN f3
  have pg := hg s3 (upd H2 D (.lst [])) s3.heap.objs.size (cellsFrom (s3.heap.objs.size + 1) scope.names (cloFrom X.env.cells scope.names [])) fp
  have pt := ht s3 (upd H2 D (.lst [])) s3.heap.objs.size (cellsFrom (s3.heap.objs.size + 1) scope.names (cloFrom X.env.cells scope.names [])) fp
  have pe := he s3 (upd H2 D (.lst [])) s3.heap.objs.size (cellsFrom (s3.heap.objs.size + 1) scope.names (cloFrom X.env.cells scope.names [])) fp
  show codeAny _ _ (.compStart (.ListComp elt [⟨tg, iter, ifs, 0⟩] scope pos) 0 (.ref it) (.ref D) (compEnvC scope (cellsFrom (s3.heap.objs.size + 1) scope.names (cloFrom X.env.cells scope.names [])) s3.heap.objs.size X.env)) (compPost (model X.prog X.w) X.A X.xe use Qf (.ref D) s3.heap.objs.size) { s3 with heap := pushCells (s3.heap.push { cls := .type "dict", data := .dict #[] }) scope.names }
  have nfp : ∀ b ∈ fp, (upd H2 D (.lst [])) b = none := fun b hb => (f3 b hb).1.1
  generalize hce : compEnvC scope (cellsFrom (s3.heap.objs.size + 1) scope.names (cloFrom X.env.cells scope.names [])) s3.heap.objs.size X.env = ce at I4 pg pt pe ⊢
  have cL : ce.locals = s3.heap.objs.size := by subst hce; rfl
  generalize hH3 : upd H2 D (.lst []) = H3 at I3 I4 pg pt pe w0 nfp f3
  generalize hs4 : ({ s3 with heap := pushCells (s3.heap.push { cls := .type "dict", data := .dict #[] }) scope.names } : Shared) = s4 at I4 ⊢
  have st4 : tn 0 s4.heap := T.keep _ _ _ st3 fun b _ o e => by rw [← hs4]; exact pushCells_keeps _ _ _ _ (Heap.get?_push_of_some _ e)
  have stat : ∀ {σ' : St} {H' : Hp} {s' : Shared}, Inv (X.blk s3 H3 scope ce fp) [] σ' H' s' → (∀ b ∈ fp, H' b = none) → ∀ b ∈ fp, FpOk (X.blk s3 H3 scope ce fp) [] H' b := fun {σ' H' s'} I' hn b hb =>
    ⟨hn b hb, (I'.ok.exf b hb).1, I'.ok.exfs b hb, .inl hb, fun x c e => (I'.ok.exf b hb).2 x c e, fun p hp => absurd (show p ∈ ([] : List (Addr × Obj)) ++ [] from hp) (by simp)⟩
  have loop : codeAny (model X.prog X.w) X.A (.compLoop (.ListComp elt [⟨tg, iter, ifs, 0⟩] scope pos) 0 (.ref it) (.ref D) ce) (compPost (model X.prog X.w) X.A X.xe use Qf (.ref D) s3.heap.objs.size) s4 := by
    refine compLoop_any (fun n s' => ∃ i H', Inv (X.blk s3 H3 scope ce fp) [] (wipe σ (own.map (·.2))) H' s' ∧ tn i s'.heap ∧ (∀ b ∈ fp, H' b = none) ∧ W i n H') ?_ m0 ⟨0, H3, I4, st4, nfp, w0⟩
    rintro n s5 ⟨i, H5, I5, st5, n5, w5⟩
    rcases turn i n H5 w5 with ⟨stop, qq⟩ | ⟨go, Nx, hNx, step⟩
    · have td := T.done (X.blk s3 H3 scope ce fp) rfl rfl rfl hc i [] s5 _ H5 (fun _ _ => False) I5 (stat I5 n5) st5 stop
      refine thnF td fun r s6 ⟨hr, I6⟩ => ?_
      subst hr
      -- back in the def's context
      have I7 : Inv X pins σ H5 s6 := I3.call' (ch := fp) I6.os I6.base I6.hok I6.bare fun b hb => ⟨(f3 b hb).1.2.2.2.1, (f3 b hb).1.2.1, (f3 b hb).1.2.2.2.2.1, (f3 b hb).1.2.2.2.2.2⟩
      have nC : H5 s3.heap.objs.size = none := by
        have z : H5 ce.locals = none := I6.free
        rw [cL] at z
        exact z
      obtain ⟨m, hn, _⟩ := I6.loc
      have hn : s6.heap.Ns ce.locals m := hn
      rw [cL] at hn
      exact hRR D s3.heap.objs.size s6 m H5 I7 qq hn (I3.fpOk (Nat.le_refl _) nC)
    · have ti := T.item (X.blk s3 H3 scope ce fp) rfl rfl rfl hc i [] s5 _ H5 (fun _ _ => False) I5 (stat I5 n5) st5 go
      refine thnF ti fun r s6 ⟨u, hr, h6⟩ => ?_
      subst hr
      refine thnF h6 fun _ s7 ⟨x, H7, I7, r7, y7, st7, n7⟩ => ?_
      have I7' := I7.pinned (stat I7 n7) (T.obj _ _ st7)
      refine thnF (pg _ s7 _ H7 x u _ I7' r7 (step x H7 y7)) fun _ s8 ⟨σ8, H8, I8, hw8, q8⟩ => ?_
      refine thnF (pt _ s8 σ8 H8 _ I8 q8) fun b s9 ⟨H9, I9, q9⟩ => ?_
      -- the turn's end
      have fin : ∀ {s' : Shared} {H' : Hp}, Inv (X.blk s3 H3 scope ce fp) ([] ++ pinsAt fp s7.heap) σ8 H' s' → Nx H' → ∃ m, m < n ∧ ∃ i H', Inv (X.blk s3 H3 scope ce fp) [] (wipe σ (own.map (·.2))) H' s' ∧ tn i s'.heap ∧ (∀ b ∈ fp, H' b = none) ∧ W i m H' := fun {s' H'} I' nx => by
        obtain ⟨m', hm, w'⟩ := hNx H' nx
        have pin' : ∀ b ∈ fp, ∀ o, s7.heap.get? b = some o → s'.heap.get? b = some o ∧ H' b = none := fun b hb o e =>
          let z := I'.pin (b, o) (List.mem_append_right _ (List.mem_append_right _ (mem_pinsAt hb e)))
          ⟨z.1, z.2.1⟩
        have hl : (wipe σ (own.map (·.2))).length = σ8.length := by rw [← hw8, wipe_length]
        refine ⟨m', hm, i + 1, H', (I'.unpinned (pins := [])).weak hl (fun j v e => ?_), T.keep _ _ _ st7 fun b hb o e => (pin' b hb o e).1, fun b hb => ?_, w'⟩
        · rw [← hw8] at e
          exact (wipe_some e).1
        · obtain ⟨o, e, _⟩ := T.obj _ _ st7 b hb
          exact (pin' b hb o e).2
      cases b with
      | false =>
        simp only [Bool.false_eq_true, if_false] at q9 ⊢
        exact fin I9 q9
      | true =>
        simp only [if_true] at q9 ⊢
        refine thnF (pe _ s9 σ8 H9 _ I9 q9) fun z s10 ⟨yv, H10, I10, r10, acc, hD10, hz10, nx⟩ => ?_
        exact app_ok (X := X.blk s3 H3 scope ce fp) I10 hD10 hz10 r10 fun s11 I11 => fin I11 nx
  exact codeAny_compStart_list loop (T.self X.A 0 _ _ _ st4 loop)
theorem pe_lc {elt tg iter : Expr} {ifs : List Expr} {scope : Scope} {own : List (Str × Nat)} {pos : Pos} {wi : TI} {g : TG} {tt : TT} {te : TE} (hc : X.calm = true) (hN : X.N.Nodup) (hi : PI X tg iter wi) (ok : BlkOk X.N X.env.scope scope own)
    (hg : ∀ (s : Shared) (H : Hp) (C : Addr) (cl : List (Str × Addr)) (fp : List Addr), PG (X.blk s H scope (compEnvC scope cl C X.env) fp) tg g) (ht : ∀ (s : Shared) (H : Hp) (C : Addr) (cl : List (Str × Addr)) (fp : List Addr), PTs (X.blk s H scope (compEnvC scope cl C X.env) fp) ifs tt)
    (he : ∀ (s : Shared) (H : Hp) (C : Addr) (cl : List (Str × Addr)) (fp : List Addr), PE (X.blk s H scope (compEnvC scope cl C X.env) fp) elt te) (hs : ∀ x, foldedSetIterable iter X.env x = pure x := by intro _; rfl) :
    PE X (.ListComp elt [⟨tg, iter, ifs, 0⟩] scope pos) (tLc wi g tt te (own.map (·.2))) := by
  intro pins s σ H Q I h
  rw [eval_ListComp]
  refine lc_core hc hN I hi ok hg ht he hs h fun D C s' m H' I' q hn f => ⟨m, hn, fun h'' sb => ?_⟩
  obtain ⟨f0, f1, f2, f3, f4, f5⟩ := f
  exact ⟨.ref D, H', I'.turned (t' := s'.toks) (fun b o hb e => (sb.2 b hb).trans e) f0 f1 f3 f4 f5, rfl, q⟩
theorem ps_setLc {i : Nat} {y : Str} {py : Pos} {elt tg iter : Expr} {ifs : List Expr} {scope : Scope} {own : List (Str × Nat)} {pos spos : Pos} {wi : TI} {g : TG} {tt : TT} {te : TE} (hc : X.calm = true) (hN : X.N.Nodup) (hy : X.N[i]? = some y) (hyl : X.env.scope.names.lookup y = some .local)
    (hsw : swapsWith (.ListComp elt [⟨tg, iter, ifs, 0⟩] scope pos) (some (.Name y py)) spos.line X.env = pure true) (hi : PI X tg iter wi) (ok : BlkOk X.N X.env.scope scope own)
    (hg : ∀ (s : Shared) (H : Hp) (C : Addr) (cl : List (Str × Addr)) (fp : List Addr), PG (X.blk s H scope (compEnvC scope cl C X.env) fp) tg g) (ht : ∀ (s : Shared) (H : Hp) (C : Addr) (cl : List (Str × Addr)) (fp : List Addr), PTs (X.blk s H scope (compEnvC scope cl C X.env) fp) ifs tt)
    (he : ∀ (s : Shared) (H : Hp) (C : Addr) (cl : List (Str × Addr)) (fp : List Addr), PE (X.blk s H scope (compEnvC scope cl C X.env) fp) elt te) (hs : ∀ x, foldedSetIterable iter X.env x = pure x := by intro _; rfl) :
    PS X (.Assign [.Name y py] (.ListComp elt [⟨tg, iter, ifs, 0⟩] scope pos) spos) (tAsg (tLc wi g tt te (own.map (·.2))) (gName i)) := by
  intro pins s σ H D I h
  rw [exec_Assign_Name_used _ _ _ _ hsw]
  refine wpAny_bind (wpAny_standAt (wpAny_bind ?_))
  show wpAny _ X.A (do let _ ← comprehension (.ListComp elt [⟨tg, iter, ifs, 0⟩] scope pos) scope X.env (firstIterPos [⟨tg, iter, ifs, 0⟩] pos) (newList []) false (eval iter X.env) (some (assign (.Name y py) X.env))) _ _ s
  have h : tLc wi g tt te (own.map (·.2)) σ H (fun x H1 => gName i x σ H1 D.nx) := h
  refine wpAny_bind (thn (lc_core (Qf := fun _ s' => SP X pins D .next s') hc hN I hi ok hg ht he hs h fun L C s' m H' I' q hn f => ?_) fun _ s' hq => wpAny_pure (wpAny_pure hq))
  show wpAny _ _ (assign (.Name y py) X.env (.ref L)) _ _ _
  refine wpAny_assign_Name (store_ok2 (v := V.ref L) I' hN hy (.inl hyl) rfl (fun s2 I2 ⟨a, sb, ha⟩ => ?_) (.inr hyl))
  obtain ⟨f0, f1, f2, f3, f4, f5⟩ := f
  have haC : C ≠ a := by
    rcases ha with z | z
    · rw [z]; exact f1
    · exact fun e => f4 y a z e.symm
  refine ⟨m, hn.sameBut sb haC, fun h3 sb3 => ?_⟩
  exact ⟨_, H', I2.turned (t' := s2.toks) (fun b o hb e => (sb3.2 b hb).trans e) f0 f1 f3 f4 f5, q⟩
theorem sw_true {elt : Expr} {gs : List Comprehension} {scope : Scope} {pos py : Pos} {y : Str} {l : Nat} {env : Env} (hk : env.scope.kind = .function) (hy : env.scope.names.lookup y = some .local) (hl : (py.line == pos.line) = true)
    (ha : (scope.names.any fun (n, k) => n == y && (k == .local || k == .cell)) = false) : swapsWith (.ListComp elt gs scope pos) (some (.Name y py)) l env = pure true := by
  have ky : env.kindOf y = some .local := hy
  have hb : env.blockKind = .function := by unfold Env.blockKind; rw [hk]; rfl
  unfold swapsWith
  simp only [hb, ky, ha, Expr.pos, hl]
  rfl
end
theorem lc_range {lo : Int} {n : Nat} {g : TG} {tt : TT} {te : TE} {vs : List Nat} {σ : St} {H1 : Hp} {D : Addr} {Qd : Hp → Prop} (Pv : Nat → Hp → Prop) (h0 : Pv 0 (upd H1 D (.lst [])))
    (hs : ∀ i H, i < n → Pv i H → g (.int (lo + i)) (wipe σ vs) H fun σ2 H2 => wipe σ2 vs = wipe σ vs ∧ tt σ2 H2 fun b H3 =>
      if b = true then te σ2 H3 fun y H4 => ∃ acc, H4 D = some (.lst acc) ∧ acc.length < sizeLine ∧ Pv (i + 1) (upd H4 D (.lst (acc ++ [y]))) else Pv (i + 1) H3) (hd : ∀ H, Pv n H → Qd H) :
    ∃ W : Nat → Nat → Hp → Prop, (∃ m, W 0 m (upd H1 D (.lst []))) ∧ ∀ i m H, W i m H →
      ((Itr lo n).stop i H ∧ Qd H) ∨ ((Itr lo n).go i H ∧ ∃ Nx : Hp → Prop, (∀ H', Nx H' → ∃ m', m' < m ∧ W (i + 1) m' H') ∧ ∀ x H', (Itr lo n).yld i H x H' → g x (wipe σ vs) H' fun σ2 H2 => wipe σ2 vs = wipe σ vs ∧ tt σ2 H2 fun b H3 =>
        if b = true then te σ2 H3 fun y H4 => ∃ acc, H4 D = some (.lst acc) ∧ acc.length < sizeLine ∧ Nx (upd H4 D (.lst (acc ++ [y]))) else Nx H3) := by
  refine ⟨fun i m H => m = n - i ∧ i ≤ n ∧ Pv i H, ⟨n, by simp, Nat.zero_le _, h0⟩, ?_⟩
  rintro i m H ⟨rfl, hi, p⟩
  by_cases hlt : i < n
  · refine .inr ⟨hlt, Pv (i + 1), fun H' p' => ⟨n - (i + 1), by omega, rfl, hlt, p'⟩, fun x H' y => ?_⟩
    obtain ⟨e, y⟩ := y
    subst e y
    exact hs i _ hlt p
  · have e : i = n := by omega
    subst e
    exact .inl ⟨Nat.le_refl _, hd H p⟩
theorem lc_list {K : PySem.W.Frag} {a : Addr} {xs : List V} {g : TG} {tt : TT} {te : TE} {vs : List Nat} {σ : St} {H1 : Hp} {D : Addr} {Qd : Hp → Prop} (Pv : Nat → Hp → Prop) (h0 : Pv 0 (upd H1 D (.lst []))) (hl : ∀ i H, i ≤ xs.length → Pv i H → SqL K H a xs)
    (hs : ∀ i x H, xs[i]? = some x → Pv i H → g x (wipe σ vs) H fun σ2 H2 => wipe σ2 vs = wipe σ vs ∧ tt σ2 H2 fun b H3 =>
      if b = true then te σ2 H3 fun y H4 => ∃ acc, H4 D = some (.lst acc) ∧ acc.length < sizeLine ∧ Pv (i + 1) (upd H4 D (.lst (acc ++ [y]))) else Pv (i + 1) H3) (hd : ∀ H, Pv xs.length H → Qd H) :
    ∃ W : Nat → Nat → Hp → Prop, (∃ m, W 0 m (upd H1 D (.lst []))) ∧ ∀ i m H, W i m H →
      ((Itl K a).stop i H ∧ Qd H) ∨ ((Itl K a).go i H ∧ ∃ Nx : Hp → Prop, (∀ H', Nx H' → ∃ m', m' < m ∧ W (i + 1) m' H') ∧ ∀ x H', (Itl K a).yld i H x H' → g x (wipe σ vs) H' fun σ2 H2 => wipe σ2 vs = wipe σ vs ∧ tt σ2 H2 fun b H3 =>
        if b = true then te σ2 H3 fun y H4 => ∃ acc, H4 D = some (.lst acc) ∧ acc.length < sizeLine ∧ Nx (upd H4 D (.lst (acc ++ [y]))) else Nx H3) := by
  refine ⟨fun i m H => m = xs.length - i ∧ i ≤ xs.length ∧ Pv i H, ⟨xs.length, by simp, Nat.zero_le _, h0⟩, ?_⟩
  rintro i m H ⟨rfl, hi, p⟩
  have q := hl i H hi p
  by_cases hlt : i < xs.length
  · refine .inr ⟨⟨xs, xs[i], q, by simp [hlt]⟩, Pv (i + 1), fun H' p' => ⟨xs.length - (i + 1), by omega, rfl, hlt, p'⟩, fun x H' y => ?_⟩
    obtain ⟨e, y⟩ := y
    subst e
    exact hs i x _ (y xs q) p
  · have e : i = xs.length := by omega
    subst e
    exact .inl ⟨⟨xs, q, Nat.le_refl _⟩, hd H p⟩
theorem lc_tup {K : PySem.W.Frag} {a : Addr} {xs : List V} {g : TG} {tt : TT} {te : TE} {vs : List Nat} {σ : St} {H1 : Hp} {D : Addr} {Qd : Hp → Prop} (Pv : Nat → Hp → Prop) (h0 : Pv 0 (upd H1 D (.lst []))) (hl : ∀ i H, i ≤ xs.length → Pv i H → SqT K H a xs)
    (hs : ∀ i x H, xs[i]? = some x → Pv i H → g x (wipe σ vs) H fun σ2 H2 => wipe σ2 vs = wipe σ vs ∧ tt σ2 H2 fun b H3 =>
      if b = true then te σ2 H3 fun y H4 => ∃ acc, H4 D = some (.lst acc) ∧ acc.length < sizeLine ∧ Pv (i + 1) (upd H4 D (.lst (acc ++ [y]))) else Pv (i + 1) H3) (hd : ∀ H, Pv xs.length H → Qd H) :
    ∃ W : Nat → Nat → Hp → Prop, (∃ m, W 0 m (upd H1 D (.lst []))) ∧ ∀ i m H, W i m H →
      ((Itt K a).stop i H ∧ Qd H) ∨ ((Itt K a).go i H ∧ ∃ Nx : Hp → Prop, (∀ H', Nx H' → ∃ m', m' < m ∧ W (i + 1) m' H') ∧ ∀ x H', (Itt K a).yld i H x H' → g x (wipe σ vs) H' fun σ2 H2 => wipe σ2 vs = wipe σ vs ∧ tt σ2 H2 fun b H3 =>
        if b = true then te σ2 H3 fun y H4 => ∃ acc, H4 D = some (.lst acc) ∧ acc.length < sizeLine ∧ Nx (upd H4 D (.lst (acc ++ [y]))) else Nx H3) := by
  refine ⟨fun i m H => m = xs.length - i ∧ i ≤ xs.length ∧ Pv i H, ⟨xs.length, by simp, Nat.zero_le _, h0⟩, ?_⟩
  rintro i m H ⟨rfl, hi, p⟩
  have q := hl i H hi p
  by_cases hlt : i < xs.length
  · refine .inr ⟨⟨xs, xs[i], q, by simp [hlt]⟩, Pv (i + 1), fun H' p' => ⟨xs.length - (i + 1), by omega, rfl, hlt, p'⟩, fun x H' y => ?_⟩
    obtain ⟨e, y⟩ := y
    subst e
    exact hs i x _ (y xs q) p
  · have e : i = xs.length := by omega
    subst e
    exact .inl ⟨⟨xs, q, Nat.le_refl _⟩, hd H p⟩
def blkC (N : List Str) (sc scope : Scope) (own : List (Str × Nat)) : Bool :=
  (match scope.kind with | .function => true | _ => false) && (scope.names.all fun y => decide (scope.names.lookup y.1 = some y.2)) && (own.all fun p => decide (N[p.2]? = some p.1)) &&
    (scope.names.all fun y => match y.2 with
      | .free => (match sc.names.lookup y.1 with | some .cell => true | some .free => true | _ => false)
      | .local => decide (y.1 ∈ own.map (·.1)) || decide (y.1 ∉ N)
      | .cell => decide (y.1 ∈ own.map (·.1)) || decide (y.1 ∉ N)
      | _ => true)
theorem blkOk_by {N : List Str} {sc scope : Scope} {own : List (Str × Nat)} (h : blkC N sc scope own = true) : BlkOk N sc scope own := by
  unfold blkC at h
  simp only [Bool.and_eq_true, List.all_eq_true, decide_eq_true_eq] at h
  obtain ⟨⟨⟨h1, h2⟩, h3⟩, h4⟩ := h
  refine ⟨?_, h2, h3, fun y hy e => ?_, fun y hy e => ?_⟩
  · split at h1
    · assumption
    · cases h1
  · have q := h4 y hy
    simp only [e] at q
    split at q <;> first | exact .inl (by assumption) | exact .inr (by assumption) | cases q
  · have q := h4 y hy
    rcases e with e | e <;> (simp only [e, Bool.or_eq_true, decide_eq_true_eq] at q; exact q)
end L2
namespace L2
open PySem PySem.Spec PyProof.Rows
section
variable {prog : Program} {w : World} {A : Around} {R : Result → Shared → Prop} {s : Shared} {elt t0 i0 t1 i1 : Expr} {ifs0 ifs1 : List Expr} {scope : Scope} {pos : Pos} {it acc : Value} {env : Env}
end
section
variable {X : Cx}
end
end L2
namespace L2
open PySem PySem.Spec PyProof.Rows
section
variable {κ : Type} [DecidableEq κ]
def valV (kvs : List (κ × V)) (k : κ) : Option V := (kvs.find? fun kv => decide (kv.1 = k)).map (·.2)
def putK (kvs : List (κ × V)) (k : κ) (v : V) : List (κ × V) :=
  if (kvs.any fun kv => decide (kv.1 = k)) = true then kvs.map (fun kv => if kv.1 = k then (kv.1, v) else kv) else kvs ++ [(k, v)]
theorem valV_pos {p : κ × V} {r : List (κ × V)} {k : κ} (e : p.1 = k) : valV (p :: r) k = some p.2 := by simp [valV, List.find?_cons, e]
theorem valV_neg {p : κ × V} {r : List (κ × V)} {k : κ} (e : ¬ p.1 = k) : valV (p :: r) k = valV r k := by simp [valV, List.find?_cons, e]
theorem valV_any (k : κ) : ∀ kvs : List (κ × V), (kvs.any fun kv => decide (kv.1 = k)) = (valV kvs k).isSome
  | [] => rfl
  | p :: r => by
    rw [List.any_cons]
    by_cases e : p.1 = k
    · simp only [valV_pos e, decide_eq_true e, Bool.true_or, Option.isSome_some]
    · rw [valV_neg e, decide_eq_false e, Bool.false_or]; exact valV_any k r
theorem length_putK (kvs : List (κ × V)) (k : κ) (v : V) : (putK kvs k v).length ≤ kvs.length + 1 := by
  unfold putK
  split
  · rw [List.length_map]; omega
  · rw [List.length_append, List.length_cons, List.length_nil]; omega
theorem putK_new {kvs : List (κ × V)} {k : κ} (v : V) (h : valV kvs k = none) : putK kvs k v = kvs ++ [(k, v)] := by
  unfold putK
  rw [valV_any, h]
  exact if_neg (by decide)
theorem RelO.isSome_eq {o : Option V} {u : Option Value} (r : RelO o u) : o.isSome = u.isSome := by
  cases o with
  | none => cases u with
    | none => rfl
    | some _ => exact (show False from r).elim
  | some _ => cases u with
    | none => exact (show False from r).elim
    | some _ => rfl
theorem RelO.getD {o : Option V} {u : Option Value} {d : V} {d' : Value} (r : RelO o u) (rd : RelV d d') : RelV (o.getD d) (u.getD d') := by
  cases o with
  | none => cases u with
    | none => exact rd
    | some _ => exact (show False from r).elim
  | some _ => cases u with
    | none => exact (show False from r).elim
    | some _ => exact r
theorem KV.val {kvs : List (κ × V)} {vs : List (κ × Value)} (r : KV kvs vs) (k : κ) : RelO (valV kvs k) (valueAt vs k) := by
  unfold KV at r
  induction r with
  | nil => exact True.intro
  | @cons p q ps qs h t ih =>
    obtain ⟨h1, h2⟩ := h
    by_cases e : p.1 = k
    · have e' : q.1 = k := h1.symm.trans e
      have b : valueAt (q :: qs) k = some q.2 := by simp [valueAt, List.find?_cons, e']
      rw [valV_pos e, b]; exact h2
    · have e' : ¬ q.1 = k := fun z => e (h1.trans z)
      have b : valueAt (q :: qs) k = valueAt qs k := by simp [valueAt, List.find?_cons, e']
      rw [valV_neg e, b]; exact ih
theorem KV.any {kvs : List (κ × V)} {vs : List (κ × Value)} (r : KV kvs vs) (k : κ) : (kvs.any fun kv => decide (kv.1 = k)) = vs.any fun kv => decide (kv.1 = k) := by
  unfold KV at r
  induction r with
  | nil => rfl
  | cons h t ih => rw [List.any_cons, List.any_cons, ih, h.1]
theorem KV.repl {kvs : List (κ × V)} {vs : List (κ × Value)} (r : KV kvs vs) (k : κ) {y : V} {u : Value} (ry : RelV y u) :
    KV (kvs.map fun kv => if kv.1 = k then (kv.1, y) else kv) (vs.map fun kv => if kv.1 = k then (kv.1, u) else kv) := by
  unfold KV at r ⊢
  induction r with
  | nil => exact .nil
  | @cons p q ps qs h t ih =>
    rw [List.map_cons, List.map_cons]
    refine .cons ?_ ih
    obtain ⟨h1, h2⟩ := h
    by_cases e : p.1 = k
    · rw [if_pos e, if_pos (h1.symm.trans e)]; exact ⟨h1, ry⟩
    · rw [if_neg e, if_neg (fun z => e (h1.trans z))]; exact ⟨h1, h2⟩
theorem KV.put {kvs : List (κ × V)} {vs : List (κ × Value)} (r : KV kvs vs) (k : κ) {y : V} {u : Value} (ry : RelV y u) : KV (putK kvs k y) (stored vs k u) := by
  unfold putK stored
  rw [r.any k]
  by_cases e : (vs.any fun kv => decide (kv.1 = k)) = true
  · rw [if_pos e, if_pos e]; exact r.repl k ry
  · rw [if_neg e, if_neg e]; exact Paired.snoc r ⟨rfl, ry⟩
theorem KV.length {kvs : List (κ × V)} {vs : List (κ × Value)} (r : KV kvs vs) : kvs.length = vs.length := Paired.length r
end
theorem kV_is {P : Program} {w : World} {k : Key} {u : Value} (r : RelV (kV k) u) : (mixKind P w).is k u = true := by
  cases k with
  | inl i => obtain ⟨t, e⟩ := (show ∃ t, u = Value.int i t from r); subst e; exact mixKind_int P w i t
  | inr x => obtain ⟨t, e⟩ := (show ∃ t, u = Value.str x t from r); subst e; exact mixKind_str P w x t
theorem items_are {P : Program} {w : World} : ∀ {ks : List Key} {us : List Value}, Vals (ks.map kV) us → ItemsAre (mixKind P w) ks us
  | [], _, r => by rw [List.map_nil] at r; cases r; exact .nil
  | k :: ks, _, r => by
    rw [List.map_cons] at r
    cases r with
    | cons h t => exact .cons (kV_is h) (items_are t)
abbrev KT (H : Hp) : List (List Key × V) → List (List Key × Addr × Value) → Prop := Paired fun p q => p.1 = q.1 ∧ H q.2.1 = some (.tup (p.1.map kV)) ∧ RelV p.2 q.2.2
theorem KT.val {H : Hp} {kvs : List (List Key × V)} {xs : List (List Key × Addr × Value)} (r : KT H kvs xs) (k : List Key) : RelO (valV kvs k) ((atKey xs k).map (·.2)) := by
  induction r with
  | nil => exact True.intro
  | @cons p q ps qs h t ih =>
    obtain ⟨h1, _, h2⟩ := h
    by_cases e : p.1 = k
    · have e' : q.1 = k := h1.symm.trans e
      have b : atKey (q :: qs) k = some q.2 := by simp [atKey, List.find?_cons, e']
      rw [valV_pos e, b]; exact h2
    · have e' : ¬ q.1 = k := fun z => e (h1.trans z)
      have b : atKey (q :: qs) k = atKey qs k := by simp [atKey, List.find?_cons, e']
      rw [valV_neg e, b]; exact ih
theorem KT.repl {H : Hp} {kvs : List (List Key × V)} {xs : List (List Key × Addr × Value)} (r : KT H kvs xs) (k : List Key) {y : V} {u : Value} (ry : RelV y u) :
    KT H (kvs.map fun kv => if kv.1 = k then (kv.1, y) else kv) (xs.map (putAt k u)) := by
  induction r with
  | nil => exact .nil
  | @cons p q ps qs h t ih =>
    rw [List.map_cons, List.map_cons]
    refine .cons ?_ ih
    obtain ⟨h1, h2, h3⟩ := h
    unfold putAt
    by_cases e : p.1 = k
    · rw [if_pos e, if_pos (h1.symm.trans e)]; exact ⟨h1, h2, ry⟩
    · rw [if_neg e, if_neg (fun z => e (h1.trans z))]; exact ⟨h1, h2, h3⟩
theorem KT.put {H : Hp} {kvs : List (List Key × V)} {xs : List (List Key × Addr × Value)} (r : KT H kvs xs) (k : List Key) {b : Addr} {y : V} {u : Value} (hb : H b = some (.tup (k.map kV))) (ry : RelV y u) :
    KT H (putK kvs k y) (storedH xs k b u) := by
  have e : (kvs.any fun kv => decide (kv.1 = k)) = (atKey xs k).isSome := by
    rw [valV_any, (r.val k).isSome_eq, Option.isSome_map]
  unfold putK storedH
  rw [e]
  by_cases q : (atKey xs k).isSome = true
  · rw [if_pos q, if_pos q]; exact r.repl k ry
  · rw [if_neg q, if_neg q]; exact Paired.snoc r ⟨rfl, hb, ry⟩
theorem KT.keeps {H H' : Hp} {kvs : List (List Key × V)} {xs : List (List Key × Addr × Value)} (r : KT H kvs xs) (ht : ∀ b ys, H b = some (.tup ys) → H' b = some (.tup ys)) : KT H' kvs xs :=
  Paired.mapP r fun _ _ z => ⟨z.1, ht _ _ z.2.1, z.2.2⟩
section
variable {P : Program} {w : World} {H : Hp} {h : Heap} {a : Addr}
theorem rd_of {u : HO} (ok : HOk P w H h) (e : Rd H a u) : ObjOk P w H h a u := e.ok ok
theorem dk_rd {kvs : List (Key × V)} (ok : HOk P w H h) (e : Rd H a (.dK kvs)) : kvs.length ≤ sizeLine ∧ (a == sysModules) = false ∧ ∃ vs, KV kvs vs ∧ h.DictOf (mixKind P w) a vs :=
  show ObjOk P w H h a (.dK kvs) from rd_of ok e
theorem dk_of {kvs : List (Key × V)} (ok : HOk P w H h) (e : H a = some (.dK kvs)) : kvs.length ≤ sizeLine ∧ (a == sysModules) = false ∧ ∃ vs, KV kvs vs ∧ h.DictOf (mixKind P w) a vs := dk_rd ok (.inl e)
theorem key_of {ks : List Key} (ok : HOk P w H h) (e : H a = some (.tup (ks.map kV))) : (tupleKind (mixKind P w)).is h ks a := by
  obtain ⟨_, its, r, o, h1, h2, n, h3⟩ := (show ObjOk P w H h a (.tup (ks.map kV)) from ok a _ e)
  exact ⟨o, its.toArray, n, h1, h2, h3, by simpa using items_are r⟩
theorem dt_rd {kvs : List (List Key × V)} (ok : HOk P w H h) (e : Rd H a (.dT kvs)) : kvs.length ≤ sizeLine ∧ (a == sysModules) = false ∧
    ∃ xs, KT H kvs xs ∧ h.DictOfH (tupleKind (mixKind P w)) a xs := by
  obtain ⟨z, y, xs, r, o, es, ep, h1, h2, h3, h4, h5⟩ := (show ObjOk P w H h a (.dT kvs) from rd_of ok e)
  refine ⟨z, y, xs, r, o, es, ep, h1, h2, h3, h4, fun x hx => ?_, h5⟩
  have all : ∀ {l : List (List Key × V)} {m : List (List Key × Addr × Value)}, KT H l m → ∀ x ∈ m, (tupleKind (mixKind P w)).is h x.1 x.2.1 := by
    intro l m q
    induction q with
    | nil => intro x hx; exact nomatch hx
    | @cons p q ps qs hq t ih =>
      intro x hx
      rcases List.mem_cons.mp hx with e | hx
      · subst e
        exact key_of ok (by rw [← hq.1]; exact hq.2.1)
      · exact ih x hx
  exact all r x hx
theorem dt_of {kvs : List (List Key × V)} (ok : HOk P w H h) (e : H a = some (.dT kvs)) : kvs.length ≤ sizeLine ∧ (a == sysModules) = false ∧
    ∃ xs, KT H kvs xs ∧ h.DictOfH (tupleKind (mixKind P w)) a xs := dt_rd ok (.inl e)
end
def DGet (H : Hp) (a : Addr) (y : V) (r : Option V) : Prop :=
  (∃ kvs k, Rd H a (.dK kvs) ∧ y = kV k ∧ r = valV kvs k) ∨ ∃ kvs k b, Rd H a (.dT kvs) ∧ y = .ref b ∧ H b = some (.tup (k.map kV)) ∧ r = valV kvs k
def DPut (H : Hp) (a : Addr) (y v : V) (H' : Hp) : Prop :=
  (∃ kvs k, H a = some (.dK kvs) ∧ y = kV k ∧ kvs.length < sizeLine ∧ H' = upd H a (.dK (putK kvs k v))) ∨
  ∃ kvs k b, H a = some (.dT kvs) ∧ y = .ref b ∧ H b = some (.tup (k.map kV)) ∧ kvs.length < sizeLine ∧ H' = upd H a (.dT (putK kvs k v))
theorem DGet.k {H : Hp} {a : Addr} {kvs : List (Key × V)} {k : Key} (e : H a = some (.dK kvs)) : DGet H a (kV k) (valV kvs k) := .inl ⟨kvs, k, .inl e, rfl, rfl⟩
theorem DPut.k {H : Hp} {a : Addr} {kvs : List (Key × V)} {k : Key} {v : V} (e : H a = some (.dK kvs)) (hl : kvs.length < sizeLine) : DPut H a (kV k) v (upd H a (.dK (putK kvs k v))) := .inl ⟨kvs, k, e, rfl, hl, rfl⟩
section
variable {X : Cx} {pins : List (Addr × Obj)} {σ : St} {H : Hp} {s : Shared} {a : Addr} {y v : V} {u r : Value} {o : Option V} {A : Around} {E : Value → Shared → Prop}
theorem Inv.big (I : Inv X pins σ H s) : sysModules < s.heap.objs.size := by
  have h : mainGlobals < s.heap.objs.size := (I.mod.glob.keeps I.bk).lt
  exact Nat.lt_trans (by decide) h
theorem d_in {Q : Value → Shared → Prop} (hu : A.units + 1 < cLine) (I : Inv X pins σ H s) (g : DGet H a y o) (ry : RelV y u) (h : ∀ s', Inv X pins σ H s' → Q (.bool o.isSome) s') :
    wpAny (model X.prog X.w) A (compareOp .In u (.ref a)) Q E s := by
  rcases g with ⟨kvs, k, e, ey, l⟩ | ⟨kvs, k, b, e, ey, eb, l⟩
  · subst ey
    obtain ⟨z, hd, vs, rel, dd⟩ := dk_rd I.hok e
    refine wpAny_in_of (kV_is ry) hd dd.mapOf ?_
    rw [← (rel.val k).isSome_eq, ← l]
    exact h _ (I.tok _)
  · subst ey
    cases (show u = Value.ref b from ry)
    obtain ⟨z, hd, xs, rel, dd⟩ := dt_rd I.hok e
    refine wpAny_in_heap (tupleKind_room_in1 hu) (key_of I.hok eb) hd dd ?_
    have q := (rel.val k).isSome_eq
    rw [Option.isSome_map] at q
    rw [← q, ← l]
    exact h _ (I.tok _)
theorem d_write {h' : Heap} {t' : Nat} {ob : HO} (I : Inv X pins σ H s) (mu : Mut (H a)) (hs : Heap.SameBut a s.heap h') (he : ∃ q, h'.get? a = some q) (new : ObjOk X.prog X.w (upd H a ob) h' a ob) :
    Inv X pins σ (upd H a ob) { s with heap := h', toks := t' } :=
  I.write (x := a) (e := a) mu (.inl rfl) (fun b q hb z => (hs.2 b hb).trans z) he new
theorem dk_new {P : Program} {w : World} {H' : Hp} {h' : Heap} {kvs : List (Key × V)} {vs : List (Key × Value)} (z : kvs.length ≤ sizeLine) (hd : (a == sysModules) = false) (rel : KV kvs vs) (dd : h'.DictOf (mixKind P w) a vs) :
    ObjOk P w H' h' a (.dK kvs) := ⟨z, hd, vs, rel, dd⟩
theorem d_setItem {H' : Hp} {Q : Unit → Shared → Prop} (hu : A.units + 1 < cLine) (I : Inv X pins σ H s) (g : DPut H a y v H') (ry : RelV y u) (rv : RelV v r) (h : ∀ s', Inv X pins σ H' s' → Q () s') :
    wpAny (model X.prog X.w) A (setItem (.ref a) u r) Q E s := by
  rcases g with ⟨kvs, k, e, ey, l, eH⟩ | ⟨kvs, k, b, e, ey, eb, l, eH⟩
  · subst ey eH
    obtain ⟨z, hd, vs, rel, dd⟩ := dk_of I.hok e
    have hz : vs.length ≤ sizeLine := by rw [← rel.length]; exact z
    have hl : (putK kvs k v).length ≤ sizeLine := by have := length_putK kvs k v; omega
    refine wpAny_setItem_pairs (hsz := hz) (kV_is ry) dd fun h' dd' hs => h _ ?_
    have he : ∃ q, h'.get? a = some q := let ⟨q, _, _, hq, _⟩ := dd'; ⟨q, hq⟩
    exact d_write I (by rw [e]; exact True.intro) hs he (dk_new hl hd (rel.put k rv) dd')
  · subst ey eH
    cases (show u = Value.ref b from ry)
    obtain ⟨z, hd, xs, rel, dd⟩ := dt_of I.hok e
    have hz : xs.length ≤ sizeLine := by rw [← Paired.length rel]; exact z
    have hl : (putK kvs k v).length ≤ sizeLine := by have := length_putK kvs k v; omega
    refine wpAny_setItem_heap (hsz := hz) (tupleKind_room_in1 hu) (key_of I.hok eb) dd fun h' dd' hs => h _ ?_
    obtain ⟨q, es, ep, hq, h2, h3, h4, _, h5⟩ := dd'
    refine d_write I (by rw [e]; exact True.intro) hs ⟨q, hq⟩ ⟨hl, hd, _, (rel.put k eb rv).keeps fun c ys ec => ?_, q, es, ep, hq, h2, h3, h4, h5⟩
    rw [upd_ne (ne_of ec e (fun z => nomatch z))]
    exact ec
end
section
variable {X : Cx} {pins : List (Addr × Obj)} {σ : St} {H : Hp} {s : Shared} {a : Addr} {kvs : List (Key × V)} {k : Key} {u : Value} {A : Around} {E : Value → Shared → Prop}
end
def tDIn (ty td : TE) : TE := fun σ H Q => ty σ H fun y H1 => td σ H1 fun x H2 => ∃ a o, x = .ref a ∧ DGet H2 a y o ∧ Q (.bl o.isSome) H2
def sDPut (td ty tv : TE) : TS := fun D σ H => tv σ H fun v H1 => td σ H1 fun x H2 => ty σ H2 fun y H3 => ∃ a H4, x = .ref a ∧ DPut H3 a y v H4 ∧ D.nx σ H4
section
variable {X : Cx} {o i e value : Expr} {pos pos' tpos : Pos} {td ty tv : TE}
theorem pc_din (hu : X.A.units + 1 < cLine) (hi : PE X i ty) (ho : PE X o td) : PC X .In i o (tDIn ty td) := by
  intro pins s σ H Q I h
  refine thn (hi pins s σ H _ I h) fun iv s1 ⟨y, H1, I1, ry, q1⟩ => thn (ho pins s1 σ H1 _ I1 q1) fun u s2 ⟨x, H2, I2, rx, a, ov, ex, g, q2⟩ => ?_
  subst ex
  obtain rfl : u = Value.ref a := rx
  exact d_in hu I2 g ry fun s3 I3 => ⟨.bl ov.isSome, H2, I3, rfl, q2⟩
theorem ps_dput (hu : X.A.units + 1 < cLine) (ho : PE X o td) (hi : PE X i ty) (hv : PE X value tv) (hs : swapsWith value (some (.Subscript o i pos')) pos.line X.env = pure false) :
    PS X (.Assign [.Subscript o i pos'] value pos) (sDPut td ty tv) := by
  intro pins s σ H D I h
  refine wpAny_Assign_Subscript (thn (hv pins s σ H _ I h) fun r s1 ⟨v, H1, I1, rv, q1⟩ => thn (ho pins s1 σ H1 _ I1 q1) fun u s2 ⟨x, H2, I2, rx, q2⟩ => thn (hi pins s2 σ H2 _ I2 q2) fun iv s3 ⟨y, H3, I3, ry, a, H4, ex, g, q3⟩ => ?_) hs
  subst ex
  obtain rfl : u = Value.ref a := rx
  exact d_setItem hu I3 g ry rv fun s4 I4 => ⟨σ, H4, I4, q3⟩
end
theorem dk_empty {P : Program} {w : World} {H : Hp} (h : Heap) (hb : sysModules < h.objs.size) : ObjOk P w H (h.push { cls := .type "dict", data := .dict #[] }) h.objs.size (.dK []) :=
  ⟨Nat.zero_le _, beq_eq_false_iff_ne.mpr (Ne.symm (Nat.ne_of_lt hb)), [], .nil, Heap.DictOf.new h⟩
def tDNewK : TE := fun _ H Q => ∀ p, H p = none → Q (.ref p) (upd H p (.dK []))
section
variable {X : Cx} {pos : Pos}
theorem pe_dnewK : PE X (.Dict [] [] pos) tDNewK := fun pins s σ H Q I h =>
  wpAny_Dict_empty ⟨.ref s.heap.objs.size, _, I.laid (a := s.heap.objs.size) (o := .dK []) (t' := s.toks) (fun _ _ q => Heap.get?_push_of_some _ q) (Nat.le_refl _) (dk_empty s.heap I.big), rfl, h _ (I.hok.fresh (Nat.le_refl _))⟩
end
structure M2 (X : Cx) (o : Expr) (m : Str) (apos : Pos) (e f : Expr) (cpos : Pos) : Prop where
  base : attributeBase o m X.env (eval o X.env) = eval o X.env
  few : ((backTo cpos (starEach [e, f] X.env)).all (fun x => !x.1) && (backToKw cpos (keywordEach [] X.env)).all (fun x => x.1.isSome)
    && decide (([e, f] : List Expr).length + ([] : List Keyword).length + (if ([] : List Keyword).isEmpty then 0 else 1) < 30)) = true
  line : (apos.endLine == cpos.line) = true
  trees : backTo cpos (starEach [e, f] X.env) = [(false, eval e X.env), (false, eval f X.env)]
def IsD (H : Hp) (a : Addr) : Prop := (∃ kvs, Rd H a (.dK kvs)) ∨ ∃ kvs, Rd H a (.dT kvs)
theorem isD_at {X : Cx} {pins : List (Addr × Obj)} {σ : St} {H : Hp} {s : Shared} {a : Addr} (I : Inv X pins σ H s) (d : IsD H a) :
    s.TypeIs (.ref a) "dict" ∧ (∀ b, Value.ref a = .ref b → ∃ ob, s.heap.get? b = some ob ∧ ob.dict = none) ∧ (a == sysModules) = false := by
  rcases d with ⟨kvs, e⟩ | ⟨kvs, e⟩
  · obtain ⟨_, hd, vs, _, dd⟩ := dk_rd I.hok e
    refine ⟨dd.typeIs, fun b q => ?_, hd⟩
    cases q
    obtain ⟨ob, _, _, h1, h2, _⟩ := dd
    exact ⟨ob, h1, h2.2.1⟩
  · obtain ⟨_, hd, xs, _, dd⟩ := dt_rd I.hok e
    refine ⟨dd.typeIs, fun b q => ?_, hd⟩
    cases q
    obtain ⟨ob, _, _, h1, h2, _⟩ := dd
    exact ⟨ob, h1, h2.2.1⟩
section
variable {X : Cx} {pins : List (Addr × Obj)} {σ : St} {H : Hp} {s : Shared} {a : Addr} {y d : V} {u r : Value} {o : Option V} {A : Around} {E : Value → Shared → Prop}
theorem d_get2 {Q : Value → Shared → Prop} (hu : A.units + 1 < cLine) (I : Inv X pins σ H s) (g : DGet H a y o) (ry : RelV y u) (rd : RelV d r) (h : ∀ w' s', Inv X pins σ H s' → RelV (o.getD d) w' → Q w' s') :
    wpAny (model X.prog X.w) A (call (.builtin "dict.get") [.ref a, u, r]) Q E s := by
  rcases g with ⟨kvs, k, e, ey, l⟩ | ⟨kvs, k, b, e, ey, eb, l⟩
  · subst ey
    obtain ⟨z, hd, vs, rel, dd⟩ := dk_rd I.hok e
    refine call_meetsIn PySem.F.slot_dict_get dd.typeIs PySem.F.entry_dict_get (PySem.F.args_dict_get_3 _ _ _) (meets_dict_get_default (mixKind X.prog X.w) a (kV_is ry) hd r) ⟨_, dd.mapOf, h _ _ (I.tok _) ?_⟩
    rw [l]
    exact (rel.val k).getD rd
  · subst ey
    cases (show u = Value.ref b from ry)
    obtain ⟨z, hd, xs, rel, dd⟩ := dt_rd I.hok e
    refine call_meetsIn PySem.F.slot_dict_get dd.typeIs PySem.F.entry_dict_get (PySem.F.args_dict_get_3 _ _ _) (meetsH_dict_get_default (tupleKind (mixKind X.prog X.w)) a b hd r) ⟨tupleKind_room_in1 hu, k, xs, key_of I.hok eb, dd, h _ _ (I.tok _) ?_⟩
    rw [l]
    exact (rel.val k).getD rd
end
def tDGet2 (td ty tx : TE) : TE := fun σ H Q => td σ H fun x H1 => ∃ a, x = .ref a ∧ IsD H1 a ∧ ty σ H1 fun y H2 => tx σ H2 fun z H3 => ∃ o, DGet H3 a y o ∧ Q (o.getD z) H3
section
variable {X : Cx} {o e f : Expr} {apos cpos : Pos} {td ty tx : TE}
theorem pe_dget2 (hu : X.A.units + 1 < cLine) (ho : PE X o td) (he : PE X e ty) (hf : PE X f tx) (m : M2 X o "get" apos e f cpos) : PE X (.Call (.Attribute o "get" apos) [e, f] [] cpos) (tDGet2 td ty tx) := by
  intro pins s σ H Q I h
  refine wpAny_Call_method m.base m.few m.line PySem.F.plainAttrs_dict PySem.F.slot_dict_get PySem.F.type_dict_get (thn (ho pins s σ H _ I h) fun u s1 ⟨x, H1, I1, rx, a, ex, d, q1⟩ => ?_)
  subst ex
  obtain rfl : u = Value.ref a := rx
  obtain ⟨t1, t2, _⟩ := isD_at I1 d
  refine ⟨t1, t2, ?_⟩
  rw [m.trees]
  refine Calls.callWith_builtin rfl (Calls.evalArgs_plain (Calls.spliced_cons (thn (he pins s1 σ H1 _ I1 q1) fun iv s2 ⟨y, H2, I2, ry, q2⟩ =>
    Calls.spliced_cons (thn (hf pins s2 σ H2 _ I2 q2) fun fv s3 ⟨z, H3, I3, rz, ov, g, q3⟩ => Calls.spliced_nil ?_))))
  exact d_get2 hu I3 g ry rz fun w' s4 I4 rw' => ⟨_, H3, I4, rw', q3⟩
end
section
variable {X : Cx} {pins : List (Addr × Obj)} {σ : St} {H : Hp} {s : Shared} {a : Addr} {kvs : List (Key × V)} {A : Around} {E : Value → Shared → Prop}
end
section
variable {X : Cx} {pins : List (Addr × Obj)} {σ : St} {H : Hp} {s : Shared} {a : Addr} {y : V} {u : Value} {A : Around} {E : Value → Shared → Prop}
end
end L2
namespace L2
open PySem PySem.Spec PyProof.Rows
section
variable {prog : Program} {w : World} {A : Around} {E : Value → Shared → Prop}
end
section
variable {X : Cx}
end
end L2
namespace L2
open PySem PySem.Spec PyProof.Rows
section
variable {X : Cx} {pins : List (Addr × Obj)} {σ : St} {H : Hp} {s : Shared} {h' : Heap}
theorem Inv.turnedNew {t' : Nat} {ch : List Addr} {T : Addr} {ob : HO} (I : Inv X pins σ H s) (k : ∀ b o, b ∉ ch → s.heap.get? b = some o → h'.get? b = some o) (hf : ∀ b ∈ ch, FpOk X pins H b) (hT : s.heap.objs.size ≤ T)
    (new : ObjOk X.prog X.w (upd H T ob) h' T ob) : Inv X pins σ (upd H T ob) { s with heap := h', toks := t' } := by
  have hn : H T = none := I.hok.fresh hT
  have nit : ∀ b u, H b = some u → b ∉ ch := fun b u e z => by
    have q := (hf b z).1
    rw [q] at e; cases e
  refine I.step (g' := s.gens) (d' := s.drawn) (ch := ch) (fun b hb => ⟨(hf b hb).2.2.2.1, (hf b hb).2.1, (hf b hb).2.2.2.2.1, (hf b hb).2.2.2.2.2⟩) (fun b o _ _ hc e _ => k b o hc e) (fun b o _ _ hc e _ => ⟨o.slots, k b o hc e⟩)
    (fun b o _ e n => ?_) (fun b o hc e => ⟨o, k b o hc e⟩) (fun b xs e => ?_) (fun b o u e => ?_) (fun b ps e => ⟨#[], ?_⟩) (fun m hm => ?_) (fun b u e => ?_) I.bare
  · rw [upd_ne (Nat.ne_of_lt (Nat.lt_of_lt_of_le (Heap.lt_size e) hT))]; exact n
  · rw [upd_ne (ne_of_none e hn)]; exact e
  · rw [upd_ne (ne_of_none e hn)]; exact e
  · rw [upd_ne (ne_of_none e hn), e]; simp
  · obtain ⟨o, es, ep, ho, r⟩ := hm
    exact ⟨o, es, ep, k _ o (fun z => (hf _ z).2.1 rfl) ho, r⟩
  · by_cases hb : b = T
    · subst hb
      rw [upd_same] at e
      cases e
      exact new
    · rw [upd_ne hb] at e
      refine (I.hok b u e).stay (fun c v hc q => k c v ?_ q) (fun c q => by rw [upd_ne (ne_of_none q hn)]; exact q) fun c xs q => by rw [upd_ne (ne_of_none q hn)]; exact q
      rcases hc with z | z
      · rw [z]; exact nit b u e
      · exact nit c _ z
end
section
variable {X : Cx}
theorem pi_one {tg : Expr} {pins : List (Addr × Obj)} {σ : St} {H : Hp} {s : Shared} {R : It → Hp → Prop} {J : It} {tn : Nat → Heap → Prop} {tk : Nat} (I : Inv X pins σ H s) (o : Obj)
    (T : Turn X.prog X.w X.K tg J [s.heap.objs.size] s.heap.objs.size tn) (st : tn 0 (s.heap.push o)) (q : R J H) : PIE X pins σ tg R (.ref s.heap.objs.size) { s with heap := s.heap.push o, toks := tk } := by
  refine ⟨s.heap.objs.size, [s.heap.objs.size], tn, J, H, rfl, I.kept fun b ob e => Heap.get?_push_of_some _ e, T, st, fun b hb => ?_, q⟩
  have e : b = s.heap.objs.size := by simpa using hb
  subst e
  exact I.fpOk (Nat.le_refl _) (I.hok.fresh (Nat.le_refl _))
end
section
variable {X : Cx} {tg : Expr}
end
section
variable {X : Cx} {tg : Expr}
end
def Its (x : Str) : It := ⟨fun i _ => i < x.cps.size, fun i H v H' => H' = H ∧ ∃ c, x.cps[i]? = some c ∧ v = .str ⟨#[c]⟩, fun i _ => x.cps.size ≤ i⟩
theorem turn_str {P : Program} {w : World} {K : PySem.W.Frag} {tg : Expr} (it : Addr) (x : Str) (t : Tok) (ty : String) (hty : ty = "str_ascii_iterator" ∨ ty = "str_iterator") :
    Turn P w K tg (Its x) [it] it (fun i h => h.IsStrIter it ty x t i) where
  mem := by simp
  obj := fun i h st b hb => by
    have e : b = it := by simpa using hb
    subst e
    obtain ⟨o, e, c, d⟩ := st
    exact ⟨o, e, fun v z => by rw [d] at z; cases z⟩
  keep := fun i h h' st k => let ⟨o, ho, r⟩ := st; ⟨o, k it (by simp) o ho, r⟩
  item := by
    intro X hP hw hK hc i pins s σ H E I hf st hg
    subst hP hw hK
    obtain ⟨f0, f1, f2, f3, f4, f5⟩ := hf it (by simp)
    have W : Walks X.prog X.w X.A it [it] [it] x.cps.size (SignAt x) (fun i h => h.IsStrIter it ty x t i) := by
      rcases hty with e | e
      · rw [e]; exact Walks.strAscii (I.ok.hd hc) it x t
      · rw [e]; exact Walks.strWide (I.ok.hd hc) it x t
    have hno : ["enumerate", "zip", "dict_itemiterator", "dict_reverseitemiterator", "odict_iterator", "itertools.zip_longest", "itertools.pairwise"].contains ty = false := by
      rcases hty with e | e
      · rw [e]; decide
      · rw [e]; decide
    refine W.item i s _ _ hg st fun v h' tk hv st' kk => ?_
    obtain ⟨c, u, hcx, rfl⟩ := hv
    have I1 : Inv X pins σ H { s with heap := h', toks := tk } := I.turned (fun b o hb e => kk b o (by simpa using hb) e) f0 f1 f3 f4 f5
    obtain ⟨oi, e, cc, dd⟩ := id st'
    exact ⟨_, rfl, go_of (s := { s with heap := h', toks := tk }) e cc dd hno ⟨.str ⟨#[c]⟩, H, I1, ⟨u, rfl⟩, ⟨rfl, c, hcx, rfl⟩, st', fun b hb => (hf b hb).1⟩⟩
  done := by
    intro X hP hw hK hc i pins s σ H E I hf st hg
    subst hP hw hK
    obtain ⟨f0, f1, f2, f3, f4, f5⟩ := hf it (by simp)
    have hx : x.cps[i]? = none := Array.getElem?_eq_none hg
    rcases hty with e | e
    · rw [e] at st
      exact wpAny_pyNext_ascii_end (I.ok.hd hc) st hx fun h' eb => ⟨rfl, I.turned (t' := s.toks) (fun b o hb e => eb b o hb e) f0 f1 f3 f4 f5⟩
    · rw [e] at st
      exact wpAny_pyNext_wide_end (I.ok.hd hc) st hx fun h' eb => ⟨rfl, I.turned (t' := s.toks) (fun b o hb e => eb b o hb e) f0 f1 f3 f4 f5⟩
  self := fun A i s Q E st h => by
    rcases hty with e | e
    · rw [e] at st; exact wpAny_pyIter_striter_ascii st h
    · rw [e] at st; exact wpAny_pyIter_striter_wide st h
def iStr (te : TE) : TI := fun σ H R => te σ H fun v H1 => ∃ x, v = .str x ∧ R (Its x) H1
theorem pi_str {X : Cx} {tg e : Expr} {te : TE} (he : PE X e te) : PI X tg e (iStr te) := by
  intro pins s σ H R I h
  refine thn (he pins s σ H _ I h) fun v s1 ⟨y, H1, I1, r1, x, ex, q⟩ => ?_
  subst ex
  obtain ⟨t, rfl⟩ := r1
  cases ha : x.cps.all (· < 128)
  · exact wpAny_pyIter_wide ha (pi_one (tk := s1.toks) I1 _ (turn_str _ x t "str_iterator" (.inr rfl)) ⟨_, Heap.get?_push_size _ rfl, rfl, rfl⟩ q)
  · exact wpAny_pyIter_ascii ha (pi_one (tk := s1.toks) I1 _ (turn_str _ x t "str_ascii_iterator" (.inl rfl)) ⟨_, Heap.get?_push_size _ rfl, rfl, rfl⟩ q)
section
variable {prog : Program} {w : World} {A : Around} {E : Value → Shared → Prop} {s : Shared}
end
theorem paired_get {α β : Type} {G : α → β → Prop} {l₁ : List α} {l₂ : List β} (h : Paired G l₁ l₂) : ∀ {i : Nat} {a : α}, l₁[i]? = some a → ∃ b, l₂[i]? = some b ∧ G a b := by
  induction h with
  | nil => intro i a e; simp at e
  | @cons a b l₁ l₂ r t ih =>
    intro i a' e
    cases i with
    | zero =>
      simp only [List.getElem?_cons_zero, Option.some.injEq] at e
      subst e
      exact ⟨b, rfl, r⟩
    | succ j =>
      simp only [List.getElem?_cons_succ] at e ⊢
      exact ih e
section
variable {X : Cx} {pins : List (Addr × Obj)} {σ : St} {H : Hp} {s : Shared} {d : Addr} {o : Obj}
end
section
variable {P : Program} {w : World} {K : PySem.W.Frag} {tg : Expr} {d : Addr} {o : Obj} {es : Array DictEntry} {ep : Nat}
end
section
variable {X : Cx} {tg e : Expr} {td : TE} {apos cpos : Pos}
end
def Ite (K : PySem.W.Frag) (a : Addr) : It :=
  ⟨fun i H => ∃ (xs : List V) (x : V), SqL K H a xs ∧ xs[i]? = some x, fun i H v H' => ∃ T x, v = .ref T ∧ H T = none ∧ H' = upd H T (.tup [.int (i : Nat), x]) ∧ ∀ xs, SqL K H a xs → xs[i]? = some x, fun i H => ∃ xs : List V, SqL K H a xs ∧ xs.length ≤ i⟩
theorem turn_enum {P : Program} {w : World} {K : PySem.W.Frag} {elts : List Expr} {kk : Nat} {tpos : Pos} (a e it : Addr) :
    Turn P w K (.Tuple elts kk tpos) (Ite K a) [e, it] e (fun i h => (∃ old, IsEnum h e it ((i : Nat) : Int) old) ∧ h.IsListIter it a i ∧ e ≠ it) where
  mem := by simp
  obj := fun i h st b hb => by
    obtain ⟨⟨old, he⟩, ⟨o, ho, hc, hd⟩, _⟩ := st
    have e' : b = e ∨ b = it := by simpa using hb
    rcases e' with z | z
    · rw [z]; exact ⟨_, he, fun v q => nomatch q⟩
    · rw [z]; exact ⟨o, ho, fun v q => by rw [hd] at q; cases q⟩
  keep := fun i h h' st k => let ⟨⟨old, he⟩, hi, hne⟩ := st; ⟨⟨old, k e (by simp) _ he⟩, hi.at fun o q => k it (by simp) o q, hne⟩
  item := by
    intro X hP hw hK hc i pins s σ H E I hf st hg
    subst hP hw hK
    obtain ⟨⟨old, he⟩, hit, hne⟩ := st
    obtain ⟨xs, x, hq, hx⟩ := hg
    obtain ⟨its, rv, p, hz⟩ := I.list hq
    obtain ⟨u, hu, ru⟩ := rv.get hx
    have hel : e < s.heap.objs.size := Heap.lt_size he
    have hil : it < s.heap.objs.size := by obtain ⟨_, q, _⟩ := hit; exact Heap.lt_size q
    refine wpAny_pyNext_enum_item he hit p.isList (x := u) (by simpa using hu) hne fun h' ho hit' hT hsz hk => ?_
    refine ⟨_, rfl, wpAny_letOwnedTupleGo_enum (s := { s with heap := h', toks := s.toks + 1 }) ho fun h'' he' sb => ?_⟩
    have hT2 : h''.get? s.heap.objs.size = some { cls := .type "tuple", data := .seq #[.int i s.toks, u] } := (sb.2 _ (Nat.ne_of_gt hel)).trans hT
    have new : ObjOk X.prog X.w (upd H s.heap.objs.size (.tup [.int (i : Nat), x])) h'' s.heap.objs.size (.tup [.int (i : Nat), x]) :=
      ⟨by show 2 ≤ sizeLine; decide, [.int i s.toks, u], .cons ⟨_, rfl⟩ (.cons ru .nil), ⟨_, hT2, rfl, _, rfl⟩⟩
    have I1 : Inv X pins σ (upd H s.heap.objs.size (.tup [.int (i : Nat), x])) { s with heap := h'', toks := s.toks + 1 } :=
      I.turnedNew (ch := [e, it]) (fun b ob hb q => (sb.2 b (fun z => hb (by simp [z]))).trans (hk b ob (fun z => hb (by simp [z])) (fun z => hb (by simp [z])) q)) hf (Nat.le_refl _) new
    refine ⟨.ref s.heap.objs.size, _, I1, rfl, ⟨_, x, rfl, I.hok.fresh (Nat.le_refl _), rfl, fun ys hy => by rw [I.list_inj hy hq]; exact hx⟩, ⟨⟨u, ?_⟩, hit'.at fun o q => (sb.2 it (Ne.symm hne)).trans q, hne⟩, fun b hb => ?_⟩
    · have e1 : ((i + 1 : Nat) : Int) = (i : Int) + 1 := by omega
      rw [e1]; exact he'
    · have hb' : b < s.heap.objs.size := by
        have e' : b = e ∨ b = it := by simpa using hb
        rcases e' with z | z
        · rw [z]; exact hel
        · rw [z]; exact hil
      rw [upd_ne (Nat.ne_of_lt hb')]
      exact (hf b hb).1
  done := by
    intro X hP hw hK hc i pins s σ H E I hf st hg
    subst hP hw hK
    obtain ⟨⟨old, he⟩, hit, hne⟩ := st
    obtain ⟨xs, hq, hx⟩ := hg
    obtain ⟨its, rv, p, hz⟩ := I.list hq
    obtain ⟨f0, f1, f2, f3, f4, f5⟩ := hf it (by simp)
    have hl := rv.length
    exact wpAny_pyNext_enum_end (I.ok.hd hc) he hit p.isList (by simp; omega) fun h' eb => ⟨rfl, I.turned (t' := s.toks) (fun b o hb q => eb b o hb q) f0 f1 f3 f4 f5⟩
  self := fun A i s Q E st h => let ⟨⟨_, he⟩, _⟩ := st; wpAny_pyIter_enum he h
def iEnum (K : PySem.W.Frag) (ta : TA) : TI := fun σ H R => ta σ H fun vs H1 => ∃ a xs, vs = [.ref a] ∧ SqL K H1 a xs ∧ R (Ite K a) H1
theorem pi_enum {X : Cx} {e : Expr} {ta : TA} {p pos tpos : Pos} {elts : List Expr} {kk : Nat} (hg : Gl X "enumerate") (hm : X.mg "enumerate" = none) (ha : PA X [e] ta) (hs : starEach [e] X.env = [(false, eval e X.env)] := by rfl) :
    PI X (.Tuple elts kk tpos) (.Call (.Name "enumerate" p) [e] [] pos) (iEnum X.K ta) := by
  intro pins s σ H R I h
  refine Call_ (ld_blt I hg hm boot_enumerate (PyProof.Rows.callWith_type1 (thn (ha pos pins s σ H _ I h) fun us s1 ⟨vs, H1, I1, r1, q1⟩ => ?_) hs rfl))
  obtain ⟨a, xs, ex, hq, q⟩ := q1
  subst ex
  cases r1 with
  | cons r rr =>
    cases rr
    cases r
    obtain ⟨its, rv, p', hz⟩ := I1.list hq
    refine call_enumerate_list p'.isList fun h' he hit hsz hk => wpAny_pyIter_enum he ?_
    have I2 : Inv X pins σ H1 { s1 with heap := h' } := I1.kept (t' := s1.toks) hk
    refine ⟨s1.heap.objs.size + 1, [s1.heap.objs.size + 1, s1.heap.objs.size], _, _, H1, rfl, I2, turn_enum a (s1.heap.objs.size + 1) s1.heap.objs.size, ⟨⟨.none, he⟩, hit, Nat.succ_ne_self _⟩, fun b hb => ?_, q⟩
    have e' : b = s1.heap.objs.size + 1 ∨ b = s1.heap.objs.size := by simpa using hb
    have hle : s1.heap.objs.size ≤ b := by
      rcases e' with z | z
      · rw [z]; exact Nat.le_add_right _ _
      · rw [z]; exact Nat.le_refl _
    exact I1.fpOk hle (I1.hok.fresh hle)
end L2
section 
namespace Bits
open PySem PyProof.Rows
end Bits
end 
section 
namespace TL
open PySem PySem.Builtin PySem.Builtin.Str PySem.StrLaws
end TL
end 
namespace L2
open PySem PySem.Spec PyProof.Rows
section
variable {X : Cx} {pins : List (Addr × Obj)} {σ : St} {H : Hp} {s : Shared} {Q : VK}
end
section
variable {X : Cx}
end
section
variable {X : Cx} {o e : Expr} {to te : TE}
end
end L2
namespace L2
open PySem PySem.Spec PyProof.Rows
section
variable {X : Cx}
end
end L2
namespace Att
open PySem PySem.W PySem.Calls PyProof.Rows
section
variable {prog : Program} {w : World} {A : Around} {E : Value → Shared → Prop} {s : Shared} {K : Frag}
end
end Att
namespace L2
open PySem PySem.Spec PyProof.Rows
end L2
namespace L2
open PySem PySem.Spec PyProof.Rows
end L2
/- THE LAST THEOREM (shape; LID, My.* are yours):
   My.Adr: a structure of the addresses that your layer names (classes, functions); My.Txt K t: a structure (Prop) of the equations over K;
   My.txt_mk : {K} {implicit addresses ..} (e1 : nsIn K mainGlobals "law" = some (some (.ref f))) (e2 : K.lookup f = some ⟨oc, od, .func (fnOf "law" "law" params body scope dV kV doc pm an cdv ct), sl⟩) (e3 : codeIn K cdv "law" = true) .. : ∃ t, My.Txt K t
set_option maxRecDepth 100000 in
set_option maxHeartbeats 0 in
theorem PySem.Challenge.cw_LID_holds : PySem.Challenge.rw_LID.Holds := by
  w_on; o_law; k_head; (case hw => w_witness2)
  k_fill
  refine L2.walk_of (l := PySem.Challenge.rw_LID) (n := 63) (k := 40) (x := "script") (CX := fun w => ..) (sp := fun _ => My.sp_law) rfl (by decide) rfl ⟨rfl, by decide, by decide⟩ (fun w h Y => PySem.W.kIn_of Y) ?F ?S ?C
  case F =>
    intro w mg fa h KX G hmg
    have T : ∃ t, My.Txt (L2.KOf KX) t := by
      dsimp only [L2.KOf]                          -- K must stand as «<heap const> w.params» for k_is
      refine' My.txt_mk ?e1 ?e2 ?e3 ..
      (case e1 => PySem.W.k_is)                    -- in the order: a name -> its address -> its object -> its parts
      (case e2 => PySem.W.k_is)
      ..
    obtain ⟨t, T⟩ := T
    have e0 := hmg.symm.trans (PySem.W.mg_of KX G T.law)
    cases e0                                       -- fa is the law's own address
    exact ⟨_, fun s u => .of_eq rfl, fun base kb nb => My.law_fn T kb nb⟩     -- if «.of_eq rfl» comes too early: refine' ⟨_, ?b, fun base kb nb => My.law_fn T kb nb⟩; exact fun s u => .of_eq rfl
  case S => exact fun w H a ns hl hO hS => ..
  case C => exact ..
(the tactic k_is has no namespace: write k_is) -/
namespace L2
open PySem PySem.Spec PyProof.Rows
def inClass (s : Stmt) (j : Nat) : Stmt := match s with
  | .ClassDef _ _ _ body _ _ _ _ _ _ _ => body.getD j (.Pass ⟨0, 0, 0, 0⟩)
  | _ => .Pass ⟨0, 0, 0, 0⟩
def defArgs (s : Stmt) : Arguments := match s with
  | .FunctionDef _ a _ _ _ _ _ _ _ _ => a
  | _ => { posonlyargs := [], args := [], vararg := none, kwonlyargs := [], kw_defaults := [], kwarg := none, defaults := [] }
def defBody (s : Stmt) : List Stmt := match s with
  | .FunctionDef _ _ b _ _ _ _ _ _ _ => b
  | _ => []
def defScope (s : Stmt) : Scope := match s with
  | .FunctionDef _ _ _ _ _ _ sc _ _ _ => sc
  | _ => { kind := .function, names := [], isGenerator := false, isCoroutine := false }
abbrev CX0 : CXT := fun _ _ _ _ _ _ => False
abbrev E0 : XK := fun _ _ _ => False
theorem pass0 {X : Cx} : Passes CX0 X E0 := fun _ _ _ _ _ _ _ h => h.elim
structure Fun (K : PySem.W.Frag) (x qual : Str) (st : Stmt) (f : Addr) (fd : FuncData) : Prop where
  ex : ∃ (oc : Value) (od : Option Addr) (kV doc pm : Value) (an : Option Addr) (cdv ct : Value) (osl : Array (Option Value)),
    fd = PySem.W.fnOf x qual (defArgs st) (defBody st) (defScope st) .none kV doc pm an cdv ct ∧ K.lookup f = some ⟨oc, od, .func fd, osl⟩ ∧ PySem.W.codeIn K cdv qual = true
  kp : PySem.W.keepIn K (.ref f) = true
section
variable {P : Program} {w : World} {K : PySem.W.Frag} {mg : Str → Option Value} {base : Heap}
theorem Fun.ok {x qual : Str} {st : Stmt} {f : Addr} {fd : FuncData} {N ps : List Str} {k : Nat} {sp : Sp} (F : Fun K x qual st f fd) (S : FnScope N ps (defScope st)) (len : ∀ vs H Q E, sp vs H Q E → vs.length = ps.length)
    (hbody : ∀ (cdv : Value) (A : Around) (outer : List Env) (s : Shared) (H : Hp) (vs : List V) (Q : VK) (E : XK), Room k (A.deeper (envOfC qual (defScope st) s.heap.objs.size f cdv)) → sp vs H Q E →
      ∃ t, PSs (cxOf CX0 P w K mg base N qual (defScope st) f cdv A outer s H E).nox (defBody st) t ∧ t { nx := fun _ H' => Q .non H', rt := Q } (start N vs) H) : FnOk P w K mg base CX0 (k + 1) f fd ps sp := by
  obtain ⟨oc, od, kV, doc, pm, an, cdv, ct, osl, rfl, lk, hcd⟩ := F.ex
  refine fn_of lk hcd S len fun A outer s H vs Q E hr hsp => ?_
  obtain ⟨t, h, q⟩ := hbody cdv A outer s H vs Q E hr hsp
  exact ⟨t, h.nox, q⟩
theorem Fun.binds {x qual : Str} {st : Stmt} {f : Addr} {fd : FuncData} {ps : List Str} (F : Fun K x qual st f fd)
    (h : ∀ (kV doc pm : Value) (an : Option Addr) (cdv ct : Value) (us : List Value), us.length = ps.length → bindArgs (PySem.W.fnOf x qual (defArgs st) (defBody st) (defScope st) .none kV doc pm an cdv ct) ⟨us, []⟩ = pure (ps.zip us)) : Binds K fd ps [] := by
  obtain ⟨oc, od, kV, doc, pm, an, cdv, ct, osl, rfl, lk, hcd⟩ := F.ex
  exact .all (h kV doc pm an cdv ct)
theorem fun_mk {x qual : Str} {st : Stmt} {f : Addr} {oc : Value} {od an : Option Addr} {osl : Array (Option Value)} {kV doc pm cdv ct : Value} (l : K.lookup f = some ⟨oc, od, .func (PySem.W.fnOf x qual (defArgs st) (defBody st) (defScope st) .none kV doc pm an cdv ct), osl⟩)
    (c : PySem.W.codeIn K cdv qual = true) (k : PySem.W.keepIn K (.ref f) = true) : Fun K x qual st f (PySem.W.fnOf x qual (defArgs st) (defBody st) (defScope st) .none kV doc pm an cdv ct) := ⟨⟨oc, od, kV, doc, pm, an, cdv, ct, osl, rfl, l, c⟩, k⟩
end
theorem hu_of {A : Around} {k : Nat} (hr : Room k A) : A.units + 1 < cLine := Nat.lt_of_le_of_lt (Nat.add_le_add_left (by decide : 1 ≤ 64) _) hr.units
section
variable {X : Cx}
theorem pv (i : Nat) {x : Str} {pos : Pos} (hN : X.N[i]? = some x := by rfl) (hv : Vis X.env.scope x := by first | exact Or.inl rfl | exact Or.inr (Or.inl rfl) | exact Or.inr (Or.inr rfl)) (hd : (x == ("__debug__" : Str)) = false := by decide)
    (hcd : (x == ("__classdict__" : Str)) = false := by decide) : PE X (.Name x pos) (tVar i) := pe_var hN hv hd hcd
end
theorem iteF {A B : Prop} (h : B) : if false = true then A else B := by
  rw [if_neg Bool.false_ne_true]
  exact h
theorem iteT {A B : Prop} (h : A) : if true = true then A else B := by
  rw [if_pos rfl]
  exact h
theorem ite2 {c A B : Prop} [Decidable c] (h1 : c → A) (h2 : ¬ c → B) : if c then A else B := by
  by_cases h : c
  · rw [if_pos h]
    exact h1 h
  · rw [if_neg h]
    exact h2 h
def Same (H H' : Hp) : Prop := ∀ b o, H b = some o → H' b = some o
theorem Same.refl (H : Hp) : Same H H := fun _ _ h => h
theorem Same.trans {H H1 H2 : Hp} (a : Same H H1) (b : Same H1 H2) : Same H H2 := fun c o h => b c o (a c o h)
theorem Same.free {H H' : Hp} (e : Same H H') {l : Addr} (h : H' l = Option.none) : H l = Option.none := by
  cases q : H l with
  | none => rfl
  | some o =>
    rw [e l o q] at h
    cases h
theorem Same.seq {K : PySem.W.Frag} {H H' : Hp} {a : Addr} {xs : List V} (e : Same H H') (h : SqL K H a xs) : SqL K H' a xs := by
  rcases h with (h | ⟨o, h⟩) | h
  · exact .inl (.inl (e _ _ h))
  · exact .inl (.inr ⟨o, e _ _ h⟩)
  · exact .inr h
section
variable {κ : Type} [DecidableEq κ]
end
theorem at_of {xs : List V} {z : Int} {j : Nat} {v : V} (e : z = (j : Int)) (h : xs[j]? = some v) : atI xs z = some v := by
  rw [e]
  exact atI_nat h
theorem Same.made {H H1 : Hp} {x dx C : Addr} (nx : H x = Option.none) (nd : H dx = Option.none) (k : ∀ b o, (upd (upd H dx (.own x)) x (.ins C dx [])) b = some o → b ≠ x → H1 b = some o) : Same H H1 := fun b o e =>
  k b o (by rw [upd_ne (ne_of_none e nx), upd_ne (ne_of_none e nd)]; exact e) (ne_of_none e nx)
end L2
set_option Elab.async false
set_option linter.all false
set_option maxRecDepth 100000
set_option maxHeartbeats 2000000
namespace L2
open PySem PySem.Spec PyProof.Rows
open PySem.W (WData Codec OpenSpec Well WellAll ReadsW ReadsAllW)
mutual
inductive Dw (K : PySem.W.Frag) (H : Hp) : V → WData → Prop
  | non : Dw K H .non .none
  | bl (b : Bool) : Dw K H (.bl b) (.bool b)
  | int (i : Int) : Dw K H (.int i) (.int i)
  | str (x : Str) : Dw K H (.str x) (.str x)
  | byt (b : Array UInt8) : Dw K H (.byt b) (.bytes b.toList)
  | lst {a : Addr} {xs : List V} {ds : List WData} : SqL K H a xs → DwAll K H xs ds → Dw K H (.ref a) (.list ds)
  | tup {a : Addr} {xs : List V} {ds : List WData} : SqT K H a xs → DwAll K H xs ds → Dw K H (.ref a) (.tuple ds)
inductive DwAll (K : PySem.W.Frag) (H : Hp) : List V → List WData → Prop
  | nil : DwAll K H [] []
  | cons {v : V} {vs : List V} {d : WData} {ds : List WData} : Dw K H v d → DwAll K H vs ds → DwAll K H (v :: vs) (d :: ds)
end
theorem dw_ints {K : PySem.W.Frag} {H : Hp} : ∀ ns : List Int, DwAll K H (ns.map V.int) (ns.map WData.int)
  | [] => .nil
  | n :: r => .cons (.int n) (dw_ints r)
theorem ints_dw {K : PySem.W.Frag} {H : Hp} : ∀ (ns : List Int) (xs : List V), DwAll K H xs (ns.map WData.int) → xs = ns.map V.int
  | [], xs, h => by
    cases h
    rfl
  | n :: r, xs, h => by
    cases h with
    | cons h1 h2 =>
      cases h1
      rw [ints_dw r _ h2] <;> rfl
section
variable {P : Program} {w : World} {K : PySem.W.Frag} {H : Hp} {h : Heap} {R : PySem.W.WRecords} {cl : Str → Option Addr}
theorem sqL_at {a : Addr} {xs : List V} (hok : HOk P w H h) (KX : K.In h) (q : SqL K H a xs) : ∃ (its : List Value) (o : Obj) (n : Nat), Vals xs its ∧ h.get? a = some o ∧ o.cls = .type "list" ∧ o.data = .seq its.toArray n := by
  rcases q with q | ⟨o, its, n, e, hc, _, hd, _, hv⟩
  · obtain ⟨_, its, n, hv, e⟩ := (show ObjOk P w H h a (.lst xs) from q.ok hok)
    exact ⟨its, _, n, hv, e, rfl, rfl⟩
  · exact ⟨its.toList, o, n, hv, KX _ _ e, hc, by simp [hd]⟩
theorem sqT_at {a : Addr} {xs : List V} (hok : HOk P w H h) (KX : K.In h) (q : SqT K H a xs) : ∃ (its : List Value) (o : Obj) (n : Nat), Vals xs its ∧ h.get? a = some o ∧ o.cls = .type "tuple" ∧ o.data = .seq its.toArray n := by
  rcases q with q | ⟨o, its, n, e, hc, hd, _, hv⟩
  · obtain ⟨_, its, hv, o, e, hc, n, hd⟩ := (show ObjOk P w H h a (.tup xs) from q.ok hok)
    exact ⟨its, o, n, hv, e, hc, hd⟩
  · exact ⟨its.toList, o, n, hv, KX _ _ e, hc, by simp [hd]⟩
mutual
theorem Dw.reads (hok : HOk P w H h) (KX : K.In h) : ∀ (d : WData) (v : V) (u : Value), Dw K H v d → RelV v u → ∃ as, ReadsW R cl h u d as
  | .none, _, _, x, r => by
    cases x
    cases r
    exact ⟨_, ReadsW.none⟩
  | .bool b, _, _, x, r => by
    cases x
    cases r
    exact ⟨_, ReadsW.bool b⟩
  | .int i, _, _, x, r => by
    cases x
    obtain ⟨t, rfl⟩ := r
    exact ⟨_, ReadsW.int i t⟩
  | .str s, _, _, x, r => by
    cases x
    obtain ⟨t, rfl⟩ := r
    exact ⟨_, ReadsW.str s t⟩
  | .bytes b, _, _, x, r => by
    cases x
    obtain ⟨t, rfl⟩ := r
    exact ⟨_, ReadsW.bytes _ t⟩
  | .list ds, _, _, x, r => by
    cases x with
    | lst hs ha =>
      cases r
      obtain ⟨its, o, n, rv, ho, hc, hd⟩ := sqL_at hok KX hs
      obtain ⟨as, hr⟩ := Dw.readsAll hok KX ds _ its ha rv
      exact ⟨_, ReadsW.list ho hc hd hr⟩
  | .tuple ds, _, _, x, r => by
    cases x with
    | tup hs ha =>
      cases r
      obtain ⟨its, o, n, rv, ho, hc, hd⟩ := sqT_at hok KX hs
      obtain ⟨as, hr⟩ := Dw.readsAll hok KX ds _ its ha rv
      exact ⟨_, ReadsW.tuple ho hc hd hr⟩
  | .float _, _, _, x, _ => by cases x
  | .dict _, _, _, x, _ => by cases x
  | .bytearray _, _, _, x, _ => by cases x
  | .set _, _, _, x, _ => by cases x
  | .frozenset _, _, _, x, _ => by cases x
  | .obj _ _, _, _, x, _ => by cases x
theorem Dw.readsAll (hok : HOk P w H h) (KX : K.In h) : ∀ (ds : List WData) (vs : List V) (us : List Value), DwAll K H vs ds → Vals vs us → ∃ as, ReadsAllW R cl h us ds as
  | [], _, _, x, r => by
    cases x
    cases r
    exact ⟨_, ReadsAllW.nil⟩
  | d :: ds, _, _, x, r => by
    cases x with
    | cons h1 h2 =>
      cases r with
      | cons r1 r2 =>
        obtain ⟨as, q1⟩ := Dw.reads hok KX d _ _ h1 r1
        obtain ⟨bs, q2⟩ := Dw.readsAll hok KX ds _ _ h2 r2
        exact ⟨_, ReadsAllW.cons q1 q2⟩
end
end
mutual
def plW : WData → Bool
  | .none => true
  | .bool _ => true
  | .int _ => true
  | .str _ => true
  | .bytes _ => true
  | .list xs => plWs xs
  | .tuple xs => plWs xs
  | _ => false
def plWs : List WData → Bool
  | [] => true
  | x :: r => plW x && plWs r
end
theorem plWs_map {α : Type} {f : α → WData} (h : ∀ a, plW (f a) = true) : ∀ l : List α, plWs (l.map f) = true
  | [] => rfl
  | x :: r => by
    show (plW (f x) && plWs (r.map f)) = true
    rw [h x, plWs_map h r] <;> rfl
theorem pl_enc : ∀ (c : Codec) (a : c.denote), plW (c.enc a) = true
  | .unit, _ => rfl
  | .bool, _ => rfl
  | .int _ _, _ => rfl
  | .nat _ _, _ => rfl
  | .u8, _ => rfl
  | .bytes _ _, _ => rfl
  | .text _ _ _ _, _ => rfl
  | .list _ _ c, a => plWs_map (fun x => pl_enc c x) a
  | .pair c d, a => by
    show (plW (c.enc a.1) && (plW (d.enc a.2) && true)) = true
    rw [pl_enc c a.1, pl_enc d a.2] <;> rfl
  | .triple c d e, a => by
    show (plW (c.enc a.1) && (plW (d.enc a.2.1) && (plW (e.enc a.2.2) && true))) = true
    rw [pl_enc c a.1, pl_enc d a.2.1, pl_enc e a.2.2] <;> rfl
  | .option c, none => rfl
  | .option c, some x => pl_enc c x
theorem pl_encAll : ∀ (cs : List Codec) (a : Codec.denoteAll cs), plWs (Codec.encAll cs a) = true
  | [], _ => rfl
  | c :: cs, a => by
    show (plW (c.enc a.1) && plWs (Codec.encAll cs a.2)) = true
    rw [pl_enc c a.1, pl_encAll cs a.2] <;> rfl
theorem weight_mem : ∀ {xs : List WData} {d : WData}, d ∈ xs → d.weight ≤ WData.weightAll xs
  | [], d, h => absurd h (by simp)
  | x :: r, d, h => by
    show d.weight ≤ x.weight + 1 + WData.weightAll r
    rcases List.mem_cons.mp h with e | m
    · rw [e]
      omega
    · have z := weight_mem m
      omega
def toV : Value → V
  | .none => .non
  | .bool b => .bl b
  | .int i _ => .int i
  | .str x _ => .str x
  | .bytes b _ => .byt b
  | .ref a => .ref a
  | _ => .non
def OkU (A : List Addr) : Value → Prop
  | .none => True
  | .bool _ => True
  | .int _ _ => True
  | .str _ _ => True
  | .bytes _ _ => True
  | .ref a => a ∈ A
  | _ => False
theorem OkU.mono {A B : List Addr} (h : ∀ a ∈ A, a ∈ B) : ∀ {u : Value}, OkU A u → OkU B u := fun {u} x => by
  cases u with
  | ref a => exact h a x
  | none => trivial
  | bool b => trivial
  | int i t => trivial
  | str s t => trivial
  | bytes b t => trivial
  | _ => exact False.elim x
theorem relV_toV {A : List Addr} {u : Value} (x : OkU A u) : RelV (toV u) u := by
  cases u with
  | ref a => rfl
  | none => rfl
  | bool b => rfl
  | int i t => exact ⟨t, rfl⟩
  | str s t => exact ⟨t, rfl⟩
  | bytes b t => exact ⟨t, rfl⟩
  | _ => exact False.elim x
theorem vals_toV {A : List Addr} : ∀ {vs : List Value}, (∀ u ∈ vs, OkU A u) → Vals (vs.map toV) vs
  | [], _ => .nil
  | u :: r, h => .cons (relV_toV (h u (List.mem_cons_self ..))) (vals_toV fun x hx => h x (List.mem_cons_of_mem _ hx))
def ArgOb (h : Heap) (A : List Addr) (a : Addr) : Prop := ∃ vs : List Value, vs.length ≤ sizeLine ∧ (∀ u ∈ vs, OkU A u) ∧
  (h.get? a = some { cls := .type "list", data := .seq vs.toArray } ∨ h.get? a = some { cls := .type "tuple", data := .seq vs.toArray })
theorem ArgOb.mono {h : Heap} {A B : List Addr} {a : Addr} (k : ∀ a ∈ A, a ∈ B) (x : ArgOb h A a) : ArgOb h B a := by
  obtain ⟨vs, h1, h2, h3⟩ := x
  exact ⟨vs, h1, fun u hu => (h2 u hu).mono k, h3⟩
theorem wellAll_len {P : Params} {h : Heap} : ∀ {vs : List Value} {ds : List WData}, WellAll P h vs ds → vs.length = ds.length
  | _, _, .nil => rfl
  | _, _, .cons _ b => by
    show _ + 1 = _ + 1
    rw [wellAll_len b]
theorem well_list {P : Params} {h : Heap} {v : Value} {ds : List WData} (x : Well P h v (.list ds)) : ∃ (a : Addr) (vs : List Value), v = .ref a ∧ h.get? a = some { cls := .type "list", data := .seq vs.toArray } ∧ WellAll P h vs ds := by
  cases x with
  | list ho hall => exact ⟨_, _, rfl, ho, hall⟩
theorem well_tuple {P : Params} {h : Heap} {v : Value} {ds : List WData} (x : Well P h v (.tuple ds)) : ∃ (a : Addr) (vs : List Value), v = .ref a ∧ h.get? a = some { cls := .type "tuple", data := .seq vs.toArray } ∧ WellAll P h vs ds := by
  cases x with
  | tuple ho hall => exact ⟨_, _, rfl, ho, hall⟩
theorem well_cons {P : Params} {h : Heap} {us : List Value} {d : WData} {ds : List WData} (x : WellAll P h us (d :: ds)) : ∃ (v : Value) (vs : List Value), us = v :: vs ∧ Well P h v d ∧ WellAll P h vs ds := by
  cases x with
  | cons a b => exact ⟨_, _, rfl, a, b⟩
theorem line_of {n : Nat} (h : n ≤ 1048576) : n ≤ sizeLine := Nat.le_trans h (by decide)
section
variable {P : Params} {h : Heap}
mutual
theorem area_one : ∀ (d : WData) (v : Value), Well P h v d → plW d = true → d.weight ≤ 1048576 → ∃ A : List Addr, OkU A v ∧ ∀ a ∈ A, ArgOb h A a
  | .none, _, x, _, _ => by
    cases x
    exact ⟨[], trivial, fun a m => absurd m (by simp)⟩
  | .bool b, _, x, _, _ => by
    cases x
    exact ⟨[], trivial, fun a m => absurd m (by simp)⟩
  | .int i, _, x, _, _ => by
    cases x
    exact ⟨[], trivial, fun a m => absurd m (by simp)⟩
  | .str s, _, x, _, _ => by
    cases x
    exact ⟨[], trivial, fun a m => absurd m (by simp)⟩
  | .bytes b, _, x, _, _ => by
    cases x
    exact ⟨[], trivial, fun a m => absurd m (by simp)⟩
  | .list ds, _, x, p, z => by
    obtain ⟨a, vs, rfl, ho, hall⟩ := well_list x
    have z2 : WData.weightAll ds ≤ 1048576 := z
    obtain ⟨A, h1, h2⟩ := area_all ds _ hall p fun d hd => Nat.le_trans (weight_mem hd) z2
    have k : ∀ b ∈ A, b ∈ a :: A := fun b hb => List.mem_cons_of_mem _ hb
    refine ⟨a :: A, List.mem_cons_self .., fun b hb => ?_⟩
    rcases List.mem_cons.mp hb with e | m
    · rw [e]
      exact ⟨vs, line_of (by rw [wellAll_len hall]; exact Nat.le_trans (PySem.W.length_le_weightAllW ds) z2), fun u hu => (h1 u hu).mono k, .inl ho⟩
    · exact (h2 b m).mono k
  | .tuple ds, _, x, p, z => by
    obtain ⟨a, vs, rfl, ho, hall⟩ := well_tuple x
    have z2 : WData.weightAll ds ≤ 1048576 := z
    obtain ⟨A, h1, h2⟩ := area_all ds _ hall p fun d hd => Nat.le_trans (weight_mem hd) z2
    have k : ∀ b ∈ A, b ∈ a :: A := fun b hb => List.mem_cons_of_mem _ hb
    refine ⟨a :: A, List.mem_cons_self .., fun b hb => ?_⟩
    rcases List.mem_cons.mp hb with e | m
    · rw [e]
      exact ⟨vs, line_of (by rw [wellAll_len hall]; exact Nat.le_trans (PySem.W.length_le_weightAllW ds) z2), fun u hu => (h1 u hu).mono k, .inr ho⟩
    · exact (h2 b m).mono k
  | .float _, _, _, p, _ => Bool.noConfusion (show false = true from p)
  | .dict _, _, _, p, _ => Bool.noConfusion (show false = true from p)
  | .bytearray _, _, _, p, _ => Bool.noConfusion (show false = true from p)
  | .set _, _, _, p, _ => Bool.noConfusion (show false = true from p)
  | .frozenset _, _, _, p, _ => Bool.noConfusion (show false = true from p)
  | .obj _ _, _, _, p, _ => Bool.noConfusion (show false = true from p)
theorem area_all : ∀ (ds : List WData) (vs : List Value), WellAll P h vs ds → plWs ds = true → (∀ d ∈ ds, d.weight ≤ 1048576) → ∃ A : List Addr, (∀ u ∈ vs, OkU A u) ∧ ∀ a ∈ A, ArgOb h A a
  | [], _, x, _, _ => by
    cases x
    exact ⟨[], fun u m => absurd m (by simp), fun a m => absurd m (by simp)⟩
  | d :: ds, _, x, p, z => by
    obtain ⟨v, vs, rfl, x1, x2⟩ := well_cons x
    have q : plW d = true ∧ plWs ds = true := Bool.and_eq_true_iff.mp p
    obtain ⟨A, a1, a2⟩ := area_one d v x1 q.1 (z d (List.mem_cons_self ..))
    obtain ⟨B, b1, b2⟩ := area_all ds vs x2 q.2 fun e he => z e (List.mem_cons_of_mem _ he)
    have kA : ∀ b ∈ A, b ∈ A ++ B := fun b hb => List.mem_append.mpr (.inl hb)
    have kB : ∀ b ∈ B, b ∈ A ++ B := fun b hb => List.mem_append.mpr (.inr hb)
    refine ⟨A ++ B, fun u hu => ?_, fun b hb => ?_⟩
    · rcases List.mem_cons.mp hu with e | m
      · rw [e]
        exact a1.mono kA
      · exact (b1 u m).mono kB
    · rcases List.mem_append.mp hb with m | m
      · exact (a2 b m).mono kA
      · exact (b2 b m).mono kB
end
end
def hoOf (o : Obj) : Option HO := match o.data with
  | .seq vs _ => if (o.cls == Value.type "list") = true then some (.frz o (.lst (vs.toList.map toV))) else some (.frz o (.tup (vs.toList.map toV)))
  | _ => none
def argH (K : PySem.W.Frag) (h : Heap) (A : List Addr) : Hp := fun b => if b ∈ A then (if (K.lookup b).isNone = true then (h.get? b).bind hoOf else none) else none
def OnlyF (H : Hp) : Prop := ∀ b, H b = none ∨ ∃ o u, H b = some (.frz o u)
theorem hoOf_lst (vs : List Value) : hoOf { cls := .type "list", data := .seq vs.toArray } = some (.frz { cls := .type "list", data := .seq vs.toArray } (.lst (vs.map toV))) := by
  show (if (Value.type "list" == Value.type "list") = true then some (HO.frz { cls := .type "list", data := .seq vs.toArray } (.lst (vs.toArray.toList.map toV))) else some (HO.frz { cls := .type "list", data := .seq vs.toArray } (.tup (vs.toArray.toList.map toV)))) = _
  rw [if_pos (beq_self_eq_true _)]
theorem hoOf_tup (vs : List Value) : hoOf { cls := .type "tuple", data := .seq vs.toArray } = some (.frz { cls := .type "tuple", data := .seq vs.toArray } (.tup (vs.map toV))) := by
  show (if (Value.type "tuple" == Value.type "list") = true then some (HO.frz { cls := .type "tuple", data := .seq vs.toArray } (.lst (vs.toArray.toList.map toV))) else some (HO.frz { cls := .type "tuple", data := .seq vs.toArray } (.tup (vs.toArray.toList.map toV)))) = _
  rw [if_neg (by decide)]
section
variable {P : Program} {w : World} {K : PySem.W.Frag} {h : Heap} {A : List Addr}
theorem argH_at {b : Addr} {o : Obj} (hb : b ∈ A) (hk : K.lookup b = none) (e : h.get? b = some o) : argH K h A b = hoOf o := by
  unfold argH
  rw [if_pos hb, hk, if_pos (show (none : Option Obj).isNone = true from rfl), e] <;> rfl
theorem of_argH {b : Addr} {u : HO} (q : argH K h A b = some u) : b ∈ A ∧ K.lookup b = none := by
  unfold argH at q
  by_cases hb : b ∈ A
  · rw [if_pos hb] at q
    cases hk : K.lookup b with
    | none => exact ⟨hb, rfl⟩
    | some o =>
      rw [hk, if_neg (by simp)] at q
      cases q
  · rw [if_neg hb] at q
    cases q
theorem argH_is (ar : ∀ a ∈ A, ArgOb h A a) {b : Addr} {u : HO} (q : argH K h A b = some u) : K.lookup b = none ∧ ∃ vs : List Value, vs.length ≤ sizeLine ∧ (∀ u ∈ vs, OkU A u) ∧
    ((h.get? b = some { cls := .type "list", data := .seq vs.toArray } ∧ u = .frz { cls := .type "list", data := .seq vs.toArray } (.lst (vs.map toV))) ∨
     (h.get? b = some { cls := .type "tuple", data := .seq vs.toArray } ∧ u = .frz { cls := .type "tuple", data := .seq vs.toArray } (.tup (vs.map toV)))) := by
  obtain ⟨hb, hk⟩ := of_argH q
  obtain ⟨vs, h1, h2, h3⟩ := ar b hb
  refine ⟨hk, vs, h1, h2, ?_⟩
  rcases h3 with e | e
  · rw [argH_at hb hk e, hoOf_lst] at q
    exact .inl ⟨e, (Option.some.inj q).symm⟩
  · rw [argH_at hb hk e, hoOf_tup] at q
    exact .inr ⟨e, (Option.some.inj q).symm⟩
theorem argH_only (ar : ∀ a ∈ A, ArgOb h A a) : OnlyF (argH K h A) := fun b => by
  cases q : argH K h A b with
  | none => exact .inl rfl
  | some u =>
    obtain ⟨_, vs, _, _, ⟨_, e⟩ | ⟨_, e⟩⟩ := argH_is ar q
    · exact .inr ⟨_, _, by rw [e]⟩
    · exact .inr ⟨_, _, by rw [e]⟩
theorem argH_ok (ar : ∀ a ∈ A, ArgOb h A a) : HOk P w (argH K h A) h := fun b u q => by
  obtain ⟨_, vs, h1, h2, ⟨e, rfl⟩ | ⟨e, rfl⟩⟩ := argH_is ar q
  · exact ⟨e, by rw [List.length_map]; exact h1, vs, _, vals_toV h2, e⟩
  · exact ⟨e, by rw [List.length_map]; exact h1, vs, vals_toV h2, _, e, rfl, _, rfl⟩
theorem seq_inj {c c' : Value} {vs us : List Value} (e : (some { cls := c, data := .seq vs.toArray } : Option Obj) = some { cls := c', data := .seq us.toArray }) : c = c' ∧ vs = us := by
  have e1 := Option.some.inj e
  have e2 : c = c' := congrArg Obj.cls e1
  have e3 : Data.seq vs.toArray = Data.seq us.toArray := congrArg Obj.data e1
  injection e3 with e4
  refine ⟨e2, ?_⟩
  have e5 := congrArg Array.toList e4
  simpa using e5
theorem argL (KX : K.In h) (ar : ∀ a ∈ A, ArgOb h A a) {a : Addr} {vs : List Value} (ha : a ∈ A) (e : h.get? a = some { cls := .type "list", data := .seq vs.toArray }) : (∀ u ∈ vs, OkU A u) ∧ SqL K (argH K h A) a (vs.map toV) := by
  obtain ⟨us, h1, h2, h3⟩ := ar a ha
  have hu : us = vs := by
    rcases h3 with q | q
    · rw [e] at q
      exact (seq_inj q).2.symm
    · rw [e] at q
      exact absurd (Value.type.inj (seq_inj q).1) (by decide)
  subst hu
  refine ⟨h2, ?_⟩
  cases hk : K.lookup a with
  | none => exact .inl (.inr ⟨_, by rw [argH_at ha hk e, hoOf_lst]⟩)
  | some o =>
    have e2 := KX a o hk
    rw [e] at e2
    obtain rfl := Option.some.inj e2
    exact .inr ⟨_, us.toArray, _, hk, rfl, rfl, rfl, by rw [List.size_toArray]; exact h1, by simpa using vals_toV h2⟩
theorem argT (KX : K.In h) (ar : ∀ a ∈ A, ArgOb h A a) {a : Addr} {vs : List Value} (ha : a ∈ A) (e : h.get? a = some { cls := .type "tuple", data := .seq vs.toArray }) : (∀ u ∈ vs, OkU A u) ∧ SqT K (argH K h A) a (vs.map toV) := by
  obtain ⟨us, h1, h2, h3⟩ := ar a ha
  have hu : us = vs := by
    rcases h3 with q | q
    · rw [e] at q
      exact absurd (Value.type.inj (seq_inj q).1) (by decide)
    · rw [e] at q
      exact (seq_inj q).2.symm
  subst hu
  refine ⟨h2, ?_⟩
  cases hk : K.lookup a with
  | none => exact .inl (.inr ⟨_, by rw [argH_at ha hk e, hoOf_tup]⟩)
  | some o =>
    have e2 := KX a o hk
    rw [e] at e2
    obtain rfl := Option.some.inj e2
    exact .inr ⟨_, us.toArray, _, hk, rfl, rfl, by rw [List.size_toArray]; exact h1, by simpa using vals_toV h2⟩
mutual
theorem dw_one {Pm : Params} (KX : K.In h) (ar : ∀ a ∈ A, ArgOb h A a) : ∀ (d : WData) (v : Value), Well Pm h v d → plW d = true → OkU A v → Dw K (argH K h A) (toV v) d
  | .none, _, x, _, _ => by
    cases x
    exact .non
  | .bool b, _, x, _, _ => by
    cases x
    exact .bl b
  | .int i, _, x, _, _ => by
    cases x
    exact .int i
  | .str s, _, x, _, _ => by
    cases x
    exact .str s
  | .bytes b, _, x, _, _ => by
    cases x
    have z := Dw.byt (K := K) (H := argH K h A) b.toArray
    exact z
  | .list ds, _, x, p, hu => by
    obtain ⟨a, vs, rfl, ho, hall⟩ := well_list x
    obtain ⟨h2, hs⟩ := argL KX ar hu ho
    exact .lst hs (dw_all KX ar ds _ hall p h2)
  | .tuple ds, _, x, p, hu => by
    obtain ⟨a, vs, rfl, ho, hall⟩ := well_tuple x
    obtain ⟨h2, hs⟩ := argT KX ar hu ho
    exact .tup hs (dw_all KX ar ds _ hall p h2)
  | .float _, _, _, p, _ => Bool.noConfusion (show false = true from p)
  | .dict _, _, _, p, _ => Bool.noConfusion (show false = true from p)
  | .bytearray _, _, _, p, _ => Bool.noConfusion (show false = true from p)
  | .set _, _, _, p, _ => Bool.noConfusion (show false = true from p)
  | .frozenset _, _, _, p, _ => Bool.noConfusion (show false = true from p)
  | .obj _ _, _, _, p, _ => Bool.noConfusion (show false = true from p)
theorem dw_all {Pm : Params} (KX : K.In h) (ar : ∀ a ∈ A, ArgOb h A a) : ∀ (ds : List WData) (vs : List Value), WellAll Pm h vs ds → plWs ds = true → (∀ u ∈ vs, OkU A u) → DwAll K (argH K h A) (vs.map toV) ds
  | [], _, x, _, _ => by
    cases x
    exact .nil
  | d :: ds, _, x, p, hu => by
    obtain ⟨v, vs, rfl, x1, x2⟩ := well_cons x
    have q : plW d = true ∧ plWs ds = true := Bool.and_eq_true_iff.mp p
    exact .cons (dw_one KX ar d v x1 q.1 (hu _ (List.mem_cons_self ..))) (dw_all KX ar ds vs x2 q.2 fun u m => hu u (List.mem_cons_of_mem _ m))
end
end
theorem spec_call {P : Program} {w : World} {K : PySem.W.Frag} {mg mb : Str → Option Value} {CX : CXT} {k : Nat} {fa : Addr} {fd : FuncData} {ps : List Str} {sp : Sp} {s₁ : Shared} {vals : List Value} {ds : List WData} {R : PySem.W.WRecords} {cl : Str → Option Addr} {d0 : WData}
    (KX : K.In s₁.heap) (hns : s₁.heap.Ns mainGlobals mg) (hb : s₁.heap.Ns builtinsNs mb) (hbb : ∀ x : Str, x ≠ "__name__" → mb x = bootBuiltins x) (hlim : s₁.heap.NoLimit) (hg : s₁.gens = #[])
    (hwl : WellAll w.params s₁.heap vals ds) (hpl : plWs ds = true) (hwt : ∀ d ∈ ds, d.weight ≤ 1048576) (hr : Room k callerA)
    (F : ∀ base : Heap, K.In base → base.Ns mainGlobals mg → FnOk P w K mg base CX k fa fd ps sp) (hbind : ∀ (s : Shared) (us : List Value), us.length = ps.length → BindsTo s fd ⟨us, []⟩ (ps.zip us)) (hlen : ds.length = ps.length)
    (hsp : ∀ (H : Hp) (xs : List V), OnlyF H → DwAll K H xs ds → sp xs H (fun v H' => Dw K H' v d0) fun _ _ _ => False)
    (hCX : ∀ H e s', CX [] H s₁ (fun _ _ _ => False) e s' → False) :
    codeAny (model P w) callerA (.call (.ref fa) ⟨vals, []⟩) (fun r s' => ∃ u as, r = .ok (.ret u) ∧ ReadsW R cl s'.heap u d0 as ∧ OldK s₁.heap s'.heap ∧ s'.os = s₁.os ∧ AllBare s'.gens) s₁ := by
  obtain ⟨A, ho, ar⟩ := area_all ds vals hwl hpl hwt
  have hO : OnlyF (argH K s₁.heap A) := argH_only ar
  have hok : HOk P w (argH K s₁.heap A) s₁.heap := argH_ok ar
  have hS := dw_all KX ar ds vals hwl hpl ho
  have hV := vals_toV ho
  have hK : ∀ b u, argH K s₁.heap A b = some u → K.lookup b = none := fun b u q => (argH_is ar q).1
  have noA : ∀ {b : Addr} {o : Obj} {es : Array DictEntry} {ep : Nat}, s₁.heap.get? b = some o → o.data = .dict es ep → argH K s₁.heap A b = none := fun {b o es ep} e d => by
    cases q : argH K s₁.heap A b with
    | none => rfl
    | some u =>
      obtain ⟨_, vs, _, _, ⟨e2, _⟩ | ⟨e2, _⟩⟩ := argH_is ar q
      · rw [e2] at e
        cases e
        have d' : Data.seq vs.toArray _ = Data.dict es ep := d
        cases d'
      · rw [e2] at e
        cases e
        have d' : Data.seq vs.toArray _ = Data.dict es ep := d
        cases d'
  generalize argH K s₁.heap A = H at hO hok hS hK noA
  have base_of : ∀ {b : Addr} {o : Obj}, s₁.heap.get? b = some o → H b = none → (hidT s₁.heap H).get? b = some o := fun e n => hidT_get e n
  have nsK : ∀ {b : Addr} {m : Str → Option Value}, s₁.heap.Ns b m → (hidT s₁.heap H).Ns b m := fun {b m} ⟨o, es, ep, e, d, r⟩ => ⟨o, es, ep, base_of e (noA e d), d, r⟩
  have nK : ∀ b o, K.lookup b = some o → H b = none := fun b o e => by
    cases q : H b with
    | none => rfl
    | some u =>
      rw [hK b u q] at e
      cases e
  have hKb : K.In (hidT s₁.heap H) := fun b o e => base_of (KX b o e) (nK b o e)
  have hM : Mod K mg (hidT s₁.heap H) := ⟨hKb, nsK hns, ⟨mb, nsK hb, hbb⟩, let ⟨mc, h1, h2⟩ := hlim; ⟨mc, nsK h1, h2⟩⟩
  have e0 : Env0 P w K mg (hidT s₁.heap H) callerA [] s₁ H := ⟨rfl, hM, fun b o e => of_hidT e, Nat.le_of_eq (hidT_size _ _), trivial, fun b hb => absurd (show b ∈ ([] : List Addr) from hb) (by simp), hok, .of_eq hg⟩
  have hl : vals.length = ps.length := by rw [wellAll_len hwl]; exact hlen
  refine codeAny_mono ((F _ hKb (nsK hns)).run callerA [] s₁ H ⟨vals, []⟩ vals (vals.map toV) _ _ hr e0 (hbind s₁ vals hl) hV (hsp H _ hO hS)) fun r s' x => ?_
  cases r with
  | error e => exact (hCX H e s' x).elim
  | ok fl =>
    cases fl with
    | next => exact False.elim x
    | brk => exact False.elim x
    | cont => exact False.elim x
    | ret u =>
      obtain ⟨v, H', os, bare, un, hok', r', q⟩ := x
      have kept : ∀ b o, s₁.heap.get? b = some o → s'.heap.get? b = some o := fun b o e => by
        cases q2 : H b with
        | none => exact un.keep b o e q2 (by intro z; exact absurd (show b ∈ ([] : List Addr) from z) (by simp)) (by simp)
        | some u2 =>
          rcases hO b with z | ⟨ob, u3, z⟩
          · rw [q2] at z
            cases z
          · have z2 := un.frzs b ob _ z
            obtain ⟨e1, _⟩ := hok b _ z
            obtain ⟨e2, _⟩ := hok' b _ z2
            rw [e] at e1
            cases e1
            exact e2
      have KX' : K.In s'.heap := fun b o e => kept b o (KX b o e)
      obtain ⟨as, hrd⟩ := Dw.reads (R := R) (cl := cl) hok' KX' d0 v u q r'
      exact ⟨u, as, rfl, hrd, OldK.of_keep kept, os, bare⟩
theorem layable_weight {ds : List WData} (h : WData.layableAll ds = true) : ∀ d ∈ ds, d.weight ≤ 1048576 := fun d hd =>
  (PySem.W.layableW_iff.mp (List.all_eq_true.mp h d hd)).2.2
theorem encAll_len : ∀ (cs : List Codec) (a : Codec.denoteAll cs), (Codec.encAll cs a).length = cs.length
  | [], _ => rfl
  | c :: cs, a => by
    show (Codec.encAll cs a.2).length + 1 = cs.length + 1
    rw [encAll_len cs a.2]
theorem walk_spec {r : OpenSpec} {k : Nat} {q : Program} {loose : List Str} {XP : (Str → Option Value) → Heap → Prop} {YP : World → Heap → Prop} {d : DefRec} {K : Params → PySem.W.Frag} {CX : World → CXT} {ps : List Str} {sp : World → Sp}
    (hwell : r.wellSaid = true) (hdf : d.params.defaults = []) (hlen : r.args.length = ps.length) (hr : Room k callerA)
    (hY : ∀ (w : World) (h : Heap), YP w h → (K w.params).In h)
    (F : ∀ (w : World) (mg : Str → Option Value) (fa : Addr) (h : Heap), YP w h → (K w.params).In h → h.Ns mainGlobals mg → mg d.name = some (.ref fa) →
      ∃ fd : FuncData, (∀ (s : Shared) (us : List Value), us.length = ps.length → BindsTo s fd ⟨us, []⟩ (ps.zip us)) ∧
        ∀ base : Heap, (K w.params).In base → base.Ns mainGlobals mg → FnOk r.prog w (K w.params) mg base (CX w) k fa fd ps (sp w))
    (hsp : ∀ (w : World) (H : Hp) (xs : List V) (a : Codec.denoteAll r.args), OnlyF H → Codec.withinAll r.args a = true → Codec.app r.args r.asked a = true → DwAll (K w.params) H xs (Codec.encAll r.args a) →
      sp w xs H (fun v H' => Dw (K w.params) H' v (r.ret.enc (Codec.app r.args r.f a))) fun _ _ _ => False)
    (hCX : ∀ (w : World) (H : Hp) (s : Shared) (e : Value) (s' : Shared), CX w [] H s (fun _ _ _ => False) e s' → False) :
    PySem.W.WalkOS q loose XP YP r d [] (fun f vs => PySem.call f vs) := by
  intro w s_0 s₁ mg mb G Y fa o pm cd doc dV kV ho hd hcd hD hmg hg args vals as hpre hlay hrd hwl hlo
  obtain ⟨a, e1, e2⟩ := PySem.W.os_pre_some hpre
  obtain ⟨e3, hwi⟩ := Codec.encAll_of_decAll r.args args a e1
  subst e3
  have KX := hY w _ Y
  obtain ⟨fd, hb, hF⟩ := F w mg fa _ Y KX G.T.g hmg
  refine PySem.W.enter_call (codeAny_mono (spec_call (R := []) (cl := classAt s_0.heap) (d0 := r.ret.enc (Codec.app r.args r.f a)) KX G.T.g G.T.b G.T.builtins G.T.nolimit hg hwl (pl_encAll _ _) (layable_weight hlay) hr hF hb (by rw [encAll_len]; exact hlen)
    (fun H xs hO hS => hsp w H xs a hO hwi e2 hS) fun H e s' => hCX w H s₁ e s') fun r' s' hq => ?_)
  obtain ⟨u, as', rfl, h1, h2, h3, h4⟩ := hq
  exact ⟨.inl ⟨u, _, as', rfl, fun _ => rfl, h1, (OpenSpec.post_iff hwell hwi _ _).mpr rfl, fun z => Bool.noConfusion (show false = true from z)⟩, h2, h3, h4⟩
theorem walk_specK {r : OpenSpec} {k : Nat} {q : Program} {loose : List Str} {XP : (Str → Option Value) → Heap → Prop} {YP : World → Heap → Prop} {d : DefRec} {K : Params → PySem.W.Frag} {CX : CXT} {ps : List Str} {sp : PySem.W.Frag → Sp}
    (hwell : r.wellSaid = true) (hdf : d.params.defaults = []) (hlen : r.args.length = ps.length) (hr : Room k callerA)
    (hY : ∀ (w : World) (h : Heap), YP w h → (K w.params).In h)
    (F : ∀ (w : World) (mg : Str → Option Value) (fa : Addr) (h : Heap), YP w h → (K w.params).In h → h.Ns mainGlobals mg → mg d.name = some (.ref fa) →
      ∃ fd : FuncData, (∀ (s : Shared) (us : List Value), us.length = ps.length → BindsTo s fd ⟨us, []⟩ (ps.zip us)) ∧
        ∀ base : Heap, (K w.params).In base → base.Ns mainGlobals mg → FnOk r.prog w (K w.params) mg base CX k fa fd ps (sp (K w.params)))
    (hsp : ∀ (K : PySem.W.Frag) (H : Hp) (xs : List V) (a : Codec.denoteAll r.args), OnlyF H → Codec.withinAll r.args a = true → Codec.app r.args r.asked a = true → DwAll K H xs (Codec.encAll r.args a) →
      sp K xs H (fun v H' => Dw K H' v (r.ret.enc (Codec.app r.args r.f a))) fun _ _ _ => False)
    (hCX : ∀ (H : Hp) (s : Shared) (e : Value) (s' : Shared), CX [] H s (fun _ _ _ => False) e s' → False) :
    PySem.W.WalkOS q loose XP YP r d [] (fun f vs => PySem.call f vs) :=
  walk_spec (K := K) (CX := fun _ => CX) (sp := fun w => sp (K w.params)) hwell hdf hlen hr hY F (fun w H xs a h1 h2 h3 h4 => hsp (K w.params) H xs a h1 h2 h3 h4) fun _ H s e s' => hCX H s e s'
end L2
namespace CM
open Jo
set_option linter.all false
def isDig (c : UInt8) : Bool := decide (48 ≤ c) && decide (c ≤ 57)
def canon (b : Bytes) : Bool := !b.isEmpty && b.all isDig && !(decide (1 < b.length) && b.head? == some 48)
theorem isDig_nat {c : UInt8} (h : isDig c = true) : 48 ≤ c.toNat ∧ c.toNat ≤ 57 := by
  unfold isDig at h
  rw [Bool.and_eq_true, decide_eq_true_eq, decide_eq_true_eq] at h
  exact ⟨UInt8.le_iff_toNat_le.mp h.1, UInt8.le_iff_toNat_le.mp h.2⟩
theorem dec_small : ∀ d : Nat, d < 10 → decimal d = [UInt8.ofNat (48 + d)] := by decide
theorem dec_app {n d : Nat} (hn : 0 < n) (hd : d < 10) : decimal (10 * n + d) = decimal n ++ decimal d := by
  unfold decimal
  rw [← Nat.toDigits_append_toDigits (by decide) hn hd, List.map_append]
theorem natIn_snoc (b : Bytes) (c : UInt8) : natIn (b ++ [c]) = 10 * natIn b + (c.toNat - 48) := by
  unfold natIn
  rw [List.foldl_append]; rfl
theorem dig_of {c : UInt8} (h : isDig c = true) : UInt8.ofNat (48 + (c.toNat - 48)) = c := by
  have := isDig_nat h
  rw [show 48 + (c.toNat - 48) = c.toNat by omega]
  exact UInt8.ofNat_toNat
theorem snoc_ind {α : Type} {P : List α → Prop} (h0 : P []) (hs : ∀ l a, P l → P (l ++ [a])) : ∀ l, P l := by
  intro l
  have h : ∀ l : List α, P l.reverse := by
    intro l
    induction l with
    | nil => exact h0
    | cons a l ih => rw [List.reverse_cons]; exact hs _ _ ih
  have := h l.reverse
  rwa [List.reverse_reverse] at this
theorem canon_pos : ∀ b : Bytes, b ≠ [] → b.all isDig = true → b.head? ≠ some 48 → 0 < natIn b ∧ decimal (natIn b) = b := by
  refine snoc_ind (fun h => absurd rfl h) fun b c ih _ hd hh => ?_
  rw [List.all_append, Bool.and_eq_true] at hd
  have hc : isDig c = true := by simpa using hd.2
  have hn := isDig_nat hc
  rw [natIn_snoc]
  by_cases hb : b = []
  · subst hb
    have hne : c ≠ 48 := by simpa using hh
    have : c.toNat ≠ 48 := fun e => hne (UInt8.toNat_inj.mp e)
    have e0 : natIn ([] : Bytes) = 0 := rfl
    rw [e0]
    refine ⟨by omega, ?_⟩
    rw [show 10 * 0 + (c.toNat - 48) = c.toNat - 48 by omega, dec_small _ (by omega), dig_of hc]; rfl
  · have hh' : b.head? ≠ some 48 := by
      cases b with
      | nil => exact absurd rfl hb
      | cons x r => simpa using hh
    obtain ⟨h1, h2⟩ := ih hb hd.1 hh'
    refine ⟨by omega, ?_⟩
    rw [dec_app h1 (by omega), h2, dec_small _ (by omega), dig_of hc]
theorem canon_dec {b : Bytes} (h : canon b = true) : decimal (natIn b) = b := by
  unfold canon at h
  rw [Bool.and_eq_true, Bool.and_eq_true] at h
  obtain ⟨⟨h1, h2⟩, h3⟩ := h
  have hb : b ≠ [] := by cases b with | nil => simp at h1 | cons => simp
  by_cases hh : b.head? = some 48
  · cases b with
    | nil => exact absurd rfl hb
    | cons x r =>
      have hx : x = 48 := by simpa using hh
      subst hx
      cases r with
      | nil => decide
      | cons y r => simp at h3
  · exact (canon_pos b hb h2 hh).2
theorem dec_shape : ∀ n : Nat, (decimal n).all isDig = true ∧ decimal n ≠ [] ∧ (0 < n → (decimal n).head? ≠ some 48) := by
  intro n
  induction n using Nat.strongRecOn with
  | ind n ih =>
    by_cases h : n < 10
    · have : ∀ d : Nat, d < 10 → (decimal d).all isDig = true ∧ decimal d ≠ [] ∧ (0 < d → (decimal d).head? ≠ some 48) := by decide
      exact this n h
    · have e : decimal n = decimal (n / 10) ++ decimal (n % 10) := by
        have e1 : n = 10 * (n / 10) + n % 10 := by omega
        have := dec_app (n := n / 10) (d := n % 10) (by omega) (by omega)
        rw [← this, ← e1]
      obtain ⟨a1, a2, a3⟩ := ih (n / 10) (by omega)
      obtain ⟨b1, b2, b3⟩ := ih (n % 10) (by omega)
      rw [e]
      refine ⟨by rw [List.all_append, a1, b1]; rfl, by simp [a2], fun _ => ?_⟩
      have := a3 (by omega)
      cases q : decimal (n / 10) with
      | nil => exact absurd q a2
      | cons x r => rw [q] at this; simpa using this
theorem dec_canon (n : Nat) : canon (decimal n) = true := by
  obtain ⟨h1, h2, h3⟩ := dec_shape n
  unfold canon
  rw [h1]
  have e1 : (decimal n).isEmpty = false := by cases q : decimal n with | nil => exact absurd q h2 | cons => rfl
  rw [e1]
  by_cases h : 0 < n
  · have := h3 h
    have e2 : ((decimal n).head? == some 48) = false := by
      cases q : ((decimal n).head? == some 48) with
      | false => rfl
      | true => exact absurd (eq_of_beq q) this
    rw [e2]; simp
  · have : n = 0 := by omega
    subst this
    decide
theorem canon_iff (b : Bytes) : decimal (natIn b) = b ↔ canon b = true :=
  ⟨fun h => by rw [← h]; exact dec_canon _, canon_dec⟩
theorem cutAt_ne (c : UInt8) : ∀ b : Bytes, cutAt c b ≠ []
  | [] => by simp [cutAt]
  | x :: r => by
    unfold cutAt
    split
    · simp
    · cases cutAt c r with
      | nil => simp
      | cons => simp
theorem cutAt_free (c : UInt8) : ∀ b : Bytes, ∀ w ∈ cutAt c b, c ∉ w
  | [], w, h => by
    have : w = [] := by simpa [cutAt] using h
    subst this; simp
  | x :: r, w, h => by
    have ih := cutAt_free c r
    unfold cutAt at h
    split at h
    · rcases List.mem_cons.mp h with rfl | h
      · simp
      · exact ih w h
    · rename_i hx
      cases q : cutAt c r with
      | nil => exact absurd q (cutAt_ne c r)
      | cons y l =>
        rw [q] at h ih
        rcases List.mem_cons.mp h with rfl | h
        · intro hc
          rcases List.mem_cons.mp hc with e | hc
          · exact hx e.symm
          · exact ih y List.mem_cons_self hc
        · exact ih w (List.mem_cons_of_mem _ h)
theorem spaced_cut : ∀ b : Bytes, spaced (cutAt 32 b) = b
  | [] => rfl
  | x :: r => by
    have ih := spaced_cut r
    unfold cutAt
    split
    · rename_i hx
      subst hx
      cases q : cutAt 32 r with
      | nil => exact absurd q (cutAt_ne 32 r)
      | cons y l => rw [q] at ih; show [] ++ (32 :: spaced (y :: l)) = _; rw [ih]; rfl
    · cases q : cutAt 32 r with
      | nil => exact absurd q (cutAt_ne 32 r)
      | cons y l =>
        rw [q] at ih
        show spaced ((x :: y) :: l) = _
        cases l with
        | nil => have : y = r := ih; rw [this]; rfl
        | cons z l => show (x :: y) ++ (32 :: spaced (z :: l)) = _; rw [← ih]; rfl
theorem cut_word {w : Bytes} (h : (32 : UInt8) ∉ w) : cutAt 32 w = [w] := by
  induction w with
  | nil => rfl
  | cons x w ih =>
    have hx : ¬ x = 32 := fun e => h (by rw [e]; exact List.mem_cons_self)
    unfold cutAt
    rw [if_neg hx, ih fun q => h (List.mem_cons_of_mem _ q)]
theorem cut_app {w r : Bytes} (h : (32 : UInt8) ∉ w) : cutAt 32 (w ++ 32 :: r) = w :: cutAt 32 r := by
  induction w with
  | nil => show cutAt 32 (32 :: r) = _; conv => lhs; unfold cutAt
           rw [if_pos rfl]
  | cons x w ih =>
    have hx : ¬ x = 32 := fun e => h (by rw [e]; exact List.mem_cons_self)
    show cutAt 32 (x :: (w ++ 32 :: r)) = _
    conv => lhs; unfold cutAt
    rw [if_neg hx, ih fun q => h (List.mem_cons_of_mem _ q)]
theorem cut_spaced : ∀ ws : List Bytes, ws ≠ [] → (∀ w ∈ ws, (32 : UInt8) ∉ w) → cutAt 32 (spaced ws) = ws
  | [], h, _ => absurd rfl h
  | [w], _, h => cut_word (h w List.mem_cons_self)
  | w :: v :: r, _, h => by
    show cutAt 32 (w ++ (32 :: spaced (v :: r))) = _
    rw [cut_app (h w List.mem_cons_self), cut_spaced (v :: r) (by simp) fun x hx => h x (List.mem_cons_of_mem _ hx)]
theorem spaced_iff {ws : List Bytes} {b : Bytes} (h0 : ws ≠ []) (h : ∀ w ∈ ws, (32 : UInt8) ∉ w) : spaced ws = b ↔ cutAt 32 b = ws :=
  ⟨fun e => by rw [← e]; exact cut_spaced ws h0 h, fun e => by rw [← e]; exact spaced_cut b⟩
theorem dec_free (n : Nat) : (32 : UInt8) ∉ decimal n := by
  intro h
  have := List.all_eq_true.mp (dec_shape n).1 32 h
  revert this; decide
end CM
namespace CM
open Jo
set_option linter.all false
def lineW : List Bytes → Option Line
  | [k, n, a, b, c, g] => if k = ascii "part" ∧ nameOk n = true ∧ (canon a = true ∧ canon b = true ∧ canon c = true) ∧ (within 1 16 (natIn a) = true ∧ within 1 16 (natIn b) = true ∧ within 1 16 (natIn c) = true)
      then (GRAINS.findIdx? fun (q : Bytes) => q == g).map fun (i : Nat) => Line.part n (natIn a) (natIn b) (natIn c) i else none
  | [k, x, y, z, a, b, c] => if k = ascii "cut" ∧ (canon x = true ∧ canon y = true ∧ canon z = true ∧ canon a = true ∧ canon b = true ∧ canon c = true) ∧ (within 1 16 (natIn a) = true ∧ within 1 16 (natIn b) = true ∧ within 1 16 (natIn c) = true)
      then some (Line.cut ⟨natIn x, natIn y, natIn z, natIn a, natIn b, natIn c⟩) else none
  | _ => none
theorem lineW6 (k n a b c g : Bytes) : lineW [k, n, a, b, c, g] = if k = ascii "part" ∧ nameOk n = true ∧ (canon a = true ∧ canon b = true ∧ canon c = true) ∧ (within 1 16 (natIn a) = true ∧ within 1 16 (natIn b) = true ∧ within 1 16 (natIn c) = true)
      then (GRAINS.findIdx? fun (q : Bytes) => q == g).map fun (i : Nat) => Line.part n (natIn a) (natIn b) (natIn c) i else none := rfl
theorem lineW7 (k x y z a b c : Bytes) : lineW [k, x, y, z, a, b, c] = if k = ascii "cut" ∧ (canon x = true ∧ canon y = true ∧ canon z = true ∧ canon a = true ∧ canon b = true ∧ canon c = true) ∧ (within 1 16 (natIn a) = true ∧ within 1 16 (natIn b) = true ∧ within 1 16 (natIn c) = true)
      then some (Line.cut ⟨natIn x, natIn y, natIn z, natIn a, natIn b, natIn c⟩) else none := rfl
theorem grain_free : ∀ g : Nat, g ≤ 2 → (32 : UInt8) ∉ GRAINS.getD g [] := by decide
theorem part_text {n b : Bytes} {w d h g : Nat} (hn : (32 : UInt8) ∉ n) (hg : g ≤ 2) : (Line.part n w d h g).text = b ↔ cutAt 32 b = [ascii "part", n, decimal w, decimal d, decimal h, GRAINS.getD g []] := by
  refine spaced_iff (by simp) fun x hx => ?_
  simp only [List.mem_cons, List.not_mem_nil, or_false] at hx
  rcases hx with rfl | rfl | rfl | rfl | rfl | rfl
  · decide
  · exact hn
  · exact dec_free _
  · exact dec_free _
  · exact dec_free _
  · exact grain_free g hg
theorem cut_text {b : Bytes} {x : Box} : (Line.cut x).text = b ↔ cutAt 32 b = [ascii "cut", decimal x.x, decimal x.y, decimal x.z, decimal x.w, decimal x.d, decimal x.h] := by
  refine spaced_iff (by simp) fun x hx => ?_
  simp only [List.map_cons, List.map_nil, List.mem_cons, List.not_mem_nil, or_false] at hx
  rcases hx with rfl | rfl | rfl | rfl | rfl | rfl | rfl
  · decide
  all_goals exact dec_free _
theorem part_ne_cut : ascii "part" ≠ ascii "cut" := by decide
theorem grains_idx {g : Bytes} {i : Nat} (h : (GRAINS.findIdx? fun (q : Bytes) => q == g) = some i) : i ≤ 2 ∧ GRAINS.getD i [] = g := by
  have h1 := List.findIdx?_eq_some_iff_getElem.mp h
  obtain ⟨hi, he, _⟩ := h1
  have hi' : i < 3 := hi
  refine ⟨by omega, ?_⟩
  rw [List.getD_eq_getElem?_getD, List.getElem?_eq_getElem hi]
  exact eq_of_beq he
theorem lineIn_eq (b : Bytes) : lineIn b = lineW (cutAt 32 b) := by
  have hf := cutAt_free 32 b
  have hne := cutAt_ne 32 b
  unfold lineIn lineMaybe
  generalize hr : cutAt 32 b = r at hf hne
  simp only []
  by_cases hp : r.headD [] = ascii "part"
  · rw [if_pos hp]
    have hlen : ∀ x : Line, (∃ n w d h g, x = Line.part n w d h g ∧ (32 : UInt8) ∉ n ∧ g ≤ 2) → x.text = b → r.length = 6 := by
      rintro x ⟨n, w, d, h, g, rfl, hn, hg⟩ e
      rw [part_text hn hg, hr] at e
      rw [e]; rfl
    have hfree1 : (32 : UInt8) ∉ r.getD 1 [] := by
      rw [List.getD_eq_getElem?_getD]
      cases q : r[1]? with
      | none => simp
      | some v => exact hf v (List.mem_of_getElem? q)
    cases hg : (GRAINS.findIdx? fun (g : Bytes) => g == r.getD 5 []) with
    | none =>
      show none = lineW r
      unfold lineW
      split
      · rename_i k n a b' c g
        have hg' : (GRAINS.findIdx? fun (q : Bytes) => q == g) = none := hg
        rw [hg']; split <;> rfl
      · rename_i k x y z a b' c
        have : k = ascii "part" := hp
        rw [if_neg (fun q => part_ne_cut (this.symm.trans q.1))]
      · rfl
    | some g =>
      obtain ⟨hg2, hge⟩ := grains_idx hg
      show (if (Line.part _ _ _ _ g).ok = true ∧ (Line.part _ _ _ _ g).text = b then some _ else none) = lineW r
      by_cases hl : r.length = 6
      · match r, hl with
        | [k, n, a, b', c, g'], _ =>
          have hk : k = ascii "part" := hp
          have hg' : (GRAINS.findIdx? fun (q : Bytes) => q == g') = some g := hg
          have hge' : GRAINS.getD g [] = g' := hge
          have hn : (32 : UInt8) ∉ n := hfree1
          show (if (Line.part n (natIn a) (natIn b') (natIn c) g).ok = true ∧ (Line.part n (natIn a) (natIn b') (natIn c) g).text = b then some _ else none) = _
          rw [lineW6, hg']
          have e : ((Line.part n (natIn a) (natIn b') (natIn c) g).ok = true ∧ (Line.part n (natIn a) (natIn b') (natIn c) g).text = b) ↔
              (k = ascii "part" ∧ nameOk n = true ∧ (canon a = true ∧ canon b' = true ∧ canon c = true) ∧ (within 1 16 (natIn a) = true ∧ within 1 16 (natIn b') = true ∧ within 1 16 (natIn c) = true)) := by
            rw [part_text hn hg2, hr, hge', hk]
            simp only [Line.ok, SIDE, Bool.and_eq_true, decide_eq_true_eq, List.cons.injEq, and_true, true_and]
            constructor
            · rintro ⟨⟨h1, h2, h3, h4, h5⟩, h6, h7, h8⟩
              exact ⟨h1, ⟨(canon_iff a).mp h6.symm, (canon_iff b').mp h7.symm, (canon_iff c).mp h8.symm⟩, h2, h3, h4⟩
            · rintro ⟨h1, ⟨h6, h7, h8⟩, h2, h3, h4⟩
              exact ⟨⟨h1, h2, h3, h4, hg2⟩, ((canon_iff a).mpr h6).symm, ((canon_iff b').mpr h7).symm, ((canon_iff c).mpr h8).symm⟩
          by_cases hc : (k = ascii "part" ∧ nameOk n = true ∧ (canon a = true ∧ canon b' = true ∧ canon c = true) ∧ (within 1 16 (natIn a) = true ∧ within 1 16 (natIn b') = true ∧ within 1 16 (natIn c) = true))
          · rw [if_pos hc, if_pos (e.mpr hc)]; rfl
          · rw [if_neg hc, if_neg (fun q => hc (e.mp q))]
      · rw [if_neg (fun q => hl (hlen _ ⟨_, _, _, _, _, rfl, hfree1, hg2⟩ q.2))]
        unfold lineW
        split
        · exact absurd rfl hl
        · rename_i k x y z a b' c
          have : k = ascii "part" := hp
          rw [if_neg (fun q => part_ne_cut (this.symm.trans q.1))]
        · rfl
  · rw [if_neg hp]
    by_cases hc : r.headD [] = ascii "cut"
    · rw [if_pos hc]
      show (if (Line.cut _).ok = true ∧ (Line.cut _).text = b then some _ else none) = lineW r
      by_cases hl : r.length = 7
      · match r, hl with
        | [k, x, y, z, a, b', c], _ =>
          have hk : k = ascii "cut" := hc
          show (if (Line.cut ⟨natIn x, natIn y, natIn z, natIn a, natIn b', natIn c⟩).ok = true ∧ (Line.cut ⟨natIn x, natIn y, natIn z, natIn a, natIn b', natIn c⟩).text = b then some _ else none) = _
          rw [lineW7]
          have e : ((Line.cut ⟨natIn x, natIn y, natIn z, natIn a, natIn b', natIn c⟩).ok = true ∧ (Line.cut ⟨natIn x, natIn y, natIn z, natIn a, natIn b', natIn c⟩).text = b) ↔
              (k = ascii "cut" ∧ (canon x = true ∧ canon y = true ∧ canon z = true ∧ canon a = true ∧ canon b' = true ∧ canon c = true) ∧ (within 1 16 (natIn a) = true ∧ within 1 16 (natIn b') = true ∧ within 1 16 (natIn c) = true)) := by
            rw [cut_text, hr, hk]
            simp only [Line.ok, SIDE, Bool.and_eq_true, List.cons.injEq, and_true, true_and]
            constructor
            · rintro ⟨⟨h2, h3, h4⟩, p1, p2, p3, p4, p5, p6⟩
              exact ⟨⟨(canon_iff _).mp p1.symm, (canon_iff _).mp p2.symm, (canon_iff _).mp p3.symm, (canon_iff _).mp p4.symm, (canon_iff _).mp p5.symm, (canon_iff _).mp p6.symm⟩, h2, h3, h4⟩
            · rintro ⟨⟨p1, p2, p3, p4, p5, p6⟩, h2, h3, h4⟩
              exact ⟨⟨h2, h3, h4⟩, ((canon_iff _).mpr p1).symm, ((canon_iff _).mpr p2).symm, ((canon_iff _).mpr p3).symm, ((canon_iff _).mpr p4).symm, ((canon_iff _).mpr p5).symm, ((canon_iff _).mpr p6).symm⟩
          by_cases hq : (k = ascii "cut" ∧ (canon x = true ∧ canon y = true ∧ canon z = true ∧ canon a = true ∧ canon b' = true ∧ canon c = true) ∧ (within 1 16 (natIn a) = true ∧ within 1 16 (natIn b') = true ∧ within 1 16 (natIn c) = true))
          · rw [if_pos hq, if_pos (e.mpr hq)]; rfl
          · rw [if_neg hq, if_neg (fun q => hq (e.mp q))]
      · rw [if_neg (fun q => hl (by have e := cut_text.mp q.2; rw [hr] at e; rw [e]; rfl))]
        unfold lineW
        split
        · rename_i k n a b' c g
          have : k = ascii "cut" := hc
          rw [if_neg (fun q => part_ne_cut (q.1.symm.trans this))]
        · exact absurd rfl hl
        · rfl
    · rw [if_neg hc]
      show none = lineW r
      unfold lineW
      split
      · rename_i k n a b' c g
        rw [if_neg (fun q => hp q.1)]
      · rename_i k x y z a b' c
        rw [if_neg (fun q => hc q.1)]
      · rfl
def wordLines (t : Bytes) : List (List Bytes) := (cutAt 10 t).dropLast.map (cutAt 32) ++ (if (cutAt 10 t).getLast? = some [] then [] else [[]])
def readW (k : Nat) (l : List Line) : List (List Bytes) → Except (Nat × Nat) (List Line)
  | [] => .ok l
  | ws :: r => match lineW ws with
    | none => .error (k, 1)
    | some x => if wrongOf l x = 0 then readW (k + 1) (l ++ [x]) r else .error (k, wrongOf l x)
theorem cut_lines : ∀ t : Bytes, (t = [] → splitLines t = [] ∧ cutAt 10 t = [[]]) ∧
    (t ≠ [] → (t.getLast? = some 10 → cutAt 10 t = splitLines t ++ [[]]) ∧ (t.getLast? ≠ some 10 → cutAt 10 t = splitLines t ∧ ∃ x, (splitLines t).getLast? = some x ∧ x ≠ []))
  | [] => ⟨fun _ => ⟨rfl, rfl⟩, fun h => absurd rfl h⟩
  | c :: r => by
    obtain ⟨i1, i2⟩ := cut_lines r
    refine ⟨fun h => (by cases h), fun _ => ?_⟩
    by_cases hr : r = []
    · subst hr
      by_cases hc : c = 10
      · subst hc
        exact ⟨fun _ => rfl, fun h => absurd rfl h⟩
      · refine ⟨fun h => absurd (by simpa using h) hc, fun _ => ?_⟩
        have e1 : cutAt 10 [c] = [[c]] := by unfold cutAt; rw [if_neg hc]; rfl
        have e2 : splitLines [c] = [[c]] := by unfold splitLines; rw [if_neg hc]; rfl
        rw [e1, e2]
        exact ⟨rfl, [c], rfl, by simp⟩
    · have hl : (c :: r).getLast? = r.getLast? := by
        cases r with
        | nil => exact absurd rfl hr
        | cons y s => rfl
      rw [hl]
      obtain ⟨j1, j2⟩ := i2 hr
      by_cases hc : c = 10
      · subst hc
        have e1 : cutAt 10 (10 :: r) = [] :: cutAt 10 r := by rw [cutAt, if_pos rfl]
        have e2 : splitLines (10 :: r) = [] :: splitLines r := by rw [splitLines, if_pos rfl]
        rw [e1, e2]
        refine ⟨fun h => by rw [j1 h]; rfl, fun h => ?_⟩
        obtain ⟨k1, x, k2, k3⟩ := j2 h
        refine ⟨by rw [k1], x, ?_, k3⟩
        cases q : splitLines r with
        | nil => rw [q] at k2; cases k2
        | cons y s => rw [q] at k2; exact k2
      · have e1 : cutAt 10 (c :: r) = match cutAt 10 r with | [] => [[c]] | w :: l => (c :: w) :: l := (by rw [cutAt, if_neg hc]; cases cutAt 10 r <;> rfl)
        have e2 : splitLines (c :: r) = match splitLines r with | [] => [[c]] | w :: l => (c :: w) :: l := (by rw [splitLines, if_neg hc]; cases splitLines r <;> rfl)
        have hsn : splitLines r ≠ [] := by
          intro q
          cases r with
          | nil => exact hr rfl
          | cons y s =>
            unfold splitLines at q
            split at q
            · cases q
            · cases h : splitLines s <;> rw [h] at q <;> cases q
        rw [e1, e2]
        cases q : splitLines r with
        | nil => exact absurd q hsn
        | cons w l =>
          refine ⟨fun h => by rw [j1 h, q]; rfl, fun h => ?_⟩
          obtain ⟨k1, x, k2, k3⟩ := j2 h
          rw [k1, q]
          refine ⟨rfl, ?_⟩
          rw [q] at k2
          cases l with
          | nil => exact ⟨c :: w, rfl, by simp⟩
          | cons y s => exact ⟨x, k2, k3⟩
theorem lines_same (isB : Bool) : ∀ (ls : List Bytes) (k : Nat) (l : List Line), isB = false → linesFrom isB k l ls = readW k l (ls.map (cutAt 32))
  | [], k, l, _ => rfl
  | b :: r, k, l, h => by
    subst h
    unfold linesFrom
    rw [show (false && r.isEmpty) = false from rfl]
    simp only [Bool.false_eq_true, if_false]
    rw [lineIn_eq, List.map_cons]
    unfold readW
    cases lineW (cutAt 32 b) with
    | none => rfl
    | some x =>
      simp only []
      split
      · exact lines_same false r (k + 1) (l ++ [x]) rfl
      · rfl
theorem lines_bare : ∀ (ls : List Bytes) (k : Nat) (l : List Line), ls ≠ [] → linesFrom true k l ls = readW k l (ls.dropLast.map (cutAt 32) ++ [[]])
  | [], k, l, h => absurd rfl h
  | [b], k, l, _ => rfl
  | b :: c :: r, k, l, _ => by
    unfold linesFrom
    rw [show (true && (c :: r).isEmpty) = false from rfl]
    simp only [Bool.false_eq_true, if_false]
    rw [lineIn_eq]
    show _ = readW k l (cutAt 32 b :: (List.map (cutAt 32) (c :: r).dropLast ++ [[]]))
    conv => rhs; unfold readW
    cases lineW (cutAt 32 b) with
    | none => rfl
    | some x =>
      simp only []
      split
      · exact lines_bare (c :: r) (k + 1) (l ++ [x]) (by simp)
      · rfl
theorem lines_eq (t : Bytes) (k : Nat) (l : List Line) : linesFrom (!t.isEmpty && t.getLast? != some 10) k l (splitLines t) = readW k l (wordLines t) := by
  obtain ⟨h1, h2⟩ := cut_lines t
  unfold wordLines
  by_cases ht : t = []
  · subst ht
    rfl
  · have he : t.isEmpty = false := by cases t with | nil => exact absurd rfl ht | cons => rfl
    rw [he]
    obtain ⟨j1, j2⟩ := h2 ht
    by_cases hl : t.getLast? = some 10
    · rw [j1 hl, hl]
      rw [show (!false && (some (10 : UInt8) != some 10)) = false from rfl, lines_same false _ _ _ rfl]
      rw [if_pos (by rw [List.getLast?_append]; rfl), List.dropLast_concat, List.append_nil]
    · obtain ⟨k1, x, k2, k3⟩ := j2 hl
      have e : (t.getLast? != some 10) = true := by
        cases q : (t.getLast? != some 10) with
        | true => rfl
        | false => exact absurd (by simpa using q) hl
      rw [e, k1, show (!false && true) = true from rfl, lines_bare _ _ _ (fun q => by rw [q] at k2; cases k2)]
      rw [k2, if_neg (fun q => k3 (Option.some.inj q))]
theorem readPart_eq (t : Bytes) : readPart t = match readW 0 [] (wordLines t) with
    | .error e => .error e
    | .ok l => match partOf l with
      | some p => .ok p
      | none => .error (0, 3) := by
  unfold readPart
  rw [lines_eq]
  cases readW 0 [] (wordLines t) <;> rfl
end CM
namespace CM
open Jo
set_option linter.all false
def strictB (l : List Nat) : Bool := (l.zip (l.drop 1)).all fun (p : Nat × Nat) => decide (p.1 < p.2)
def waysIn (v : Bytes) : List Nat := v.map fun (c : UInt8) => LETTERS.idxOf c
def waysOk (v : Bytes) : Bool := v.all (fun (c : UInt8) => LETTERS.contains c) && strictB (waysIn v)
def toolW : List Bytes → Option Tool
  | [k, a, v, n] => if k = ascii "tool" ∧ canon a = true ∧ (v ≠ [] ∧ waysOk v = true) ∧ canon n = true ∧ within 1 16 (natIn n) = true
      then some ⟨natIn a, waysIn v, natIn n⟩ else none
  | _ => none
theorem toolW4 (k a v n : Bytes) : toolW [k, a, v, n] = if k = ascii "tool" ∧ canon a = true ∧ (v ≠ [] ∧ waysOk v = true) ∧ canon n = true ∧ within 1 16 (natIn n) = true
      then some ⟨natIn a, waysIn v, natIn n⟩ else none := rfl
theorem letter_free : ∀ v : Nat, v ≤ 6 → LETTERS.getD v 0 ≠ 32 := by decide
theorem letters_len : LETTERS.length = 6 := by decide
theorem letters_free (l : List Nat) : (32 : UInt8) ∉ l.map fun (v : Nat) => LETTERS.getD v 0 := by
  intro h
  obtain ⟨v, _, e⟩ := List.mem_map.mp h
  by_cases hv : v ≤ 6
  · exact letter_free v hv e
  · rw [List.getD_eq_getElem?_getD, List.getElem?_eq_none (by rw [letters_len]; omega)] at e
    revert e; decide
theorem tool_text {b : Bytes} {t : Tool} : t.text = b ↔ cutAt 32 b = [ascii "tool", decimal t.cut, t.ways.map fun (v : Nat) => LETTERS.getD v 0, decimal t.reach] := by
  refine spaced_iff (by simp) fun x hx => ?_
  simp only [List.mem_cons, List.not_mem_nil, or_false] at hx
  rcases hx with rfl | rfl | rfl | rfl
  · decide
  · exact dec_free _
  · exact letters_free _
  · exact dec_free _
theorem idx_le (c : UInt8) : LETTERS.idxOf c ≤ 5 ↔ LETTERS.contains c = true := by
  have h : LETTERS.idxOf c < LETTERS.length ↔ c ∈ LETTERS := List.idxOf_lt_length_iff
  rw [letters_len] at h
  rw [List.contains_iff_mem, ← h]
  omega
theorem letter_at {c : UInt8} (h : LETTERS.contains c = true) : LETTERS.getD (LETTERS.idxOf c) 0 = c := by
  have hm : c ∈ LETTERS := by rwa [List.contains_iff_mem] at h
  have hl := List.idxOf_lt_length_of_mem hm
  rw [List.getD_eq_getElem?_getD, List.getElem?_eq_getElem hl]
  exact List.getElem_idxOf hl
theorem letters_back : ∀ v : Bytes, v.all (fun (c : UInt8) => LETTERS.contains c) = true → ((waysIn v).map fun (i : Nat) => LETTERS.getD i 0) = v
  | [], _ => rfl
  | c :: v, h => by
    rw [List.all_cons, Bool.and_eq_true] at h
    have ih := letters_back v h.2
    show LETTERS.getD (LETTERS.idxOf c) 0 :: (waysIn v).map _ = _
    rw [letter_at h.1, ih]
theorem all_idx : ∀ v : Bytes, (waysIn v).all (fun (i : Nat) => decide (i ≤ 5)) = v.all (fun (c : UInt8) => LETTERS.contains c)
  | [] => rfl
  | c :: v => by
    show (decide (LETTERS.idxOf c ≤ 5) && (waysIn v).all _) = (LETTERS.contains c && v.all _)
    rw [all_idx v]
    congr 1
    rw [Bool.eq_iff_iff, decide_eq_true_eq]
    exact idx_le c
theorem toolIn_eq (b : Bytes) : toolIn b = toolW (cutAt 32 b) := by
  unfold toolIn
  generalize hr : cutAt 32 b = r
  simp only []
  have hlen : ∀ t : Tool, t.text = b → r.length = 4 := by
    intro t e
    rw [tool_text, hr] at e
    rw [e]; rfl
  by_cases hl : r.length = 4
  · match r, hl with
    | [k, a, v, n], _ =>
      show (if (Tool.mk (natIn a) (waysIn v) (natIn n)).ok = true ∧ (Tool.mk (natIn a) (waysIn v) (natIn n)).text = b then some (Tool.mk (natIn a) (waysIn v) (natIn n)) else none) = _
      rw [toolW4]
      have e : ((Tool.mk (natIn a) (waysIn v) (natIn n)).ok = true ∧ (Tool.mk (natIn a) (waysIn v) (natIn n)).text = b) ↔ (k = ascii "tool" ∧ canon a = true ∧ (v ≠ [] ∧ waysOk v = true) ∧ canon n = true ∧ within 1 16 (natIn n) = true) := by
        rw [tool_text, hr]
        have he : (waysIn v).isEmpty = v.isEmpty := by cases v <;> rfl
        simp only [Tool.ok, SIDE, waysOk, Bool.and_eq_true, all_idx, he, List.cons.injEq, and_true]
        constructor
        · rintro ⟨⟨h1, h2, h3, h4⟩, h5, h6, h7, h8⟩
          exact ⟨h5, (canon_iff a).mp h6.symm, ⟨fun q => by subst q; simp at h1, h2, h3⟩, (canon_iff n).mp h8.symm, h4⟩
        · rintro ⟨h5, h6, ⟨h1, h2, h3⟩, h8, h4⟩
          refine ⟨⟨?_, h2, h3, h4⟩, h5, ((canon_iff a).mpr h6).symm, (letters_back v h2).symm, ((canon_iff n).mpr h8).symm⟩
          cases v with
          | nil => exact absurd rfl h1
          | cons => rfl
      by_cases hc : (k = ascii "tool" ∧ canon a = true ∧ (v ≠ [] ∧ waysOk v = true) ∧ canon n = true ∧ within 1 16 (natIn n) = true)
      · rw [if_pos hc, if_pos (e.mpr hc)]
      · rw [if_neg hc, if_neg (fun q => hc (e.mp q))]
  · rw [if_neg (fun q => hl (hlen _ q.2))]
    unfold toolW
    split
    · exact absurd rfl hl
    · rfl
def readT (p : Part) (k : Nat) (l : Tools) : List (List Bytes) → Except (Nat × Nat) Tools
  | [] => .ok l
  | ws :: r => match toolW ws with
    | none => .error (k, 1)
    | some x => if wrongTool p l x = 0 then readT p (k + 1) (l ++ [x]) r else .error (k, wrongTool p l x)
theorem tools_same (p : Part) : ∀ (ls : List Bytes) (k : Nat) (l : Tools), toolsFrom p false k l ls = readT p k l (ls.map (cutAt 32))
  | [], k, l => rfl
  | b :: r, k, l => by
    unfold toolsFrom
    rw [show (false && r.isEmpty) = false from rfl]
    simp only [Bool.false_eq_true, if_false]
    rw [toolIn_eq, List.map_cons]
    unfold readT
    cases toolW (cutAt 32 b) with
    | none => rfl
    | some x =>
      simp only []
      split
      · exact tools_same p r (k + 1) (l ++ [x])
      · rfl
theorem tools_bare (p : Part) : ∀ (ls : List Bytes) (k : Nat) (l : Tools), ls ≠ [] → toolsFrom p true k l ls = readT p k l (ls.dropLast.map (cutAt 32) ++ [[]])
  | [], k, l, h => absurd rfl h
  | [b], k, l, _ => rfl
  | b :: c :: r, k, l, _ => by
    unfold toolsFrom
    rw [show (true && (c :: r).isEmpty) = false from rfl]
    simp only [Bool.false_eq_true, if_false]
    rw [toolIn_eq]
    show _ = readT p k l (cutAt 32 b :: (List.map (cutAt 32) (c :: r).dropLast ++ [[]]))
    conv => rhs; unfold readT
    cases toolW (cutAt 32 b) with
    | none => rfl
    | some x =>
      simp only []
      split
      · exact tools_bare p (c :: r) (k + 1) (l ++ [x]) (by simp)
      · rfl
theorem readTools_eq (p : Part) (t : Bytes) : readTools p t = readT p 0 [] (wordLines t) := by
  unfold readTools
  obtain ⟨h1, h2⟩ := cut_lines t
  unfold wordLines
  by_cases ht : t = []
  · subst ht
    rfl
  · have he : t.isEmpty = false := by cases t with | nil => exact absurd rfl ht | cons => rfl
    rw [he]
    obtain ⟨j1, j2⟩ := h2 ht
    by_cases hl : t.getLast? = some 10
    · rw [j1 hl, hl]
      rw [show (!false && (some (10 : UInt8) != some 10)) = false from rfl, tools_same]
      rw [if_pos (by rw [List.getLast?_append]; rfl), List.dropLast_concat, List.append_nil]
    · obtain ⟨k1, x, k2, k3⟩ := j2 hl
      have e : (t.getLast? != some 10) = true := by
        cases q : (t.getLast? != some 10) with
        | true => rfl
        | false => exact absurd (by simpa using q) hl
      rw [e, k1, show (!false && true) = true from rfl, tools_bare _ _ _ _ (fun q => by rw [q] at k2; cases k2)]
      rw [k2, if_neg (fun q => k3 (Option.some.inj q))]
def stB : List Line → List Nat
  | .part _ w d h _ :: _ => [w, d, h]
  | _ => []
def stC (l : List Line) : List Box := l.filterMap fun (x : Line) => match x with
  | .cut b => some b
  | _ => none
inductive Good : List Line → Prop
  | nil : Good []
  | cuts {n : Name} {w d h g : Nat} {r : List Box} (hw : 1 ≤ w ∧ w ≤ 16) (hd : 1 ≤ d ∧ d ≤ 16) (hh : 1 ≤ h ∧ h ≤ 16) (hr : ∀ b ∈ r, b.x + b.w ≤ w ∧ b.y + b.d ≤ d ∧ b.z + b.h ≤ h ∧ 1 ≤ b.w ∧ 1 ≤ b.d ∧ 1 ≤ b.h) (hl : r.length ≤ 64) : Good (.part n w d h g :: r.map Line.cut)
theorem stC_cuts (n : Name) (w d h g : Nat) (r : List Box) : stC (.part n w d h g :: r.map Line.cut) = r := by
  unfold stC
  rw [List.filterMap_cons]
  simp only []
  rw [List.filterMap_map]
  show List.filterMap some r = r
  exact List.filterMap_some
theorem within_iff {n : Nat} : within 1 16 n = true ↔ 1 ≤ n ∧ n ≤ 16 := by
  unfold within; rw [Bool.and_eq_true, decide_eq_true_eq, decide_eq_true_eq]
theorem lineW_part {ws : List Bytes} {n : Name} {w d h g : Nat} (e : lineW ws = some (.part n w d h g)) : (1 ≤ w ∧ w ≤ 16) ∧ (1 ≤ d ∧ d ≤ 16) ∧ (1 ≤ h ∧ h ≤ 16) := by
  unfold lineW at e
  split at e
  · split at e
    · rename_i hc
      obtain ⟨i, _, hi⟩ := Option.map_eq_some_iff.mp e
      cases hi
      exact ⟨within_iff.mp hc.2.2.2.1, within_iff.mp hc.2.2.2.2.1, within_iff.mp hc.2.2.2.2.2⟩
    · cases e
  · split at e <;> cases e
  · cases e
theorem lineW_cut {ws : List Bytes} {b : Box} (e : lineW ws = some (.cut b)) : (1 ≤ b.w ∧ b.w ≤ 16) ∧ (1 ≤ b.d ∧ b.d ≤ 16) ∧ (1 ≤ b.h ∧ b.h ≤ 16) := by
  unfold lineW at e
  split at e
  · split at e
    · obtain ⟨i, _, hi⟩ := Option.map_eq_some_iff.mp e
      cases hi
    · cases e
  · split at e
    · rename_i hc
      cases e
      exact ⟨within_iff.mp hc.2.2.1, within_iff.mp hc.2.2.2.1, within_iff.mp hc.2.2.2.2⟩
    · cases e
  · cases e
def whyOf (l : List Line) (ws : List Bytes) : Nat := match lineW ws with
  | none => 1
  | some x => wrongOf l x
theorem Good.step {l : List Line} (G : Good l) {ws : List Bytes} {x : Line} (e : lineW ws = some x) (h : wrongOf l x = 0) : Good (l ++ [x]) := by
  cases x with
  | part n w d h' g =>
    have hl : l = [] := by
      have h2 : (if l = [] then 0 else 3) = 0 := h
      split at h2
      · assumption
      · cases h2
    subst hl
    obtain ⟨a, b, c⟩ := lineW_part e
    exact Good.cuts (r := []) a b c (by simp) (by simp)
  | cut b =>
    cases G with
    | nil => cases h
    | cuts hw hd hh hr hl =>
      rename_i n w d h' g r
      have h2 : (if w < b.x + b.w ∨ d < b.y + b.d ∨ h' < b.z + b.h then 4 else if CUTS ≤ (r.map Line.cut).length then 2 else 0) = 0 := h
      split at h2
      · cases h2
      · rename_i q1
        split at h2
        · cases h2
        · rename_i q2
          have e2 : (Line.part n w d h' g :: r.map Line.cut) ++ [Line.cut b] = .part n w d h' g :: (r ++ [b]).map Line.cut := by rw [List.map_append]; rfl
          rw [e2]
          obtain ⟨c1, c2, c3⟩ := lineW_cut e
          refine Good.cuts hw hd hh (fun c hc => ?_) ?_
          · rcases List.mem_append.mp hc with hc | hc
            · exact hr c hc
            · have : c = b := by simpa using hc
              subst this
              refine ⟨by omega, by omega, by omega, c1.1, c2.1, c3.1⟩
          · rw [List.length_map] at q2
            have : CUTS = 64 := rfl
            rw [List.length_append, List.length_singleton]; omega
theorem Good.part {l : List Line} (G : Good l) : (l = [] ∧ partOf l = none) ∨ ∃ n w d h g r, l = .part n w d h g :: r.map Line.cut ∧ partOf l = some ⟨n, w, d, h, g, r⟩ ∧ stB l = [w, d, h] ∧ stC l = r := by
  cases G with
  | nil => exact .inl ⟨rfl, rfl⟩
  | cuts hw hd hh hr hl =>
    rename_i n w d h g r
    refine .inr ⟨n, w, d, h, g, r, rfl, ?_, rfl, stC_cuts ..⟩
    have e1 : ∀ (f : Line → Option Box), (∀ b, f (.cut b) = some b) → List.filterMap f (r.map Line.cut) = r := by
      intro f hf
      rw [List.filterMap_map, show (f ∘ Line.cut) = some from funext hf]
      exact List.filterMap_some
    unfold partOf
    simp only []
    rw [e1 _ fun _ => rfl]
end CM
namespace CM
open Jo
set_option linter.all false
def numOf (b : Bytes) : Int := if canon b = true then min (natIn b : Int) 1000 else -1
def isSz (i : Int) : Bool := decide (1 ≤ i) && decide (i ≤ 16)
theorem isSz_num (b : Bytes) : isSz (numOf b) = true ↔ canon b = true ∧ within 1 16 (natIn b) = true := by
  unfold isSz numOf
  rw [within_iff]
  by_cases h : canon b = true
  · rw [if_pos h, Bool.and_eq_true, decide_eq_true_eq, decide_eq_true_eq]
    constructor
    · rintro ⟨h1, h2⟩; exact ⟨h, by omega, by omega⟩
    · rintro ⟨_, h1, h2⟩; omega
  · rw [if_neg h]
    constructor
    · intro q; exact absurd q (by decide)
    · rintro ⟨q, _⟩; exact absurd q h
theorem num_size {b : Bytes} (h : isSz (numOf b) = true) : numOf b = (natIn b : Int) := by
  obtain ⟨h1, h2⟩ := (isSz_num b).mp h
  rw [within_iff] at h2
  unfold numOf; rw [if_pos h1]; omega
theorem num_none (b : Bytes) : numOf b = -1 ↔ ¬ canon b = true := by
  unfold numOf
  by_cases h : canon b = true
  · rw [if_pos h]; constructor
    · intro q; omega
    · intro q; exact absurd h q
  · rw [if_neg h]; simp [h]
theorem num_step {m d : Nat} : min ((10 * m + d : Nat) : Int) 1000 = (if (1000 : Int) < min (m : Int) 1000 * 10 + ((d : Int) + 48) - 48 then 1000 else min (m : Int) 1000 * 10 + ((d : Int) + 48) - 48) := by
  split <;> omega
def grainB (g : Bytes) : Bool := decide (g = ascii "x") || (decide (g = ascii "y") || decide (g = ascii "z"))
theorem grain_idx (g : Bytes) : (∃ i, (GRAINS.findIdx? fun (q : Bytes) => q == g) = some i) ↔ grainB g = true := by
  have e : (GRAINS.findIdx? fun (q : Bytes) => q == g).isSome = GRAINS.any (fun (q : Bytes) => q == g) := by rw [List.findIdx?_isSome]
  have e2 : GRAINS.any (fun (q : Bytes) => q == g) = grainB g := by
    show (ascii "x" == g || (ascii "y" == g || (ascii "z" == g || false))) = grainB g
    unfold grainB
    rw [Bool.or_false]
    have c : ∀ a b : Bytes, (a == b) = decide (b = a) := fun a b => by
      rw [Bool.eq_iff_iff, beq_iff_eq, decide_eq_true_eq]; exact eq_comm
    rw [c, c, c]
  rw [← e2, ← e, Option.isSome_iff_exists]
def blockV : List Bytes → List Int
  | [k, n, a, b, c, g] => if k = ascii "part" ∧ nameOk n = true ∧ grainB g = true ∧ ([numOf a, numOf b, numOf c].all isSz) = true then [numOf a, numOf b, numOf c] else []
  | _ => []
def cutV6 : List Bytes → List Int
  | [k, x, y, z, a, b, c] => if k = ascii "cut" ∧ (-1 : Int) ∉ [numOf x, numOf y, numOf z, numOf a, numOf b, numOf c] ∧ ([numOf a, numOf b, numOf c].all isSz) = true then [numOf x, numOf y, numOf z, numOf a, numOf b, numOf c] else []
  | _ => []
def natsI (l : List Nat) : List Int := l.map fun (n : Nat) => (n : Int)
def box6 (b : Box) : List Int := natsI [b.x, b.y, b.z, b.w, b.d, b.h]
def cap6 (b : Box) : List Int := [min (b.x : Int) 1000, min (b.y : Int) 1000, min (b.z : Int) 1000, (b.w : Int), (b.d : Int), (b.h : Int)]
theorem all3 (a b c : Int) : ([a, b, c].all isSz) = true ↔ isSz a = true ∧ isSz b = true ∧ isSz c = true := by
  simp [Bool.and_eq_true]
theorem lineW_six {ws : List Bytes} {n : Name} {w d h g : Nat} (e : lineW ws = some (.part n w d h g)) : ∃ k n' a b c g', ws = [k, n', a, b, c, g'] := by
  unfold lineW at e
  split at e
  · exact ⟨_, _, _, _, _, _, rfl⟩
  · split at e <;> cases e
  · cases e
theorem lineW_seven {ws : List Bytes} {b : Box} (e : lineW ws = some (.cut b)) : ∃ k x y z a b c, ws = [k, x, y, z, a, b, c] := by
  unfold lineW at e
  split at e
  · split at e
    · obtain ⟨i, _, hi⟩ := Option.map_eq_some_iff.mp e
      cases hi
    · cases e
  · exact ⟨_, _, _, _, _, _, _, rfl⟩
  · cases e
theorem blockV_eq (ws : List Bytes) : blockV ws = match lineW ws with
    | some (.part _ w d h _) => natsI [w, d, h]
    | _ => [] := by
  unfold blockV
  split
  · rename_i k n a b c g
    rw [lineW6]
    by_cases h : k = ascii "part" ∧ nameOk n = true ∧ grainB g = true ∧ ([numOf a, numOf b, numOf c].all isSz) = true
    · rw [if_pos h]
      obtain ⟨h1, h2, h3, h4⟩ := h
      obtain ⟨s1, s2, s3⟩ := (all3 _ _ _).mp h4
      obtain ⟨i, hi⟩ := (grain_idx g).mpr h3
      have a1 := (isSz_num a).mp s1
      have a2 := (isSz_num b).mp s2
      have a3 := (isSz_num c).mp s3
      rw [if_pos ⟨h1, h2, ⟨a1.1, a2.1, a3.1⟩, a1.2, a2.2, a3.2⟩, hi, num_size s1, num_size s2, num_size s3]
      rfl
    · rw [if_neg h]
      by_cases h' : k = ascii "part" ∧ nameOk n = true ∧ (canon a = true ∧ canon b = true ∧ canon c = true) ∧ (within 1 16 (natIn a) = true ∧ within 1 16 (natIn b) = true ∧ within 1 16 (natIn c) = true)
      · rw [if_pos h']
        cases hi : (GRAINS.findIdx? fun (q : Bytes) => q == g) with
        | none => rfl
        | some i =>
          exfalso
          obtain ⟨h1, h2, ⟨c1, c2, c3⟩, w1, w2, w3⟩ := h'
          exact h ⟨h1, h2, (grain_idx g).mp ⟨i, hi⟩, (all3 _ _ _).mpr ⟨(isSz_num _).mpr ⟨c1, w1⟩, (isSz_num _).mpr ⟨c2, w2⟩, (isSz_num _).mpr ⟨c3, w3⟩⟩⟩
      · rw [if_neg h']
  · rename_i hne
    cases e : lineW ws with
    | none => rfl
    | some x =>
      cases x with
      | part n w d h g =>
        obtain ⟨k, n', a, b, c, g', q⟩ := lineW_six e
        exact (hne _ _ _ _ _ _ q).elim
      | cut b => rfl
theorem num_canon {b : Bytes} (h : canon b = true) : numOf b = min (natIn b : Int) 1000 := by unfold numOf; rw [if_pos h]
theorem cutV6_eq (ws : List Bytes) : cutV6 ws = match lineW ws with
    | some (.cut b) => cap6 b
    | _ => [] := by
  unfold cutV6
  split
  · rename_i k x y z a b c
    rw [lineW7]
    by_cases h : k = ascii "cut" ∧ (-1 : Int) ∉ [numOf x, numOf y, numOf z, numOf a, numOf b, numOf c] ∧ ([numOf a, numOf b, numOf c].all isSz) = true
    · rw [if_pos h]
      obtain ⟨h1, h2, h4⟩ := h
      obtain ⟨s1, s2, s3⟩ := (all3 _ _ _).mp h4
      have a1 := (isSz_num a).mp s1
      have a2 := (isSz_num b).mp s2
      have a3 := (isSz_num c).mp s3
      simp only [List.mem_cons, List.not_mem_nil, or_false, not_or] at h2
      have cx : canon x = true := by
        cases q : canon x with
        | true => rfl
        | false => exact absurd ((num_none x).mpr (by rw [q]; decide)).symm h2.1
      have cy : canon y = true := by
        cases q : canon y with
        | true => rfl
        | false => exact absurd ((num_none y).mpr (by rw [q]; decide)).symm h2.2.1
      have cz : canon z = true := by
        cases q : canon z with
        | true => rfl
        | false => exact absurd ((num_none z).mpr (by rw [q]; decide)).symm h2.2.2.1
      rw [if_pos ⟨h1, ⟨cx, cy, cz, a1.1, a2.1, a3.1⟩, a1.2, a2.2, a3.2⟩, num_size s1, num_size s2, num_size s3, num_canon cx, num_canon cy, num_canon cz]
      rfl
    · rw [if_neg h]
      by_cases h' : k = ascii "cut" ∧ (canon x = true ∧ canon y = true ∧ canon z = true ∧ canon a = true ∧ canon b = true ∧ canon c = true) ∧ (within 1 16 (natIn a) = true ∧ within 1 16 (natIn b) = true ∧ within 1 16 (natIn c) = true)
      · exfalso
        obtain ⟨h1, ⟨c1, c2, c3, c4, c5, c6⟩, w1, w2, w3⟩ := h'
        refine h ⟨h1, ?_, (all3 _ _ _).mpr ⟨(isSz_num _).mpr ⟨c4, w1⟩, (isSz_num _).mpr ⟨c5, w2⟩, (isSz_num _).mpr ⟨c6, w3⟩⟩⟩
        simp only [List.mem_cons, List.not_mem_nil, or_false, not_or]
        have f : ∀ {q : Bytes}, canon q = true → ¬ (-1 : Int) = numOf q := fun {q} hc e => absurd hc ((num_none q).mp e.symm)
        exact ⟨f c1, f c2, f c3, f c4, f c5, f c6⟩
      · rw [if_neg h']
  · rename_i hne
    cases e : lineW ws with
    | none => rfl
    | some x =>
      cases x with
      | part n w d h g => rfl
      | cut b =>
        obtain ⟨k, x, y, z, a, b, c, q⟩ := lineW_seven e
        exact (hne _ _ _ _ _ _ _ q).elim
def beyondB (cut block : List Int) : Bool := (List.range 3).any fun (i : Nat) => decide (block.getD i 0 < cut.getD i 0 + cut.getD (i + 3) 0)
theorem beyond_eq {b : Box} {w d h : Nat} (hw : w ≤ 16) (hd : d ≤ 16) (hh : h ≤ 16) : beyondB (cap6 b) (natsI [w, d, h]) = decide (w < b.x + b.w ∨ d < b.y + b.d ∨ h < b.z + b.h) := by
  rw [Bool.eq_iff_iff, decide_eq_true_eq]
  unfold beyondB
  simp only [List.any_eq_true, List.mem_range, decide_eq_true_eq]
  constructor
  · rintro ⟨i, hi, h0⟩
    match i, hi, h0 with
    | 0, _, h0 => left; have : (w : Int) < min (b.x : Int) 1000 + b.w := h0; omega
    | 1, _, h0 => right; left; have : (d : Int) < min (b.y : Int) 1000 + b.d := h0; omega
    | 2, _, h0 => right; right; have : (h : Int) < min (b.z : Int) 1000 + b.h := h0; omega
  · rintro (q | q | q)
    · exact ⟨0, by decide, show (w : Int) < min (b.x : Int) 1000 + b.w by omega⟩
    · exact ⟨1, by decide, show (d : Int) < min (b.y : Int) 1000 + b.d by omega⟩
    · exact ⟨2, by decide, show (h : Int) < min (b.z : Int) 1000 + b.h by omega⟩
theorem cap_box {b : Box} (h1 : b.x ≤ 16) (h2 : b.y ≤ 16) (h3 : b.z ≤ 16) : cap6 b = box6 b := by
  unfold cap6 box6 natsI
  simp only [List.map_cons, List.map_nil, List.cons.injEq, and_true]
  omega
def waysV (v : Bytes) : List Nat := if waysOk v = true then waysIn v else []
theorem waysIn_ne {v : Bytes} (h : v ≠ []) : waysIn v ≠ [] := by
  cases v with
  | nil => exact absurd rfl h
  | cons => simp [waysIn]
def toolV : List Bytes → Option (Int × List Nat × Int)
  | [k, a, v, n] => if k = ascii "tool" ∧ numOf a ≠ -1 ∧ waysV v ≠ [] ∧ isSz (numOf n) = true then some (numOf a, waysV v, numOf n) else none
  | _ => none
theorem toolV_eq (ws : List Bytes) : toolV ws = (toolW ws).map fun (t : Tool) => (min (t.cut : Int) 1000, t.ways, (t.reach : Int)) := by
  unfold toolV
  split
  · rename_i k a v n
    rw [toolW4]
    have e : (k = ascii "tool" ∧ numOf a ≠ -1 ∧ waysV v ≠ [] ∧ isSz (numOf n) = true) ↔ (k = ascii "tool" ∧ canon a = true ∧ (v ≠ [] ∧ waysOk v = true) ∧ canon n = true ∧ within 1 16 (natIn n) = true) := by
      rw [isSz_num]
      have e1 : numOf a ≠ -1 ↔ canon a = true := by rw [Ne, num_none]; exact Decidable.not_not
      have e2 : waysV v ≠ [] ↔ v ≠ [] ∧ waysOk v = true := by
        unfold waysV
        by_cases h : waysOk v = true
        · rw [if_pos h]
          constructor
          · intro q; exact ⟨fun z => q (by rw [z]; rfl), h⟩
          · intro q; exact waysIn_ne q.1
        · rw [if_neg h]; simp [h]
      rw [e1, e2]
    by_cases h : (k = ascii "tool" ∧ numOf a ≠ -1 ∧ waysV v ≠ [] ∧ isSz (numOf n) = true)
    · rw [if_pos h, if_pos (e.mp h)]
      obtain ⟨_, h2, h3, h4⟩ := h
      obtain ⟨_, c1, ⟨_, w1⟩, _, _⟩ := e.mp ⟨by assumption, h2, h3, h4⟩
      rw [num_canon c1, num_size h4]
      unfold waysV; rw [if_pos w1]; rfl
    · rw [if_neg h, if_neg (fun q => h (e.mpr q))]; rfl
  · rename_i hne
    have e : toolW ws = none := by
      unfold toolW
      split
      · exact (hne _ _ _ _ rfl).elim
      · rfl
    rw [e]; rfl
theorem cut_len (c : UInt8) : ∀ b : Bytes, (cutAt c b).length ≤ b.length + 1 ∧ ∀ w ∈ cutAt c b, w.length ≤ b.length
  | [] => ⟨by simp [cutAt], fun w h => by simp [cutAt] at h; simp [h]⟩
  | x :: r => by
    obtain ⟨i1, i2⟩ := cut_len c r
    unfold cutAt
    split
    · refine ⟨by simp; omega, fun w h => ?_⟩
      rcases List.mem_cons.mp h with rfl | h
      · simp
      · have := i2 w h; simp; omega
    · cases q : cutAt c r with
      | nil => exact absurd q (cutAt_ne c r)
      | cons y l =>
        rw [q] at i1 i2
        refine ⟨by simp at i1 ⊢; omega, fun w h => ?_⟩
        rcases List.mem_cons.mp h with rfl | h
        · have := i2 y List.mem_cons_self; simp; omega
        · have := i2 w (List.mem_cons_of_mem _ h); simp; omega
def glue (p : Bytes) : List Bytes → List Bytes
  | [] => [p]
  | h :: t => (p ++ h) :: t
theorem glue_hit {c x : UInt8} (p r : Bytes) (h : x = c) : glue p (cutAt c (x :: r)) = p :: cutAt c r := by
  rw [cutAt, if_pos h]; simp [glue]
theorem glue_miss {c x : UInt8} (p r : Bytes) (h : ¬ x = c) : glue p (cutAt c (x :: r)) = glue (p ++ [x]) (cutAt c r) := by
  rw [cutAt, if_neg h]
  cases cutAt c r with
  | nil => simp [glue]
  | cons y l => simp [glue]
theorem natIn_take {b : Bytes} {i : Nat} {c : UInt8} (h : b[i]? = some c) : natIn (b.take (i + 1)) = 10 * natIn (b.take i) + (c.toNat - 48) := by
  have e : b.take (i + 1) = b.take i ++ [c] := by
    rw [List.take_succ, h]; rfl
  rw [e, natIn_snoc]
theorem strict_iff : ∀ l : List Nat, strictB l = true ↔ l.Pairwise (· < ·)
  | [] => by simp [strictB]
  | [a] => by simp [strictB]
  | a :: b :: l => by
    have ih := strict_iff (b :: l)
    have e : strictB (a :: b :: l) = (decide (a < b) && strictB (b :: l)) := rfl
    rw [e, Bool.and_eq_true, decide_eq_true_eq, ih]
    constructor
    · rintro ⟨h1, h2⟩
      refine List.pairwise_cons.mpr ⟨fun x hx => ?_, h2⟩
      rcases List.mem_cons.mp hx with rfl | hx
      · exact h1
      · exact Nat.lt_trans h1 ((List.pairwise_cons.mp h2).1 x hx)
    · intro h
      obtain ⟨h1, h2⟩ := List.pairwise_cons.mp h
      exact ⟨h1 b List.mem_cons_self, h2⟩
end CM
namespace CG
open Jo
set_option linter.all false
def row (x w : Nat) : Nat := (2 ^ w - 1) * 2 ^ x
def thrS (r y : Nat) (b i : Nat) : Nat := b ||| r * 2 ^ ((y + i) * 16)
def thr (x w y d : Nat) : Nat := (List.range d).foldl (thrS (row x w) y) 0
theorem tb_mul (a n i : Nat) : (a * 2 ^ n).testBit i = (decide (n ≤ i) && a.testBit (i - n)) := by
  rw [← Nat.shiftLeft_eq, Nat.testBit_shiftLeft]
theorem row_bit (x w i : Nat) : (row x w).testBit i = (decide (x ≤ i) && decide (i < x + w)) := by
  unfold row
  rw [tb_mul, Nat.testBit_two_pow_sub_one]
  by_cases h : x ≤ i
  · simp only [decide_eq_true h, Bool.true_and]
    exact decide_eq_decide.mpr (by omega)
  · simp [h]
theorem thr_succ (x w y d : Nat) : thr x w y (d + 1) = thrS (row x w) y (thr x w y d) d := by
  unfold thr; rw [List.range_succ, List.foldl_append]; rfl
theorem thr_bit {x w : Nat} (hx : x + w ≤ 16) (y : Nat) : ∀ (d i : Nat), (thr x w y d).testBit i = (decide (x ≤ i % 16) && decide (i % 16 < x + w) && (decide (y ≤ i / 16) && decide (i / 16 < y + d)))
  | 0, i => by
    have h0 : thr x w y 0 = 0 := rfl
    rw [h0, Nat.zero_testBit]
    have : ¬ (y ≤ i / 16 ∧ i / 16 < y + 0) := by omega
    symm
    simp only [Bool.and_eq_false_iff, decide_eq_false_iff_not]
    omega
  | d + 1, i => by
    rw [thr_succ]
    unfold thrS
    rw [Nat.testBit_or, thr_bit hx y d i, tb_mul, row_bit, Bool.eq_iff_iff]
    simp only [Bool.or_eq_true, Bool.and_eq_true, decide_eq_true_eq]
    have h1 := Nat.div_add_mod i 16
    have h2 := Nat.mod_lt i (show 0 < 16 by decide)
    constructor
    · rintro (⟨⟨a, b⟩, c, e⟩ | ⟨a, b, c⟩)
      · exact ⟨⟨a, b⟩, c, by omega⟩
      · have q : i / 16 = y + d := by omega
        have q2 : i % 16 = i - (y + d) * 16 := by omega
        exact ⟨⟨by omega, by omega⟩, by omega, by omega⟩
    · rintro ⟨⟨a, b⟩, c, e⟩
      by_cases h : i / 16 < y + d
      · exact .inl ⟨⟨a, b⟩, c, h⟩
      · have q : i / 16 = y + d := by omega
        exact .inr ⟨by omega, by omega, by omega⟩
theorem thr_lt {x w y d : Nat} (hx : x + w ≤ 16) (hy : y + d ≤ 16) : thr x w y d < 2 ^ 256 := by
  refine Nat.lt_pow_two_of_testBit _ fun i hi => ?_
  rw [thr_bit hx]
  have : ¬ i / 16 < y + d := by omega
  simp [this]
theorem bit_at {u v : Nat} (hu : u < 16) : (u + 16 * v) % 16 = u ∧ (u + 16 * v) / 16 = v := by omega
def orB (l : List Nat) : Nat := l.foldl (fun b n => b ||| n) 0
theorem orB_snoc (l : List Nat) (n : Nat) : orB (l ++ [n]) = orB l ||| n := by unfold orB; rw [List.foldl_append]; rfl
theorem orB_bit (i : Nat) : ∀ (l : List Nat), (orB l).testBit i = l.any fun n => n.testBit i := by
  refine CM.snoc_ind ?_ fun l a ih => ?_
  · simp [orB]
  · rw [orB_snoc, Nat.testBit_or, ih, List.any_append]; simp
theorem or_and_sum : ∀ m n : Nat, (m ||| n) + (m &&& n) = m + n := by
  intro m
  induction m using Nat.strongRecOn with
  | ind m ih =>
    intro n
    by_cases h0 : m = 0
    · subst h0; simp
    · have e := ih (m / 2) (by omega) (n / 2)
      have a1 : (m ||| n) / 2 = m / 2 ||| n / 2 := Nat.or_div_two
      have a2 : (m &&& n) / 2 = m / 2 &&& n / 2 := Nat.and_div_two
      have b1 : (m ||| n) % 2 = 1 ↔ m % 2 = 1 ∨ n % 2 = 1 := Nat.or_mod_two_eq_one
      have b2 : (m &&& n) % 2 = 1 ↔ m % 2 = 1 ∧ n % 2 = 1 := Nat.and_mod_two_eq_one
      omega
def minusB (n g : Nat) : Nat := n - (n &&& g)
theorem minus_bit (n g i : Nat) : (minusB n g).testBit i = (n.testBit i && !g.testBit i) := by
  have e : minusB n g = n ^^^ (n &&& g) := by
    unfold minusB
    have h : (n ^^^ (n &&& g)) + (n &&& g) = n := by
      have h1 : (n ^^^ (n &&& g)) &&& (n &&& g) = 0 := by
        apply Nat.eq_of_testBit_eq; intro j
        simp only [Nat.testBit_and, Nat.testBit_xor, Nat.zero_testBit]
        cases n.testBit j <;> cases g.testBit j <;> rfl
      have h2 : (n ^^^ (n &&& g)) ||| (n &&& g) = n := by
        apply Nat.eq_of_testBit_eq; intro j
        simp only [Nat.testBit_and, Nat.testBit_xor, Nat.testBit_or]
        cases n.testBit j <;> cases g.testBit j <;> rfl
      have h3 := or_and_sum (n ^^^ (n &&& g)) (n &&& g)
      rw [h1, h2] at h3
      omega
    omega
  rw [e, Nat.testBit_xor, Nat.testBit_and]
  cases n.testBit i <;> cases g.testBit i <;> rfl
theorem minus_le (n g : Nat) : minusB n g ≤ n := Nat.sub_le _ _
def Lay (f : Cell → Bool) (g k n : Nat) : Prop := n < 2 ^ 256 ∧ ∀ u v, u < 16 → v < 16 → n.testBit (u + 16 * v) = f (alongAxis g k u v)
def Lays (f : Cell → Bool) (g : Nat) (ns : List Nat) : Prop := ∀ k n, ns[k]? = some n → Lay f g k n
theorem Lay.bit {f : Cell → Bool} {g k n : Nat} (h : Lay f g k n) (i : Nat) : n.testBit i = (decide (i < 256) && f (alongAxis g k (i % 16) (i / 16))) := by
  by_cases hi : i < 256
  · have := h.2 (i % 16) (i / 16) (by omega) (by omega)
    rw [show i % 16 + 16 * (i / 16) = i by omega] at this
    rw [this]; simp [hi]
  · rw [Nat.testBit_lt_two_pow (Nat.lt_of_lt_of_le h.1 (Nat.pow_le_pow_right (by decide) (by omega)))]
    simp [hi]
theorem cut_any {f : Cell → Bool} {g : Nat} {ns : List Nat} (h : Lays f g ns) (i a b : Nat) (hi : i < 256) : (((ns.take b).drop a).any fun n => n.testBit i) = true ↔ ∃ k, a ≤ k ∧ k < b ∧ k < ns.length ∧ f (alongAxis g k (i % 16) (i / 16)) = true := by
  rw [List.any_eq_true]
  constructor
  · rintro ⟨n, hn, hb⟩
    obtain ⟨j, hj⟩ := List.mem_iff_getElem?.mp hn
    rw [List.getElem?_drop, List.getElem?_take] at hj
    by_cases q : a + j < b
    · rw [if_pos q] at hj
      rw [(h _ _ hj).bit] at hb
      simp [hi] at hb
      exact ⟨a + j, by omega, q, (List.getElem?_eq_some_iff.mp hj).1, hb⟩
    · rw [if_neg q] at hj; cases hj
  · rintro ⟨k, h1, h2, h3, h4⟩
    have hk : ns[k]? = some ns[k] := List.getElem?_eq_getElem h3
    refine ⟨ns[k], List.mem_iff_getElem?.mpr ⟨k - a, ?_⟩, ?_⟩
    · rw [List.getElem?_drop, List.getElem?_take, show a + (k - a) = k by omega, if_pos h2, hk]
    · rw [(h _ _ hk).bit]; simp [hi, h4]
def blk (x w y d : Nat) (mid out : List Nat) : Nat := (thr x w y d &&& orB mid) &&& orB out
theorem blk_zero {f : Cell → Bool} {g x w y d st en lo hi : Nat} {ns : List Nat} (h : Lays f g ns) (hx : x + w ≤ 16) (hy : y + d ≤ 16) :
    blk x w y d ((ns.take en).drop st) ((ns.take hi).drop lo) = 0 ↔ ∀ u v, x ≤ u → u < x + w → y ≤ v → v < y + d → ¬ ((∃ k, lo ≤ k ∧ k < hi ∧ k < ns.length ∧ f (alongAxis g k u v) = true) ∧ ∃ k, st ≤ k ∧ k < en ∧ k < ns.length ∧ f (alongAxis g k u v) = true) := by
  constructor
  · intro e u v h1 h2 h3 h4 ⟨q1, q2⟩
    have hb : (blk x w y d ((ns.take en).drop st) ((ns.take hi).drop lo)).testBit (u + 16 * v) = false := by rw [e, Nat.zero_testBit]
    have hu : u < 16 := by omega
    obtain ⟨m1, m2⟩ := bit_at (v := v) hu
    have hi' : u + 16 * v < 256 := by omega
    have c1 := (cut_any h (u + 16 * v) st en hi').mpr (by rw [m1, m2]; exact q2)
    have c2 := (cut_any h (u + 16 * v) lo hi hi').mpr (by rw [m1, m2]; exact q1)
    unfold blk at hb
    rw [Nat.testBit_and, Nat.testBit_and, thr_bit hx, orB_bit, orB_bit, c1, c2, m1, m2] at hb
    simp at hb
    omega
  · intro hq
    apply Nat.eq_of_testBit_eq
    intro i
    rw [Nat.zero_testBit]
    unfold blk
    rw [Nat.testBit_and, Nat.testBit_and, thr_bit hx, orB_bit, orB_bit]
    cases e : (decide (x ≤ i % 16) && decide (i % 16 < x + w) && (decide (y ≤ i / 16) && decide (i / 16 < y + d))) with
    | false => rfl
    | true =>
      simp only [Bool.and_eq_true, decide_eq_true_eq] at e
      have hi' : i < 256 := by omega
      have := hq (i % 16) (i / 16) e.1.1 e.1.2 e.2.1 e.2.2
      cases e1 : (((ns.take en).drop st).any fun n => n.testBit i) with
      | false => rfl
      | true =>
        cases e2 : (((ns.take hi).drop lo).any fun n => n.testBit i) with
        | false => rfl
        | true => exact absurd ⟨(cut_any h i lo hi hi').mp e2, (cut_any h i st en hi').mp e1⟩ this
end CG
namespace CG
open Jo
set_option linter.all false
def inBlk (w d h : Nat) (c : Cell) : Prop := c.1 < w ∧ c.2.1 < d ∧ c.2.2 < h
theorem grid_lt {w d h : Nat} {c : Cell} (hc : inBlk w d h c) : gridAt w d c < w * d * h := by
  obtain ⟨h1, h2, h3⟩ := hc
  unfold gridAt
  have a : c.2.1 + d * c.2.2 < d * h := by
    have := Nat.mul_le_mul_left d (show c.2.2 + 1 ≤ h from h3)
    rw [Nat.mul_succ] at this; omega
  have b := Nat.mul_le_mul_left w (show c.2.1 + d * c.2.2 + 1 ≤ d * h from a)
  rw [Nat.mul_succ] at b
  rw [Nat.mul_assoc]; omega
theorem grid_inj {w d h : Nat} {c e : Cell} (hc : inBlk w d h c) (he : inBlk w d h e) (q : gridAt w d c = gridAt w d e) : c = e := by
  obtain ⟨c1, c2, c3⟩ := c
  obtain ⟨e1, e2, e3⟩ := e
  obtain ⟨h1, h2, h3⟩ := hc
  obtain ⟨g1, g2, g3⟩ := he
  unfold gridAt at q
  dsimp only at *
  have m1 : c1 = e1 := by
    have := congrArg (· % w) q
    simp only [Nat.add_mul_mod_self_left] at this
    rwa [Nat.mod_eq_of_lt h1, Nat.mod_eq_of_lt g1] at this
  subst m1
  have hw : 0 < w := by omega
  have m2 : c2 + d * c3 = e2 + d * e3 := Nat.eq_of_mul_eq_mul_left hw (by omega)
  have m3 : c2 = e2 := by
    have := congrArg (· % d) m2
    simp only [Nat.add_mul_mod_self_left] at this
    rwa [Nat.mod_eq_of_lt h2, Nat.mod_eq_of_lt g2] at this
  subst m3
  have hd : 0 < d := by omega
  have m4 : c3 = e3 := Nat.eq_of_mul_eq_mul_left hd (by omega)
  rw [m4]
theorem mem_places (w d h : Nat) (c : Cell) : c ∈ places w d h ↔ inBlk w d h c := by
  unfold places inBlk
  rw [List.mem_map]
  constructor
  · rintro ⟨i, hi, rfl⟩
    rw [List.mem_range] at hi
    have hwd : 0 < w * d := by
      rcases Nat.eq_zero_or_pos (w * d) with z | z
      · rw [z] at hi; omega
      · exact z
    have hw : 0 < w := Nat.pos_of_mul_pos_right hwd
    have hd : 0 < d := Nat.pos_of_mul_pos_left hwd
    exact ⟨Nat.mod_lt _ hw, Nat.mod_lt _ hd, (Nat.div_lt_iff_lt_mul hwd).mpr (by rw [Nat.mul_comm]; exact hi)⟩
  · rintro ⟨h1, h2, h3⟩
    refine ⟨gridAt w d c, List.mem_range.mpr (grid_lt ⟨h1, h2, h3⟩), ?_⟩
    obtain ⟨c1, c2, c3⟩ := c
    dsimp only at *
    have hw : 0 < w := by omega
    have hd : 0 < d := by omega
    unfold gridAt
    have e1 : (c1 + w * (c2 + d * c3)) % w = c1 := by rw [Nat.add_mul_mod_self_left, Nat.mod_eq_of_lt h1]
    have e2 : (c1 + w * (c2 + d * c3)) / w = c2 + d * c3 := by rw [Nat.add_mul_div_left _ _ hw, Nat.div_eq_of_lt h1, Nat.zero_add]
    have e3 : (c2 + d * c3) % d = c2 := by rw [Nat.add_mul_mod_self_left, Nat.mod_eq_of_lt h2]
    have e4 : (c1 + w * (c2 + d * c3)) / (w * d) = c3 := by
      rw [← Nat.div_div_eq_div_mul, e2, Nat.add_mul_div_left _ _ hd, Nat.div_eq_of_lt h2, Nat.zero_add]
    show ((c1 + w * (c2 + d * c3)) % w, (c1 + w * (c2 + d * c3)) / w % d, (c1 + w * (c2 + d * c3)) / (w * d)) = (c1, c2, c3)
    rw [e1, e2, e3, e4]
theorem mem_box (b : Box) (c : Cell) : c ∈ b.places ↔ b.has c = true := by
  unfold Box.places Box.has
  rw [List.mem_map]
  simp only [Bool.and_eq_true, decide_eq_true_eq]
  constructor
  · rintro ⟨e, he, rfl⟩
    obtain ⟨h1, h2, h3⟩ := (mem_places _ _ _ _).mp he
    dsimp only
    omega
  · rintro ⟨h1, h2, h3, h4, h5, h6⟩
    refine ⟨(c.1 - b.x, c.2.1 - b.y, c.2.2 - b.z), (mem_places _ _ _ _).mpr ⟨by dsimp only; omega, by dsimp only; omega, by dsimp only; omega⟩, ?_⟩
    obtain ⟨c1, c2, c3⟩ := c
    dsimp only at *
    rw [Nat.sub_add_cancel h1, Nat.sub_add_cancel h3, Nat.sub_add_cancel h5]
def Arr (p : Part) (a : Array Bool) (f : Cell → Bool) : Prop := a.size = p.w * p.d * p.h ∧ ∀ c, inBlk p.w p.d p.h c → a.getD (gridAt p.w p.d c) false = f c
def carve1 (p : Part) (v : Array Bool) (c : Cell) : Array Bool := if c.1 < p.w ∧ c.2.1 < p.d ∧ c.2.2 < p.h then v.setIfInBounds (gridAt p.w p.d c) false else v
theorem carve1_arr {p : Part} {a : Array Bool} {f : Cell → Bool} (h : Arr p a f) (e : Cell) : Arr p (carve1 p a e) (fun c => f c && !decide (c = e)) := by
  unfold carve1
  by_cases he : e.1 < p.w ∧ e.2.1 < p.d ∧ e.2.2 < p.h
  · rw [if_pos he]
    refine ⟨by rw [Array.size_setIfInBounds]; exact h.1, fun c hc => ?_⟩
    have hl : gridAt p.w p.d e < a.size := by rw [h.1]; exact grid_lt he
    rw [Array.getD_eq_getD_getElem?, Array.getElem?_setIfInBounds]
    by_cases q : gridAt p.w p.d e = gridAt p.w p.d c
    · have := grid_inj he hc q
      subst this
      simp [hl]
    · rw [if_neg q, ← Array.getD_eq_getD_getElem?, h.2 c hc]
      have : ¬ c = e := fun z => q (by rw [z])
      simp [this]
  · rw [if_neg he]
    refine ⟨h.1, fun c hc => ?_⟩
    have : ¬ c = e := fun z => he (by rw [← z]; exact hc)
    rw [h.2 c hc]; simp [this]
theorem carveL_arr {p : Part} : ∀ (L : List Cell) {a : Array Bool} {f : Cell → Bool}, Arr p a f → Arr p (L.foldl (carve1 p) a) (fun c => f c && !decide (c ∈ L))
  | [], a, f, h => ⟨h.1, fun c hc => by rw [List.foldl_nil, h.2 c hc]; simp⟩
  | e :: L, a, f, h => by
    have := carveL_arr L (carve1_arr h e)
    refine ⟨this.1, fun c hc => (this.2 c hc).trans ?_⟩
    rw [Bool.eq_iff_iff]
    simp only [Bool.and_eq_true, Bool.not_eq_true', decide_eq_false_iff_not, List.mem_cons, not_or, and_assoc]
theorem carved_arr {p : Part} {a : Array Bool} {f : Cell → Bool} (h : Arr p a f) (b : Box) : Arr p (p.carved a b) (fun c => f c && !b.has c) := by
  have e : p.carved a b = b.places.foldl (carve1 p) a := rfl
  have := carveL_arr b.places h
  rw [e]
  refine ⟨this.1, fun c hc => (this.2 c hc).trans ?_⟩
  have q : decide (c ∈ b.places) = b.has c := by rw [Bool.eq_iff_iff, decide_eq_true_eq, mem_box]
  show (f c && !decide (c ∈ b.places)) = _
  rw [q]
theorem Arr.congr {p : Part} {a : Array Bool} {f g : Cell → Bool} (h : Arr p a f) (e : ∀ c, inBlk p.w p.d p.h c → f c = g c) : Arr p a g := ⟨h.1, fun c hc => (h.2 c hc).trans (e c hc)⟩
def cutHas (p : Part) (made : List Nat) (c : Cell) : Bool := made.any fun (k : Nat) => match p.cuts[k]? with
  | some b => b.has c
  | none => false
theorem wood_in {p : Part} {made : List Nat} {c : Cell} (hc : inBlk p.w p.d p.h c) : p.wood made c = !cutHas p made c := by
  unfold Part.wood cutHas
  rw [decide_eq_true hc.1, decide_eq_true hc.2.1, decide_eq_true hc.2.2]; rfl
theorem wood_out {p : Part} {made : List Nat} {c : Cell} (hc : ¬ inBlk p.w p.d p.h c) : p.wood made c = false := by
  unfold Part.wood
  by_cases h1 : c.1 < p.w
  · by_cases h2 : c.2.1 < p.d
    · have h3 : ¬ c.2.2 < p.h := fun z => hc ⟨h1, h2, z⟩
      simp [h3]
    · simp [h2]
  · simp [h1]
def stepW (p : Part) (v : Array Bool) (k : Nat) : Array Bool := match p.cuts[k]? with
  | some b => p.carved v b
  | none => v
theorem woodBy_eq (p : Part) (made : List Nat) : p.woodBy made = made.foldl (stepW p) (Array.replicate (p.w * p.d * p.h) true) := rfl
theorem woodBy_snoc (p : Part) (made : List Nat) (k : Nat) : p.woodBy (made ++ [k]) = stepW p (p.woodBy made) k := by
  rw [woodBy_eq, woodBy_eq, List.foldl_append]; rfl
theorem cutHas_snoc (p : Part) (made : List Nat) (k : Nat) (c : Cell) : cutHas p (made ++ [k]) c = (cutHas p made c || match p.cuts[k]? with
  | some b => b.has c
  | none => false) := by
  unfold cutHas; rw [List.any_append]; simp
theorem wood_snoc (p : Part) (made : List Nat) {k : Nat} {b : Box} (hb : p.cuts[k]? = some b) (c : Cell) : p.wood (made ++ [k]) c = (p.wood made c && !b.has c) := by
  by_cases hc : inBlk p.w p.d p.h c
  · rw [wood_in hc, wood_in hc, cutHas_snoc, hb]; simp
  · rw [wood_out hc, wood_out hc]; rfl
theorem woodBy_arr (p : Part) : ∀ made : List Nat, Arr p (p.woodBy made) (p.wood made) := by
  refine CM.snoc_ind ?_ fun made k ih => ?_
  · refine ⟨by rw [woodBy_eq]; simp, fun c hc => ?_⟩
    rw [wood_in hc]
    have := grid_lt hc
    rw [woodBy_eq]
    show (Array.replicate (p.w * p.d * p.h) true).getD _ false = _
    rw [Array.getD_eq_getD_getElem?, Array.getElem?_replicate, if_pos this]; rfl
  · rw [woodBy_snoc]
    unfold stepW
    cases e : p.cuts[k]? with
    | none => exact ih.congr fun c hc => by rw [wood_in hc, wood_in hc, cutHas_snoc, e]; simp
    | some b => exact (carved_arr ih b).congr fun c hc => (wood_snoc p made e c).symm
def lstep (wd hs : Nat → Bool) (x : Bool × Bool) (k : Nat) : Bool × Bool := if wd k = false then x else if hs k = true then (x.1, x.2 && !x.1) else (true, x.2)
theorem fold_out (wd hs : Nat → Bool) : ∀ (l : List Nat) (x : Bool × Bool), (∀ k ∈ l, hs k = false) → l.foldl (lstep wd hs) x = (x.1 || l.any wd, x.2)
  | [], x, _ => by simp
  | k :: l, x, h => by
    rw [List.foldl_cons, fold_out wd hs l _ fun j hj => h j (List.mem_cons_of_mem _ hj)]
    unfold lstep
    rw [h k List.mem_cons_self, List.any_cons]
    cases e : wd k <;> simp
theorem fold_in (wd hs : Nat → Bool) : ∀ (l : List Nat) (x : Bool × Bool), (∀ k ∈ l, hs k = true) → l.foldl (lstep wd hs) x = (x.1, x.2 && !(x.1 && l.any wd))
  | [], x, _ => by simp
  | k :: l, x, h => by
    rw [List.foldl_cons, fold_in wd hs l _ fun j hj => h j (List.mem_cons_of_mem _ hj)]
    unfold lstep
    rw [h k List.mem_cons_self, List.any_cons]
    obtain ⟨x1, x2⟩ := x
    cases e : wd k <;> cases x1 <;> cases x2 <;> simp
theorem line_fold (wd hs : Nat → Bool) (n a b : Nat) (h1 : a + b ≤ n) (h2 : ∀ k, k < n → (hs k = true ↔ a ≤ k ∧ k < a + b)) :
    ((List.range n).foldl (lstep wd hs) (false, true)).2 = !((List.range n).any (fun k => decide (k < a) && wd k) && (List.range n).any (fun k => (decide (a ≤ k) && decide (k < a + b)) && wd k)) := by
  have e : List.range n = List.range a ++ ((List.range b).map (a + ·) ++ (List.range (n - (a + b))).map (a + b + ·)) := by
    have e1 : n = a + (b + (n - (a + b))) := by omega
    conv => lhs; rw [e1, List.range_add, List.range_add, List.map_append, List.map_map]
    congr 3
    funext k
    simp [Nat.add_assoc]
  have f1 : ∀ k ∈ List.range a, hs k = false := fun k hk => by
    have := List.mem_range.mp hk
    cases q : hs k with
    | false => rfl
    | true => have := (h2 k (by omega)).mp q; omega
  have f2 : ∀ k ∈ (List.range b).map (a + ·), hs k = true := fun k hk => by
    obtain ⟨j, hj, rfl⟩ := List.mem_map.mp hk
    have := List.mem_range.mp hj
    exact (h2 _ (by omega)).mpr (by omega)
  have f3 : ∀ k ∈ (List.range (n - (a + b))).map (a + b + ·), hs k = false := fun k hk => by
    obtain ⟨j, hj, rfl⟩ := List.mem_map.mp hk
    have := List.mem_range.mp hj
    cases q : hs (a + b + j) with
    | false => rfl
    | true => have := (h2 _ (by omega)).mp q; omega
  have g1 : (List.range n).any (fun k => decide (k < a) && wd k) = (List.range a).any wd := by
    rw [Bool.eq_iff_iff]
    simp only [List.any_eq_true, List.mem_range, Bool.and_eq_true, decide_eq_true_eq]
    exact ⟨fun ⟨k, h, h', h''⟩ => ⟨k, h', h''⟩, fun ⟨k, h, h'⟩ => ⟨k, by omega, h, h'⟩⟩
  have g2 : (List.range n).any (fun k => (decide (a ≤ k) && decide (k < a + b)) && wd k) = ((List.range b).map (a + ·)).any wd := by
    rw [Bool.eq_iff_iff]
    simp only [List.any_eq_true, List.mem_range, Bool.and_eq_true, decide_eq_true_eq, List.mem_map]
    refine ⟨fun ⟨k, h, ⟨h', h''⟩, h3⟩ => ⟨k, ⟨k - a, by omega, by omega⟩, h3⟩, fun ⟨k, ⟨j, hj, e'⟩, h'⟩ => ⟨k, by omega, ⟨by omega, by omega⟩, h'⟩⟩
  rw [g1, g2, e, List.foldl_append, List.foldl_append, fold_out wd hs _ _ f1, fold_in wd hs _ _ f2, fold_out wd hs _ _ f3]
  simp
end CG
namespace CG
open Jo
set_option linter.all false
def sS (b : Box) (g : Nat) : Nat × Nat := b.side (if g = 0 then 1 else 0)
def sT (b : Box) (g : Nat) : Nat × Nat := b.side (if g = 2 then 1 else 2)
def thrOf (b : Box) (g : Nat) : Nat := thr (sS b g).1 (sS b g).2 (sT b g).1 (sT b g).2
structure Fits (p : Part) (b : Box) : Prop where
  x : b.x + b.w ≤ p.w
  y : b.y + b.d ≤ p.d
  z : b.z + b.h ≤ p.h
structure Small (p : Part) : Prop where
  w : 1 ≤ p.w ∧ p.w ≤ 16
  d : 1 ≤ p.d ∧ p.d ≤ 16
  h : 1 ≤ p.h ∧ p.h ≤ 16
theorem g3 {g : Nat} (h : g < 3) : g = 0 ∨ g = 1 ∨ g = 2 := by omega
theorem Fits.side {p : Part} {b : Box} (h : Fits p b) {g : Nat} (hg : g < 3) : (b.side g).1 + (b.side g).2 ≤ p.side g := by
  obtain ⟨h1, h2, h3⟩ := h
  rcases g3 hg with rfl | rfl | rfl
  · exact h1
  · exact h2
  · exact h3
theorem Small.side {p : Part} (h : Small p) {g : Nat} (hg : g < 3) : 1 ≤ p.side g ∧ p.side g ≤ 16 := by
  obtain ⟨h1, h2, h3⟩ := h
  rcases g3 hg with rfl | rfl | rfl
  · exact h1
  · exact h2
  · exact h3
theorem Fits.s16 {p : Part} {b : Box} (h : Fits p b) (s : Small p) {g : Nat} (hg : g < 3) : (sS b g).1 + (sS b g).2 ≤ 16 ∧ (sT b g).1 + (sT b g).2 ≤ 16 := by
  unfold sS sT
  have a0 := h.side (g := 0) (by decide)
  have a1 := h.side (g := 1) (by decide)
  have a2 := h.side (g := 2) (by decide)
  have b0 := s.side (g := 0) (by decide)
  have b1 := s.side (g := 1) (by decide)
  have b2 := s.side (g := 2) (by decide)
  rcases g3 hg with rfl | rfl | rfl
  · exact ⟨Nat.le_trans a1 b1.2, Nat.le_trans a2 b2.2⟩
  · exact ⟨Nat.le_trans a0 b0.2, Nat.le_trans a2 b2.2⟩
  · exact ⟨Nat.le_trans a0 b0.2, Nat.le_trans a1 b1.2⟩
theorem has_along (b : Box) {g : Nat} (hg : g < 3) (n u v : Nat) : b.has (alongAxis g n u v) = true ↔ ((b.side g).1 ≤ n ∧ n < (b.side g).1 + (b.side g).2) ∧ ((sS b g).1 ≤ u ∧ u < (sS b g).1 + (sS b g).2) ∧ ((sT b g).1 ≤ v ∧ v < (sT b g).1 + (sT b g).2) := by
  unfold Box.has
  simp only [Bool.and_eq_true, decide_eq_true_eq]
  rcases g3 hg with rfl | rfl | rfl
  · show (b.x ≤ n ∧ n < b.x + b.w ∧ b.y ≤ u ∧ u < b.y + b.d ∧ b.z ≤ v ∧ v < b.z + b.h) ↔ (b.x ≤ n ∧ n < b.x + b.w) ∧ (b.y ≤ u ∧ u < b.y + b.d) ∧ (b.z ≤ v ∧ v < b.z + b.h)
    omega
  · show (b.x ≤ u ∧ u < b.x + b.w ∧ b.y ≤ n ∧ n < b.y + b.d ∧ b.z ≤ v ∧ v < b.z + b.h) ↔ (b.y ≤ n ∧ n < b.y + b.d) ∧ (b.x ≤ u ∧ u < b.x + b.w) ∧ (b.z ≤ v ∧ v < b.z + b.h)
    omega
  · show (b.x ≤ u ∧ u < b.x + b.w ∧ b.y ≤ v ∧ v < b.y + b.d ∧ b.z ≤ n ∧ n < b.z + b.h) ↔ (b.z ≤ n ∧ n < b.z + b.h) ∧ (b.x ≤ u ∧ u < b.x + b.w) ∧ (b.y ≤ v ∧ v < b.y + b.d)
    omega
def blkBox (p : Part) : Box := ⟨0, 0, 0, p.w, p.d, p.h⟩
theorem in_along (p : Part) {g : Nat} (hg : g < 3) (n u v : Nat) : inBlk p.w p.d p.h (alongAxis g n u v) ↔ n < p.side g ∧ u < (sS (blkBox p) g).2 ∧ v < (sT (blkBox p) g).2 := by
  unfold inBlk
  rcases g3 hg with rfl | rfl | rfl
  · exact Iff.rfl
  · show (u < p.w ∧ n < p.d ∧ v < p.h) ↔ (n < p.d ∧ u < p.w ∧ v < p.h)
    omega
  · show (u < p.w ∧ v < p.d ∧ n < p.h) ↔ (n < p.h ∧ u < p.w ∧ v < p.d)
    omega
theorem cross_in {p : Part} {b : Box} (h : Fits p b) {g : Nat} (hg : g < 3) {n u v : Nat} (hn : n < p.side g) (hu : u < (sS b g).1 + (sS b g).2) (hv : v < (sT b g).1 + (sT b g).2) : inBlk p.w p.d p.h (alongAxis g n u v) := by
  rw [in_along p hg]
  obtain ⟨h1, h2, h3⟩ := h
  rcases g3 hg with rfl | rfl | rfl
  · have a : u < b.y + b.d := hu
    have c : v < b.z + b.h := hv
    exact ⟨hn, Nat.lt_of_lt_of_le a h2, Nat.lt_of_lt_of_le c h3⟩
  · have a : u < b.x + b.w := hu
    have c : v < b.z + b.h := hv
    exact ⟨hn, Nat.lt_of_lt_of_le a h1, Nat.lt_of_lt_of_le c h3⟩
  · have a : u < b.x + b.w := hu
    have c : v < b.y + b.d := hv
    exact ⟨hn, Nat.lt_of_lt_of_le a h1, Nat.lt_of_lt_of_le c h2⟩
def ix (way n k : Nat) : Nat := if way % 2 = 0 then n - 1 - k else k
def loOf (b : Box) (way : Nat) : Nat := if way % 2 = 0 then (b.side (way / 2)).1 + (b.side (way / 2)).2 else 0
def hiOf (p : Part) (b : Box) (way : Nat) : Nat := if way % 2 = 0 then p.side (way / 2) else (b.side (way / 2)).1
theorem lineFree_eq (p : Part) (a : Array Bool) (b : Box) (way u v : Nat) : lineFree p a b way u v = ((List.range (p.side (way / 2))).foldl (lstep (fun k => a.getD (gridAt p.w p.d (alongAxis (way / 2) (ix way (p.side (way / 2)) k) u v)) false) (fun k => b.has (alongAxis (way / 2) (ix way (p.side (way / 2)) k) u v))) (false, true)).2 := rfl
theorem lineFree_iff {p : Part} {a : Array Bool} {f : Cell → Bool} (hA : Arr p a f) {b : Box} (hF : Fits p b) {way : Nat} (hw : way < 6) {u v : Nat} (hu : (sS b (way / 2)).1 ≤ u ∧ u < (sS b (way / 2)).1 + (sS b (way / 2)).2) (hv : (sT b (way / 2)).1 ≤ v ∧ v < (sT b (way / 2)).1 + (sT b (way / 2)).2) :
    lineFree p a b way u v = true ↔ ¬ ((∃ k, loOf b way ≤ k ∧ k < hiOf p b way ∧ k < p.side (way / 2) ∧ f (alongAxis (way / 2) k u v) = true) ∧ ∃ k, (b.side (way / 2)).1 ≤ k ∧ k < (b.side (way / 2)).1 + (b.side (way / 2)).2 ∧ k < p.side (way / 2) ∧ f (alongAxis (way / 2) k u v) = true) := by
  have hg : way / 2 < 3 := by omega
  have hs := hF.side hg
  rw [lineFree_eq]
  generalize hn : p.side (way / 2) = n at *
  generalize hst : (b.side (way / 2)).1 = st at *
  generalize hln : (b.side (way / 2)).2 = ln at *
  have hf : ∀ k, k < n → a.getD (gridAt p.w p.d (alongAxis (way / 2) k u v)) false = f (alongAxis (way / 2) k u v) := fun k hk => hA.2 _ (cross_in hF hg (by rw [hn]; exact hk) hu.2 hv.2)
  have hh : ∀ k, b.has (alongAxis (way / 2) k u v) = true ↔ st ≤ k ∧ k < st + ln := fun k => by
    rw [has_along b hg, hst, hln]
    exact ⟨fun z => z.1, fun z => ⟨z, hu, hv⟩⟩
  unfold loOf hiOf ix
  rw [hst, hln, hn]
  by_cases he : way % 2 = 0
  · simp only [if_pos he]
    rw [line_fold _ _ n (n - (st + ln)) ln (by omega) fun k hk => by rw [hh]; omega]
    rw [Bool.not_eq_true', ← Bool.not_eq_true, Bool.and_eq_true]
    refine not_congr (and_congr ?_ ?_)
    · simp only [List.any_eq_true, List.mem_range, Bool.and_eq_true, decide_eq_true_eq]
      constructor
      · rintro ⟨k, h1, h2, h3⟩
        rw [hf _ (by omega)] at h3
        exact ⟨n - 1 - k, by omega, by omega, by omega, h3⟩
      · rintro ⟨k, h1, h2, h3, h4⟩
        refine ⟨n - 1 - k, by omega, by omega, ?_⟩
        rw [show n - 1 - (n - 1 - k) = k by omega, hf _ h3]; exact h4
    · simp only [List.any_eq_true, List.mem_range, Bool.and_eq_true, decide_eq_true_eq]
      constructor
      · rintro ⟨k, h1, h2, h3⟩
        rw [hf _ (by omega)] at h3
        exact ⟨n - 1 - k, by omega, by omega, by omega, h3⟩
      · rintro ⟨k, h1, h2, h3, h4⟩
        refine ⟨n - 1 - k, by omega, ⟨by omega, by omega⟩, ?_⟩
        rw [show n - 1 - (n - 1 - k) = k by omega, hf _ h3]; exact h4
  · simp only [if_neg he]
    rw [line_fold _ _ n st ln (by omega) fun k hk => by rw [hh]]
    rw [Bool.not_eq_true', ← Bool.not_eq_true, Bool.and_eq_true]
    refine not_congr (and_congr ?_ ?_)
    · simp only [List.any_eq_true, List.mem_range, Bool.and_eq_true, decide_eq_true_eq]
      constructor
      · rintro ⟨k, h1, h2, h3⟩
        rw [hf _ (by omega)] at h3
        exact ⟨k, by omega, by omega, by omega, h3⟩
      · rintro ⟨k, h1, h2, h3, h4⟩
        refine ⟨k, by omega, by omega, ?_⟩
        rw [hf _ h3]; exact h4
    · simp only [List.any_eq_true, List.mem_range, Bool.and_eq_true, decide_eq_true_eq]
      constructor
      · rintro ⟨k, h1, h2, h3⟩
        rw [hf _ (by omega)] at h3
        exact ⟨k, by omega, by omega, by omega, h3⟩
      · rintro ⟨k, h1, h2, h3, h4⟩
        refine ⟨k, by omega, ⟨by omega, by omega⟩, ?_⟩
        rw [hf _ h3]; exact h4
def midOf (b : Box) (g : Nat) (ns : List Nat) : List Nat := (ns.take ((b.side g).1 + (b.side g).2)).drop (b.side g).1
def outOf (b : Box) (way : Nat) (ns : List Nat) : List Nat := if way % 2 = 0 then ns.drop ((b.side (way / 2)).1 + (b.side (way / 2)).2) else ns.take (b.side (way / 2)).1
def clearN (b : Box) (way : Nat) (ns : List Nat) : Bool := decide ((thrOf b (way / 2) &&& orB (midOf b (way / 2) ns)) &&& orB (outOf b way ns) = 0)
theorem out_eq {p : Part} (b : Box) (way : Nat) {ns : List Nat} (hl : ns.length = p.side (way / 2)) : outOf b way ns = (ns.take (hiOf p b way)).drop (loOf b way) := by
  unfold outOf hiOf loOf
  by_cases he : way % 2 = 0
  · simp only [if_pos he]; rw [← hl, List.take_length]
  · simp only [if_neg he]; rw [List.drop_zero]
theorem free_clear {p : Part} (hs : Small p) {a : Array Bool} {f : Cell → Bool} (hA : Arr p a f) {b : Box} (hF : Fits p b) {way : Nat} (hw : way < 6) {ns : List Nat} (hN : Lays f (way / 2) ns) (hl : ns.length = p.side (way / 2)) : freeBy p a b way = clearN b way ns := by
  have hg : way / 2 < 3 := by omega
  obtain ⟨s1, s2⟩ := hF.s16 hs hg
  unfold clearN
  rw [Bool.eq_iff_iff, decide_eq_true_eq, out_eq (p := p) b way hl]
  have bz := blk_zero (st := (b.side (way / 2)).1) (en := (b.side (way / 2)).1 + (b.side (way / 2)).2) (lo := loOf b way) (hi := hiOf p b way) hN s1 s2
  unfold blk at bz
  unfold thrOf midOf
  rw [bz]
  have e : freeBy p a b way = (List.range (sS b (way / 2)).2).all fun (i : Nat) => (List.range (sT b (way / 2)).2).all fun (j : Nat) => lineFree p a b way ((sS b (way / 2)).1 + i) ((sT b (way / 2)).1 + j) := rfl
  rw [e]
  simp only [List.all_eq_true, List.mem_range]
  rw [hl]
  constructor
  · intro h u v h1 h2 h3 h4
    have := h (u - (sS b (way / 2)).1) (by omega) (v - (sT b (way / 2)).1) (by omega)
    rw [show (sS b (way / 2)).1 + (u - (sS b (way / 2)).1) = u by omega, show (sT b (way / 2)).1 + (v - (sT b (way / 2)).1) = v by omega] at this
    exact (lineFree_iff hA hF hw ⟨h1, h2⟩ ⟨h3, h4⟩).mp this
  · intro h i hi j hj
    exact (lineFree_iff hA hF hw ⟨by omega, by omega⟩ ⟨by omega, by omega⟩).mpr (h _ _ (by omega) (by omega) (by omega) (by omega))
theorem thrOf_bit {p : Part} (hs : Small p) {b : Box} (hF : Fits p b) {g : Nat} (hg : g < 3) {u v : Nat} (hu : u < 16) : (thrOf b g).testBit (u + 16 * v) = (decide ((sS b g).1 ≤ u) && decide (u < (sS b g).1 + (sS b g).2) && (decide ((sT b g).1 ≤ v) && decide (v < (sT b g).1 + (sT b g).2))) := by
  obtain ⟨s1, s2⟩ := hF.s16 hs hg
  obtain ⟨m1, m2⟩ := bit_at (v := v) hu
  unfold thrOf
  rw [thr_bit s1, m1, m2]
theorem thrOf_lt {p : Part} (hs : Small p) {b : Box} (hF : Fits p b) {g : Nat} (hg : g < 3) : thrOf b g < 2 ^ 256 := by
  obtain ⟨s1, s2⟩ := hF.s16 hs hg
  exact thr_lt s1 s2
theorem blk_fits (p : Part) : Fits p (blkBox p) := ⟨by show 0 + p.w ≤ p.w; omega, by show 0 + p.d ≤ p.d; omega, by show 0 + p.h ≤ p.h; omega⟩
theorem lays_nil {p : Part} (hs : Small p) {g : Nat} (hg : g < 3) : Lays (p.wood []) g (List.replicate (p.side g) (thrOf (blkBox p) g)) := by
  intro k n hk
  rw [List.getElem?_replicate] at hk
  by_cases q : k < p.side g
  · rw [if_pos q] at hk
    cases hk
    refine ⟨thrOf_lt hs (blk_fits p) hg, fun u v hu hv => ?_⟩
    rw [thrOf_bit hs (blk_fits p) hg hu]
    have z1 : (sS (blkBox p) g).1 = 0 := by rcases g3 hg with rfl | rfl | rfl <;> rfl
    have z2 : (sT (blkBox p) g).1 = 0 := by rcases g3 hg with rfl | rfl | rfl <;> rfl
    rw [z1, z2]
    by_cases hc : inBlk p.w p.d p.h (alongAxis g k u v)
    · rw [wood_in hc]
      obtain ⟨_, h2, h3⟩ := (in_along p hg k u v).mp hc
      simp [cutHas, h2, h3]
    · rw [wood_out hc]
      rw [in_along p hg k u v] at hc
      simp only [Bool.and_eq_false_iff, decide_eq_false_iff_not]
      omega
  · rw [if_neg q] at hk; cases hk
theorem lay_cut {p : Part} (hs : Small p) {f : Cell → Bool} {b : Box} (hF : Fits p b) {g k n : Nat} (hg : g < 3) (h : Lay f g k n) (hk : (b.side g).1 ≤ k ∧ k < (b.side g).1 + (b.side g).2) : Lay (fun c => f c && !b.has c) g k (minusB n (thrOf b g)) := by
  refine ⟨Nat.lt_of_le_of_lt (minus_le _ _) h.1, fun u v hu hv => ?_⟩
  rw [minus_bit, h.2 u v hu hv, thrOf_bit hs hF hg hu]
  have := has_along b hg k u v
  congr 2
  rw [Bool.eq_iff_iff, this]
  simp only [Bool.and_eq_true, decide_eq_true_eq]
  exact ⟨fun z => ⟨hk, z⟩, fun z => z.2⟩
theorem lay_keep {f : Cell → Bool} {b : Box} {g k n : Nat} (hg : g < 3) (h : Lay f g k n) (hk : ¬ ((b.side g).1 ≤ k ∧ k < (b.side g).1 + (b.side g).2)) : Lay (fun c => f c && !b.has c) g k n := by
  refine ⟨h.1, fun u v hu hv => ?_⟩
  rw [h.2 u v hu hv]
  have : b.has (alongAxis g k u v) = false := by
    cases q : b.has (alongAxis g k u v) with
    | false => rfl
    | true => exact absurd ((has_along b hg k u v).mp q).1 hk
  show _ = (f (alongAxis g k u v) && !b.has (alongAxis g k u v))
  rw [this]; simp
theorem Lays.congr {f f' : Cell → Bool} {g : Nat} {ns : List Nat} (h : Lays f g ns) (e : ∀ c, f c = f' c) : Lays f' g ns := by
  have : f = f' := funext e
  rw [← this]; exact h
end CG
namespace CG
open Jo
set_option linter.all false
theorem rise_ext : ∀ {l m : List Nat}, l.Pairwise (· < ·) → m.Pairwise (· < ·) → (∀ x, x ∈ l ↔ x ∈ m) → l = m
  | [], [], _, _, _ => rfl
  | [], b :: m, _, _, h => absurd ((h b).mpr List.mem_cons_self) (by simp)
  | a :: l, [], _, _, h => absurd ((h a).mp List.mem_cons_self) (by simp)
  | a :: l, b :: m, hl, hm, h => by
    obtain ⟨l1, l2⟩ := List.pairwise_cons.mp hl
    obtain ⟨m1, m2⟩ := List.pairwise_cons.mp hm
    have e : a = b := by
      rcases List.mem_cons.mp ((h a).mp List.mem_cons_self) with q | q
      · exact q
      · rcases List.mem_cons.mp ((h b).mpr List.mem_cons_self) with r | r
        · exact r.symm
        · have := l1 b r; have := m1 a q; omega
    subst e
    rw [rise_ext l2 m2 fun x => ?_]
    have := h x
    simp only [List.mem_cons] at this
    constructor
    · intro q
      rcases this.mp (.inr q) with r | r
      · subst r; have := l1 _ q; omega
      · exact r
    · intro q
      rcases this.mpr (.inr q) with r | r
      · subst r; have := m1 _ q; omega
      · exact r
theorem range_rise (n : Nat) : (List.range n).Pairwise (· < ·) := List.pairwise_lt_range
theorem rise_filter {l : List Nat} (h : l.Pairwise (· < ·)) (q : Nat → Bool) : (l.filter q).Pairwise (· < ·) := h.filter q
theorem six_filter {ws : List Nat} (h : ws.Pairwise (· < ·)) (h6 : ∀ x ∈ ws, x < 6) (q : Nat → Bool) : (List.range 6).filter (fun x => ws.contains x && q x) = ws.filter q := by
  refine rise_ext (rise_filter (range_rise 6) _) (rise_filter h q) fun x => ?_
  rw [List.mem_filter, List.mem_filter, List.mem_range, Bool.and_eq_true, List.contains_iff_mem]
  exact ⟨fun z => z.2, fun z => ⟨h6 x z.1, z⟩⟩
structure TOk (t : Tool) : Prop where
  rise : t.ways.Pairwise (· < ·)
  six : ∀ x ∈ t.ways, x < 6
  far : 1 ≤ t.reach ∧ t.reach ≤ 16
theorem toolOf_ok {l : Tools} (h : ∀ t ∈ l, TOk t) (k : Nat) : (toolOf l k).1.Pairwise (· < ·) ∧ (∀ x ∈ (toolOf l k).1, x < 6) ∧ 1 ≤ (toolOf l k).2 ∧ (toolOf l k).2 ≤ 16 := by
  unfold toolOf
  cases e : l.find? fun (t : Tool) => t.cut == k with
  | none => exact ⟨by decide, by decide, by decide, by decide⟩
  | some t =>
    have := h t (List.mem_of_find?_eq_some e)
    exact ⟨this.rise, this.six, this.far.1, this.far.2⟩
def nearW (p : Part) (l : Tools) (k : Nat) (b : Box) : List Nat := (toolOf l k).1.filter fun way => decide (p.depth b way ≤ (toolOf l k).2)
theorem waysBy_eq {p : Part} {l : Tools} (hl : ∀ t ∈ l, TOk t) {made : List Nat} {k : Nat} {b : Box} (hb : p.cuts[k]? = some b) : waysBy p l made k = (nearW p l k b).filter fun way => freeBy p (p.woodBy made) b way := by
  obtain ⟨h1, h2, _⟩ := toolOf_ok hl k
  unfold waysBy nearW
  rw [List.filter_filter]
  have : ∀ way, reachedBy p l (p.woodBy made) k way = ((toolOf l k).1.contains way && (decide (p.depth b way ≤ (toolOf l k).2) && freeBy p (p.woodBy made) b way)) := fun way => by unfold reachedBy; rw [hb]
  have e : reachedBy p l (p.woodBy made) k = fun way => ((toolOf l k).1.contains way && (decide (p.depth b way ≤ (toolOf l k).2) && freeBy p (p.woodBy made) b way)) := funext this
  dsimp only
  rw [e, six_filter h1 h2 fun way => decide (p.depth b way ≤ (toolOf l k).2) && freeBy p (p.woodBy made) b way]
  congr 1
  funext way
  rw [Bool.and_comm]
theorem freeBy_congr {p : Part} {a a' : Array Bool} {f : Cell → Bool} (h : Arr p a f) (h' : Arr p a' f) {b : Box} (hF : Fits p b) {way : Nat} (hw : way < 6) : freeBy p a b way = freeBy p a' b way := by
  have e : ∀ a, freeBy p a b way = (List.range (sS b (way / 2)).2).all fun (i : Nat) => (List.range (sT b (way / 2)).2).all fun (j : Nat) => lineFree p a b way ((sS b (way / 2)).1 + i) ((sT b (way / 2)).1 + j) := fun _ => rfl
  rw [e, e, Bool.eq_iff_iff]
  simp only [List.all_eq_true, List.mem_range]
  constructor
  · intro q i hi j hj
    exact (lineFree_iff h' hF hw ⟨by omega, by omega⟩ ⟨by omega, by omega⟩).mpr ((lineFree_iff h hF hw ⟨by omega, by omega⟩ ⟨by omega, by omega⟩).mp (q i hi j hj))
  · intro q i hi j hj
    exact (lineFree_iff h hF hw ⟨by omega, by omega⟩ ⟨by omega, by omega⟩).mpr ((lineFree_iff h' hF hw ⟨by omega, by omega⟩ ⟨by omega, by omega⟩).mp (q i hi j hj))
theorem cutHas_iff (p : Part) (made : List Nat) (c : Cell) : cutHas p made c = true ↔ ∃ k b, k ∈ made ∧ p.cuts[k]? = some b ∧ b.has c = true := by
  unfold cutHas
  rw [List.any_eq_true]
  constructor
  · rintro ⟨k, hk, e⟩
    cases q : p.cuts[k]? with
    | none => rw [q] at e; cases e
    | some b => rw [q] at e; exact ⟨k, b, hk, q, e⟩
  · rintro ⟨k, b, hk, q, e⟩
    exact ⟨k, hk, by rw [q]; exact e⟩
theorem wood_set {p : Part} {m m' : List Nat} (h : ∀ k, k ∈ m ↔ k ∈ m') : p.wood m = p.wood m' := by
  funext c
  by_cases hc : inBlk p.w p.d p.h c
  · rw [wood_in hc, wood_in hc]
    congr 1
    rw [Bool.eq_iff_iff, cutHas_iff, cutHas_iff]
    simp only [h]
  · rw [wood_out hc, wood_out hc]
theorem ways_set {p : Part} (hf : ∀ b ∈ p.cuts, Fits p b) {l : Tools} (hl : ∀ t ∈ l, TOk t) {m m' : List Nat} (h : ∀ k, k ∈ m ↔ k ∈ m') (k : Nat) : waysBy p l m k = waysBy p l m' k := by
  cases e : p.cuts[k]? with
  | none =>
    have z : ∀ a, reachedBy p l a k = fun _ => false := fun a => by funext way; unfold reachedBy; rw [e]
    unfold waysBy; dsimp only; rw [z, z]
  | some b =>
    rw [waysBy_eq hl e, waysBy_eq hl e]
    obtain ⟨h1, h2, _⟩ := toolOf_ok hl k
    refine List.filter_congr fun way hw => ?_
    have h6 : way < 6 := h2 way ((List.mem_filter.mp hw).1)
    have a1 := woodBy_arr p m
    rw [wood_set h] at a1
    exact freeBy_congr a1 (woodBy_arr p m') (hf b (List.mem_of_getElem? e)) h6
theorem nodup_len : ∀ (n : Nat) (l : List Nat), l.Nodup → (∀ x ∈ l, x < n) → l.length ≤ n
  | 0, l, _, h => by
    cases l with
    | nil => exact Nat.le_refl _
    | cons a l => exact absurd (h a List.mem_cons_self) (by omega)
  | n + 1, l, hd, h => by
    have := nodup_len n (l.erase n) (hd.erase n) fun x hx => by
      have h1 := h x (List.mem_of_mem_erase hx)
      have h2 : x ≠ n := fun e => by subst e; exact absurd hx (by rw [hd.mem_erase_iff]; simp)
      omega
    have q : l.length ≤ (l.erase n).length + 1 := by
      rw [List.length_erase]
      split <;> omega
    omega
end CG
namespace CM
open Jo
set_option linter.all false
structure POk (p : Part) : Prop where
  sm : CG.Small p
  fit : ∀ b ∈ p.cuts, CG.Fits p b
  len : p.cuts.length ≤ 64
structure Rd (t : Bytes) (i : Nat) (l : List Line) : Prop where
  eq : readW 0 [] (wordLines t) = readW i l ((wordLines t).drop i)
  good : Good l
  len : l.length = i
theorem Rd.zero (t : Bytes) : Rd t 0 [] := ⟨rfl, .nil, rfl⟩
theorem drop_at {α : Type} {b : List α} {i : Nat} {c : α} (h : b[i]? = some c) : b.drop i = c :: b.drop (i + 1) := by
  obtain ⟨h1, h2⟩ := List.getElem?_eq_some_iff.mp h
  rw [List.drop_eq_getElem_cons h1, h2]
theorem Rd.bad {t : Bytes} {i : Nat} {l : List Line} (h : Rd t i l) {ws : List Bytes} (hw : (wordLines t)[i]? = some ws) (hy : whyOf l ws ≠ 0) : readPart t = .error (i, whyOf l ws) := by
  rw [readPart_eq, h.eq, drop_at hw]
  have : readW i l (ws :: (wordLines t).drop (i + 1)) = .error (i, whyOf l ws) := by
    unfold whyOf at hy ⊢
    unfold readW
    cases e : lineW ws with
    | none => rfl
    | some x => rw [e] at hy; simp only [] at hy ⊢; rw [if_neg hy]
  rw [this]
theorem Rd.step {t : Bytes} {i : Nat} {l : List Line} (h : Rd t i l) {ws : List Bytes} (hw : (wordLines t)[i]? = some ws) (hy : whyOf l ws = 0) : ∃ x, lineW ws = some x ∧ Rd t (i + 1) (l ++ [x]) := by
  cases e : lineW ws with
  | none => unfold whyOf at hy; rw [e] at hy; cases hy
  | some x =>
    have hx : wrongOf l x = 0 := by unfold whyOf at hy; rw [e] at hy; exact hy
    refine ⟨x, rfl, ?_, h.good.step e hx, by rw [List.length_append, h.len]; rfl⟩
    rw [h.eq, drop_at hw]
    show readW i l (ws :: (wordLines t).drop (i + 1)) = _
    rw [readW, e]
    simp only []
    rw [if_pos hx]
theorem Rd.empty {t : Bytes} (h : wordLines t = []) : readPart t = .error (0, 3) := by
  rw [readPart_eq, h]; rfl
theorem Rd.fin {t : Bytes} {l : List Line} (h : Rd t (wordLines t).length l) (hn : wordLines t ≠ []) : ∃ p, readPart t = .ok p ∧ stB l = [p.w, p.d, p.h] ∧ stC l = p.cuts ∧ POk p := by
  have hl : l ≠ [] := fun z => by
    have := h.len
    rw [z] at this
    exact hn (List.length_eq_zero_iff.mp this.symm)
  have e : readPart t = match partOf l with
      | some p => .ok p
      | none => .error (0, 3) := by
    rw [readPart_eq, h.eq, List.drop_length]; rfl
  cases hg : h.good with
  | nil => exact absurd rfl hl
  | cuts hw hd hh hr hll =>
    rename_i n w d h' g r
    rcases (Good.cuts (n := n) (g := g) hw hd hh hr hll).part with ⟨z, _⟩ | ⟨n', w', d', h'', g', r', e1, e2, e3, e4⟩
    · exact absurd z hl
    · have er : r = r' := by rw [← e4, stC_cuts]
      subst er
      obtain ⟨e5, _⟩ := List.cons.inj e1
      cases e5
      rw [e2] at e
      exact ⟨_, e, e3, e4, ⟨hw, hd, hh⟩, fun b hb => ⟨(hr b hb).1, (hr b hb).2.1, (hr b hb).2.2.1⟩, hll⟩
def whyT (N : Nat) (l : Tools) (ws : List Bytes) : Nat := match toolW ws with
  | none => 1
  | some t => if N ≤ t.cut then 3 else if l.any (fun (s : Tool) => s.cut == t.cut) = true then 4 else 0
theorem toolW_ok {ws : List Bytes} {t : Tool} (e : toolW ws = some t) : CG.TOk t := by
  unfold toolW at e
  split at e
  · split at e
    · rename_i hc
      cases e
      obtain ⟨_, _, ⟨h1, h2⟩, _, h3⟩ := hc
      unfold waysOk at h2
      rw [Bool.and_eq_true] at h2
      refine ⟨(strict_iff _).mp h2.2, fun x hx => ?_, within_iff.mp h3⟩
      obtain ⟨c, hc, rfl⟩ := List.mem_map.mp hx
      have := (idx_le c).mpr (List.all_eq_true.mp h2.1 c hc)
      omega
    · cases e
  · cases e
structure TRd (p : Part) (u : Bytes) (i : Nat) (l : Tools) : Prop where
  eq : readT p 0 [] (wordLines u) = readT p i l ((wordLines u).drop i)
  ok : ∀ t ∈ l, CG.TOk t
  lt : ∀ t ∈ l, t.cut < p.cuts.length
  len : l.length = i
theorem TRd.zero (p : Part) (u : Bytes) : TRd p u 0 [] := ⟨rfl, fun _ h => (by cases h), fun _ h => (by cases h), rfl⟩
theorem TRd.bad {p : Part} {u : Bytes} {i : Nat} {l : Tools} (h : TRd p u i l) {ws : List Bytes} (hw : (wordLines u)[i]? = some ws) (hy : whyT p.cuts.length l ws ≠ 0) : readTools p u = .error (i, whyT p.cuts.length l ws) := by
  rw [readTools_eq, h.eq, drop_at hw]
  unfold whyT at hy ⊢
  rw [readT]
  cases e : toolW ws with
  | none => rfl
  | some x =>
    rw [e] at hy
    simp only [] at hy ⊢
    have hy' : ¬ wrongTool p l x = 0 := hy
    rw [if_neg hy']
    rfl
theorem TRd.step {p : Part} {u : Bytes} {i : Nat} {l : Tools} (h : TRd p u i l) {ws : List Bytes} (hw : (wordLines u)[i]? = some ws) (hy : whyT p.cuts.length l ws = 0) : ∃ x, toolW ws = some x ∧ TRd p u (i + 1) (l ++ [x]) := by
  cases e : toolW ws with
  | none => unfold whyT at hy; rw [e] at hy; cases hy
  | some x =>
    have hx : wrongTool p l x = 0 := by unfold whyT at hy; rw [e] at hy; exact hy
    have hlt : x.cut < p.cuts.length := by
      unfold wrongTool at hx
      split at hx
      · cases hx
      · omega
    refine ⟨x, rfl, ?_, fun t ht => ?_, fun t ht => ?_, by rw [List.length_append, h.len]; rfl⟩
    · rw [h.eq, drop_at hw]
      show readT p i l (ws :: (wordLines u).drop (i + 1)) = _
      rw [readT, e]
      simp only []
      rw [if_pos hx]
    · rcases List.mem_append.mp ht with q | q
      · exact h.ok t q
      · have : t = x := by simpa using q
        rw [this]; exact toolW_ok e
    · rcases List.mem_append.mp ht with q | q
      · exact h.lt t q
      · have : t = x := by simpa using q
        rw [this]; exact hlt
theorem TRd.fin {p : Part} {u : Bytes} {l : Tools} (h : TRd p u (wordLines u).length l) : readTools p u = .ok l := by
  rw [readTools_eq, h.eq, List.drop_length]; rfl
def told (t u : Bytes) : Except (List Int) (Part × Tools) := if 16384 < t.length ∨ 16384 < u.length then .error [-2] else match readPart t with
  | .error e => .error [-6, (e.1 : Int), (e.2 : Int)]
  | .ok p => match readTools p u with
    | .error e => .error [-6, (e.1 : Int), (e.2 : Int) + 16]
    | .ok l => .ok (p, l)
def asInts (a : Wqatdd.Ans) : List Int := a.ret :: a.nums.map WqatddNeutral.int
theorem job_eq (t u : Bytes) (f : Part → Tools → Wqatdd.Ans) : asInts (Wqatdd.ofJob t u f) = match told t u with
    | .error r => r
    | .ok (p, l) => asInts (f p l) := by
  unfold Wqatdd.ofJob told
  have e : Wqatdd.LONGEST = 16384 := rfl
  rw [e]
  by_cases h : 16384 < t.length ∨ 16384 < u.length
  · rw [if_pos h, if_pos h]; rfl
  · rw [if_neg h, if_neg h]
    cases readPart t with
    | error e => rfl
    | ok p =>
      simp only []
      cases readTools p u with
      | error e => rfl
      | ok l => rfl
theorem told_ne {t u : Bytes} {r : List Int} (h : told t u = .error r) : r ≠ [] := by
  unfold told at h
  split at h
  · cases h; simp
  · split at h
    · cases h; simp
    · split at h
      · cases h; simp
      · cases h
theorem due_reach (k : Int) (a b m : List Int) : PyWqatdd.reach k a b m = match told (WqatddNeutral.bytes a) (WqatddNeutral.bytes b) with
    | .error r => r
    | .ok (p, l) => if p.cuts.length ≤ k.toNat then [-4] else ((waysBy p l (Wqatdd.madeOf p (WqatddNeutral.nats m) k.toNat) k.toNat).length : Int) :: (waysBy p l (Wqatdd.madeOf p (WqatddNeutral.nats m) k.toNat) k.toNat).map WqatddNeutral.int := by
  refine (job_eq _ _ _).trans ?_
  cases told (WqatddNeutral.bytes a) (WqatddNeutral.bytes b) with
  | error r => rfl
  | ok q =>
    obtain ⟨p, l⟩ := q
    simp only []
    split
    · rename_i h
      rw [if_pos (show p.cuts.length ≤ k.toNat from h)]; rfl
    · rename_i h
      rw [if_neg (show ¬ (p.cuts.length ≤ k.toNat) from h)]; rfl
end CM
set_option Elab.async false
set_option linter.all false
set_option maxRecDepth 100000
namespace S6
open PySem
def subs : List (List Nat) := (List.range 64).map fun (i : Nat) => (List.range 6).filter fun (k : Nat) => (i / 2 ^ k) % 2 == 1
def tb (led : Bool) (m : List Nat) : SetTable := { mask := if m.length ≤ 4 then 7 else 31, place := m.toArray, dummies := #[], finger := 0, led := led, moves := if m.length ≤ 4 then 0 else 1, plain := true }
def tb1 (led : Bool) (m m' : List Nat) : SetTable := { tb led m with place := m'.toArray }
def ins (k : Nat) (m : List Nat) : List Nat := m.filter (fun (x : Nat) => decide (x < k)) ++ k :: m.filter (fun (x : Nat) => decide (k < x))
def cnt (k : Nat) (m : List Nat) : Nat := (m.filter fun (x : Nat) => decide (x < k)).length
def oks (led : Bool) (m : List Nat) (k : Nat) : Bool :=
  m.contains k || (decide ((tb led m).freeSlot (k : Int) = some (k, false)) && decide ((tb led m).put k = (tb1 led m (ins k m), cnt k m)) && (tb1 led m (ins k m)).fits (m.length + 1) && subs.contains (ins k m)
    && (if (tb1 led m (ins k m)).tooFull then decide ((tb1 led m (ins k m)).relaid ((ins k m).map fun (n : Nat) => (n : Int)).toArray (SetTable.grown (m.length + 1)) = some (tb led (ins k m), (List.range (m.length + 1)).toArray))
      else decide (tb1 led m (ins k m) = tb led (ins k m))) && decide (m.take (cnt k m) ++ k :: m.drop (cnt k m) = ins k m) && (tb led m).fits m.length)
theorem all_ok : ∀ led : Bool, (subs.all fun (m : List Nat) => (List.range 6).all fun (k : Nat) => oks led m k) = true := by decide +kernel
end S6
set_option Elab.async false
set_option linter.all false
set_option maxRecDepth 100000
set_option maxHeartbeats 1000000
namespace S6
open PySem
theorem ok_at {m : List Nat} {k : Nat} (led : Bool) (hm : m ∈ subs) (hk : k < 6) (hn : m.contains k = false) :
    (tb led m).freeSlot (k : Int) = some (k, false) ∧ (tb led m).put k = (tb1 led m (ins k m), cnt k m) ∧ (tb1 led m (ins k m)).fits (m.length + 1) = true ∧ ins k m ∈ subs ∧
    (if (tb1 led m (ins k m)).tooFull = true then (tb1 led m (ins k m)).relaid ((ins k m).map fun (n : Nat) => (n : Int)).toArray (SetTable.grown (m.length + 1)) = some (tb led (ins k m), (List.range (m.length + 1)).toArray)
      else tb1 led m (ins k m) = tb led (ins k m)) ∧ m.take (cnt k m) ++ k :: m.drop (cnt k m) = ins k m := by
  have h := all_ok led
  have h1 := List.all_eq_true.mp (List.all_eq_true.mp h m hm) k (List.mem_range.mpr hk)
  unfold oks at h1
  rw [hn, Bool.false_or] at h1
  simp only [Bool.and_eq_true, decide_eq_true_eq] at h1
  obtain ⟨⟨⟨⟨⟨⟨h2, h3⟩, h4⟩, h5⟩, h6⟩, h7⟩, _⟩ := h1
  refine ⟨h2, h3, h4, List.contains_iff_mem.mp h5, ?_, h7⟩
  split
  · rename_i q; rw [if_pos q] at h6; exact of_decide_eq_true h6
  · rename_i q; rw [if_neg q] at h6; exact of_decide_eq_true h6
theorem sub_facts : ∀ m ∈ subs, m.length ≤ 6 ∧ (∀ x ∈ m, x < 6) ∧ m.Pairwise (· < ·) ∧ (∀ led : Bool, (tb led m).fits m.length = true) := by
  have h : (subs.all fun (m : List Nat) => decide (m.length ≤ 6) && m.all (fun (x : Nat) => decide (x < 6)) && decide (m.Pairwise (· < ·)) && (tb true m).fits m.length && (tb false m).fits m.length) = true := by decide +kernel
  intro m hm
  have h1 := List.all_eq_true.mp h m hm
  simp only [Bool.and_eq_true, decide_eq_true_eq, List.all_eq_true] at h1
  obtain ⟨⟨⟨⟨h1, h2⟩, h3⟩, h4⟩, h5⟩ := h1
  exact ⟨h1, h2, h3, fun led => by cases led <;> assumption⟩
def follow (w : World) : Bool := w.params.followText "set-order"
def I6 (m : List Nat) : List Int := m.map fun (n : Nat) => (n : Int)
def Six (w : World) (h : Heap) (a : Addr) (m : List Nat) : Prop := m ∈ subs ∧ ∃ (es : Array (Int × Value)) (ep : Nat), h.get? a = some { cls := .type "set", dict := none, data := .set es ep (tb (!follow w) m), slots := #[] } ∧
  es.toList.map (·.1) = I6 m ∧ ∀ e ∈ es.toList, ∃ t, e.2 = .int e.1 t
theorem hash6 : ∀ k : Nat, k < 6 → hashInt (k : Int) = (k : Int) := by decide
theorem six_elems {prog : Program} {w : World} {m : List Nat} {es : Array (Int × Value)} (hm : m ∈ subs) (h1 : es.toList.map (·.1) = I6 m) (h2 : ∀ e ∈ es.toList, ∃ t, e.2 = .int e.1 t) : ElemsOf (intKind prog w) es.toList := by
  intro e he
  obtain ⟨t, ht⟩ := h2 e he
  have hx : e.1 ∈ I6 m := by rw [← h1]; exact List.mem_map.mpr ⟨e, he, rfl⟩
  obtain ⟨n, hn, hne⟩ := List.mem_map.mp hx
  have hlt := (sub_facts m hm).2.1 n hn
  refine ⟨⟨e.1, by rw [ht]; exact intKind_is _ _ _ _, ?_⟩, by rw [ht]; rfl⟩
  show e.1 = hashInt e.1
  rw [← hne]; exact (hash6 n hlt).symm
section
variable {prog : Program} {w : World} {A : Around} {E : Value → Shared → Prop} {s : Shared}
theorem add6 {a : Addr} {m : List Nat} {k : Nat} {t : Tok} {Q : Bool → Shared → Prop} (hS : Six w s.heap a m) (hk : k < 6)
    (h : ∀ h' b, Heap.SameBut a s.heap h' → Six w h' a (if m.contains k = true then m else ins k m) → Q b { s with heap := h' }) :
    wpAny (model prog w) A (setAddHashed a (.int (k : Int) t) (k : Int)) Q E s := by
  obtain ⟨hm, es, ep, ho, h1, h2⟩ := hS
  obtain ⟨f1, f2, f3, f4⟩ := sub_facts m hm
  have hel : ElemsOf (intKind prog w) es.toList := six_elems hm h1 h2
  have hsz : es.size = m.length := by
    have := congrArg List.length h1
    unfold I6 at this
    simpa using this
  have hf : (tb (!follow w) m).fits es.size = true := by rw [hsz]; exact f4 _
  have hb : es.size < scanBound := by rw [hsz]; unfold scanBound; omega
  have hhk : (intKind prog w).hash (k : Int) = (k : Int) := hash6 k hk
  have hkey : (intKind prog w).is (k : Int) (.int (k : Int) t) = true := intKind_is _ _ _ _
  unfold setAddHashed setAddHashedIn
  refine wpAny_holding (wpAny_bind (wpAny_setState_of ho rfl hf ?_))
  dsimp only
  rw [byScan_of (knd := intKind prog w) rfl hb hel]
  simp only [↓reduceIte]
  unfold setAddByScan
  refine wpAny_bind ?_
  refine wpAny_bind (wpAny_rule ?_)
  refine wpAny_bind ?_
  have sc := wpAny_setScan_of (prog := prog) (w := w) (A := A) (E := E) (s := s) (adding := true) (Q := fun r s' => s' = s ∧ r = (match es.toList.findIdx? (fun e => (intKind prog w).is (k : Int) e.2) with | some j => ScanMet.found (0 + j) | none => ScanMet.absent)) hkey ho rfl hf hel ⟨rfl, rfl⟩
  rw [hhk] at sc
  refine wpAny_mono sc (fun r s' hr => ?_) fun _ _ x => x
  obtain ⟨rfl, rfl⟩ := hr
  have isEq : ∀ e ∈ es.toList, (intKind prog w).is (k : Int) e.2 = decide (e.1 = (k : Int)) := fun e he => by
    obtain ⟨t', ht⟩ := h2 e he
    rw [ht]
    show Value.isInt (k : Int) (.int e.1 t') = _
    show (e.1 == (k : Int)) = _
    rw [Bool.eq_iff_iff, beq_iff_eq, decide_eq_true_eq]
  cases hr : List.findIdx? (fun e => (intKind prog w).is (k : Int) e.2) es.toList with
  | some j =>
    dsimp only
    obtain ⟨hj, hpj, _⟩ := List.findIdx?_eq_some_iff_getElem.mp hr
    have hin : m.contains k = true := by
      rw [isEq _ (List.getElem_mem hj)] at hpj
      have e1 := of_decide_eq_true hpj
      have hx : (k : Int) ∈ I6 m := by rw [← h1, ← e1]; exact List.mem_map.mpr ⟨_, List.getElem_mem hj, rfl⟩
      obtain ⟨n, hn, hne⟩ := List.mem_map.mp hx
      have : n = k := by omega
      rw [List.contains_iff_mem, ← this]; exact hn
    refine wpAny_pure (wpAny_pure ?_)
    have := h s'.heap false (Heap.SameBut.refl a s'.heap)
    rw [if_pos hin] at this
    exact this ⟨hm, es, ep, ho, h1, h2⟩
  | none =>
    dsimp only
    have hin : m.contains k = false := by
      cases q : m.contains k with
      | false => rfl
      | true =>
        exfalso
        rw [List.contains_iff_mem] at q
        have hx : (k : Int) ∈ I6 m := List.mem_map.mpr ⟨k, q, rfl⟩
        rw [← h1] at hx
        obtain ⟨e, he, hee⟩ := List.mem_map.mp hx
        have := List.findIdx?_eq_none_iff.mp hr e he
        rw [isEq e he, decide_eq_true hee] at this
        cases this
    obtain ⟨g1, g2, g3, g4, g5, g6⟩ := ok_at (!follow w) hm hk hin
    have hlay : layNew (tb (!follow w) m) es (k : Int) (.int (k : Int) t) = (SetTable.insertAt es (cnt k m) ((k : Int), .int (k : Int) t), tb1 (!follow w) m (ins k m), false, false) := by
      have hs2 : (SetTable.insertAt es (cnt k m) ((k : Int), Value.int (k : Int) t)).size = m.length + 1 := by
        rw [← Array.length_toList, (SetTable.insertAt_perm es (cnt k m) ((k : Int), Value.int (k : Int) t)).length_eq]; simp [hsz]
      unfold layNew
      rw [g1]
      simp only [g2]
      rw [hs2]
      unfold SetTable.orStandIn
      rw [if_pos g3, g3]
      rfl
    rw [hlay]
    dsimp only
    have hend : ∀ h', Heap.SameBut a s'.heap h' → Six w h' a (ins k m) → Q true { s' with heap := h' } := fun h' sb q => by
      have := h h' true sb
      rw [if_neg (by rw [hin]; decide)] at this
      exact this q
    have es1 : (SetTable.insertAt es (cnt k m) ((k : Int), Value.int (k : Int) t)).toList.map (·.1) = I6 (ins k m) := by
      rw [SetTable.toList_insertAt, List.map_append, List.map_cons, List.map_take, List.map_drop, h1, ← g6]
      unfold I6
      rw [List.map_append, List.map_cons, List.map_take, List.map_drop]
    have es2 : ∀ e ∈ (SetTable.insertAt es (cnt k m) ((k : Int), Value.int (k : Int) t)).toList, ∃ t', e.2 = .int e.1 t' := fun e he => by
      rw [SetTable.toList_insertAt] at he
      rcases List.mem_append.mp he with he | he
      · exact h2 e (List.mem_of_mem_take he)
      · rcases List.mem_cons.mp he with rfl | he
        · exact ⟨t, rfl⟩
        · exact h2 e (List.mem_of_mem_drop he)
    generalize hes : SetTable.insertAt es (cnt k m) ((k : Int), Value.int (k : Int) t) = es' at es1 es2
    have hsz' : es'.size = m.length + 1 := by
      rw [← hes, ← Array.length_toList, (SetTable.insertAt_perm es (cnt k m) ((k : Int), Value.int (k : Int) t)).length_eq]; simp [hsz]
    refine wpAny_bind (wpAny_pure ?_)
    rw [show (tb1 (!follow w) m (ins k m)).plain = true from rfl]
    simp only [↓reduceIte]
    refine wpAny_bind ?_
    rw [hashByValue_scannable 8 rfl]
    refine wpAny_pure ?_
    simp only [plainKind, ↓reduceIte]
    have ho1 : (s'.heap.update a (Obj.putSet es' (tb1 (!follow w) m (ins k m)))).get? a = some { cls := .type "set", dict := none, data := .set es' (ep + 1) (tb1 (!follow w) m (ins k m)), slots := #[] } := by
      have := Heap.get?_update_self (Obj.putSet es' (tb1 (!follow w) m (ins k m))) ho (by rw [putSet_of es' _ rfl]; rfl)
      rw [putSet_of es' _ rfl] at this; exact this
    have sb1 := Heap.SameBut.update s'.heap a (Obj.putSet es' (tb1 (!follow w) m (ins k m)))
    refine wpAny_bind (wpAny_storeSet_of ho rfl ?_ (by rw [hsz', sizeLine_eq]; omega))
    by_cases hfull : (tb1 (!follow w) m (ins k m)).tooFull = true
    · rw [if_pos hfull] at g5
      rw [hfull]
      simp only [Bool.not_false, Bool.and_self, ↓reduceIte]
      have hrel : relayAll (tb1 (!follow w) m (ins k m)) es' (SetTable.grown es'.size) = (es', tb (!follow w) (ins k m), false) := by
        unfold relayAll
        have hm' : es'.map (·.1) = ((ins k m).map fun (n : Nat) => (n : Int)).toArray := by
          apply Array.ext'
          have es1' := es1
          unfold I6 at es1'
          simpa using es1'
        rw [hm', hsz', g5]
        dsimp only
        have hfm : ((List.range (m.length + 1)).toArray.filterMap fun (x : Nat) => es'[x]?) = es' := by
          apply Array.ext'
          rw [Array.toList_filterMap]
          have := filterMap_getElem?_range es'
          rw [hsz'] at this
          simpa using this
        rw [hfm]
        have hft : (tb (!follow w) (ins k m)).fits es'.size = true := by
          have hl : (ins k m).length = es'.size := by
            have := congrArg List.length es1
            unfold I6 at this
            simpa using this.symm
          rw [← hl]; exact (sub_facts _ g4).2.2.2 _
        rw [hft]
        have hco : coversAll (List.range (m.length + 1)).toArray (m.length + 1) = true := by
          unfold coversAll
          exact List.isPerm_iff.mpr (List.Perm.refl _)
        rw [hco]
        rfl
      rw [hrel]
      dsimp only
      refine wpAny_bind (wpAny_pure ?_)
      refine wpAny_bind (wpAny_storeSet_of ho1 rfl ?_ (by rw [hsz', sizeLine_eq]; omega))
      refine wpAny_pure (wpAny_pure ?_)
      refine hend _ (sb1.trans (Heap.SameBut.update _ a _)) ⟨g4, es', ep + 1 + 1, ?_, es1, es2⟩
      have := Heap.get?_update_self (Obj.putSet es' (tb (!follow w) (ins k m))) ho1 (by rw [putSet_of es' _ rfl]; rfl)
      rw [putSet_of es' _ rfl] at this; exact this
    · rw [if_neg hfull] at g5
      rw [Bool.not_eq_true] at hfull
      rw [hfull]
      simp only [Bool.not_false, Bool.and_false, Bool.false_eq_true, ↓reduceIte]
      refine wpAny_pure (wpAny_pure ?_)
      refine hend _ sb1 ⟨g4, es', ep + 1, ?_, es1, es2⟩
      rw [ho1, g5]
end
end S6
set_option Elab.async false
set_option linter.all false
set_option maxRecDepth 100000
set_option maxHeartbeats 3200000
namespace S6
open PySem
def stp (m : List Nat) (k : Nat) : List Nat := if m.contains k = true then m else ins k m
def mets (l : List Nat) : List Nat := l.foldl stp []
theorem mets_snoc (l : List Nat) (k : Nat) : mets (l ++ [k]) = stp (mets l) k := by unfold mets; rw [List.foldl_append]; rfl
theorem Six.kept {w : World} {h h' : Heap} {a : Addr} {m : List Nat} (q : Six w h a m) (e : ∀ o, h.get? a = some o → h'.get? a = some o) : Six w h' a m :=
  let ⟨q1, es, ep, q2, q3⟩ := q; ⟨q1, es, ep, e _ q2, q3⟩
section
variable {prog : Program} {w : World} {A : Around} {R : Result → Shared → Prop} {I : Addr} {fp wr : List Addr} {G : Array GenState → Array GenState → Prop} {St : Nat → Shared → Prop}
theorem loop6 {l : List Nat} (W : WalksS prog w A.in1 I fp wr G l.length (fun i v => ∃ k t, l[i]? = some k ∧ v = Value.int (k : Int) t) St) (S : Addr) (hSf : S ∉ fp) (hv : ∀ k ∈ l, k < 6) :
    ∀ (j i : Nat) (s : Shared), l.length - i = j → i ≤ l.length → St i s → Six w s.heap S (mets (l.take i)) →
      (∀ s', Moved (S :: wr) G s s' → Six w s'.heap S (mets l) → R (.ok (.ret .none)) s') → codeAny (model prog w) A (.builtin "set.update.loop" ⟨[.ref S, .ref I], []⟩) R s := by
  have hSw : S ∉ wr := fun q => hSf (W.sub _ q)
  have sub1 : ∀ b ∈ wr, b ∈ S :: wr := fun b hb => List.mem_cons_of_mem _ hb
  intro j
  induction j with
  | zero =>
    intro i s hj hi st six done
    obtain rfl : i = l.length := by omega
    rw [List.take_length] at six
    refine codeAny_builtin PyProof.Rows.F.entry_set_update_loop ?_
    rw [Around.under_plainId PyProof.Rows.F.plain_set_update_loop _]
    show wpAny _ A.in1 (pyNext (.ref I) >>= _) _ _ s
    refine wpAny_bind (W.done s _ _ st fun s' mv => ?_)
    show wpAny _ A.in1 (ret Value.none) _ _ s'
    exact wpAny_pure (done s' (mv.mono sub1) (six.kept fun o e => mv.heap S o hSw e))
  | succ j ih =>
    intro i s hj hi st six done
    have hlt : i < l.length := by omega
    refine codeAny_builtin PyProof.Rows.F.entry_set_update_loop ?_
    rw [Around.under_plainId PyProof.Rows.F.plain_set_update_loop _]
    show wpAny _ A.in1 (pyNext (.ref I) >>= _) _ _ s
    refine wpAny_bind (W.item i s _ _ hlt st fun v s' hP st' mv => ?_)
    obtain ⟨k, t, hk, rfl⟩ := hP
    have hk6 : k < 6 := hv k (List.mem_of_getElem? hk)
    have six' : Six w s'.heap S (mets (l.take i)) := six.kept fun o e => mv.heap S o hSw e
    show wpAny _ A.in1 (holding [Value.int (k : Int) t] (setAdd S (.int (k : Int) t)) >>= _) _ _ s'
    refine wpAny_bind (wpAny_holding ?_)
    unfold setAdd
    refine wpAny_holding ?_
    refine wpAny_bind (wpAny_pyHash_int ?_)
    rw [hash6 k hk6]
    refine add6 (s := { s' with toks := s'.toks + 1 }) six' hk6 fun h' b sb q => ?_
    have q' : Six w h' S (mets (l.take (i + 1))) := by
      have e : l.take (i + 1) = l.take i ++ [k] := by rw [List.take_succ, hk]; rfl
      rw [e, mets_snoc]; exact q
    refine wpAny_pure ⟨plainId_quiet PyProof.Rows.F.plain_set_update_loop _, ih (i + 1) _ (by omega) hlt (W.frame _ s' _ _ st' (Nat.le_succ _) fun c hc o e => ?_) q' fun s'' mv2 six2 => ?_⟩
    · rw [sb.2 c (fun z : c = S => hSf (by rw [← z]; exact hc))]; exact e
    · refine done s'' (Moved.trans W.gtrans ((mv.mono sub1).then_heap (Nat.le_succ _) fun c o hc e => ?_) mv2) six2
      rw [sb.2 c (fun z : c = S => hc (by rw [z]; exact List.mem_cons_self))]; exact e
end
section
variable {prog : Program} {w : World} {A : Around} {E : Value → Shared → Prop} {s : Shared}
abbrev newS (w : World) : Obj := { cls := .type "set", dict := none, data := .set #[] 0 (.fresh 0 0 (!follow w)) }
theorem new6 (x : Value) {Q1 : Value → Shared → Prop} (h : Q1 (.ref s.heap.objs.size) { s with heap := s.heap.push (newS w) }) :
    codeAny (model prog w) A (.call (.builtin "set.__new__") ⟨[.type "set", x], []⟩) (wants Q1 E) s := by
  refine codeAny_of_tree ?_
  show wpAny _ A.in1 (do checkBuiltinCall "set.__new__" ⟨[.type "set", x], []⟩; again (.builtin "set.__new__" ⟨[.type "set", x], []⟩)) _ _ s
  refine wpAny_bind (wpAny_of_eq (F.newCall_set_1 x) (wpAny_pure ⟨plainId_quiet F.plain_set_new _, codeAny_builtin F.entry_set_new ?_⟩))
  rw [Around.under_plainId F.plain_set_new _]
  unfold Builtin.«set.__new__» Builtin.Frozenset.newClass
  have hsub := sub_set_self
  obtain ⟨hp, g, d, tk, os⟩ := s
  dsimp only
  wp_walk
  refine wpAny_askSetting (wpAny_pure ?_)
  dsimp only
  simp only [newObj]
  refine wpAny_bind (wpAny_alloc (wpAny_pure ?_))
  exact wpAny_pure h
theorem six_nil (w : World) {h : Heap} : Six w (h.push (newS w)) h.objs.size [] := by
  refine ⟨by decide +kernel, #[], 0, Heap.get?_push_size _ rfl, rfl, fun e he => by simp at he⟩
theorem setOf6 {a : Addr} {items : Array Value} {l : List Nat} {Q : Value → Shared → Prop} (hh : A.handled = none) (hl : s.heap.IsList a items) (hi : PyProof.Rows.IntsAre items.toList (I6 l)) (hv : ∀ k ∈ l, k < 6)
    (h : ∀ (h' : Heap) (tk : Nat), Six w h' s.heap.objs.size (mets l) → (∀ b o, b < s.heap.objs.size → s.heap.get? b = some o → h'.get? b = some o) → Q (.ref s.heap.objs.size) { s with heap := h', toks := tk }) :
    wpAny (model prog w) A (call (.type "set") [.ref a]) Q E s := by
  obtain ⟨c, tl, hmro⟩ := F.called_set.mro
  have hmade := F.called_set.made
  have hsub := F.called_set.sub
  refine wpAny_call (codeAny_of_tree ?_)
  show wpAny _ _ (callAny (.type "set") _) _ _ _
  refine wpAny_pure ⟨Code.quiet_builtin _ (by decide +kernel), codeAny_builtin F.entry_type_call ?_⟩
  rw [Around.under_plain (weight_type_call_type "set" [.ref a] []) rfl]
  have n1 := F.called_set.notType
  have n2 := F.called_set.canCreate
  have n3 := F.typeCall_set_1 (.ref a)
  repeat (any_goals (first | assumption | wp_step))
  refine codeAny_mono (new6 (.ref a) (E := E) (Q1 := fun x s1 => x = .ref s.heap.objs.size ∧ s1 = { s with heap := s.heap.push (newS w) }) ⟨rfl, rfl⟩) fun r s1 hr => ?_
  cases r with
  | error e => exact hr
  | ok fl =>
    cases fl with
    | ret x =>
      obtain ⟨rfl, rfl⟩ := hr
      have hS : (s.heap.push (newS w)).get? s.heap.objs.size = some (newS w) := Heap.get?_push_size _ rfl
      have hT : Shared.TypeIs { s with heap := s.heap.push (newS w) } (.ref s.heap.objs.size) "set" := ⟨_, hS, rfl⟩
      have hli := F.called_set.init.lookup
      have hbi := F.called_set.init.bind (.ref s.heap.objs.size)
      repeat (any_goals (first | assumption | wp_step))
      refine codeAny_mono (codeAny_call_builtin (R := wants (fun r s2 => r = .none ∧ ∃ h' tk, s2 = { s with heap := h', toks := tk } ∧ Six w h' s.heap.objs.size (mets l) ∧ (∀ b o, b < s.heap.objs.size → s.heap.get? b = some o → h'.get? b = some o)) E)
        F.called_set.init.plain F.entry_set_init (check_set_init_1 hT ?_)) fun r2 s2 hr2 => ?_
      · obtain ⟨ol, hol, hcl, nl, hdl⟩ := hl
        obtain ⟨ocls, odict, odata, oslots⟩ := ol
        simp only at hcl hdl
        subst hcl; subst hdl
        have hol' : (s.heap.push (newS w)).get? a = some { cls := .type "list", dict := odict, data := .seq items nl, slots := oslots } := Heap.get?_push_of_some _ hol
        have hsls := F.sub_list_set
        have hslf := F.sub_list_frozenset
        have hne : (Value.type "list" == Value.type "dict") = false := by decide
        have hl1 : (s.heap.push (newS w)).IsList a items := ⟨_, hol', rfl, nl, rfl⟩
        unfold Builtin.«set.__init__» noKeywords Builtin.Frozenset.updateFrom
        generalize hPI : pyIter = PI
        wp_walk
        subst hPI
        refine wpAny_pyIter_list hl1 ?_
        refine wpAny_bind (wpAny_runValue ?_)
        have haS : a < s.heap.objs.size := Heap.lt_size hol
        have hh3 : A.in1.in1.in1.handled = none := by simp [hh]
        have hneI : a ≠ (s.heap.push (newS w)).objs.size := by rw [Heap.size_push]; exact Nat.ne_of_lt (Nat.lt_succ_of_lt haS)
        have hSf : s.heap.objs.size ∉ [(s.heap.push (newS w)).objs.size, a] := by
          rw [Heap.size_push]
          simp only [List.mem_cons, List.not_mem_nil, or_false, not_or]
          exact ⟨Nat.ne_of_lt (Nat.lt_succ_self _), Nat.ne_of_gt haS⟩
        have hlen : items.size = l.length := by
          have := PyProof.Rows.IntsAre.length hi
          unfold I6 at this
          simpa using this
        have W0 := (Walks.list (prog := prog) (w := w) hh3 (s.heap.push (newS w)).objs.size a hneI items).toS
        have W : WalksS prog w A.in1.in1.in1 (s.heap.push (newS w)).objs.size [(s.heap.push (newS w)).objs.size, a] [(s.heap.push (newS w)).objs.size] (fun x y => y = x) l.length (fun i v => ∃ k t, l[i]? = some k ∧ v = Value.int (k : Int) t) (fun i s' => s'.heap.IsListIter (s.heap.push (newS w)).objs.size a i ∧ s'.heap.IsList a items) := by
          refine ⟨W0.sub, W0.grefl, W0.gtrans, W0.frame, fun i s' Q' E' hi' st' hQ' => W0.item i s' Q' E' (by rw [hlen]; exact hi') st' fun v s'' hP => hQ' v s'' ?_, fun s' Q' E' st' hQ' => W0.done s' Q' E' (by rw [hlen]; exact st') hQ', W0.self⟩
          obtain ⟨t, ht⟩ := PyProof.Rows.IntsAre.int_at hi i v (by rw [Array.getElem?_toList]; exact hP)
          refine ⟨l[i], t, List.getElem?_eq_getElem hi', ?_⟩
          rw [ht]
          congr 1
          unfold I6
          rw [List.getD_eq_getElem?_getD, List.getElem?_map, List.getElem?_eq_getElem hi']; rfl
        refine loop6 W s.heap.objs.size hSf hv l.length 0 _ (by omega) (Nat.zero_le _) ⟨⟨_, Heap.get?_push_size _ rfl, rfl, rfl⟩, (hl1.push _)⟩ ?hS0 ?hR
        case hS0 => exact (six_nil w).kept fun o e => Heap.get?_push_of_some _ e
        case hR =>
          intro s' hm hS'
          obtain ⟨h', g', d', tk', os'⟩ := s'
          have eg : g' = s.gens := hm.gens
          have ed : d' = s.drawn := hm.drawn
          have eo : os' = s.os := hm.os
          subst eg; subst ed; subst eo
          show wpAny _ _ _ _ _ _
          refine wpAny_pure ?_
          show wpAny _ _ (ret Value.none) _ _ _
          refine wpAny_pure ⟨rfl, h', tk', rfl, hS', fun b o hb e => ?_⟩
          have hb1 : b ≠ s.heap.objs.size := Nat.ne_of_lt hb
          have hb2 : b ≠ (s.heap.push (newS w)).objs.size := by rw [Heap.size_push]; exact Nat.ne_of_lt (Nat.lt_succ_of_lt hb)
          exact hm.heap b o (by simp only [List.mem_cons, List.not_mem_nil, or_false, not_or]; exact ⟨hb1, hb2⟩) (Heap.get?_push_of_some _ (Heap.get?_push_of_some _ e))
      · cases r2 with
        | error e => exact hr2
        | ok fl2 =>
          cases fl2 with
          | ret r =>
            obtain ⟨rfl, h', tk, rfl, hS', hk'⟩ := hr2
            repeat (any_goals (first | assumption | wp_step))
            exact h _ _ hS' hk'
          | _ => exact hr2.elim
    | _ => exact hr.elim
end
end S6
set_option Elab.async false
set_option linter.all false
set_option maxRecDepth 100000
set_option maxHeartbeats 3200000
namespace S6
open PySem
theorem slot_nx : Slot "set_iterator" "__next__" "set_iterator.__next__" :=
  .of (owner := "set_iterator") (n := "__next__") (by rw [typeLookup_type, builtinLookup_eq_fast]; kernel_rfl) (by decide +kernel) (by decide +kernel) (by decide +kernel)
    (by first | exact .inl (by decide +kernel) | exact .inr (by decide +kernel)) (by rw [isSubtype_type]; kernel_rfl)
theorem entry_nx : entryFor table "set_iterator.__next__" = some Builtin.«set_iterator.__next__» := entryFor_of_tree (by kernel_rfl)
theorem owner_nx : Manifest.owners.lookup (String.ofList ['r', 'o', 't', 'a', 'r', 'e', 't', 'i', '_', 't', 'e', 's'].reverse) = some Manifest.sig_set_iterator := by kernel_rfl
theorem args_nx (a : Value) : argsOk "set_iterator.__next__" ⟨[a], []⟩ := by
  unfold argsOk
  rw [signature?_of (id := "set_iterator.__next__") (n := ['_', '_', 't', 'x', 'e', 'n', '_', '_']) (o := ['r', 'o', 't', 'a', 'r', 'e', 't', 'i', '_', 't', 'e', 's']) (by kernel_rfl) owner_nx]
  kernel_rfl
theorem entry_it : entryFor table "set.__iter__" = some Builtin.«frozenset.__iter__» :=
  entryFor_alias (id' := "frozenset.__iter__") (by kernel_rfl) rfl (by decide +kernel) (by kernel_rfl)
theorem slot_si : Slot "set_iterator" "__iter__" "set_iterator.__iter__" :=
  .of (owner := "set_iterator") (n := "__iter__") (by rw [typeLookup_type, builtinLookup_eq_fast]; kernel_rfl) (by decide +kernel) (by decide +kernel) (by decide +kernel)
    (by first | exact .inl (by decide +kernel) | exact .inr (by decide +kernel)) (by rw [isSubtype_type]; kernel_rfl)
theorem entry_si : entryFor table "set_iterator.__iter__" = some Builtin.«dict_keyiterator.__iter__» :=
  entryFor_alias (id' := "dict_keyiterator.__iter__") (by kernel_rfl) rfl (by decide +kernel) (by kernel_rfl)
theorem args_si (a : Value) : argsOk "set_iterator.__iter__" ⟨[a], []⟩ := by
  unfold argsOk
  rw [signature?_of (id := "set_iterator.__iter__") (n := ['_', '_', 'r', 'e', 't', 'i', '_', '_']) (o := ['r', 'o', 't', 'a', 'r', 'e', 't', 'i', '_', 't', 'e', 's']) (by kernel_rfl) owner_nx]
  kernel_rfl
theorem cons_erase {α : Type} : ∀ (l : List α) (i : Nat) (h : i < l.length), (l[i] :: l.eraseIdx i).Perm l
  | [], i, h => by simp at h
  | a :: l, 0, h => List.Perm.refl _
  | a :: l, i + 1, h => by
    have h' : i < l.length := by simpa using h
    have ih := cons_erase l i h'
    show (l[i] :: a :: l.eraseIdx i).Perm (a :: l)
    exact (List.Perm.swap a l[i] _).trans (List.Perm.cons a ih)
theorem go_perm {α : Type} (next : Nat → Nat) : ∀ (f k : Nat) (left : List α) (out : Array α), f = left.length → (pickOrder.go next f k left out).toList.Perm (out.toList ++ left)
  | 0, k, left, out, h => by
    have : left = [] := List.length_eq_zero_iff.mp h.symm
    subst this
    unfold pickOrder.go
    simp
  | f + 1, k, left, out, h => by
    unfold pickOrder.go
    have hlt : next k % left.length < left.length := Nat.mod_lt _ (by omega)
    rw [List.getElem?_eq_getElem hlt]
    dsimp only
    have ih := go_perm next f (k + 1) (left.eraseIdx (next k % left.length)) (out.push left[next k % left.length]) (by rw [List.length_eraseIdx_of_lt hlt]; omega)
    refine ih.trans ?_
    rw [Array.toList_push, List.append_assoc]
    refine List.Perm.append_left _ ?_
    exact cons_erase left (next k % left.length) hlt
theorem pick_perm {α : Type} (next : Nat → Nat) (xs : Array α) : (pickOrder next xs).toList.Perm xs.toList := by
  unfold pickOrder
  have := go_perm next xs.size 0 xs.toList #[] (by simp)
  simpa using this
def ordE (w : World) (a : Addr) (ep : Nat) (es : Array (Int × Value)) : Array (Int × Value) := if follow w = true then pickOrder (w.params.setOrder a ep) es else es
theorem ordE_perm (w : World) (a : Addr) (ep : Nat) (es : Array (Int × Value)) : (ordE w a ep es).toList.Perm es.toList := by
  unfold ordE
  split
  · exact pick_perm _ _
  · exact List.Perm.refl _
def sl (w : World) (m : List Nat) : Nat → Nat
  | 0 => 0
  | i + 1 => if follow w = true then 0 else m.getD i 0 + 1
theorem below6 : ∀ m ∈ subs, ∀ i, i ≤ m.length → SetTable.below m.toArray (match i with | 0 => 0 | j + 1 => m.getD j 0 + 1) = i := by
  have h : (subs.all fun (m : List Nat) => (List.range (m.length + 1)).all fun (i : Nat) => decide (SetTable.below m.toArray (match i with | 0 => 0 | j + 1 => m.getD j 0 + 1) = i)) = true := by decide +kernel
  intro m hm i hi
  exact of_decide_eq_true (List.all_eq_true.mp (List.all_eq_true.mp h m hm) i (List.mem_range.mpr (by omega)))
abbrev setO (w : World) (m : List Nat) (es : Array (Int × Value)) (ep : Nat) : Obj := { cls := .type "set", dict := none, data := .set es ep (tb (!follow w) m), slots := #[] }
abbrev itO (w : World) (m : List Nat) (a : Addr) (ep i : Nat) : Obj := { cls := .type "set_iterator", data := .fields #[rawInt (sl w m i), rawInt i, .ref a, rawInt m.length, rawInt ep] }
section
variable {prog : Program} {w : World} {A : Around} {E : Value → Shared → Prop} {s : Shared}
theorem follow_ask {Q : Bool → Shared → Prop} (h : Q (follow w) s) : wpAny (model prog w) A setsByText Q E s := by
  unfold setsByText
  exact wpAny_bind (wpAny_askSetting (wpAny_pure h))
theorem next6 {a : Addr} {m : List Nat} {es : Array (Int × Value)} {ep i : Nat} {Q : Option (Value × Nat) → Shared → Prop} (hm : m ∈ subs) (ho : s.heap.get? a = some (setO w m es ep)) (h1 : es.toList.map (·.1) = I6 m) (hi : i ≤ m.length)
    (h : Q (((ordE w a ep es)[i]?).map fun e => (e.2, sl w m (i + 1))) s) : wpAny (model prog w) A (setNext a (sl w m i) i ep) Q E s := by
  obtain ⟨f1, f2, f3, f4⟩ := sub_facts m hm
  have hsz : es.size = m.length := by
    have := congrArg List.length h1
    unfold I6 at this
    simpa using this
  have hf : (tb (!follow w) m).fits es.size = true := by rw [hsz]; exact f4 _
  unfold setNext
  refine wpAny_bind (wpAny_setState_of ho rfl hf ?_)
  dsimp only
  refine wpAny_bind (follow_ask ?_)
  cases hw : follow w with
  | true =>
    simp only [↓reduceIte, bne_self_eq_false, Bool.false_eq_true]
    refine wpAny_bind ?_
    unfold setWalk
    refine wpAny_bind (wpAny_setState_of ho rfl hf ?_)
    dsimp only
    refine wpAny_bind (follow_ask ?_)
    rw [hw]
    simp only [↓reduceIte]
    refine wpAny_bind (wpAny_askSetting (wpAny_pure (wpAny_pure ?_)))
    have e1 : ordE w a ep es = pickOrder (w.params.setOrder a ep) es := by unfold ordE; rw [if_pos hw]
    have e2 : sl w m (i + 1) = sl w m i := by
      cases i with
      | zero => show (if follow w = true then 0 else _) = 0; rw [if_pos hw]
      | succ j => show (if follow w = true then 0 else _) = (if follow w = true then 0 else _); rw [if_pos hw, if_pos hw]
    rw [e1, e2] at h
    exact h
  | false =>
    simp only [Bool.false_eq_true, ↓reduceIte]
    have e1 : ordE w a ep es = es := by unfold ordE; rw [if_neg (by rw [hw]; decide)]
    have e2 : ∀ j, sl w m (j + 1) = m.getD j 0 + 1 := fun j => by show (if follow w = true then 0 else _) = _; rw [if_neg (by rw [hw]; decide)]
    have e3 : SetTable.below m.toArray (sl w m i) = i := by
      have := below6 m hm i hi
      cases i with
      | zero => exact this
      | succ j => rw [e2]; exact this
    refine wpAny_bind (wpAny_pure ?_)
    refine wpAny_pure ?_
    show Q (match es[SetTable.below m.toArray (sl w m i)]?, m.toArray[SetTable.below m.toArray (sl w m i)]? with
      | some (_, x), some j => some (x, j + 1)
      | _, _ => none) s
    rw [e3]
    rw [e1, e2] at h
    by_cases hlt : i < m.length
    · have q1 : es[i]? = some es[i] := Array.getElem?_eq_getElem (by omega)
      have q2 : m.toArray[i]? = some (m.getD i 0) := by
        rw [List.getElem?_toArray, List.getD_eq_getElem?_getD, List.getElem?_eq_getElem hlt]; rfl
      rw [q1] at h
      rw [q1, q2]
      exact h
    · have q1 : es[i]? = none := Array.getElem?_eq_none (by omega)
      rw [q1] at h
      rw [q1]
      exact h
theorem walks6 (hh : A.handled = none) (I a : Addr) (hne : a ≠ I) {m : List Nat} {es : Array (Int × Value)} {ep : Nat} (hm : m ∈ subs) (h1 : es.toList.map (·.1) = I6 m) :
    Walks prog w A I [I, a] [I] m.length (fun i v => ((ordE w a ep es).map (·.2))[i]? = some v) (fun i h => h.get? I = some (itO w m a ep i) ∧ h.get? a = some (setO w m es ep)) where
  sub := fun b hb => by simp at hb; simp [hb]
  frame := fun _ _ _ st hk => ⟨hk I (by simp) _ st.1, hk a (by simp) _ st.2⟩
  item := fun i s Q E hi st hQ => by
    obtain ⟨f1, f2, f3, f4⟩ := sub_facts m hm
    have hsz : es.size = m.length := by
      have := congrArg List.length h1
      unfold I6 at this
      simpa using this
    have hf : (tb (!follow w) m).fits es.size = true := by rw [hsz]; exact f4 _
    have hos : (ordE w a ep es).size = m.length := by
      rw [← Array.length_toList, (ordE_perm w a ep es).length_eq, Array.length_toList, hsz]
    have hT : s.TypeIs (.ref I) "set_iterator" := ⟨_, st.1, rfl⟩
    have q1 : (ordE w a ep es)[i]? = some (ordE w a ep es)[i] := Array.getElem?_eq_getElem (by omega)
    unfold pyNext
    refine wpAny_bind (wpAny_attempt (wpAny_callSpecial?_slot (name := Str.ofString "__next__") hT slot_nx (wpAny_call_entry slot_nx hT entry_nx ?_ (args_nx _))))
    unfold Builtin.«set_iterator.__next__» slotArgs
    simp only [List.isEmpty_nil, Bool.not_true, Bool.false_eq_true, ↓reduceIte, List.length_nil, bne_self_eq_false]
    refine wpAny_bind (wpAny_pure ?_)
    refine wpAny_bind (wpAny_fieldsOf st.1 rfl ?_)
    show wpAny _ _ (setEntries a >>= _) _ _ s
    refine wpAny_bind (wpAny_setEntries_of st.2 rfl hf ?_)
    rw [hsz]
    simp only [bne_self_eq_false, Bool.false_eq_true, ↓reduceIte]
    show wpAny _ _ (setNext a (Int.toNat ((sl w m i : Nat) : Int)) (Int.toNat ((i : Nat) : Int)) (Int.toNat ((ep : Nat) : Int)) >>= _) _ _ s
    rw [Int.toNat_natCast, Int.toNat_natCast, Int.toNat_natCast]
    refine wpAny_bind (next6 hm st.2 h1 (Nat.le_of_lt hi) ?_)
    rw [q1]
    dsimp only [Option.map]
    refine wpAny_bind (wpAny_setField st.1 rfl (by simp) ?_)
    have st2 := Heap.get?_update_self (Obj.mapFields (·.setIfInBounds 0 (rawInt (sl w m (i + 1))))) st.1 rfl
    refine wpAny_bind (wpAny_setField st2 rfl (by simp [Obj.mapFields]) (wpAny_pure ⟨_, rfl, wpAny_pure (hQ _ _ s.toks (by rw [Array.getElem?_map, q1]; rfl) ⟨?_, ?_⟩ fun b o hb e => ?_)⟩))
    · have := Heap.get?_update_self (Obj.mapFields (·.setIfInBounds 1 (rawInt ((i : Int) + 1)))) st2 rfl
      exact this
    · rw [Heap.get?_update_other _ _ (Ne.symm hne), Heap.get?_update_other _ _ (Ne.symm hne)]; exact st.2
    · have hbI : I ≠ b := fun z => hb (by simp [z])
      rw [Heap.get?_update_other _ _ hbI, Heap.get?_update_other _ _ hbI]; exact e
  done := fun s Q E st hQ => by
    obtain ⟨f1, f2, f3, f4⟩ := sub_facts m hm
    have hsz : es.size = m.length := by
      have := congrArg List.length h1
      unfold I6 at this
      simpa using this
    have hf : (tb (!follow w) m).fits es.size = true := by rw [hsz]; exact f4 _
    have hos : (ordE w a ep es).size = m.length := by
      rw [← Array.length_toList, (ordE_perm w a ep es).length_eq, Array.length_toList, hsz]
    have hT : s.TypeIs (.ref I) "set_iterator" := ⟨_, st.1, rfl⟩
    have q1 : (ordE w a ep es)[m.length]? = none := Array.getElem?_eq_none (by omega)
    unfold pyNext
    refine wpAny_bind (wpAny_attempt (wpAny_callSpecial?_slot (name := Str.ofString "__next__") hT slot_nx (wpAny_call_entry slot_nx hT entry_nx ?_ (args_nx _))))
    unfold Builtin.«set_iterator.__next__» slotArgs
    simp only [List.isEmpty_nil, Bool.not_true, Bool.false_eq_true, ↓reduceIte, List.length_nil, bne_self_eq_false]
    refine wpAny_bind (wpAny_pure ?_)
    refine wpAny_bind (wpAny_fieldsOf st.1 rfl ?_)
    show wpAny _ _ (setEntries a >>= _) _ _ s
    refine wpAny_bind (wpAny_setEntries_of st.2 rfl hf ?_)
    rw [hsz]
    simp only [bne_self_eq_false, Bool.false_eq_true, ↓reduceIte]
    show wpAny _ _ (setNext a (Int.toNat ((sl w m m.length : Nat) : Int)) (Int.toNat ((m.length : Nat) : Int)) (Int.toNat ((ep : Nat) : Int)) >>= _) _ _ s
    rw [Int.toNat_natCast, Int.toNat_natCast, Int.toNat_natCast]
    refine wpAny_bind (next6 hm st.2 h1 (Nat.le_refl _) ?_)
    rw [q1]
    dsimp only [Option.map]
    refine wpAny_bind (wpAny_setField st.1 rfl (by simp) ?_)
    show wpAny _ _ (newExc (.type "StopIteration") [] >>= _) _ _ _
    refine wpAny_bind ?_
    simp only [newExc, newTuple]
    refine wpAny_bind (wpAny_newObj_type ?_ (by size_fits))
    refine wpAny_bind (m := firstArgMember _ _) (wpAny_of_eq (a := Value.none) (by first | rfl | (simp only [firstArgMember]; rfl)) ?_)
    refine wpAny_newObj_type ?_ (by size_fits)
    simp only [raiseNew]
    refine wpAny_bind (wpAny_handled ?_)
    first | rw [show A.in1.handled = none from hh] | rw [hh]
    refine wpAny_bind (wpAny_pure (wpAny_throw ?_))
    refine wpAny_bind (wpAny_isInstance (T := "StopIteration") (b := true) ⟨_, Heap.get?_push_size _ rfl, rfl⟩ isSubtype_stop ?_)
    refine wpAny_pure (hQ _ _ fun b o hb e => ?_)
    have hbI : I ≠ b := fun z => hb (by simp [z])
    exact Heap.get?_push_of_some _ (Heap.get?_push_of_some _ (by rw [Heap.get?_update_other _ _ hbI]; exact e))
  self := fun i s Q E st hQ => by
    have hT : s.TypeIs (.ref I) "set_iterator" := ⟨_, st.1, rfl⟩
    refine wpAny_pyIter_slot hT slot_si (wpAny_call_entry slot_si hT entry_si ?_ (args_si _))
    show wpAny _ _ (ret (.ref I)) _ _ s
    exact wpAny_pure ⟨_, rfl, "set_iterator", _, hT, slot_nx.lookup, hQ⟩
end
end S6
set_option Elab.async false
set_option linter.all false
set_option maxRecDepth 100000
set_option maxHeartbeats 3200000
namespace S6
open PySem
section
variable {prog : Program} {w : World} {A : Around} {E : Value → Shared → Prop} {s : Shared}
theorem ite_yes {α : Type} {M : Model} {c : Bool} {x y : Sem α} {Q : α → Shared → Prop} (hc : c = true) (h : wpAny M A x Q E s) : wpAny M A (if c = true then x else y) Q E s := by
  rw [if_pos hc]; exact h
theorem ite_no {α : Type} {M : Model} {c : Bool} {x y : Sem α} {Q : α → Shared → Prop} (hc : c = false) (h : wpAny M A y Q E s) : wpAny M A (if c = true then x else y) Q E s := by
  rw [if_neg (by rw [hc]; decide)]; exact h
theorem iter6 {a : Addr} {m : List Nat} {es : Array (Int × Value)} {ep : Nat} {Q : Value → Shared → Prop} (hm : m ∈ subs) (ho : s.heap.get? a = some (setO w m es ep)) (h1 : es.toList.map (·.1) = I6 m)
    (h : Q (.ref s.heap.objs.size) { s with heap := s.heap.push (itO w m a ep 0) }) : wpAny (model prog w) A (pyIter (.ref a)) Q E s := by
  obtain ⟨f1, f2, f3, f4⟩ := sub_facts m hm
  have hsz : es.size = m.length := by
    have := congrArg List.length h1
    unfold I6 at this
    simpa using this
  have hf : (tb (!follow w) m).fits es.size = true := by rw [hsz]; exact f4 _
  have hT : s.TypeIs (.ref a) "set" := ⟨_, ho, rfl⟩
  refine wpAny_pyIter_slot hT F.slot_set_iter (wpAny_call_entry F.slot_set_iter hT entry_it ?_ (F.args_set_iter_1 _))
  unfold Builtin.«frozenset.__iter__» Builtin.Frozenset.slot0 slotArgs
  simp only [List.isEmpty_nil, Bool.not_true, Bool.false_eq_true, ↓reduceIte, List.length_nil, bne_self_eq_false, bind_assoc]
  unfold Builtin.Frozenset.addrOf Builtin.Frozenset.sizeOf
  refine wpAny_bind (wpAny_pure ?_)
  try dsimp only
  refine wpAny_bind (wpAny_pure ?_)
  refine wpAny_bind (wpAny_bind (wpAny_setEntries_of ho rfl hf (wpAny_pure ?_)))
  refine wpAny_bind ?_
  unfold setDrawn
  refine wpAny_bind (wpAny_setState_of ho rfl hf ?_)
  dsimp only
  refine wpAny_bind (follow_ask (wpAny_pure ?_))
  refine ite_no (by cases follow w <;> rfl) ?_
  refine wpAny_bind (wpAny_pure ?_)
  refine wpAny_bind (wpAny_setEpoch_of ho rfl hf ?_)
  rw [hsz]
  exact wpAny_bind (wpAny_newObj_type (wpAny_pure ⟨_, rfl, "set_iterator", _, ⟨_, Heap.get?_push_size _ rfl, rfl⟩, slot_nx.lookup, h⟩))
theorem coll6 {a : Addr} {m : List Nat} {es : Array (Int × Value)} {ep : Nat} {Q : List Value → Shared → Prop} (hh : A.handled = none) (hm : m ∈ subs) (ho : s.heap.get? a = some (setO w m es ep)) (h1 : es.toList.map (·.1) = I6 m)
    (hQ : ∀ s' (acc : Array Value), Moved [] (fun x y => y = x) s s' → s.heap.objs.size < s'.heap.objs.size → ItemsOf (fun i v => ((ordE w a ep es).map (·.2))[i]? = some v) acc m.length → Q acc.toList s') : wpAny (model prog w) A (collect (.ref a)) Q E s := by
  have haS : a < s.heap.objs.size := Heap.lt_size ho
  have hSa : s.heap.objs.size ≠ a := Nat.ne_of_gt haS
  unfold collect
  refine wpAny_bind (wpAny_runValue (codeAny_builtin F.entry_proto_collect ?_))
  rw [Around.under_plainId F.plain_proto_collect _]
  show wpAny _ A.in1 (newList [] >>= fun l => again (.builtin "list.__iadd__" ⟨[l, .ref a], []⟩)) _ _ s
  refine wpAny_bind (wpAny_newObj_type ?_)
  refine wpAny_pure ⟨plainId_quiet F.plain_list_iadd _, codeAny_builtin F.entry_list_iadd ?_⟩
  rw [Around.under_plainId F.plain_list_iadd _]
  show wpAny _ A.in1 (Builtin.List.listExtendWith (.ref s.heap.objs.size) (.ref a) (.ref s.heap.objs.size)) _ _ _
  have ho1 : (s.heap.push { cls := .type "list", data := .seq ([] : List Value).toArray }).get? a = some (setO w m es ep) := Heap.get?_push_of_some _ ho
  generalize hh1 : s.heap.push { cls := .type "list", data := .seq ([] : List Value).toArray } = g1 at ho1
  have hg1 : g1.get? s.heap.objs.size = some { cls := .type "list", data := .seq ([] : List Value).toArray } := by rw [← hh1]; exact Heap.get?_push_size _ rfl
  have hz1 : g1.objs.size = s.heap.objs.size + 1 := by rw [← hh1, Heap.size_push]
  have hT : Shared.TypeIs { s with heap := g1 } (.ref a) "set" := ⟨_, ho1, rfl⟩
  unfold Builtin.List.listExtendWith
  refine wpAny_bind (wpAny_typeOf hT ?_)
  have n1 : Builtin.List.listSameRef (.ref s.heap.objs.size) (.ref a) = false := by simp [Builtin.List.listSameRef, hSa]
  have n2 : (Value.type "set" == Value.type "list") = false := by decide
  have n3 : (Value.type "set" == Value.type "tuple") = false := by decide
  simp only [n1, n2, n3, Bool.or_false, Bool.false_eq_true, if_false]
  refine wpAny_bind (iter6 (s := { s with heap := g1 }) hm ho1 h1 ?_)
  have ho2 : (g1.push (itO w m a ep 0)).get? a = some (setO w m es ep) := Heap.get?_push_of_some _ ho1
  have hi2 : (g1.push (itO w m a ep 0)).get? g1.objs.size = some (itO w m a ep 0) := Heap.get?_push_size _ rfl
  have hg2 : (g1.push (itO w m a ep 0)).get? s.heap.objs.size = some { cls := .type "list", data := .seq ([] : List Value).toArray } := Heap.get?_push_of_some _ hg1
  show wpAny _ _ _ _ _ { s with heap := g1.push (itO w m a ep 0) }
  have old2 : ∀ b o, s.heap.get? b = some o → (g1.push (itO w m a ep 0)).get? b = some o := fun b o e => Heap.get?_push_of_some _ (by rw [← hh1]; exact Heap.get?_push_of_some _ e)
  generalize hg3 : g1.push (itO w m a ep 0) = g2 at ho2 hi2 hg2 old2
  have hT2 : Shared.TypeIs { s with heap := g2 } (.ref a) "set" := ⟨_, ho2, rfl⟩
  refine wpAny_bind (wpAny_holding ?_)
  unfold Builtin.List.listLengthHint
  refine wpAny_bind (wpAny_specialOf hT2 F.slot_set_len.lookup ?_)
  have sp : splitId "set.__len__" = some ("set", "__len__") := by kernel_rfl
  simp only [sp]
  refine wpAny_bind (wpAny_isInstance hT2 sub_set_self ?_)
  simp only [Bool.not_true, Bool.false_eq_true, if_false]
  refine ite_yes (by kernel_rfl) ?_
  refine wpAny_bind (wpAny_typeOf hT2 ?_)
  refine wpAny_pure ?_
  refine ite_yes (by kernel_rfl) ?_
  refine wpAny_bind (wpAny_rule ?_)
  refine wpAny_bind ?_
  show wpAny _ A.in1 (updateSeq s.heap.objs.size (·.push .none) >>= fun _ => updateSeq s.heap.objs.size (·.pop)) _ _ _
  refine wpAny_bind (wpAny_updateSeq hg2 rfl ?_)
  have k2 := Heap.get?_update_self (Obj.mapSeq (·.push Value.none)) hg2 rfl
  refine wpAny_updateSeq k2 rfl ?_
  have k3 := Heap.get?_update_self (Obj.mapSeq (·.pop)) k2 rfl
  have oth : ∀ b o, b ≠ s.heap.objs.size → g2.get? b = some o → ((g2.update s.heap.objs.size (Obj.mapSeq (·.push Value.none))).update s.heap.objs.size (Obj.mapSeq (·.pop))).get? b = some o :=
    fun b o hb e => (Heap.get?_update_other _ _ (Ne.symm hb)).trans ((Heap.get?_update_other _ _ (Ne.symm hb)).trans e)
  have hI : g1.objs.size ≠ s.heap.objs.size := by omega
  have haI : a ≠ g1.objs.size := Nat.ne_of_lt (by rw [hz1]; exact Nat.lt_succ_of_lt haS)
  have W := (walks6 (prog := prog) (w := w) (A := A.in1) (by simp [hh]) g1.objs.size a haI (ep := ep) hm h1).toS
  refine wpAny_pure ⟨plainId_quiet F.plain_extend_loop _, codeAny_extend_loopS W (by have := (sub_facts m hm).1; rw [sizeLine_eq]; omega) s.heap.objs.size (by simp only [List.mem_cons, List.not_mem_nil, or_false, not_or]; exact ⟨Ne.symm hI, hSa⟩) _ m.length 0 _ _ _ rfl (Nat.zero_le _) ⟨oth _ _ hI hi2, oth _ _ (Ne.symm hSa) ho2⟩ k3 (ItemsOf.nil _) fun s' acc' c' hm' hS' hacc => ?_⟩
  show wpAny _ A (load s.heap.objs.size >>= _) _ _ s'
  refine wpAny_bind (wpAny_load hS' ?_)
  refine wpAny_pure (hQ s' acc' ⟨fun b o _ e => ?_, hm'.gens, hm'.drawn, hm'.os, hm'.toks⟩ (Heap.lt_size hS') hacc)
  have hb : b < s.heap.objs.size := Heap.lt_size e
  refine hm'.heap b o (by simp only [List.mem_cons, List.not_mem_nil, or_false, not_or]; exact ⟨Nat.ne_of_lt hb, Nat.ne_of_lt (by rw [hz1]; exact Nat.lt_succ_of_lt hb)⟩) (oth b o (Nat.ne_of_lt hb) (old2 b o e))
theorem sort6 {a : Addr} {m : List Nat} {Q : Value → Shared → Prop} (hh : A.handled = none) (hS : Six w s.heap a m)
    (h : ∀ (s' : Shared) (out : List Value) (ep : Nat) (p : Addr), s'.os = s.os → s'.gens = s.gens → s'.drawn = s.drawn → (∀ b o, s.heap.get? b = some o → s'.heap.get? b = some o) → s.heap.objs.size ≤ p → PyProof.Rows.IntsAre out (I6 m) → s'.heap.get? p = some { cls := .type "list", data := .seq out.toArray ep } → Q (.ref p) s') :
    wpAny (model prog w) A (call (.builtin "sorted") [.ref a]) Q E s := by
  obtain ⟨hm, es, ep, ho, h1, h2⟩ := hS
  obtain ⟨f1, f2, f3, f4⟩ := sub_facts m hm
  have hp := ordE_perm w a ep es
  refine Calls.call_function_entry PyProof.Rows.kind_sorted PyProof.Rows.plain_sorted PyProof.Rows.entry_sorted (PyProof.Rows.args_sorted1 _) ?_
  unfold Builtin.«sorted»
  refine wpAny_bind (m := checkCount "sorted" 1 1 _) (wpAny_pure ?_)
  refine wpAny_bind (coll6 (A := A.in1) (by simp [hh]) hm ho h1 fun s1 acc mv hlt hacc => ?_)
  have eacc : acc.toList = (ordE w a ep es).toList.map (·.2) := by
    have hosz : (ordE w a ep es).size = m.length := by
      rw [← Array.length_toList, hp.length_eq, Array.length_toList]
      have := congrArg List.length h1
      unfold I6 at this
      simpa using this
    apply List.ext_getElem?
    intro j
    rw [Array.getElem?_toList]
    by_cases hj : j < acc.size
    · have q := hacc.2 j acc[j] (Array.getElem?_eq_getElem hj)
      rw [Array.getElem?_eq_getElem hj, ← q, ← Array.getElem?_toList, Array.toList_map]
    · rw [Array.getElem?_eq_none (by omega), List.getElem?_eq_none (by rw [List.length_map, Array.length_toList]; have := hacc.1; omega)]
  have intsL : ∀ l : List (Int × Value), (∀ e ∈ l, ∃ t, e.2 = Value.int e.1 t) → PyProof.Rows.IntsAre (l.map (·.2)) (l.map (·.1)) := by
    intro l
    induction l with
    | nil => intro _; exact .nil
    | cons e l ih =>
      intro q
      obtain ⟨t, ht⟩ := q e List.mem_cons_self
      rw [List.map_cons, List.map_cons, ht]
      exact .cons _ _ (ih fun x hx => q x (List.mem_cons_of_mem _ hx))
  have hI : PyProof.Rows.IntsAre acc.toList ((ordE w a ep es).toList.map (·.1)) := by
    rw [eacc]; exact intsL _ fun e he => h2 e (hp.mem_iff.mp he)
  have hl64 : acc.toList.length < 64 := by rw [Array.length_toList, hacc.1]; omega
  refine wpAny_bind (wpAny_newList ?_)
  have hoL : (s1.heap.push (PyProof.Rows.seqObj "list" acc.toList.toArray 0)).get? s1.heap.objs.size = some (PyProof.Rows.seqObj "list" acc.toList.toArray 0) := Heap.get?_push_size _ rfl
  refine wpAny_bind (wpAny_holding (wpAny_call_entry PyProof.Rows.slot_list_sort ⟨_, hoL, rfl⟩ PyProof.Rows.entry_list_sort (PyProof.Rows.list_sort_tree hoL hI hl64 fun out ns' a1 a2 a3 => ⟨_, rfl, ?_⟩) (PyProof.Rows.args_list_sort _)))
  refine wpAny_pure ⟨_, rfl, ?_⟩
  obtain ⟨e, he⟩ := PyProof.Rows.sortedHeap_at (vs := acc.toList) (out := out) hoL
  have srt : (I6 m).Pairwise (· ≤ ·) := by
    unfold I6
    rw [List.pairwise_map]
    exact f3.imp fun {x y} q => by omega
  have hn : ns' = I6 m := (a2.trans ((hp.map _).trans (by rw [h1]))).eq_of_pairwise (fun x y _ _ q1 q2 => Int.le_antisymm q1 q2) a3 srt
  rw [hn] at a1
  refine h _ out.toList e s1.heap.objs.size mv.os mv.gens mv.drawn (fun b o q => ?_) ?_ a1 ?_
  · have q1 := mv.heap b o (by simp) q
    have hb : b < s1.heap.objs.size := Heap.lt_size q1
    rw [PyProof.Rows.sortedHeap_old (Nat.ne_of_lt hb) (by rw [PyProof.Rows.size_push']; exact Nat.lt_succ_of_lt hb)]
    exact Heap.get?_push_of_some _ q1
  · exact Nat.le_of_lt hlt
  · simpa using he
end
end S6
set_option Elab.async false
set_option linter.all false
set_option maxRecDepth 100000
set_option maxHeartbeats 2000000
namespace CR
open PySem PySem.Spec PyProof.Rows L2
abbrev BYs := List UInt8
section
variable {X : Cx} {a b : Expr} {ta tb : TE} {pos : Pos}
theorem pe_gi {x : Str} {i : Int} {p : Pos} (hg : Gl X x) (h : ∃ t, X.mg x = some (.int i t)) (hd : (x == ("__debug__" : Str)) = false := by decide) : PE X (.Name x p) (tC (.int i)) :=
  fun pins s σ H Q I hq => let ⟨t, e⟩ := h; pe_glob (v := .int i) hg e ⟨t, rfl⟩ hd pins s σ H Q I hq
theorem pe_gs {x : Str} {z : Str} {p : Pos} (hg : Gl X x) (h : ∃ t, X.mg x = some (.str z t)) (hd : (x == ("__debug__" : Str)) = false := by decide) : PE X (.Name x p) (tC (.str z)) :=
  fun pins s σ H Q I hq => let ⟨t, e⟩ := h; pe_glob (v := .str z) hg e ⟨t, rfl⟩ hd pins s σ H Q I hq
def rNotInT (K : PySem.W.Frag) : R2 := fun x y H Q => ∃ d ds, Dp K H x d ∧ Dp K H y (.tuple ds) ∧ SeqAt.shaped d = true ∧ SeqAt.shaped (.tuple ds) = true ∧ Q (.bl (!ds.any fun e => PyData.eqv e d)) H
theorem op_notInT (hu : X.A.units + 66 < cLine) : OpR X (compareOp .NotIn) (rNotInT X.K) := by
  intro pins s σ H x y v u Q I rx ry h
  obtain ⟨d, ds, hd, he, sd, se, q⟩ := h
  obtain ⟨as, r1⟩ := Dp.reads I d x v hd rx
  obtain ⟨bs, r2⟩ := Dp.reads I (.tuple ds) y u he ry
  have hl : PyData.canLayAll0 ds = true := by
    have := SeqAt.canLay_of_shaped se
    simpa [PyData.canLay0] using this
  have hm : min (PyData.depthAll ds) d.depth ≤ 64 := Nat.le_trans (Nat.min_le_right _ _) (SeqAt.depth_of_shaped sd)
  exact SeqAt.notIn_tuple_reads r2 r1 hl (SeqAt.canLay_of_shaped sd) (by omega) ⟨.bl _, H, I, rfl, q⟩
end
theorem _root_.L2.Room.u66 {k : Nat} {A : Around} (r : Room k A) : A.units + 66 < cLine := by have := r.un; omega
structure Fd (P : Program) (w : World) (K : PySem.W.Frag) (mg : Str → Option Value) (base : Heap) (k : Nat) (x : Str) (ps : List Str) (sp : Sp) : Prop where
  ex : ∃ f fd, mg x = some (.ref f) ∧ PySem.W.keepIn K (.ref f) = true ∧ Binds K fd ps [] ∧ FnOk P w K mg base CX0 k f fd ps sp
theorem pe_fn {X : Cx} {k : Nat} {x : Str} {ps : List Str} {sp : Sp} {e : Expr} {es : List Expr} {t : TA} {p pos : Pos} (D : Fd X.prog X.w X.K X.mg X.base k x ps sp) (hr : Room k X.A) (hg : Gl X x) (ha : PA X (e :: es) t)
    (hdb : (x == ("__debug__" : Str)) = false := by decide) (he : starEach (e :: es) X.env = (false, eval e X.env) :: starEach es X.env := by rfl) (hpl : (backTo pos (starEach es X.env)).any (·.1) = false := by rfl) :
    PE X (.Call (.Name x p) (e :: es) [] pos) (tCall sp [] E0 t) := by
  obtain ⟨f, fd, h1, h2, h3, h4⟩ := D.ex
  exact pe_call h4 hr hg h1 h2 h3 .nil pass0 ha hdb he hpl
structure Df (K : PySem.W.Frag) (mg : Str → Option Value) (x : Str) (st : Stmt) : Prop where
  ex : ∃ f fd, mg x = some (.ref f) ∧ Fun K x x st f fd
theorem _root_.L2.Same.upd {H H' : Hp} {l : Addr} {o : HO} (e : Same H H') (h : H l = none) : Same H (L2.upd H' l o) := fun b u hb => by
  rw [upd_ne (ne_of_none hb h)]; exact e b u hb
theorem _root_.L2.Same.new {H : Hp} {l : Addr} {o : HO} (h : H l = none) : Same H (L2.upd H l o) := (Same.refl H).upd h
theorem _root_.L2.Same.tup {K : PySem.W.Frag} {H H' : Hp} {a : Addr} {xs : List V} (e : Same H H') (h : SqT K H a xs) : SqT K H' a xs := by
  rcases h with (h | ⟨o, h⟩) | h
  · exact .inl (.inl (e _ _ h))
  · exact .inl (.inr ⟨o, e _ _ h⟩)
  · exact .inr h
theorem ifP {c A B : Prop} [Decidable c] (hc : c) (h : A) : if c then A else B := by rw [if_pos hc]; exact h
theorem ifN {c A B : Prop} [Decidable c] (hc : ¬ c) (h : B) : if c then A else B := by rw [if_neg hc]; exact h
def bV (c : UInt8) : V := .int ((c.toNat : Nat) : Int)
def nV (n : Nat) : V := .int (n : Int)
def IsB (K : PySem.W.Frag) (H : Hp) (a : Addr) (b : BYs) : Prop := SqL K H a (b.map bV) ∧ b.length ≤ 20000
def IsBB (K : PySem.W.Frag) (H : Hp) (a : Addr) (ws : List BYs) : Prop := ∃ as : List Addr, SqL K H a (as.map V.ref) ∧ Paired (IsB K H) as ws ∧ ws.length ≤ 20001
theorem IsB.same {K : PySem.W.Frag} {H H' : Hp} {a : Addr} {b : BYs} (h : IsB K H a b) (e : Same H H') : IsB K H' a b := ⟨e.seq h.1, h.2⟩
theorem IsBB.same {K : PySem.W.Frag} {H H' : Hp} {a : Addr} {ws : List BYs} (h : IsBB K H a ws) (e : Same H H') : IsBB K H' a ws :=
  let ⟨as, h1, h2, h3⟩ := h; ⟨as, e.seq h1, Paired.mapP h2 fun _ _ q => q.same e, h3⟩
theorem bV_at {b : BYs} {i : Nat} {x : V} (h : (b.map bV)[i]? = some x) : ∃ c, b[i]? = some c ∧ x = bV c := by
  rw [List.getElem?_map] at h
  cases e : b[i]? with
  | none => rw [e] at h; cases h
  | some c => rw [e] at h; exact ⟨c, rfl, (Option.some.inj h).symm⟩
theorem ref_at {as : List Addr} {i : Nat} {x : V} (h : (as.map V.ref)[i]? = some x) : ∃ a, as[i]? = some a ∧ x = V.ref a := by
  rw [List.getElem?_map] at h
  cases e : as[i]? with
  | none => rw [e] at h; cases h
  | some c => rw [e] at h; exact ⟨c, rfl, (Option.some.inj h).symm⟩
theorem bV_inj {b c : UInt8} (h : bV b = bV c) : b = c := by
  have h1 : ((b.toNat : Nat) : Int) = ((c.toNat : Nat) : Int) := by injection h
  exact UInt8.toNat_inj.mp (by omega)
theorem bVs_inj : ∀ {b c : BYs}, b.map bV = c.map bV → b = c
  | [], [], _ => rfl
  | [], _ :: _, h => by cases h
  | _ :: _, [], h => by cases h
  | x :: b, y :: c, h => by
    obtain ⟨h1, h2⟩ := List.cons.inj h
    rw [bV_inj h1, bVs_inj h2]
theorem dp_ints {K : PySem.W.Frag} {H : Hp} : ∀ ns : List Int, DpAll K H (ns.map V.int) (ns.map PyData.int)
  | [] => .nil
  | n :: ns => .cons (.int n) (dp_ints ns)
theorem dp_list {K : PySem.W.Frag} {H : Hp} {a : Addr} {ns : List Int} (h : SqL K H a (ns.map V.int)) : Dp K H (.ref a) (.list (ns.map PyData.int)) := .lst h (dp_ints ns)
theorem sh_ints (ns : List Int) : SeqAt.shaped (.list (ns.map PyData.int)) = true := by
  simp [SeqAt.shaped, PyData.canLay0, PyData.depth, PySem.W.ke_canLayAll0, PySem.W.ke_depthAll]
theorem eqv_ints : ∀ ns ms : List Int, PyData.eqvAll (ns.map PyData.int) (ms.map PyData.int) = decide (ns = ms)
  | [], [] => by simp [PyData.eqvAll]
  | [], _ :: _ => by simp [PyData.eqvAll]
  | _ :: _, [] => by simp [PyData.eqvAll]
  | n :: ns, m :: ms => by
    have ih := eqv_ints ns ms
    simp only [List.map_cons, PyData.eqvAll, PyData.eqv, ih]
    rw [Bool.eq_iff_iff]
    simp
theorem eqv_lists (ns ms : List Int) : PyData.eqv (.list (ns.map PyData.int)) (.list (ms.map PyData.int)) = decide (ns = ms) := by
  simp only [PyData.eqv, eqv_ints]
def bI (b : BYs) : List Int := b.map fun (c : UInt8) => ((c.toNat : Nat) : Int)
theorem bI_map (b : BYs) : (bI b).map V.int = b.map bV := by
  unfold bI; rw [List.map_map]; rfl
theorem bI_inj {b c : BYs} (h : bI b = bI c) : b = c := bVs_inj (by rw [← bI_map, ← bI_map, h])
theorem wipe_one {σ : L2.St} {v : Nat} {x : Option V} : wipe ((wipe σ [v]).set v x) [v] = wipe σ [v] := by
  show (List.set (List.set (List.set σ v none) v x) v none) = List.set σ v none
  rw [List.set_set, List.set_set]
theorem lc_each {K : PySem.W.Frag} {a : Addr} {xs ys : List V} {te : TE} {v : Nat} {σ : L2.St} {H1 : Hp} {D : Addr} {Qd : Hp → Prop} (hx : SqL K H1 a xs) (hD : H1 D = none) (hlen : ys.length = xs.length) (hz : xs.length ≤ 30000)
    (hs : ∀ (i : Nat) (x y : V) (H : Hp) (Q : VK), xs[i]? = some x → ys[i]? = some y → Same H1 H → (∀ H', Same H H' → Q y H') → te ((wipe σ [v]).set v (some x)) H Q)
    (hd : ∀ H, Same H1 H → H D = some (.lst ys) → Qd H) :
    ∃ W : Nat → Nat → Hp → Prop, (∃ m, W 0 m (L2.upd H1 D (.lst []))) ∧ ∀ i m H, W i m H →
      ((Itl K a).stop i H ∧ Qd H) ∨ ((Itl K a).go i H ∧ ∃ Nx : Hp → Prop, (∀ H', Nx H' → ∃ m', m' < m ∧ W (i + 1) m' H') ∧ ∀ x H', (Itl K a).yld i H x H' → gName v x (wipe σ [v]) H' fun σ2 H2 => wipe σ2 [v] = wipe σ [v] ∧ tYes σ2 H2 fun b H3 =>
        if b = true then te σ2 H3 fun y H4 => ∃ acc, H4 D = some (.lst acc) ∧ acc.length < sizeLine ∧ Nx (L2.upd H4 D (.lst (acc ++ [y]))) else Nx H3) := by
  refine lc_list (xs := xs) (fun i H => Same H1 H ∧ H D = some (.lst (ys.take i))) ⟨Same.new hD, upd_same⟩ (fun i H _ p => p.1.seq hx) (fun i x H hi p => ?_) fun H p => ?_
  · obtain ⟨s1, hDD⟩ := p
    obtain ⟨hlt, _⟩ := List.getElem?_eq_some_iff.mp hi
    have hy : ys[i]? = some ys[i] := List.getElem?_eq_getElem (by omega)
    refine ⟨wipe_one, hs i x ys[i] H _ hi hy s1 fun H' s2 => ?_⟩
    refine ⟨_, s2 _ _ hDD, ?_, Same.upd (s1.trans s2) hD, ?_⟩
    · rw [List.length_take, sizeLine_eq]; omega
    · rw [upd_same, List.take_succ, hy]; rfl
  · exact hd H p.1 (by rw [p.2, ← hlen, List.take_length])
theorem lc_str {x : Str} {g : TG} {tt : TT} {te : TE} {vs : List Nat} {σ : L2.St} {H1 : Hp} {D : Addr} {Qd : Hp → Prop} (Pv : Nat → Hp → Prop) (h0 : Pv 0 (L2.upd H1 D (.lst [])))
    (hs : ∀ i c H, x.cps[i]? = some c → Pv i H → g (.str ⟨#[c]⟩) (wipe σ vs) H fun σ2 H2 => wipe σ2 vs = wipe σ vs ∧ tt σ2 H2 fun b H3 =>
      if b = true then te σ2 H3 fun y H4 => ∃ acc, H4 D = some (.lst acc) ∧ acc.length < sizeLine ∧ Pv (i + 1) (L2.upd H4 D (.lst (acc ++ [y]))) else Pv (i + 1) H3) (hd : ∀ H, Pv x.cps.size H → Qd H) :
    ∃ W : Nat → Nat → Hp → Prop, (∃ m, W 0 m (L2.upd H1 D (.lst []))) ∧ ∀ i m H, W i m H →
      ((Its x).stop i H ∧ Qd H) ∨ ((Its x).go i H ∧ ∃ Nx : Hp → Prop, (∀ H', Nx H' → ∃ m', m' < m ∧ W (i + 1) m' H') ∧ ∀ y H', (Its x).yld i H y H' → g y (wipe σ vs) H' fun σ2 H2 => wipe σ2 vs = wipe σ vs ∧ tt σ2 H2 fun b H3 =>
        if b = true then te σ2 H3 fun y H4 => ∃ acc, H4 D = some (.lst acc) ∧ acc.length < sizeLine ∧ Nx (L2.upd H4 D (.lst (acc ++ [y]))) else Nx H3) := by
  refine ⟨fun i m H => m = x.cps.size - i ∧ i ≤ x.cps.size ∧ Pv i H, ⟨_, rfl, Nat.zero_le _, h0⟩, ?_⟩
  rintro i m H ⟨rfl, hi, p⟩
  by_cases hlt : i < x.cps.size
  · refine .inr ⟨hlt, Pv (i + 1), fun H' p' => ⟨_, by omega, rfl, hlt, p'⟩, fun y H' q => ?_⟩
    obtain ⟨e, c, hc, ey⟩ := q
    subst e ey
    exact hs i c _ hc p
  · obtain rfl : i = x.cps.size := by omega
    exact .inl ⟨Nat.le_refl _, hd H p⟩
theorem for_enum {K : PySem.W.Frag} {a : Addr} {xs : List V} {i0 j0 : Nat} {tb : TS} {D : Ends} {σ : L2.St} {H : Hp} (Pv : Nat → L2.St → Hp → Prop) (h0 : Pv 0 σ H) (hl : ∀ i σ H, i ≤ xs.length → Pv i σ H → SqL K H a xs)
    (hs : ∀ i x σ H T, xs[i]? = some x → Pv i σ H → H T = none → tb { D with nx := Pv (i + 1), ct := Pv (i + 1), bk := D.nx } ((σ.set i0 (some (.int (i : Nat)))).set j0 (some x)) (L2.upd H T (.tup [.int (i : Nat), x]))) (hd : ∀ σ H, Pv xs.length σ H → D.nx σ H) :
    ∃ W : Nat → Nat → L2.St → Hp → Prop, (∃ m, W 0 m σ H) ∧ ∀ i m σ H, W i m σ H →
      ((Ite K a).stop i H ∧ D.nx σ H) ∨ ((Ite K a).go i H ∧ ∃ N : L2.St → Hp → Prop, (∀ σ' H', N σ' H' → ∃ m', m' < m ∧ W (i + 1) m' σ' H') ∧ ∀ x H', (Ite K a).yld i H x H' → gTup K 2 (gCons (gName i0) (gCons (gName j0) gNil)) x σ H' fun σ2 H2 => tb { D with nx := N, ct := N, bk := D.nx } σ2 H2) := by
  refine ⟨fun i m σ H => m = xs.length - i ∧ i ≤ xs.length ∧ Pv i σ H, ⟨_, rfl, Nat.zero_le _, h0⟩, ?_⟩
  rintro i m σ H ⟨rfl, hi, p⟩
  have q := hl i σ H hi p
  by_cases hlt : i < xs.length
  · refine .inr ⟨⟨xs, xs[i], q, List.getElem?_eq_getElem hlt⟩, Pv (i + 1), fun σ' H' p' => ⟨_, by omega, rfl, hlt, p'⟩, fun x H' y => ?_⟩
    obtain ⟨T, z, rfl, hT, rfl, hz⟩ := y
    exact ⟨T, _, rfl, SqT.of upd_same, rfl, _, _, rfl, _, _, rfl, rfl, hs i z σ H T (hz xs q) p hT⟩
  · obtain rfl : i = xs.length := by omega
    exact .inl ⟨⟨xs, q, Nat.le_refl _⟩, hd σ H p⟩
section
variable {X : Cx} {o e : Expr} {to te : TE} {apos cpos p pos : Pos}
theorem pe_app (ho : PE X o to) (he : PE X e te)
    (hbase : attributeBase o "append" X.env (eval o X.env) = eval o X.env := by rfl)
    (hfew : ((backTo cpos (starEach [e] X.env)).all (fun x => !x.1) && (backToKw cpos (keywordEach [] X.env)).all (fun x => x.1.isSome)
      && decide ([e].length + ([] : List Keyword).length + (if ([] : List Keyword).isEmpty then 0 else 1) < 30)) = true := by rfl)
    (hline : (apos.endLine == cpos.line) = true := by rfl) (hs : starEach [e] X.env = (false, eval e X.env) :: starEach [] X.env := by rfl) (hplain : (backTo cpos (starEach [] X.env)).any (·.1) = false := by rfl) :
    PE X (.Call (.Attribute o "append" apos) [e] [] cpos) (tBM X.K "list" rAppend to (tCons te tNil)) :=
  pe_bm PySem.F.plainAttrs_list PySem.F.slot_list_append PySem.F.type_list_append mt_append ho (pa_cons he pa_nil hs) hbase hfew hline hs hplain
theorem pe_len1 (hm : X.mg "len" = none) (he : PE X e te) (hg : Gl X "len" := by rfl) (hs : starEach [e] X.env = (false, eval e X.env) :: starEach [] X.env := by rfl) (hpl : (backTo pos (starEach [] X.env)).any (·.1) = false := by rfl) :
    PE X (.Call (.Name "len" p) [e] [] pos) (tCB (fun xs H Q => ∃ p ys, xs = [.ref p] ∧ (SqL X.K H p ys ∨ SqT X.K H p ys) ∧ Q (.int ys.length) H) (tCons te tNil)) :=
  pe_callB call_len_seq hg hm PySem.boot_len (pa_cons he pa_nil hs) (by decide) (by decide) hs hpl
theorem bt_ord : bootBuiltins "ord" = some (.builtin "ord") := by decide +kernel
theorem bt_all : bootBuiltins "all" = some (.builtin "all") := by decide +kernel
theorem bt_any : bootBuiltins "any" = some (.builtin "any") := by decide +kernel
theorem bt_min : bootBuiltins "min" = some (.builtin "min") := by decide +kernel
theorem bt_sorted : bootBuiltins "sorted" = some (.builtin "sorted") := by decide +kernel
theorem bt_set : bootBuiltins "set" = some (.type "set") := by decide +kernel
theorem pe_ord (hm : X.mg "ord" = none) (he : PE X e te) (hg : Gl X "ord" := by rfl) (hs : starEach [e] X.env = (false, eval e X.env) :: starEach [] X.env := by rfl) (hpl : (backTo pos (starEach [] X.env)).any (·.1) = false := by rfl) :
    PE X (.Call (.Name "ord" p) [e] [] pos) (tCB (fun xs H Q => ∃ x, xs = [.str x] ∧ x.length = 1 ∧ Q (.int (x.cps.getD 0 0 : Nat)) H) (tCons te tNil)) :=
  pe_callB call_ord hg hm bt_ord (pa_cons he pa_nil hs) (by decide) (by decide) hs hpl
theorem pe_all1 (hc : X.calm = true) (hm : X.mg "all" = none) (he : PE X e te) (hg : Gl X "all" := by rfl) (hs : starEach [e] X.env = (false, eval e X.env) :: starEach [] X.env := by rfl) (hpl : (backTo pos (starEach [] X.env)).any (·.1) = false := by rfl) :
    PE X (.Call (.Name "all" p) [e] [] pos) (tCB (rAll X.K) (tCons te tNil)) :=
  pe_callB (cr_all hc) hg hm bt_all (pa_cons he pa_nil hs) (by decide) (by decide) hs hpl
theorem pe_any1 (hc : X.calm = true) (hm : X.mg "any" = none) (he : PE X e te) (hg : Gl X "any" := by rfl) (hs : starEach [e] X.env = (false, eval e X.env) :: starEach [] X.env := by rfl) (hpl : (backTo pos (starEach [] X.env)).any (·.1) = false := by rfl) :
    PE X (.Call (.Name "any" p) [e] [] pos) (tCB (rAny X.K) (tCons te tNil)) :=
  pe_callB (cr_any hc) hg hm bt_any (pa_cons he pa_nil hs) (by decide) (by decide) hs hpl
end
section
variable {X : Cx} {K : PySem.W.Frag} {o e : Expr} {to te : TE} {f : Str} {apos cpos pos : Pos}
theorem ixLK (h : X.K = K) : IxR X (rIxL K) := h ▸ ix_list
theorem ixTK (h : X.K = K) : IxR X (rIxT K) := h ▸ ix_tup
theorem inK (h : X.K = K) : OpR X (compareOp .In) (rIn K false) := h ▸ op_in_seq
theorem pe_fldK (h : X.K = K) (he : PE X e te) (hb : attributeBase e f X.env (eval e X.env) = eval e X.env) : PE X (.Attribute e f pos) (tFld K te f) := h ▸ pe_fld he hb
theorem pe_lenK {p : Pos} (h : X.K = K) (hm : X.mg "len" = none) (he : PE X e te) (hg : Gl X "len" := by rfl) (hs : starEach [e] X.env = (false, eval e X.env) :: starEach [] X.env := by rfl) (hpl : (backTo pos (starEach [] X.env)).any (·.1) = false := by rfl) :
    PE X (.Call (.Name "len" p) [e] [] pos) (tCB (fun xs H Q => ∃ p ys, xs = [.ref p] ∧ (SqL K H p ys ∨ SqT K H p ys) ∧ Q (.int ys.length) H) (tCons te tNil)) := h ▸ pe_len1 hm he hg hs hpl
theorem pe_indexK (h : X.K = K) (ho : PE X o to) (he : PE X e te)
    (hbase : attributeBase o "index" X.env (eval o X.env) = eval o X.env := by rfl)
    (hfew : ((backTo cpos (starEach [e] X.env)).all (fun x => !x.1) && (backToKw cpos (keywordEach [] X.env)).all (fun x => x.1.isSome)
      && decide ([e].length + ([] : List Keyword).length + (if ([] : List Keyword).isEmpty then 0 else 1) < 30)) = true := by rfl)
    (hline : (apos.endLine == cpos.line) = true := by rfl) (hs : starEach [e] X.env = (false, eval e X.env) :: starEach [] X.env := by rfl) (hplain : (backTo cpos (starEach [] X.env)).any (·.1) = false := by rfl) :
    PE X (.Call (.Attribute o "index" apos) [e] [] cpos) (tBM K "list" (rIndex K) to (tCons te tNil)) :=
  h ▸ pe_bm PySem.F.plainAttrs_list PySem.F.slot_list_index PySem.F.type_list_index mt_index ho (pa_cons he pa_nil hs) hbase hfew hline hs hplain
end
end CR
set_option Elab.async false
set_option linter.all false
set_option maxRecDepth 100000
set_option maxHeartbeats 2000000
namespace CR
open PySem PySem.Spec PyProof.Rows L2
def top (i : Nat) : Stmt := PySem.Challenge.pw_cutreach_s02_reach.main.body.getD i (.Pass ⟨0, 0, 0, 0⟩)
abbrev sPlan : Stmt := inClass (top 23) 0
abbrev sReach : Stmt := top 24
abbrev sCounted : Stmt := top 25
abbrev sCall : Stmt := top 26
abbrev sTexts : Stmt := top 27
abbrev sPart : Stmt := top 28
abbrev sPartL : Stmt := top 29
abbrev sTools : Stmt := top 30
abbrev sToolL : Stmt := top 31
abbrev sBlock : Stmt := top 32
abbrev sCut : Stmt := top 33
abbrev sTool : Stmt := top 34
abbrev sBeyond : Stmt := top 35
abbrev sLines : Stmt := top 36
abbrev sSplit : Stmt := top 37
abbrev sSigns : Stmt := top 38
abbrev sDigit : Stmt := top 39
abbrev sLetter : Stmt := top 40
abbrev sName : Stmt := top 41
abbrev sSize : Stmt := top 42
abbrev sNumber : Stmt := top 43
abbrev sWays : Stmt := top 44
abbrev sWood : Stmt := top 45
abbrev sTake : Stmt := top 46
abbrev sThr : Stmt := top 47
abbrev sWaysTo : Stmt := top 48
abbrev sDepth : Stmt := top 49
abbrev sClear : Stmt := top 50
abbrev sWith : Stmt := top 51
end CR
set_option Elab.async false
set_option linter.all false
set_option maxRecDepth 100000
set_option maxHeartbeats 2000000
namespace CR
open PySem PySem.Spec PyProof.Rows L2
structure Txt (K : PySem.W.Frag) (mg : Str → Option Value) : Prop where
  len : mg "len" = none
  ord : mg "ord" = none
  all : mg "all" = none
  any : mg "any" = none
  min : mg "min" = none
  range : mg "range" = none
  enum : mg "enumerate" = none
  sorted : mg "sorted" = none
  set : mg "set" = none
  tooLong : ∃ t, mg "TOO_LONG" = some (.int (-2) t)
  faulty : ∃ t, mg "FAULTY" = some (.int (-6) t)
  right : ∃ t, mg "RIGHT" = some (.int 0 t)
  notFormed : ∃ t, mg "NOT_FORMED" = some (.int 1 t)
  tooMany : ∃ t, mg "TOO_MANY" = some (.int 2 t)
  cannot : ∃ t, mg "CANNOT_STAND" = some (.int 3 t)
  beyond : ∃ t, mg "BEYOND" = some (.int 4 t)
  noCut : ∃ t, mg "NO_SUCH_CUT" = some (.int 3 t)
  told : ∃ t, mg "TOLD_ALREADY" = some (.int 4 t)
  mark : ∃ t, mg "TOOLS_MARK" = some (.int 16 t)
  bytes : ∃ t, mg "MOST_BYTES" = some (.int 16384 t)
  cuts : ∃ t, mg "MOST_CUTS" = some (.int 64 t)
  cells : ∃ t, mg "MOST_CELLS" = some (.int 16 t)
  long : ∃ t, mg "LONGEST_NAME" = some (.int 12 t)
  lf : ∃ t, mg "LINE_FEED" = some (.int 10 t)
  blank : ∃ t, mg "BLANK" = some (.int 32 t)
  waySigns : ∃ t, mg "WAY_SIGNS" = some (.str "rlbfud" t)
  noNum : ∃ t, mg "NO_NUMBER" = some (.int (-1) t)
  huge : ∃ t, mg "HUGE" = some (.int 1000 t)
  dTexts : Df K mg "read_texts" sTexts
  dPart : Df K mg "read_part" sPart
  dPartL : Df K mg "read_part_line" sPartL
  dTools : Df K mg "read_tools" sTools
  dToolL : Df K mg "read_tool_line" sToolL
  dBlock : Df K mg "block_told" sBlock
  dCut : Df K mg "cut_told" sCut
  dTool : Df K mg "tool_told" sTool
  dBeyond : Df K mg "goes_beyond" sBeyond
  dLines : Df K mg "lines_of" sLines
  dSplit : Df K mg "split_at" sSplit
  dSigns : Df K mg "signs_of" sSigns
  dDigit : Df K mg "is_digit" sDigit
  dLetter : Df K mg "is_letter" sLetter
  dName : Df K mg "is_name" sName
  dSize : Df K mg "is_size" sSize
  dNumber : Df K mg "number_of" sNumber
  dWays : Df K mg "ways_of" sWays
section
variable {P : Program} {w : World} {K : PySem.W.Frag} {mg : Str → Option Value} {base : Heap}
def spRng (lo hi : Int) : Sp := fun vs H Q _ => ∃ i : Int, vs = [.int i] ∧ Q (.bl (decide (lo ≤ i) && decide (i ≤ hi))) H
theorem and_t {p q : Bool} {H : Hp} {Q : VK} (e : p = true) (k : Q (.bl (p && q)) H) : Q (.bl q) H := by rw [e] at k; exact k
theorem and_f {p q : Bool} {H : Hp} {Q : VK} (e : ¬ p = true) (k : Q (.bl (p && q)) H) : Q (.bl false) H := by rw [Bool.not_eq_true] at e; rw [e] at k; exact k
theorem scDigit : FnScope ["sign"] ["sign"] (defScope sDigit) := ⟨rfl, rfl, rfl, by decide +kernel, rfl, by decide +kernel, by decide +kernel⟩
theorem ok_digit (T : Txt K mg) : Fd P w K mg base 1 "is_digit" ["sign"] (spRng 48 57) := by
  obtain ⟨f, fd, hm, F⟩ := T.dDigit.ex
  refine ⟨f, fd, hm, F.kp, F.binds (fun _ _ _ _ _ _ us hl => match us, hl with | [_], _ => rfl), F.ok scDigit (fun vs H Q E h => ?_) (fun cdv A outer s H vs Q E hr h => ?_)⟩
  · obtain ⟨i, rfl, _⟩ := h; rfl
  · obtain ⟨i, rfl, k⟩ := h
    refine ⟨_, pss_one (ps_ret (pe_chain op_le op_le (pe_ord T.ord pe_str) (pv 0) (pe_ord T.ord pe_str))), ?_⟩
    refine ⟨_, rfl, rfl, _, rfl, _, _, rfl, rfl, _, rfl, ite2 (fun e => ⟨_, rfl, rfl, _, _, rfl, rfl, ?_⟩) fun e => ?_⟩
    · exact and_t (p := decide ((48 : Int) ≤ i)) (q := decide (i ≤ (57 : Int))) e k
    · exact and_f (p := decide ((48 : Int) ≤ i)) (q := decide (i ≤ (57 : Int))) e k
theorem scLetter : FnScope ["sign"] ["sign"] (defScope sLetter) := ⟨rfl, rfl, rfl, by decide +kernel, rfl, by decide +kernel, by decide +kernel⟩
theorem ok_letter (T : Txt K mg) : Fd P w K mg base 1 "is_letter" ["sign"] (spRng 97 122) := by
  obtain ⟨f, fd, hm, F⟩ := T.dLetter.ex
  refine ⟨f, fd, hm, F.kp, F.binds (fun _ _ _ _ _ _ us hl => match us, hl with | [_], _ => rfl), F.ok scLetter (fun vs H Q E h => ?_) (fun cdv A outer s H vs Q E hr h => ?_)⟩
  · obtain ⟨i, rfl, _⟩ := h; rfl
  · obtain ⟨i, rfl, k⟩ := h
    refine ⟨_, pss_one (ps_ret (pe_chain op_le op_le (pe_ord T.ord pe_str) (pv 0) (pe_ord T.ord pe_str))), ?_⟩
    refine ⟨_, rfl, rfl, _, rfl, _, _, rfl, rfl, _, rfl, ite2 (fun e => ⟨_, rfl, rfl, _, _, rfl, rfl, ?_⟩) fun e => ?_⟩
    · exact and_t (p := decide ((97 : Int) ≤ i)) (q := decide (i ≤ (122 : Int))) e k
    · exact and_f (p := decide ((97 : Int) ≤ i)) (q := decide (i ≤ (122 : Int))) e k
theorem scSize : FnScope ["number"] ["number"] (defScope sSize) := ⟨rfl, rfl, rfl, by decide +kernel, rfl, by decide +kernel, by decide +kernel⟩
theorem ok_size (T : Txt K mg) : Fd P w K mg base 1 "is_size" ["number"] (spRng 1 16) := by
  obtain ⟨f, fd, hm, F⟩ := T.dSize.ex
  refine ⟨f, fd, hm, F.kp, F.binds (fun _ _ _ _ _ _ us hl => match us, hl with | [_], _ => rfl), F.ok scSize (fun vs H Q E h => ?_) (fun cdv A outer s H vs Q E hr h => ?_)⟩
  · obtain ⟨i, rfl, _⟩ := h; rfl
  · obtain ⟨i, rfl, k⟩ := h
    refine ⟨_, pss_one (ps_ret (pe_chain op_le op_le pe_int (pv 0) (pe_gi rfl T.cells))), ?_⟩
    refine ⟨_, rfl, _, _, rfl, rfl, _, rfl, ite2 (fun e => ⟨_, _, rfl, rfl, ?_⟩) fun e => ?_⟩
    · exact and_t (p := decide ((1 : Int) ≤ i)) (q := decide (i ≤ (16 : Int))) e k
    · exact and_f (p := decide ((1 : Int) ≤ i)) (q := decide (i ≤ (16 : Int))) e k
def cpsV (x : Str) : List V := x.cps.toList.map fun (c : Nat) => V.int (c : Int)
def spSigns : Sp := fun vs H Q _ => ∃ x : Str, vs = [.str x] ∧ x.cps.size ≤ 1000 ∧ ∀ (H' : Hp) (p : Addr), Same H H' → H p = none → H' p = some (.lst (cpsV x)) → Q (.ref p) H'
theorem scSigns : FnScope ["word", "sign"] ["word"] (defScope sSigns) := ⟨rfl, rfl, rfl, by decide +kernel, rfl, by decide +kernel, by decide +kernel⟩
theorem ok_signs (T : Txt K mg) : Fd P w K mg base 1 "signs_of" ["word"] spSigns := by
  obtain ⟨f, fd, hm, F⟩ := T.dSigns.ex
  refine ⟨f, fd, hm, F.kp, F.binds (fun _ _ _ _ _ _ us hl => match us, hl with | [_], _ => rfl), F.ok scSigns (fun vs H Q E h => ?_) (fun cdv A outer s H vs Q E hr h => ?_)⟩
  · obtain ⟨i, rfl, _⟩ := h; rfl
  · obtain ⟨x, rfl, hx, k⟩ := h
    refine ⟨_, pss_one (ps_ret (pe_lc rfl scSigns.nd (pi_str (pv 0)) (blkOk_by (N := ["word", "sign"]) (sc := defScope sSigns) (own := [("sign", 1)]) (by decide +kernel)) (fun _ _ _ _ _ => pg_name (i := 1) scSigns.nd rfl (Or.inl rfl)) (fun _ _ _ _ _ => pts_nil)
      (fun _ _ _ _ _ => pe_ord T.ord (pv 1)))), ?_⟩
    refine ⟨_, rfl, x, rfl, fun D hD => lc_str (fun i H' => Same H H' ∧ H' D = some (.lst ((cpsV x).take i))) ⟨Same.new hD, upd_same⟩ (fun i c H' hc p => ?_) fun H' p => ?_⟩
    · obtain ⟨s1, hDD⟩ := p
      have hc' : x.cps.toList[i]? = some c := by simpa using hc
      have hi : i < x.cps.size := (Array.getElem?_eq_some_iff.mp hc).1
      refine ⟨wipe_one, id ⟨_, rfl, _, rfl, rfl, _, hDD, ?_, Same.upd s1 hD, ?_⟩⟩
      · rw [List.length_take, sizeLine_eq]; omega
      · rw [upd_same, List.take_succ]
        unfold cpsV
        rw [List.getElem?_map, hc']; rfl
    · refine k H' D p.1 hD ?_
      rw [p.2, List.take_of_length_le (by unfold cpsV; simp)]
def NewB (H H' : Hp) (q : Addr) (x : BYs) : Prop := H q = none ∧ H' q = some (.lst (x.map bV))
def spSplit (K : PySem.W.Frag) : Sp := fun vs H Q _ => ∃ (a : Addr) (c : UInt8) (b : BYs), vs = [.ref a, bV c] ∧ IsB K H a b ∧
  ∀ (H' : Hp) (p : Addr) (as : List Addr), Same H H' → H p = none → H' p = some (.lst (as.map V.ref)) → Paired (fun q x => NewB H H' q x ∧ q ≠ p) as (Jo.cutAt c b) → Q (.ref p) H'
theorem scSplit : FnScope ["signs", "mark", "pieces", "piece", "sign"] ["signs", "mark"] (defScope sSplit) := ⟨rfl, rfl, rfl, by decide +kernel, rfl, by decide +kernel, by decide +kernel⟩
structure SplitP (K : PySem.W.Frag) (H : Hp) (a : Addr) (c : UInt8) (b : BYs) (l : Addr) (i : Nat) (σ : L2.St) (H' : Hp) : Prop where
  ex : ∃ (q : Addr) (v4 : Option V) (as : List Addr) (ps : List BYs) (pc : BYs), σ = [some (.ref a), some (bV c), some (.ref l), some (.ref q), v4] ∧ Same H H' ∧ H q = none ∧ l ≠ q ∧ H' l = some (.lst (as.map V.ref)) ∧ H' q = some (.lst (pc.map bV)) ∧
    Paired (fun x y => NewB H H' x y ∧ x ≠ l ∧ x ≠ q) as ps ∧ ps.length ≤ i ∧ pc.length ≤ i ∧ Jo.cutAt c b = ps ++ CM.glue pc (Jo.cutAt c (b.drop i))
theorem drop_at {b : BYs} {i : Nat} {c : UInt8} (h : b[i]? = some c) : b.drop i = c :: b.drop (i + 1) := by
  obtain ⟨h1, h2⟩ := List.getElem?_eq_some_iff.mp h
  rw [List.drop_eq_getElem_cons h1, h2]
theorem ok_split (T : Txt K mg) : Fd P w K mg base 1 "split_at" ["signs", "mark"] (spSplit K) := by
  obtain ⟨f, fd, hm, F⟩ := T.dSplit.ex
  refine ⟨f, fd, hm, F.kp, F.binds (fun _ _ _ _ _ _ us hl => match us, hl with | [_, _], _ => rfl), F.ok scSplit (fun vs H Q E h => ?_) (fun cdv A outer s H vs Q E hr h => ?_)⟩
  · obtain ⟨a, c, b, rfl, _⟩ := h; rfl
  · obtain ⟨a, c, b, rfl, hB, k⟩ := h
    refine ⟨_, pss_cons (ps_set (i := 2) scSplit.nd rfl (Or.inl rfl) (pe_lst pa_nil))
      (pss_cons (ps_set (i := 3) scSplit.nd rfl (Or.inl rfl) (pe_lst pa_nil))
      (pss_cons (ps_for PassesOwn.never rfl (pi_list (pv 0)) (pg_name (i := 4) scSplit.nd rfl (Or.inl rfl))
        (pss_one (ps_if (pt_cmpR op_eq (pv 4) (pv 1) (nomark _))
          (pss_cons (ps_expr (pe_app (pv 2) (pv 3))) (pss_one (ps_set (i := 3) scSplit.nd rfl (Or.inl rfl) (pe_lst pa_nil))))
          (pss_one (ps_expr (pe_app (pv 3) (pv 4)))))))
      (pss_cons (ps_expr (pe_app (pv 2) (pv 3)))
      (pss_one (ps_ret (pv 2)))))), ?_⟩
    refine ⟨Nat.zero_le _, fun l hl => ⟨Nat.zero_le _, fun q hq => ?_⟩⟩
    have hlq : l ≠ q := by
      intro e; subst e; rw [upd_same] at hq; cases hq
    have s0 : Same H (L2.upd (L2.upd H l (.lst [])) q (.lst [])) := Same.upd (Same.new hl) (Same.free (Same.new hl) hq)
    refine ⟨_, rfl, a, rfl, ⟨_, s0.seq hB.1⟩, for_list (K := K) (xs := b.map bV) (SplitP K H a c b l)
      ⟨q, none, [], [], [], rfl, s0, Same.free (Same.new hl) hq, hlq, by rw [upd_ne hlq, upd_same]; rfl, upd_same, .nil, Nat.zero_le _, Nat.zero_le _, ?_⟩
      (fun i σ H' _ ⟨_, _, _, _, _, _, s1, _⟩ => s1.seq hB.1) ?_ ?_⟩
    · show Jo.cutAt c b = [] ++ CM.glue [] (Jo.cutAt c b)
      cases e : Jo.cutAt c b with
      | nil => exact absurd e (CM.cutAt_ne c b)
      | cons x r => rfl
    · rintro i y σ H' hi ⟨q, v4, as, ps, pc, rfl, s1, hq0, nlq, hL, hQ, pr, l1, l2, hc⟩
      obtain ⟨d, hd, rfl⟩ := bV_at hi
      have hib : i < b.length := (List.getElem?_eq_some_iff.mp hd).1
      have hbl := hB.2
      have hdr := drop_at hd
      refine ⟨_, rfl, _, rfl, rfl, _, rfl, ite2 (fun e => ?_) fun e => ?_⟩
      · have edc : d = c := bV_inj (of_decide_eq_true e)
        refine ⟨_, rfl, .inl ⟨rfl, _, SqL.of hL⟩, _, rfl, l, _, _, rfl, rfl, hL, ?_, Nat.zero_le _, fun q2 hq2 => ?_⟩
        · rw [List.length_map, pr.length, sizeLine_eq]; omega
        have n2 : H' q2 = none := by
          by_cases z : q2 = l
          · rw [z, upd_same] at hq2; cases hq2
          · rw [upd_ne z] at hq2; exact hq2
        have nl2 : l ≠ q2 := ne_of_none hL n2
        have nq2 : q ≠ q2 := ne_of_none hQ n2
        have nH2 : H q2 = none := s1.free n2
        refine ⟨q2, _, as ++ [q], ps ++ [pc], [], rfl, Same.upd (Same.upd s1 hl) nH2, nH2, nl2, ?_, upd_same, ?_, ?_, Nat.zero_le _, ?_⟩
        · rw [upd_ne nl2, upd_same, List.map_append]; rfl
        · refine Paired.snoc (Paired.mapP pr fun x z ⟨⟨g1, g2⟩, g3, g4⟩ => ?_) ?_
          · have nx2 : x ≠ q2 := ne_of_none g2 n2
            exact ⟨⟨g1, by rw [upd_ne nx2, upd_ne g3]; exact g2⟩, g3, nx2⟩
          · exact ⟨⟨hq0, by rw [upd_ne nq2, upd_ne (Ne.symm nlq)]; exact hQ⟩, Ne.symm nlq, nq2⟩
        · rw [List.length_append, List.length_singleton]; omega
        · rw [hc, hdr, CM.glue_hit _ _ edc, List.append_assoc]
          congr 1
          show pc :: Jo.cutAt c (b.drop (i + 1)) = [pc] ++ CM.glue [] (Jo.cutAt c (b.drop (i + 1)))
          cases e2 : Jo.cutAt c (b.drop (i + 1)) with
          | nil => exact absurd e2 (CM.cutAt_ne c _)
          | cons x r => rfl
      · have edc : ¬ d = c := fun z => e (decide_eq_true (by rw [z]))
        refine ⟨_, rfl, .inl ⟨rfl, _, SqL.of hQ⟩, _, rfl, q, _, _, rfl, rfl, hQ, ?_, q, _, as, ps, pc ++ [d], rfl, Same.upd s1 hq0, hq0, nlq, ?_, ?_, ?_, ?_, ?_, ?_⟩
        · rw [List.length_map, sizeLine_eq]; omega
        · rw [upd_ne nlq]; exact hL
        · rw [upd_same, List.map_append]; rfl
        · exact Paired.mapP pr fun x z ⟨⟨g1, g2⟩, g3, g4⟩ => ⟨⟨g1, by rw [upd_ne g4]; exact g2⟩, g3, g4⟩
        · omega
        · rw [List.length_append, List.length_singleton]; omega
        · rw [hc, hdr, CM.glue_miss _ _ edc]
    · rintro σ H' ⟨q, v4, as, ps, pc, rfl, s1, hq0, nlq, hL, hQ, pr, l1, l2, hc⟩
      have hbl := hB.2
      rw [List.length_map] at l1 l2 hc
      refine ⟨_, rfl, .inl ⟨rfl, _, SqL.of hL⟩, _, rfl, l, _, _, rfl, rfl, hL, ?_, _, rfl, ?_⟩
      · rw [List.length_map, pr.length, sizeLine_eq]; omega
      refine k _ l (as ++ [q]) (Same.upd s1 hl) hl (by rw [upd_same, List.map_append]; rfl) ?_
      have e : Jo.cutAt c b = ps ++ [pc] := by
        rw [hc, List.drop_length]
        show ps ++ [pc ++ []] = _
        rw [List.append_nil]
      rw [e]
      refine Paired.snoc (Paired.mapP pr fun x z ⟨⟨g1, g2⟩, g3, g4⟩ => ⟨⟨g1, by rw [upd_ne g3]; exact g2⟩, g3⟩) ⟨⟨hq0, by rw [upd_ne (Ne.symm nlq)]; exact hQ⟩, Ne.symm nlq⟩
def spBeyond (K : PySem.W.Frag) : Sp := fun vs H Q _ => ∃ (a b : Addr) (c6 b3 : List Int), vs = [.ref a, .ref b] ∧ SqL K H a (c6.map V.int) ∧ SqL K H b (b3.map V.int) ∧ c6.length = 6 ∧ b3.length = 3 ∧ ∀ H', Same H H' → Q (.bl (CM.beyondB c6 b3)) H'
theorem scBeyond : FnScope ["cut", "block", "axis"] ["cut", "block"] (defScope sBeyond) := ⟨rfl, rfl, rfl, by decide +kernel, rfl, by decide +kernel, by decide +kernel⟩
theorem int_at {l : List Int} {i : Nat} (h : i < l.length) : (l.map V.int)[i]? = some (.int (l.getD i 0)) := by
  rw [List.getElem?_map, List.getD_eq_getElem?_getD, List.getElem?_eq_getElem h]; rfl
theorem ok_beyond (T : Txt K mg) : Fd P w K mg base 1 "goes_beyond" ["cut", "block"] (spBeyond K) := by
  obtain ⟨f, fd, hm, F⟩ := T.dBeyond.ex
  refine ⟨f, fd, hm, F.kp, F.binds (fun _ _ _ _ _ _ us hl => match us, hl with | [_, _], _ => rfl), F.ok scBeyond (fun vs H Q E h => ?_) (fun cdv A outer s H vs Q E hr h => ?_)⟩
  · obtain ⟨a, b, c6, b3, rfl, _⟩ := h; rfl
  · obtain ⟨a, b, c6, b3, rfl, ha, hb, l6, l3, k⟩ := h
    refine ⟨_, pss_one (ps_ret (pe_any1 rfl T.any (pe_lc rfl scBeyond.nd (pi_range1 rfl T.range (pa_cons pe_int pa_nil)) (blkOk_by (N := ["cut", "block", "axis"]) (sc := defScope sBeyond) (own := [("axis", 2)]) (by decide +kernel)) (fun _ _ _ _ _ => pg_name (i := 2) scBeyond.nd rfl (Or.inl rfl)) (fun _ _ _ _ _ => pts_nil)
      (fun _ _ _ _ _ => pe_cmpR op_gt (pe_op op_add (pe_ix (ixLK (K := K) rfl) (pv 0) (pv 2) (fun _ _ => rfl)) (pe_ix (ixLK (K := K) rfl) (pv 0) (pe_op op_add (pv 2) pe_int) (fun _ _ => rfl))) (pe_ix (ixLK (K := K) rfl) (pv 1) (pv 2) (fun _ _ => rfl)) (nomark _))))), ?_⟩
    refine ⟨3, rfl, by decide, by decide, fun D hD => ?_⟩
    refine lc_range (lo := 0) (n := 3) (fun i H' => Same H H' ∧ H' D = some (.lst (((List.range i).map fun j => decide (b3.getD j 0 < c6.getD j 0 + c6.getD (j + 3) 0)).map V.bl))) ⟨Same.new hD, upd_same⟩ (fun i H' hi p => ?_) fun H' p => ?_
    · obtain ⟨s1, hDD⟩ := p
      have e1 : (0 : Int) + (i : Int) = ((i : Nat) : Int) := by omega
      have e2 : (0 : Int) + (i : Int) + 3 = ((i + 3 : Nat) : Int) := by omega
      refine ⟨wipe_one, id ⟨_, rfl, _, rfl, a, _, _, _, rfl, rfl, s1.seq ha, at_of e1 (int_at (by omega)), _, rfl, _, rfl, _, _, rfl, rfl, a, _, _, _, rfl, rfl, s1.seq ha, at_of e2 (int_at (by omega)), _, _, rfl, rfl, _, rfl, _, rfl, b, _, _, _, rfl, rfl, s1.seq hb, at_of e1 (int_at (by omega)), _, _, rfl, rfl, _, hDD, ?_, Same.upd s1 hD, ?_⟩⟩
      · simp only [List.length_map, List.length_range]; rw [sizeLine_eq]; omega
      · rw [upd_same, List.range_succ, List.map_append, List.map_append]; rfl
    · refine ⟨D, _, rfl, SqL.of p.2, ?_⟩
      have := k H' p.1
      unfold CM.beyondB at this
      rw [List.any_map]
      exact this
end
end CR
set_option Elab.async false
set_option linter.all false
set_option maxRecDepth 100000
set_option maxHeartbeats 2000000
namespace CR
open PySem PySem.Spec PyProof.Rows L2
section
variable {P : Program} {w : World} {K : PySem.W.Frag} {mg : Str → Option Value} {base : Heap}
def lnI (i : Int) : Bool := (decide ((97 : Int) ≤ i) && decide (i ≤ (122 : Int))) || (decide ((48 : Int) ≤ i) && decide (i ≤ (57 : Int)))
def digI (i : Int) : Bool := decide ((48 : Int) ≤ i) && decide (i ≤ (57 : Int))
def bi (c : UInt8) : Int := ((c.toNat : Nat) : Int)
theorem u8_le (c : UInt8) (n : Nat) (hn : n < 256) : decide ((n : Int) ≤ bi c) = decide (UInt8.ofNat n ≤ c) := by
  rw [Bool.eq_iff_iff, decide_eq_true_eq, decide_eq_true_eq, UInt8.le_iff_toNat_le, UInt8.toNat_ofNat_of_lt' hn]
  unfold bi; omega
theorem u8_ge (c : UInt8) (n : Nat) (hn : n < 256) : decide (bi c ≤ (n : Int)) = decide (c ≤ UInt8.ofNat n) := by
  rw [Bool.eq_iff_iff, decide_eq_true_eq, decide_eq_true_eq, UInt8.le_iff_toNat_le, UInt8.toNat_ofNat_of_lt' hn]
  unfold bi; omega
theorem digI_eq (c : UInt8) : digI (bi c) = CM.isDig c := by
  unfold digI CM.isDig
  have h1 := u8_le c 48 (by decide)
  have h2 := u8_ge c 57 (by decide)
  exact congr (congrArg and h1) h2
theorem lnI_eq (c : UInt8) : lnI (bi c) = ((decide (97 ≤ c) && decide (c ≤ 122)) || (decide (48 ≤ c) && decide (c ≤ 57))) := by
  unfold lnI
  have h1 := u8_le c 97 (by decide)
  have h2 := u8_ge c 122 (by decide)
  have h3 := u8_le c 48 (by decide)
  have h4 := u8_ge c 57 (by decide)
  exact congr (congrArg or (congr (congrArg and h1) h2)) (congr (congrArg and h3) h4)
def spName (K : PySem.W.Frag) : Sp := fun vs H Q _ => ∃ (a : Addr) (b : BYs), vs = [.ref a] ∧ IsB K H a b ∧ ∀ H', Same H H' → Q (.bl (Jo.nameOk b)) H'
theorem scName : FnScope ["word", "sign"] ["word"] (defScope sName) := ⟨rfl, rfl, rfl, by decide +kernel, rfl, by decide +kernel, by decide +kernel⟩
theorem ok_name (T : Txt K mg) : Fd P w K mg base 2 "is_name" ["word"] (spName K) := by
  obtain ⟨f, fd, hm, F⟩ := T.dName.ex
  refine ⟨f, fd, hm, F.kp, F.binds (fun _ _ _ _ _ _ us hl => match us, hl with | [_], _ => rfl), F.ok scName (fun vs H Q E h => ?_) (fun cdv A outer s H vs Q E hr h => ?_)⟩
  · obtain ⟨a, b, rfl, _⟩ := h; rfl
  · obtain ⟨a, b, rfl, hB, k⟩ := h
    refine ⟨_, pss_cons (ps_if (PW.pt (pw_or (pt_cmpR op_lt (pe_len1 T.len (pv 0)) pe_int (nomark _)) (pw_or1 (pt_cmpR op_gt (pe_len1 T.len (pv 0)) (pe_gi rfl T.long) (nomark _))))) (pss_one (ps_ret pe_bl)) pss_nil)
      (pss_one (ps_ret (pe_all1 rfl T.all (pe_lc rfl scName.nd (pi_list (pv 0)) (blkOk_by (N := ["word", "sign"]) (sc := defScope sName) (own := [("sign", 1)]) (by decide +kernel)) (fun _ _ _ _ _ => pg_name (i := 1) scName.nd rfl (Or.inl rfl)) (fun _ _ _ _ _ => pts_nil)
        (fun _ _ _ _ _ => pe_or (pe_fn (ok_letter T) hr rfl (pa_cons (pv 1) pa_nil)) (pe_one (pe_fn (ok_digit T) hr rfl (pa_cons (pv 1) pa_nil)))))))), ?_⟩
    have hlen : (b.map bV).length = b.length := List.length_map _
    have bad : ¬ (1 ≤ b.length ∧ b.length ≤ 12) → Jo.nameOk b = false := fun z => by
      unfold Jo.nameOk
      by_cases h1 : 1 ≤ b.length
      · have h2 : ¬ b.length ≤ 12 := fun q => z ⟨h1, q⟩
        simp [h2]
      · simp [h1]
    refine ⟨_, rfl, a, _, rfl, .inl hB.1, _, _, rfl, rfl, _, rfl, ite2 (fun e => ?_) fun e => ?_⟩
    · refine iteT ?_
      have e' : ((b.map bV).length : Int) < 1 := of_decide_eq_true e
      have := k H (Same.refl H)
      rw [bad (by omega)] at this
      exact this
    · refine ⟨_, rfl, a, _, rfl, .inl hB.1, _, _, rfl, rfl, _, rfl, ite2 (fun e2 => ?_) fun e2 => ?_⟩
      · have e' : (12 : Int) < ((b.map bV).length : Int) := of_decide_eq_true e2
        have := k H (Same.refl H)
        rw [bad (by omega)] at this
        exact this
      · refine ⟨_, rfl, a, rfl, ⟨_, hB.1⟩, fun D hD => lc_each (xs := b.map bV) (ys := (b.map fun c => lnI (bi c)).map V.bl) hB.1 hD (by simp) (by have := hB.2; simp; omega) (fun i x y H1 Q1 hx hy s1 q1 => ?_) fun H1 s1 hDD => ?_⟩
        · obtain ⟨c, hc, rfl⟩ := bV_at hx
          have ey : y = .bl (lnI (bi c)) := by
            rw [List.getElem?_map, List.getElem?_map, hc] at hy; exact (Option.some.inj hy).symm
          subst ey
          have q2 := q1 H1 (Same.refl H1)
          refine ⟨_, rfl, bi c, rfl, _, rfl, ite2 (fun e3 => ?_) fun e3 => ?_⟩
          · unfold lnI at q2; rw [e3] at q2; exact q2
          · refine ⟨_, rfl, bi c, rfl, ?_⟩
            rw [Bool.not_eq_true] at e3
            unfold lnI at q2; rw [e3] at q2; exact q2
        · refine ⟨D, _, rfl, SqL.of hDD, ?_⟩
          have e' : ¬ ((b.map bV).length : Int) < 1 := fun z => e (decide_eq_true z)
          have e2' : ¬ (12 : Int) < ((b.map bV).length : Int) := fun z => e2 (decide_eq_true z)
          have q2 := k H1 s1
          have hn : Jo.nameOk b = (b.map fun c => lnI (bi c)).all id := by
            unfold Jo.nameOk
            rw [decide_eq_true (show 1 ≤ b.length by omega), decide_eq_true (show b.length ≤ 12 by omega), List.all_map]
            show b.all _ = b.all _
            congr 1
            funext c
            exact (lnI_eq c).symm
          rw [hn] at q2
          exact q2
def spNumber (K : PySem.W.Frag) : Sp := fun vs H Q _ => ∃ (a : Addr) (b : BYs), vs = [.ref a] ∧ IsB K H a b ∧ ∀ H', Same H H' → Q (.int (CM.numOf b)) H'
theorem scNumber : FnScope ["word", "value", "sign"] ["word"] (defScope sNumber) := ⟨rfl, rfl, rfl, by decide +kernel, rfl, by decide +kernel, by decide +kernel⟩
theorem all_dig (b : BYs) : (b.map fun c => digI (bi c)).all id = b.all CM.isDig := by
  rw [List.all_map]
  congr 1
  funext c
  exact digI_eq c
theorem ok_number (T : Txt K mg) : Fd P w K mg base 2 "number_of" ["word"] (spNumber K) := by
  obtain ⟨f, fd, hm, F⟩ := T.dNumber.ex
  refine ⟨f, fd, hm, F.kp, F.binds (fun _ _ _ _ _ _ us hl => match us, hl with | [_], _ => rfl), F.ok scNumber (fun vs H Q E h => ?_) (fun cdv A outer s H vs Q E hr h => ?_)⟩
  · obtain ⟨a, b, rfl, _⟩ := h; rfl
  · obtain ⟨a, b, rfl, hB, k⟩ := h
    refine ⟨_, pss_cons (ps_if (PW.pt (pw_or (pt_not (pt_truth (pv 0) (fun _ => rfl))) (pw_or1 (pt_not (pt_val (pe_all1 rfl T.all (pe_lc rfl scNumber.nd (pi_list (pv 0)) (blkOk_by (N := ["word", "value", "sign"]) (sc := defScope sNumber) (own := [("sign", 2)]) (by decide +kernel)) (fun _ _ _ _ _ => pg_name (i := 2) scNumber.nd rfl (Or.inl rfl)) (fun _ _ _ _ _ => pts_nil)
        (fun _ _ _ _ _ => pe_fn (ok_digit T) hr rfl (pa_cons (pv 2) pa_nil))))))))) (pss_one (ps_ret (pe_gi rfl T.noNum))) pss_nil)
      (pss_cons (ps_if (PW.pt (pw_and (pt_cmpR op_gt (pe_len1 T.len (pv 0)) pe_int (nomark _)) (pw_and1 (pt_cmpR op_eq (pe_ix ix_list (pv 0) pe_int (fun _ _ => rfl)) (pe_ord T.ord pe_str) (nomark _))))) (pss_one (ps_ret (pe_gi rfl T.noNum))) pss_nil)
      (pss_cons (ps_set (i := 1) scNumber.nd rfl (Or.inl rfl) pe_int)
      (pss_cons (ps_for PassesOwn.never rfl (pi_list (pv 0)) (pg_name (i := 2) scNumber.nd rfl (Or.inl rfl))
        (pss_one (ps_set (i := 1) scNumber.nd rfl (Or.inl rfl) (pe_callB (call_min2 rfl) rfl T.min bt_min (pa_cons (pe_op op_sub (pe_op op_add (pe_op op_mul (pv 1) pe_int) (pv 2)) (pe_ord T.ord pe_str)) (pa_cons (pe_gi rfl T.huge) pa_nil))))))
      (pss_one (ps_ret (pv 1)))))), ?_⟩
    have no : ∀ H', Same H H' → CM.canon b = false → Q (.int (-1)) H' := fun H' s1 hc => by
      have := k H' s1
      unfold CM.numOf at this
      rw [if_neg (by rw [hc]; decide)] at this
      exact this
    -- not word or not all(..)
    refine ⟨_, rfl, _, .inl ⟨_, hB.1, rfl⟩, ?_⟩
    refine ite2 (fun e => ?_) fun e => ?_
    · -- empty
      refine iteT (no H (Same.refl H) ?_)
      have hb : b = [] := by
        cases b with
        | nil => rfl
        | cons => exact absurd e (by simp)
      subst hb; rfl
    · have hbne : b ≠ [] := fun z => by subst z; exact e rfl
      refine ⟨_, rfl, a, rfl, ⟨_, hB.1⟩, fun D hD => lc_each (xs := b.map bV) (ys := (b.map fun c => digI (bi c)).map V.bl) hB.1 hD (by simp) (by have := hB.2; simp; omega) (fun i x y H1 Q1 hx hy s1 q1 => ?_) fun H1 s1 hDD => ?_⟩
      · obtain ⟨c, hc, rfl⟩ := bV_at hx
        have ey : y = .bl (digI (bi c)) := by
          rw [List.getElem?_map, List.getElem?_map, hc] at hy; exact (Option.some.inj hy).symm
        subst ey
        exact ⟨_, rfl, bi c, rfl, q1 H1 (Same.refl H1)⟩
      · refine ⟨D, _, rfl, SqL.of hDD, _, rfl, ?_⟩
        rw [all_dig]
        refine ite2 (fun e2 => ?_) fun e2 => ?_
        · refine no H1 s1 ?_
          have : b.all CM.isDig = false := by simpa using e2
          unfold CM.canon; rw [this]; simp
        · have hdig : b.all CM.isDig = true := by simpa using e2
          have hB1 : IsB K H1 a b := hB.same s1
          -- len(word) > 1 and word[0] == ord("0")
          refine ⟨_, rfl, a, _, rfl, .inl hB1.1, _, _, rfl, rfl, _, rfl, ?_⟩
          have canOk : ¬ (1 < b.length ∧ b.head? = some 48) → CM.canon b = true := fun hno => by
            unfold CM.canon
            rw [hdig]
            have h1 : b.isEmpty = false := by cases b with | nil => exact absurd rfl hbne | cons => rfl
            rw [h1]
            simp only [Bool.not_false, Bool.true_and, Bool.not_eq_true', Bool.and_eq_false_iff, decide_eq_false_iff_not]
            by_cases z : 1 < b.length
            · right
              cases q : (b.head? == some 48) with
              | false => rfl
              | true => exact absurd ⟨z, eq_of_beq q⟩ hno
            · left; exact z
          refine ite2 (fun e3 => ?g23) fun e3 => iteF ?g3
          case' g23 =>
            have hl1 : (1 : Int) < ((b.map bV).length : Int) := of_decide_eq_true e3
            rw [List.length_map] at hl1
            obtain ⟨c0, hc0⟩ : ∃ c0, b[0]? = some c0 := ⟨b[0], List.getElem?_eq_getElem (by omega)⟩
            have hh : b.head? = some c0 := by rw [List.head?_eq_getElem?]; exact hc0
            have h0 : (b.map bV)[0]? = some (bV c0) := by rw [List.getElem?_map, hc0]; rfl
            refine ⟨_, rfl, a, _, _, _, rfl, rfl, hB1.1, at_of (j := 0) rfl h0, _, rfl, rfl, rfl, _, rfl, ite2 (fun e4 => ?g1) fun e4 => ?g2⟩
          case g1 =>
            refine no H1 s1 ?_
            have : bV c0 = bV 48 := of_decide_eq_true e4
            have hc : c0 = 48 := bV_inj this
            unfold CM.canon
            rw [hh, hc, decide_eq_true (show 1 < b.length by omega)]
            simp
          case' g2 =>
            have hcan : CM.canon b = true := canOk fun ⟨_, z⟩ => e4 (decide_eq_true (by
              rw [hh] at z
              have : c0 = 48 := Option.some.inj z
              rw [this]; rfl))
          case' g3 =>
            have hcan : CM.canon b = true := canOk fun ⟨z, _⟩ => e3 (decide_eq_true (by rw [List.length_map]; omega))
          all_goals
            refine ⟨_, rfl, a, rfl, ⟨_, hB1.1⟩, for_list (K := K) (xs := b.map bV) (fun i σ H' => ∃ v2 : Option V, σ = [some (.ref a), some (.int (min (Jo.natIn (b.take i) : Int) 1000)), v2] ∧ Same H1 H')
              ⟨none, rfl, Same.refl _⟩ (fun i σ H' _ ⟨_, _, s2⟩ => s2.seq hB1.1) ?_ ?_⟩
            · rintro i y σ H' hi ⟨v2, rfl, s2⟩
              obtain ⟨d, hd, rfl⟩ := bV_at hi
              have hdd := CM.isDig_nat (List.all_eq_true.mp hdig d (List.mem_of_getElem? hd))
              refine ⟨_, rfl, _, _, rfl, rfl, .inl ⟨by omega, by omega⟩, _, rfl, _, _, rfl, rfl, _, rfl, rfl, _, _, rfl, rfl, _, _, rfl, some (bV d), ?_, s2⟩
              have e1 := CM.natIn_take hd
              have e2 := CM.num_step (m := Jo.natIn (b.take i)) (d := d.toNat - 48)
              have e3 : ((d.toNat - 48 : Nat) : Int) + 48 = ((d.toNat : Nat) : Int) := by omega
              rw [e3] at e2
              have e4 := e2
              rw [← e1] at e4
              show ([some (V.ref a), some (V.int _), some (bV d)] : List (Option V)) = [some (V.ref a), some (V.int (min ((Jo.natIn (b.take (i + 1)) : Nat) : Int) 1000)), some (bV d)]
              rw [e4]
              rfl
            · rintro σ H' ⟨v2, rfl, s2⟩
              refine ⟨_, rfl, ?_⟩
              have := k H' (s1.trans s2)
              rw [CM.num_canon hcan] at this
              rw [List.length_map, List.take_length]
              exact this
end
end CR
set_option Elab.async false
set_option linter.all false
set_option maxRecDepth 100000
set_option maxHeartbeats 2000000
namespace CR
open PySem PySem.Spec PyProof.Rows L2
section
variable {P : Program} {w : World} {K : PySem.W.Frag} {mg : Str → Option Value} {base : Heap}
def NewBB (H H' : Hp) (q : Addr) (ws : List BYs) : Prop := H q = none ∧ ∃ as : List Addr, H' q = some (.lst (as.map V.ref)) ∧ Paired (NewB H H') as ws ∧ ws.length ≤ 20001 ∧ ∀ x ∈ ws, x.length ≤ 20000
theorem NewB.isB {K : PySem.W.Frag} {H H' : Hp} {q : Addr} {x : BYs} (h : NewB H H' q x) (hl : x.length ≤ 20000) : IsB K H' q x := ⟨SqL.of h.2, hl⟩
theorem paired_mem {α β : Type} {F G : α → β → Prop} : ∀ {l : List α} {m : List β}, Paired F l m → (∀ a b, b ∈ m → F a b → G a b) → Paired G l m
  | _, _, .nil, _ => .nil
  | _, _, .cons h t, f => .cons (f _ _ List.mem_cons_self h) (paired_mem t fun a b hb => f a b (List.mem_cons_of_mem _ hb))
theorem NewBB.isBB {K : PySem.W.Frag} {H H' : Hp} {q : Addr} {ws : List BYs} (h : NewBB H H' q ws) : IsBB K H' q ws :=
  let ⟨_, as, h1, h2, h3, h4⟩ := h
  ⟨as, SqL.of h1, paired_mem h2 fun a b hb z => z.isB (h4 b hb), h3⟩
theorem NewB.step {H H' H2 : Hp} {q : Addr} {x : BYs} (h : NewB H H' q x) (e : ∀ b o, H b = none → H' b = some o → H2 b = some o) : NewB H H2 q x := ⟨h.1, e _ _ h.1 h.2⟩
theorem NewBB.step {H H' H2 : Hp} {q : Addr} {ws : List BYs} (h : NewBB H H' q ws) (e : ∀ b o, H b = none → H' b = some o → H2 b = some o) : NewBB H H2 q ws :=
  let ⟨h0, as, h1, h2, h3⟩ := h
  ⟨h0, as, e _ _ h0 h1, Paired.mapP h2 fun _ _ z => z.step e, h3⟩
def NewBBx (H H' : Hp) (D q : Addr) (ws : List BYs) : Prop := H q = none ∧ q ≠ D ∧ ∃ as : List Addr, H' q = some (.lst (as.map V.ref)) ∧ Paired (fun x y => NewB H H' x y ∧ x ≠ D) as ws ∧ ws.length ≤ 20001 ∧ ∀ x ∈ ws, x.length ≤ 20000
theorem NewBBx.to {H H' : Hp} {D q : Addr} {ws : List BYs} (h : NewBBx H H' D q ws) : NewBB H H' q ws :=
  let ⟨h0, _, as, h1, h2, h3⟩ := h
  ⟨h0, as, h1, Paired.mapP h2 fun _ _ z => z.1, h3⟩
theorem NewBBx.upd {H H' H2 : Hp} {D q : Addr} {ws : List BYs} {o : HO} (h : NewBBx H H' D q ws) (e : Same H' H2) : NewBBx H (L2.upd H2 D o) D q ws :=
  let ⟨h0, hD, as, h1, h2, h3⟩ := h
  ⟨h0, hD, as, by rw [upd_ne hD]; exact e _ _ h1, Paired.mapP h2 fun _ _ ⟨⟨z1, z2⟩, z3⟩ => ⟨⟨z1, by rw [upd_ne z3]; exact e _ _ z2⟩, z3⟩, h3⟩
def spLines (K : PySem.W.Frag) : Sp := fun vs H Q _ => ∃ (a : Addr) (b : BYs), vs = [.ref a] ∧ IsB K H a b ∧
  ∀ (H' : Hp) (p : Addr) (as : List Addr), Same H H' → H p = none → H' p = some (.lst (as.map V.ref)) → Paired (NewBB H H') as (CM.wordLines b) → (CM.wordLines b).length ≤ 20001 → Q (.ref p) H'
theorem scLines : FnScope ["text", "pieces", "rest", "lines", "piece"] ["text"] (defScope sLines) := ⟨rfl, rfl, rfl, by decide +kernel, rfl, by decide +kernel, by decide +kernel⟩
theorem paired_dropLast {α β : Type} {F : α → β → Prop} : ∀ {l : List α} {m : List β}, Paired F l m → Paired F l.dropLast m.dropLast
  | _, _, .nil => .nil
  | _, _, .cons h .nil => .nil
  | _, _, .cons h (.cons h2 t) => .cons h (paired_dropLast (.cons h2 t))
theorem paired_last {α β : Type} {F : α → β → Prop} {l : List α} {m : List β} (h : Paired F l m) (hm : m ≠ []) : ∃ a b, l[l.length - 1]? = some a ∧ m.getLast? = some b ∧ F a b := by
  have hl := h.length
  have hp : 0 < m.length := List.length_pos_iff.mpr hm
  obtain ⟨a, ha⟩ : ∃ a, l[l.length - 1]? = some a := ⟨_, List.getElem?_eq_getElem (by omega)⟩
  obtain ⟨b, hb, hF⟩ := paired_get h ha
  exact ⟨a, b, ha, by rw [List.getLast?_eq_getElem?, ← hl]; exact hb, hF⟩
theorem map_dropLast {α β : Type} (f : α → β) : ∀ l : List α, (l.map f).dropLast = l.dropLast.map f
  | [] => rfl
  | [_] => rfl
  | a :: b :: l => by
    show f a :: ((b :: l).map f).dropLast = f a :: (b :: l).dropLast.map f
    rw [map_dropLast f (b :: l)]
theorem four_of {α : Type} {l : List α} (h : l.length = 4) : ∃ a b c d, l = [a, b, c, d] := by
  match l, h with
  | [a, b, c, d], _ => exact ⟨a, b, c, d, rfl⟩
theorem six_of {α : Type} {l : List α} (h : l.length = 6) : ∃ a b c d e f, l = [a, b, c, d, e, f] := by
  match l, h with
  | [a, b, c, d, e, f], _ => exact ⟨a, b, c, d, e, f, rfl⟩
theorem seven_of {α : Type} {l : List α} (h : l.length = 7) : ∃ a b c d e f g, l = [a, b, c, d, e, f, g] := by
  match l, h with
  | [a, b, c, d, e, f, g], _ => exact ⟨a, b, c, d, e, f, g, rfl⟩
theorem pair4 {α β : Type} {F : α → β → Prop} {l : List α} {k0 k1 k2 k3 : β} (h : Paired F l [k0, k1, k2, k3]) : ∃ p0 p1 p2 p3, l = [p0, p1, p2, p3] ∧ F p0 k0 ∧ F p1 k1 ∧ F p2 k2 ∧ F p3 k3 := by
  match l, h with
  | _, .cons b0 (.cons b1 (.cons b2 (.cons b3 .nil))) => exact ⟨_, _, _, _, rfl, b0, b1, b2, b3⟩
theorem pair6 {α β : Type} {F : α → β → Prop} {l : List α} {k0 k1 k2 k3 k4 k5 : β} (h : Paired F l [k0, k1, k2, k3, k4, k5]) : ∃ p0 p1 p2 p3 p4 p5, l = [p0, p1, p2, p3, p4, p5] ∧ F p0 k0 ∧ F p1 k1 ∧ F p2 k2 ∧ F p3 k3 ∧ F p4 k4 ∧ F p5 k5 := by
  match l, h with
  | _, .cons b0 (.cons b1 (.cons b2 (.cons b3 (.cons b4 (.cons b5 .nil))))) => exact ⟨_, _, _, _, _, _, rfl, b0, b1, b2, b3, b4, b5⟩
theorem pair7 {α β : Type} {F : α → β → Prop} {l : List α} {k0 k1 k2 k3 k4 k5 k6 : β} (h : Paired F l [k0, k1, k2, k3, k4, k5, k6]) : ∃ p0 p1 p2 p3 p4 p5 p6, l = [p0, p1, p2, p3, p4, p5, p6] ∧ F p0 k0 ∧ F p1 k1 ∧ F p2 k2 ∧ F p3 k3 ∧ F p4 k4 ∧ F p5 k5 ∧ F p6 k6 := by
  match l, h with
  | _, .cons b0 (.cons b1 (.cons b2 (.cons b3 (.cons b4 (.cons b5 (.cons b6 .nil)))))) => exact ⟨_, _, _, _, _, _, _, rfl, b0, b1, b2, b3, b4, b5, b6⟩
theorem ok_lines (T : Txt K mg) : Fd P w K mg base 2 "lines_of" ["text"] (spLines K) := by
  obtain ⟨f, fd, hm, F⟩ := T.dLines.ex
  refine ⟨f, fd, hm, F.kp, F.binds (fun _ _ _ _ _ _ us hl => match us, hl with | [_], _ => rfl), F.ok scLines (fun vs H Q E h => ?_) (fun cdv A outer s H vs Q E hr h => ?_)⟩
  · obtain ⟨a, b, rfl, _⟩ := h; rfl
  · obtain ⟨a, b, rfl, hB, k⟩ := h
    refine ⟨_, pss_cons (ps_set (i := 1) scLines.nd rfl (Or.inl rfl) (pe_fn (ok_split T) hr rfl (pa_cons (pv 0) (pa_cons (pe_gi rfl T.lf) pa_nil))))
      (pss_cons (ps_set (i := 2) scLines.nd rfl (Or.inl rfl) (pe_bm0 PySem.F.plainAttrs_list PySem.F.slot_list_pop PySem.F.type_list_pop mt_pop (pv 1)))
      (pss_cons (ps_setLc (i := 3) rfl scLines.nd rfl rfl (sw_true rfl rfl rfl rfl) (pi_list (pv 1)) (blkOk_by (N := ["text", "pieces", "rest", "lines", "piece"]) (sc := defScope sLines) (own := [("piece", 4)]) (by decide +kernel)) (fun _ _ _ _ _ => pg_name (i := 4) scLines.nd rfl (Or.inl rfl)) (fun _ _ _ _ _ => pts_nil)
        (fun _ _ _ _ _ => pe_fn (ok_split T) hr rfl (pa_cons (pv 4) (pa_cons (pe_gi rfl T.blank) pa_nil))))
      (pss_cons (ps_if (pt_truth (pv 2) (fun _ => rfl)) (pss_one (ps_expr (pe_app (pv 3) (pe_lst pa_nil)))) pss_nil)
      (pss_one (ps_ret (pv 3)))))), ?_⟩
    have hbl := hB.2
    refine ⟨_, rfl, a, 10, b, rfl, hB, fun H1 l as s1 hl0 hl1 pr => ?_⟩
    obtain ⟨q, x, hq, hx, ⟨⟨q0, q1⟩, qn⟩⟩ := paired_last pr (CM.cutAt_ne 10 b)
    have hxl : x.length ≤ b.length := (CM.cut_len 10 b).2 x (List.mem_of_getLast? hx)
    have hpl := (CM.cut_len 10 b).1
    refine ⟨_, rfl, .inl ⟨rfl, _, SqL.of hl1⟩, l, _, _, rfl, rfl, hl1, (by rw [List.length_map, List.getElem?_map, hq]; rfl), ?_⟩
    -- the pieces but the last
    have hl2 : (L2.upd H1 l (.lst (as.map V.ref).dropLast)) l = some (.lst (as.dropLast.map V.ref)) := by rw [upd_same, map_dropLast]
    have pd := paired_dropLast pr
    have hw : (Jo.cutAt 10 b).dropLast.length ≤ 20000 := by rw [List.length_dropLast]; omega
    generalize hH2 : L2.upd H1 l (.lst (as.map V.ref).dropLast) = H2 at hl2
    have s2 : Same H H2 := by rw [← hH2]; exact Same.upd s1 hl0
    have pd2 : Paired (fun q x => NewB H H2 q x ∧ q ≠ l) as.dropLast (Jo.cutAt 10 b).dropLast := Paired.mapP pd fun q' x' ⟨⟨g1, g2⟩, g3⟩ => ⟨⟨g1, by rw [← hH2, upd_ne g3]; exact g2⟩, g3⟩
    have q2 : H2 q = some (.lst (x.map bV)) := by rw [← hH2, upd_ne qn]; exact q1
    refine ⟨_, rfl, l, rfl, ⟨_, SqL.of hl2⟩, fun D hD => ?_⟩
    have hlD : l ≠ D := ne_of_none hl2 hD
    have hqD : q ≠ D := ne_of_none q2 hD
    have hHD : H D = none := s2.free hD
    refine lc_list (xs := as.dropLast.map V.ref) (fun i H' => Same H2 H' ∧ ∃ ls : List Addr, H' D = some (.lst (ls.map V.ref)) ∧ ls.length = i ∧ Paired (NewBBx H H' D) ls (((Jo.cutAt 10 b).dropLast.take i).map (Jo.cutAt 32)))
      ⟨Same.new hD, [], upd_same, rfl, .nil⟩ (fun i H' _ p => p.1.seq (SqL.of hl2)) (fun i x' H' hi p => ?_) fun H' p => ?_
    · obtain ⟨s3, ls, hD3, hll, pl⟩ := p
      obtain ⟨c, hc, rfl⟩ := ref_at hi
      obtain ⟨z, hz, ⟨⟨g1, g2⟩, g3⟩⟩ := paired_get pd2 hc
      have hzl : z.length ≤ b.length := (CM.cut_len 10 b).2 z ((List.dropLast_sublist _).subset (List.mem_of_getElem? hz))
      have hzi : i < (Jo.cutAt 10 b).dropLast.length := (List.getElem?_eq_some_iff.mp hz).1
      refine ⟨wipe_one, id ⟨_, rfl, c, 32, z, rfl, ⟨SqL.of (s3 _ _ g2), by omega⟩, fun H4 p4 as4 s4 p0 p1 pr4 => ?_⟩⟩
      have hp4D : p4 ≠ D := fun e => by rw [e] at p0; rw [p0] at hD3; cases hD3
      have hD4 := s4 _ _ hD3
      have frH : H p4 = none := (s2.trans s3).free p0
      have hcl := CM.cut_len 32 z
      refine ⟨_, hD4, ?_, Same.upd (s3.trans s4) hD, ls ++ [p4], ?_, ?_, ?_⟩
      · rw [List.length_map, hll, sizeLine_eq]; omega
      · rw [upd_same, List.map_append]; rfl
      · rw [List.length_append, hll]; rfl
      · rw [List.take_succ, hz, List.map_append]
        refine Paired.snoc (Paired.mapP pl fun p' ws' n => n.upd s4) ⟨frH, hp4D, as4, by rw [upd_ne hp4D]; exact p1, Paired.mapP pr4 fun x1 y1 ⟨⟨m1, m2⟩, m3⟩ => ?_, by omega, fun x1 hx1 => by have := hcl.2 x1 hx1; omega⟩
        have hxD : x1 ≠ D := fun e => by rw [e] at m1; rw [m1] at hD3; cases hD3
        exact ⟨⟨(s2.trans s3).free m1, by rw [upd_ne hxD]; exact m2⟩, hxD⟩
    · obtain ⟨s3, ls, hD3, hll, pl⟩ := p
      have hlen : (as.dropLast.map V.ref).length = (Jo.cutAt 10 b).dropLast.length := by rw [List.length_map, pd2.length]
      rw [hlen, List.take_length] at pl
      rw [hlen] at hll
      have q3 := s3 _ _ q2
      refine ⟨_, rfl, _, .inl ⟨_, SqL.of q3, rfl⟩, ite2 (fun e => ?_) fun e => ?_⟩
      · refine ⟨_, rfl, .inl ⟨rfl, _, SqL.of hD3⟩, Nat.zero_le _, fun r hr0 => ?_⟩
        have hrD : r ≠ D := fun z => by rw [z, hD3] at hr0; cases hr0
        have hrH : H r = none := (s2.trans s3).free hr0
        refine ⟨D, _, _, rfl, rfl, by rw [upd_ne (Ne.symm hrD)]; exact hD3, ?_, _, rfl, ?_⟩
        · rw [List.length_map, hll, sizeLine_eq]; omega
        have hx0 : x ≠ [] := fun z => by subst z; exact absurd e (by decide)
        have ew : CM.wordLines b = (Jo.cutAt 10 b).dropLast.map (Jo.cutAt 32) ++ [[]] := by
          unfold CM.wordLines; rw [hx, if_neg (fun z => hx0 (Option.some.inj z))]
        refine k _ D (ls ++ [r]) (Same.upd (Same.upd (s2.trans s3) hrH) hHD) hHD (by rw [upd_same, List.map_append]; rfl) ?_ ?_
        · rw [ew]
          refine Paired.snoc (Paired.mapP pl fun p' ws' n => (n.upd (Same.new hr0)).to) ⟨hrH, [], by rw [upd_ne hrD, upd_same]; rfl, .nil, Nat.zero_le _, fun _ h => by cases h⟩
        · rw [ew, List.length_append, List.length_map]; simp; omega
      · have hx0 : x = [] := by
          cases x with
          | nil => rfl
          | cons => exact absurd rfl e
        have ew : CM.wordLines b = (Jo.cutAt 10 b).dropLast.map (Jo.cutAt 32) := by
          unfold CM.wordLines; rw [hx, if_pos (by rw [hx0]), List.append_nil]
        refine ⟨_, rfl, k _ D ls (s2.trans s3) hHD hD3 ?_ ?_⟩
        · rw [ew]; exact Paired.mapP pl fun p' ws' n => n.to
        · rw [ew, List.length_map]; omega
end
end CR
set_option Elab.async false
set_option linter.all false
set_option maxRecDepth 100000
set_option maxHeartbeats 2000000
namespace CR
open PySem PySem.Spec PyProof.Rows L2
abbrev LcGoal (J : It) (te : TE) (v : Nat) (σ : L2.St) (H1 : Hp) (D : Addr) (Qd : Hp → Prop) : Prop := ∃ W : Nat → Nat → Hp → Prop, (∃ m, W 0 m (L2.upd H1 D (.lst []))) ∧ ∀ i m H, W i m H →
      (J.stop i H ∧ Qd H) ∨ (J.go i H ∧ ∃ Nx : Hp → Prop, (∀ H', Nx H' → ∃ m', m' < m ∧ W (i + 1) m' H') ∧ ∀ x H', J.yld i H x H' → gName v x (wipe σ [v]) H' fun σ2 H2 => wipe σ2 [v] = wipe σ [v] ∧ tYes σ2 H2 fun b H3 =>
        if b = true then te σ2 H3 fun y H4 => ∃ acc, H4 D = some (.lst acc) ∧ acc.length < sizeLine ∧ Nx (L2.upd H4 D (.lst (acc ++ [y]))) else Nx H3)
theorem slot_at {σ : L2.St} {v : Nat} {x : V} (hv : v < σ.length) : ((wipe σ [v]).set v (some x))[v]? = some (some x) :=
  List.getElem?_set_self (by rw [wipe_length]; exact hv)
theorem lc_num {K : PySem.W.Frag} {a D : Addr} {ls : List Addr} {ws : List BYs} {v : Nat} {σ : L2.St} {H1 : Hp} {Qd : Hp → Prop} (hx : SqL K H1 a (ls.map V.ref)) (pr : Paired (IsB K H1) ls ws) (hz : ws.length ≤ 20001) (hv : v < σ.length) (hD : H1 D = none)
    (hd : ∀ H, Same H1 H → H D = some (.lst ((ws.map CM.numOf).map V.int)) → Qd H) : LcGoal (Itl K a) (tCall (spNumber K) [] E0 (tCons (tVar v) tNil)) v σ H1 D Qd := by
  have hl := pr.length
  refine lc_each (xs := ls.map V.ref) (ys := (ws.map CM.numOf).map V.int) hx hD (by simp [hl]) (by simp; omega) (fun i x y H Q hx hy s1 q1 => ?_) hd
  obtain ⟨c, hc, rfl⟩ := ref_at hx
  obtain ⟨z, hz', hB⟩ := paired_get pr hc
  have ey : y = .int (CM.numOf z) := by
    rw [List.getElem?_map, List.getElem?_map, hz'] at hy; exact (Option.some.inj hy).symm
  subst ey
  exact ⟨_, slot_at hv, c, z, rfl, hB.same s1, fun H' s2 => q1 H' s2⟩
theorem lc_size {K : PySem.W.Frag} {a D : Addr} {ns : List Int} {v : Nat} {σ : L2.St} {H1 : Hp} {Qd : Hp → Prop} (hx : SqL K H1 a (ns.map V.int)) (hz : ns.length ≤ 20001) (hv : v < σ.length) (hD : H1 D = none)
    (hd : ∀ H, Same H1 H → H D = some (.lst ((ns.map CM.isSz).map V.bl)) → Qd H) : LcGoal (Itl K a) (tCall (spRng 1 16) [] E0 (tCons (tVar v) tNil)) v σ H1 D Qd := by
  refine lc_each (xs := ns.map V.int) (ys := (ns.map CM.isSz).map V.bl) hx hD (by simp) (by simp; omega) (fun i x y H Q hx hy s1 q1 => ?_) hd
  rw [List.getElem?_map] at hx
  rw [List.getElem?_map, List.getElem?_map] at hy
  cases e : ns[i]? with
  | none => rw [e] at hx; cases hx
  | some n =>
    rw [e] at hx hy
    have ex : x = .int n := (Option.some.inj hx).symm
    have ey : y = .bl (CM.isSz n) := (Option.some.inj hy).symm
    subst ex ey
    exact ⟨_, slot_at hv, n, rfl, q1 H (Same.refl H)⟩
theorem ne_int {n m : Int} (h : n ≠ m) : (!decide (V.int n = V.int m)) = true := by
  rw [decide_eq_false (fun e => h (by injection e))]; rfl
theorem eq_int' {n m : Int} (h : n = m) : ¬ (!decide (V.int n = V.int m)) = true := by
  rw [decide_eq_true (by rw [h])]; decide
theorem IsB.ints {K : PySem.W.Frag} {H : Hp} {a : Addr} {b : BYs} (h : IsB K H a b) : SqL K H a ((bI b).map V.int) := by rw [bI_map]; exact h.1
section
variable {P : Program} {w : World} {K : PySem.W.Frag} {mg : Str → Option Value} {base : Heap}
def spBlock (K : PySem.W.Frag) : Sp := fun vs H Q _ => ∃ (a : Addr) (ws : List BYs), vs = [.ref a] ∧ IsBB K H a ws ∧ ∀ (H' : Hp) (p : Addr), Same H H' → H p = none → H' p = some (.lst ((CM.blockV ws).map V.int)) → Q (.ref p) H'
theorem scBlock : FnScope ["words", "sizes", "word", "size"] ["words"] (defScope sBlock) := ⟨rfl, rfl, rfl, by decide +kernel, rfl, by decide +kernel, by decide +kernel⟩
theorem blockV6 (k n a b c g : BYs) : CM.blockV [k, n, a, b, c, g] = if k = Jo.ascii "part" ∧ Jo.nameOk n = true ∧ CM.grainB g = true ∧ [CM.numOf a, CM.numOf b, CM.numOf c].all CM.isSz = true then [CM.numOf a, CM.numOf b, CM.numOf c] else [] := rfl
theorem blockV_len {ws : List BYs} (h : ws.length ≠ 6) : CM.blockV ws = [] := by
  unfold CM.blockV
  split
  · exact absurd rfl h
  · rfl
theorem any_grain (g : BYs) : ([PyData.list ((bI (Jo.ascii "x")).map PyData.int), PyData.list ((bI (Jo.ascii "y")).map PyData.int), PyData.list ((bI (Jo.ascii "z")).map PyData.int)].any fun e => PyData.eqv e (.list ((bI g).map PyData.int))) = CM.grainB g := by
  have e : ∀ b : BYs, PyData.eqv (.list ((bI b).map PyData.int)) (.list ((bI g).map PyData.int)) = decide (g = b) := fun b => by
    rw [eqv_lists, Bool.eq_iff_iff, decide_eq_true_eq, decide_eq_true_eq]
    exact ⟨fun h => (bI_inj h).symm, fun h => by rw [h]⟩
  simp only [List.any_cons, List.any_nil, Bool.or_false, e]
  rfl
theorem ok_block (T : Txt K mg) : Fd P w K mg base 3 "block_told" ["words"] (spBlock K) := by
  obtain ⟨f, fd, hm, F⟩ := T.dBlock.ex
  refine ⟨f, fd, hm, F.kp, F.binds (fun _ _ _ _ _ _ us hl => match us, hl with | [_], _ => rfl), F.ok scBlock (fun vs H Q E h => ?_) (fun cdv A outer s H vs Q E hr h => ?_)⟩
  · obtain ⟨a, b, rfl, _⟩ := h; rfl
  · obtain ⟨a, ws, rfl, hW, k⟩ := h
    have hr1 : Room 1 _ := hr.mono (by decide)
    refine ⟨_, pss_cons (ps_if (PW.pt (pw_or (pt_cmpR op_ne (pe_len1 T.len (pv 0)) pe_int (nomark _)) (pw_or (pt_cmpR (op_neD hr.units) (pe_ix ix_list (pv 0) pe_int (fun _ _ => rfl)) (pe_fn (ok_signs T) hr1 rfl (pa_cons pe_str pa_nil)) (nomark _))
          (pw_or1 (pt_not (pt_val (pe_fn (ok_name T) hr rfl (pa_cons (pe_ix ix_list (pv 0) pe_int (fun _ _ => rfl)) pa_nil)))))))) (pss_one (ps_ret (pe_lst pa_nil))) pss_nil)
      (pss_cons (ps_if (pt_cmpR (op_notInT hr.u66) (pe_ix ix_list (pv 0) pe_int (fun _ _ => rfl)) (pe_tup (pa_cons (pe_fn (ok_signs T) hr1 rfl (pa_cons pe_str pa_nil)) (pa_cons (pe_fn (ok_signs T) hr1 rfl (pa_cons pe_str pa_nil)) (pa_cons (pe_fn (ok_signs T) hr1 rfl (pa_cons pe_str pa_nil)) pa_nil)))) (by with_unfolding_all rfl)) (pss_one (ps_ret (pe_lst pa_nil))) pss_nil)
      (pss_cons (ps_setLc (i := 1) rfl scBlock.nd rfl rfl (sw_true rfl rfl rfl rfl) (pi_list (pe_slice sl_list (pv 0) (po_some pe_int) (po_some pe_int))) (blkOk_by (N := ["words", "sizes", "word", "size"]) (sc := defScope sBlock) (own := [("word", 2)]) (by decide +kernel)) (fun _ _ _ _ _ => pg_name (i := 2) scBlock.nd rfl (Or.inl rfl)) (fun _ _ _ _ _ => pts_nil)
        (fun _ _ _ _ _ => pe_fn (ok_number T) hr rfl (pa_cons (pv 2) pa_nil)))
      (pss_one (ps_ret (pe_ifExp (pt_val (pe_all1 rfl T.all (pe_lc rfl scBlock.nd (pi_list (pv 1)) (blkOk_by (N := ["words", "sizes", "word", "size"]) (sc := defScope sBlock) (own := [("size", 3)]) (by decide +kernel)) (fun _ _ _ _ _ => pg_name (i := 3) scBlock.nd rfl (Or.inl rfl)) (fun _ _ _ _ _ => pts_nil)
        (fun _ _ _ _ _ => pe_fn (ok_size T) hr1 rfl (pa_cons (pv 3) pa_nil))))) (pv 1) (pe_lst pa_nil)))))), ?_⟩
    have no : ∀ H', Same H H' → CM.blockV ws = [] → ([] : List V).length ≤ sizeLine ∧ ∀ p, H' p = none → Q (.ref p) (L2.upd H' p (.lst [])) := fun H' s1 e => ⟨Nat.zero_le _, fun p hp => by
      refine k _ p (Same.upd s1 (s1.free hp)) (s1.free hp) ?_
      rw [upd_same, e]; rfl⟩
    obtain ⟨as, hS, pr, hl⟩ := hW
    have hal := pr.length
    refine ⟨_, rfl, a, _, rfl, .inl hS, rfl, _, rfl, ?_⟩
    by_cases h6 : ws.length = 6
    case neg =>
      refine ifP (ne_int (by rw [List.length_map]; omega)) ?_
      exact iteT (no H (Same.refl H) (blockV_len h6))
    refine ifN (eq_int' (by rw [List.length_map]; omega)) ?_
    obtain ⟨k0, n0, w1, w2, w3, g0, rfl⟩ := six_of h6
    obtain ⟨p0, p1, p2, p3, p4, p5, rfl, b0, b1, b2, b3, b4, b5⟩ := pair6 pr
    refine ⟨_, rfl, a, _, _, _, rfl, rfl, hS, at_of (j := 0) rfl rfl, _, rfl, by decide, fun H1 q1 s1 q0 hq1 => ?_⟩
    have hk : SqL K H1 q1 ((bI (Jo.ascii "part")).map V.int) := SqL.of hq1
    refine ⟨_, _, dp_list (b0.same s1).ints, dp_list hk, sh_ints _, sh_ints _, _, rfl, ?_⟩
    rw [eqv_lists]
    by_cases hk0 : k0 = Jo.ascii "part"
    case neg =>
      refine ifP (by rw [decide_eq_false (fun e => hk0 (bI_inj e))]; rfl) ?_
      exact iteT (no H1 s1 (by rw [blockV6, if_neg (fun z => hk0 z.1)]))
    refine ifN (by rw [decide_eq_true (by rw [hk0])]; decide) ?_
    refine ⟨_, rfl, a, _, _, _, rfl, rfl, s1.seq hS, at_of (j := 1) rfl rfl, p1, n0, rfl, b1.same s1, fun H2 s2 => ⟨_, rfl, ?_⟩⟩
    have s12 := s1.trans s2
    by_cases hn0 : Jo.nameOk n0 = true
    case neg =>
      rw [Bool.not_eq_true] at hn0
      rw [hn0]
      exact iteT (no H2 s12 (by rw [blockV6, if_neg (fun z => by have := z.2.1; rw [hn0] at this; cases this)]))
    rw [hn0]
    refine iteF ?_
    -- the grain
    refine ⟨_, rfl, a, _, _, _, rfl, rfl, s12.seq hS, at_of (j := 5) rfl rfl, _, rfl, by decide, fun H3 q3 s3 z3 hq3 => ⟨_, rfl, by decide, fun H4 q4 s4 z4 hq4 => ⟨_, rfl, by decide, fun H5 q5 s5 z5 hq5 => ⟨by show 3 ≤ sizeLine; decide, fun tp htp => ?_⟩⟩⟩⟩
    have s5' : Same H H5 := ((s12.trans s3).trans s4).trans s5
    have s6 : Same H5 (L2.upd H5 tp (.tup [.ref q3, .ref q4, .ref q5])) := Same.new htp
    have s6' := s5'.trans s6
    generalize hH6 : L2.upd H5 tp (.tup [.ref q3, .ref q4, .ref q5]) = H6 at s6 s6'
    have ht6 : H6 tp = some (.tup [.ref q3, .ref q4, .ref q5]) := by rw [← hH6, upd_same]
    refine ⟨.list ((bI g0).map PyData.int), [.list ((bI (Jo.ascii "x")).map PyData.int), .list ((bI (Jo.ascii "y")).map PyData.int), .list ((bI (Jo.ascii "z")).map PyData.int)], dp_list (b5.same s6').ints, .tup (SqT.of ht6) (.cons (dp_list (SqL.of (s6 _ _ (s5 _ _ (s4 _ _ hq3))))) (.cons (dp_list (SqL.of (s6 _ _ (s5 _ _ hq4)))) (.cons (dp_list (SqL.of (s6 _ _ hq5))) .nil))), sh_ints _, by decide +kernel, _, rfl, ?_⟩
    rw [any_grain]
    by_cases hg : CM.grainB g0 = true
    case neg =>
      rw [Bool.not_eq_true] at hg
      rw [hg]
      exact iteT (no H6 s6' (by rw [blockV6, if_neg (fun z => by have := z.2.2.1; rw [hg] at this; cases this)]))
    rw [hg]
    refine iteF ?_
    -- the sizes
    refine ⟨_, rfl, 2, rfl, 5, rfl, a, _, rfl, s6'.seq hS, fun sl hsl => ⟨sl, rfl, ⟨_, SqL.of upd_same⟩, fun D hD => ?_⟩⟩
    have hcut : cutV ([p0, p1, p2, p3, p4, p5].map V.ref) (some 2) (some 5) = [p2, p3, p4].map V.ref := by rfl
    have s7 : Same H6 (L2.upd H6 sl (.lst (cutV ([p0, p1, p2, p3, p4, p5].map V.ref) (some 2) (some 5)))) := Same.new hsl
    have s7' := s6'.trans s7
    have hHD : H D = none := s7'.free hD
    refine lc_num (ls := [p2, p3, p4]) (ws := [w1, w2, w3]) (SqL.of (by rw [upd_same, hcut])) (.cons (b2.same s7') (.cons (b3.same s7') (.cons (b4.same s7') .nil))) (by show 3 ≤ 20001; decide) (by show 2 < 4; decide) hD fun H8 s8 hD8 => ?_
    have s8' := s7'.trans s8
    refine ⟨_, rfl, D, rfl, ⟨_, SqL.of hD8⟩, fun D2 hD2 => ?_⟩
    refine lc_size (ns := [w1, w2, w3].map CM.numOf) (SqL.of hD8) (by show 3 ≤ 20001; decide) (by show 3 < 4; decide) hD2 fun H9 s9 hD9 => ?_
    have s9' := s8'.trans s9
    refine ⟨D2, _, rfl, SqL.of hD9, _, rfl, ?_⟩
    have e1 : (([w1, w2, w3].map CM.numOf).map CM.isSz).all id = ([CM.numOf w1, CM.numOf w2, CM.numOf w3].all CM.isSz) := by rw [List.all_map]; rfl
    rw [e1]
    refine ite2 (fun e => ?_) fun e => ?_
    · refine ⟨_, rfl, k H9 D s9' hHD ?_⟩
      rw [blockV6, if_pos ⟨hk0, hn0, hg, e⟩]
      exact s9 _ _ hD8
    · refine no H9 s9' ?_
      rw [blockV6, if_neg (fun z => e z.2.2.2)]
end
end CR
set_option Elab.async false
set_option linter.all false
set_option maxRecDepth 100000
set_option maxHeartbeats 2000000
namespace CR
open PySem PySem.Spec PyProof.Rows L2
section
variable {P : Program} {w : World} {K : PySem.W.Frag} {mg : Str → Option Value} {base : Heap}
def spCut (K : PySem.W.Frag) : Sp := fun vs H Q _ => ∃ (a : Addr) (ws : List BYs), vs = [.ref a] ∧ IsBB K H a ws ∧ ∀ (H' : Hp) (p : Addr), Same H H' → H p = none → H' p = some (.lst ((CM.cutV6 ws).map V.int)) → Q (.ref p) H'
theorem scCut : FnScope ["words", "numbers", "word", "size"] ["words"] (defScope sCut) := ⟨rfl, rfl, rfl, by decide +kernel, rfl, by decide +kernel, by decide +kernel⟩
theorem cutV7 (k x y z a b c : BYs) : CM.cutV6 [k, x, y, z, a, b, c] = if k = Jo.ascii "cut" ∧ ¬ ((-1 : Int) ∈ [CM.numOf x, CM.numOf y, CM.numOf z, CM.numOf a, CM.numOf b, CM.numOf c]) ∧ [CM.numOf a, CM.numOf b, CM.numOf c].all CM.isSz = true then [CM.numOf x, CM.numOf y, CM.numOf z, CM.numOf a, CM.numOf b, CM.numOf c] else [] := rfl
theorem cutV6_len {ws : List BYs} (h : ws.length ≠ 7) : CM.cutV6 ws = [] := by
  unfold CM.cutV6
  split
  · exact absurd rfl h
  · rfl
theorem inV_ints (n : Int) : ∀ ns : List Int, inV (.int n) (ns.map V.int) = decide (n ∈ ns)
  | [] => rfl
  | m :: ns => by
    show (eqV (.int m) (.int n) || inV (.int n) (ns.map V.int)) = _
    rw [inV_ints n ns]
    show ((m == n) || decide (n ∈ ns)) = decide (n ∈ m :: ns)
    rw [Bool.eq_iff_iff, Bool.or_eq_true, beq_iff_eq, decide_eq_true_eq, decide_eq_true_eq, List.mem_cons]
    exact ⟨fun h => h.imp Eq.symm id, fun h => h.imp Eq.symm id⟩
theorem flat_ints : ∀ ns : List Int, (ns.map V.int).all flatV = true
  | [] => rfl
  | _ :: ns => by show (true && (ns.map V.int).all flatV) = true; rw [flat_ints ns]; rfl
theorem ok_cut (T : Txt K mg) : Fd P w K mg base 3 "cut_told" ["words"] (spCut K) := by
  obtain ⟨f, fd, hm, F⟩ := T.dCut.ex
  refine ⟨f, fd, hm, F.kp, F.binds (fun _ _ _ _ _ _ us hl => match us, hl with | [_], _ => rfl), F.ok scCut (fun vs H Q E h => ?_) (fun cdv A outer s H vs Q E hr h => ?_)⟩
  · obtain ⟨a, b, rfl, _⟩ := h; rfl
  · obtain ⟨a, ws, rfl, hW, k⟩ := h
    have hr1 : Room 1 _ := hr.mono (by decide)
    refine ⟨_, pss_cons (ps_if (PW.pt (pw_or (pt_cmpR op_ne (pe_len1 T.len (pv 0)) pe_int (nomark _)) (pw_or1 (pt_cmpR (op_neD hr.units) (pe_ix ix_list (pv 0) pe_int (fun _ _ => rfl)) (pe_fn (ok_signs T) hr1 rfl (pa_cons pe_str pa_nil)) (nomark _))))) (pss_one (ps_ret (pe_lst pa_nil))) pss_nil)
      (pss_cons (ps_setLc (i := 1) rfl scCut.nd rfl rfl (sw_true rfl rfl rfl rfl) (pi_list (pe_slice sl_list (pv 0) (po_some pe_int) po_none)) (blkOk_by (N := ["words", "numbers", "word", "size"]) (sc := defScope sCut) (own := [("word", 2)]) (by decide +kernel)) (fun _ _ _ _ _ => pg_name (i := 2) scCut.nd rfl (Or.inl rfl)) (fun _ _ _ _ _ => pts_nil)
        (fun _ _ _ _ _ => pe_fn (ok_number T) hr rfl (pa_cons (pv 2) pa_nil)))
      (pss_cons (ps_if (PW.pt (pw_or (pt_cmpR op_in_seq (pe_gi rfl T.noNum) (pv 1) (by with_unfolding_all rfl)) (pw_or1 (pt_not (pt_val (pe_all1 rfl T.all (pe_lc rfl scCut.nd (pi_list (pe_slice sl_list (pv 1) (po_some pe_int) po_none)) (blkOk_by (N := ["words", "numbers", "word", "size"]) (sc := defScope sCut) (own := [("size", 3)]) (by decide +kernel)) (fun _ _ _ _ _ => pg_name (i := 3) scCut.nd rfl (Or.inl rfl)) (fun _ _ _ _ _ => pts_nil)
        (fun _ _ _ _ _ => pe_fn (ok_size T) hr1 rfl (pa_cons (pv 3) pa_nil))))))))) (pss_one (ps_ret (pe_lst pa_nil))) pss_nil)
      (pss_one (ps_ret (pv 1))))), ?_⟩
    have no : ∀ H', Same H H' → CM.cutV6 ws = [] → ([] : List V).length ≤ sizeLine ∧ ∀ p, H' p = none → Q (.ref p) (L2.upd H' p (.lst [])) := fun H' s1 e => ⟨Nat.zero_le _, fun p hp => by
      refine k _ p (Same.upd s1 (s1.free hp)) (s1.free hp) ?_
      rw [upd_same, e]; rfl⟩
    obtain ⟨as, hS, pr, hl⟩ := hW
    have hal := pr.length
    refine ⟨_, rfl, a, _, rfl, .inl hS, rfl, _, rfl, ?_⟩
    by_cases h7 : ws.length = 7
    case neg =>
      refine ifP (ne_int (by rw [List.length_map]; omega)) ?_
      exact iteT (no H (Same.refl H) (cutV6_len h7))
    refine ifN (eq_int' (by rw [List.length_map]; omega)) ?_
    obtain ⟨k0, w1, w2, w3, w4, w5, w6, rfl⟩ := seven_of h7
    obtain ⟨p0, p1, p2, p3, p4, p5, p6, rfl, b0, b1, b2, b3, b4, b5, b6⟩ := pair7 pr
    refine ⟨_, rfl, a, _, _, _, rfl, rfl, hS, at_of (j := 0) rfl rfl, _, rfl, by decide, fun H1 q1 s1 q0 hq1 => ?_⟩
    have hk : SqL K H1 q1 ((bI (Jo.ascii "cut")).map V.int) := SqL.of hq1
    refine ⟨_, _, dp_list (b0.same s1).ints, dp_list hk, sh_ints _, sh_ints _, _, rfl, ?_⟩
    rw [eqv_lists]
    by_cases hk0 : k0 = Jo.ascii "cut"
    case neg =>
      refine ifP (by rw [decide_eq_false (fun e => hk0 (bI_inj e))]; rfl) ?_
      exact no H1 s1 (by rw [cutV7, if_neg (fun z => hk0 z.1)])
    refine ifN (by rw [decide_eq_true (by rw [hk0])]; decide) ?_
    refine ⟨_, rfl, 1, rfl, a, _, rfl, s1.seq hS, fun sl hsl => ⟨sl, rfl, ⟨_, SqL.of upd_same⟩, fun D hD => ?_⟩⟩
    have hcut : cutV ([p0, p1, p2, p3, p4, p5, p6].map V.ref) (some 1) none = [p1, p2, p3, p4, p5, p6].map V.ref := by rfl
    have s7 : Same H1 (L2.upd H1 sl (.lst (cutV ([p0, p1, p2, p3, p4, p5, p6].map V.ref) (some 1) none))) := Same.new hsl
    have s7' := s1.trans s7
    have hHD : H D = none := s7'.free hD
    refine lc_num (ls := [p1, p2, p3, p4, p5, p6]) (ws := [w1, w2, w3, w4, w5, w6]) (SqL.of (by rw [upd_same, hcut])) (.cons (b1.same s7') (.cons (b2.same s7') (.cons (b3.same s7') (.cons (b4.same s7') (.cons (b5.same s7') (.cons (b6.same s7') .nil)))))) (by show 6 ≤ 20001; decide) (by show 2 < 4; decide) hD fun H8 s8 hD8 => ?_
    have s8' := s7'.trans s8
    -- NO_NUMBER in numbers
    refine ⟨_, rfl, D, _, rfl, .inl (SqL.of hD8), rfl, flat_ints _, _, rfl, ?_⟩
    show if inV (.int (-1)) _ = true then _ else _
    rw [inV_ints]
    refine ite2 (fun e => iteT (no H8 s8' ?_)) fun e => ?_
    · rw [cutV7, if_neg (fun z => z.2.1 (of_decide_eq_true e))]
    refine ⟨_, rfl, 3, rfl, D, _, rfl, SqL.of hD8, fun sl2 hsl2 => ⟨sl2, rfl, ⟨_, SqL.of upd_same⟩, fun D2 hD2 => ?_⟩⟩
    have hcut2 : cutV (([w1, w2, w3, w4, w5, w6].map CM.numOf).map V.int) (some 3) none = ([w4, w5, w6].map CM.numOf).map V.int := by rfl
    have s9 : Same H8 (L2.upd H8 sl2 (.lst (cutV (([w1, w2, w3, w4, w5, w6].map CM.numOf).map V.int) (some 3) none))) := Same.new hsl2
    refine lc_size (ns := [w4, w5, w6].map CM.numOf) (SqL.of (by rw [upd_same, hcut2])) (by show 3 ≤ 20001; decide) (by show 3 < 4; decide) hD2 fun H9 s10 hD9 => ?_
    have s9' := (s8'.trans s9).trans s10
    refine ⟨D2, _, rfl, SqL.of hD9, _, rfl, ?_⟩
    have e1 : (([w4, w5, w6].map CM.numOf).map CM.isSz).all id = ([CM.numOf w4, CM.numOf w5, CM.numOf w6].all CM.isSz) := by rw [List.all_map]; rfl
    rw [e1]
    refine ite2 (fun e2 => no H9 s9' ?_) fun e2 => ⟨_, rfl, k H9 D s9' hHD ?_⟩
    · rw [cutV7, if_neg (fun z => by rw [z.2.2] at e2; cases e2)]
    · rw [cutV7, if_pos ⟨hk0, fun z => e (decide_eq_true z), by simpa using e2⟩]
      exact s10 _ _ (s9 _ _ hD8)
end
end CR
set_option Elab.async false
set_option linter.all false
set_option maxRecDepth 100000
set_option maxHeartbeats 2000000
namespace CR
open PySem PySem.Spec PyProof.Rows L2
section
variable {P : Program} {w : World} {K : PySem.W.Frag} {mg : Str → Option Value} {base : Heap}
def spWays (K : PySem.W.Frag) : Sp := fun vs H Q _ => ∃ (a : Addr) (b : BYs), vs = [.ref a] ∧ IsB K H a b ∧ ∀ (H' : Hp) (p : Addr), Same H H' → H p = none → H' p = some (.lst ((CM.waysV b).map nV)) → Q (.ref p) H'
def spTool (K : PySem.W.Frag) : Sp := fun vs H Q _ => ∃ (a : Addr) (ws : List BYs), vs = [.ref a] ∧ IsBB K H a ws ∧
  (CM.toolV ws = none → ∀ (H' : Hp) (p : Addr), Same H H' → H p = none → H' p = some (.tup []) → Q (.ref p) H') ∧
  (∀ t, CM.toolV ws = some t → ∀ (H' : Hp) (p q : Addr), Same H H' → H p = none → H q = none → H' p = some (.tup [.int t.1, .ref q, .int t.2.2]) → H' q = some (.lst (t.2.1.map nV)) → Q (.ref p) H')
theorem scTool : FnScope ["words", "cut_number", "allowed", "depth"] ["words"] (defScope sTool) := ⟨rfl, rfl, rfl, by decide +kernel, rfl, by decide +kernel, by decide +kernel⟩
theorem toolV4 (k a v n : BYs) : CM.toolV [k, a, v, n] = if k = Jo.ascii "tool" ∧ CM.numOf a ≠ -1 ∧ CM.waysV v ≠ [] ∧ CM.isSz (CM.numOf n) = true then some (CM.numOf a, CM.waysV v, CM.numOf n) else none := rfl
theorem toolV_len {ws : List BYs} (h : ws.length ≠ 4) : CM.toolV ws = none := by
  unfold CM.toolV
  split
  · exact absurd rfl h
  · rfl
theorem ok_tool (T : Txt K mg) (W : Fd P w K mg base 2 "ways_of" ["word"] (spWays K)) : Fd P w K mg base 3 "tool_told" ["words"] (spTool K) := by
  obtain ⟨f, fd, hm, F⟩ := T.dTool.ex
  refine ⟨f, fd, hm, F.kp, F.binds (fun _ _ _ _ _ _ us hl => match us, hl with | [_], _ => rfl), F.ok scTool (fun vs H Q E h => ?_) (fun cdv A outer s H vs Q E hr h => ?_)⟩
  · obtain ⟨a, b, rfl, _⟩ := h; rfl
  · obtain ⟨a, ws, rfl, hW, kn, ks⟩ := h
    have hr1 : Room 1 _ := hr.mono (by decide)
    refine ⟨_, pss_cons (ps_if (PW.pt (pw_or (pt_cmpR op_ne (pe_len1 T.len (pv 0)) pe_int (nomark _)) (pw_or1 (pt_cmpR (op_neD hr.units) (pe_ix ix_list (pv 0) pe_int (fun _ _ => rfl)) (pe_fn (ok_signs T) hr1 rfl (pa_cons pe_str pa_nil)) (nomark _))))) (pss_one (ps_ret (pe_tup pa_nil))) pss_nil)
      (pss_cons (ps_set (i := 1) scTool.nd rfl (Or.inl rfl) (pe_fn (ok_number T) hr rfl (pa_cons (pe_ix ix_list (pv 0) pe_int (fun _ _ => rfl)) pa_nil)))
      (pss_cons (ps_set (i := 2) scTool.nd rfl (Or.inl rfl) (pe_fn W hr rfl (pa_cons (pe_ix ix_list (pv 0) pe_int (fun _ _ => rfl)) pa_nil)))
      (pss_cons (ps_set (i := 3) scTool.nd rfl (Or.inl rfl) (pe_fn (ok_number T) hr rfl (pa_cons (pe_ix ix_list (pv 0) pe_int (fun _ _ => rfl)) pa_nil)))
      (pss_cons (ps_if (PW.pt (pw_or (pt_cmpR op_eq (pv 1) (pe_gi rfl T.noNum) (nomark _)) (pw_or (pt_not (pt_truth (pv 2) (fun _ => rfl))) (pw_or1 (pt_not (pt_val (pe_fn (ok_size T) hr1 rfl (pa_cons (pv 3) pa_nil)))))))) (pss_one (ps_ret (pe_tup pa_nil))) pss_nil)
      (pss_one (ps_ret (pe_tup (pa_cons (pv 1) (pa_cons (pv 2) (pa_cons (pv 3) pa_nil)))))))))), ?_⟩
    have no : ∀ (H' : Hp) (σ : L2.St), Same H H' → CM.toolV ws = none → ([] : List V).length ≤ sizeLine ∧ ∀ p, H' p = none → Q (.ref p) (L2.upd H' p (.tup [])) := fun H' (σ : L2.St) s1 e => ⟨Nat.zero_le _, fun p hp => kn e _ p (Same.upd s1 (s1.free hp)) (s1.free hp) upd_same⟩
    obtain ⟨as, hS, pr, hl⟩ := hW
    have hal := pr.length
    refine ⟨_, rfl, a, _, rfl, .inl hS, rfl, _, rfl, ?_⟩
    by_cases h4 : ws.length = 4
    case neg =>
      refine ifP (ne_int (by rw [List.length_map]; omega)) ?_
      exact iteT (no H [] (Same.refl H) (toolV_len h4))
    refine ifN (eq_int' (by rw [List.length_map]; omega)) ?_
    obtain ⟨k0, w1, w2, w3, rfl⟩ := four_of h4
    obtain ⟨p0, p1, p2, p3, rfl, b0, b1, b2, b3⟩ := pair4 pr
    refine ⟨_, rfl, a, _, _, _, rfl, rfl, hS, at_of (j := 0) rfl rfl, _, rfl, by decide, fun H1 q1 s1 q0 hq1 => ?_⟩
    have hk : SqL K H1 q1 ((bI (Jo.ascii "tool")).map V.int) := SqL.of hq1
    refine ⟨_, _, dp_list (b0.same s1).ints, dp_list hk, sh_ints _, sh_ints _, _, rfl, ?_⟩
    rw [eqv_lists]
    by_cases hk0 : k0 = Jo.ascii "tool"
    case neg =>
      refine ifP (by rw [decide_eq_false (fun e => hk0 (bI_inj e))]; rfl) ?_
      exact no H1 [] s1 (by rw [toolV4, if_neg (fun z => hk0 z.1)])
    refine ifN (by rw [decide_eq_true (by rw [hk0])]; decide) ?_
    refine ⟨_, rfl, a, _, _, _, rfl, rfl, s1.seq hS, at_of (j := 1) rfl rfl, p1, w1, rfl, b1.same s1, fun H2 s2 => ?_⟩
    have s12 := s1.trans s2
    refine ⟨_, rfl, a, _, _, _, rfl, rfl, s12.seq hS, at_of (j := 2) rfl rfl, p2, w2, rfl, b2.same s12, fun H3 wl s3 hw0 hw1 => ?_⟩
    have s13 := s12.trans s3
    refine ⟨_, rfl, a, _, _, _, rfl, rfl, s13.seq hS, at_of (j := 3) rfl rfl, p3, w3, rfl, b3.same s13, fun H4 s4 => ?_⟩
    have s14 := s13.trans s4
    have hw4 := s4 _ _ hw1
    have hwH : H wl = none := s12.free hw0
    refine ⟨_, rfl, rfl, _, rfl, ite2 (fun e => iteT (no H4 [] s14 ?_)) fun e => ?_⟩
    · have : V.int (CM.numOf w1) = V.int (-1) := of_decide_eq_true e
      have h1 : CM.numOf w1 = -1 := by injection this
      rw [toolV4, if_neg (fun z => z.2.1 h1)]
    have hn1 : CM.numOf w1 ≠ -1 := fun z => e (decide_eq_true (by rw [z]))
    refine ⟨_, rfl, _, .inl ⟨_, SqL.of hw4, rfl⟩, ite2 (fun e2 => iteT (no H4 [] s14 ?_)) fun e2 => ?_⟩
    · have h2 : CM.waysV w2 = [] := by
        cases q : CM.waysV w2 with
        | nil => rfl
        | cons => rw [q] at e2; exact absurd e2 (by show ¬ false = true; decide)
      rw [toolV4, if_neg (fun z => z.2.2.1 h2)]
    have hn2 : CM.waysV w2 ≠ [] := fun z => e2 (by rw [z]; rfl)
    refine ⟨_, rfl, CM.numOf w3, rfl, _, rfl, ite2 (fun e3 => no H4 [] s14 ?_) fun e3 => ?_⟩
    · rw [toolV4, if_neg (fun z => by have h3 : CM.isSz (CM.numOf w3) = true := z.2.2.2; unfold CM.isSz at h3; rw [h3] at e3; cases e3)]
    refine ⟨_, rfl, _, rfl, _, rfl, by show 3 ≤ sizeLine; decide, fun tp htp => ?_⟩
    have htH : H tp = none := s14.free htp
    have h3 : CM.isSz (CM.numOf w3) = true := by unfold CM.isSz; simpa using e3
    refine ks (CM.numOf w1, CM.waysV w2, CM.numOf w3) (by rw [toolV4, if_pos ⟨hk0, hn1, hn2, h3⟩]) _ tp wl (Same.upd s14 htH) htH hwH upd_same ?_
    rw [upd_ne (ne_of_none hw4 htp)]
    exact hw4
end
end CR
set_option Elab.async false
set_option linter.all false
set_option maxRecDepth 100000
set_option maxHeartbeats 2000000
namespace CR
open PySem PySem.Spec PyProof.Rows L2
def pf (rf bk ct tl : Addr) : List (Str × V) := [("refusal", .ref rf), ("block", .ref bk), ("cuts", .ref ct), ("tools", .ref tl)]
theorem nRB : ¬ ("refusal" : Str) = "block" := by decide +kernel
theorem nRC : ¬ ("refusal" : Str) = "cuts" := by decide +kernel
theorem nRT : ¬ ("refusal" : Str) = "tools" := by decide +kernel
theorem nBC : ¬ ("block" : Str) = "cuts" := by decide +kernel
theorem nBT : ¬ ("block" : Str) = "tools" := by decide +kernel
theorem nCT : ¬ ("cuts" : Str) = "tools" := by decide +kernel
theorem lk_hit {f : Str} {v : V} {r : List (Str × V)} : List.lookup f ((f, v) :: r) = some v := by
  have hb : (f == f) = true := beq_self_eq_true f
  simp only [List.lookup, hb]
theorem lk_miss {f g : Str} {v : V} {r : List (Str × V)} (h : ¬ g = f) : List.lookup f ((g, v) :: r) = List.lookup f r := by
  have hb : (f == g) = false := beq_eq_false_iff_ne.mpr fun e => h e.symm
  simp only [List.lookup, hb]
theorem pf_R (rf bk ct tl : Addr) : (pf rf bk ct tl).lookup ("refusal" : Str) = some (V.ref rf) := lk_hit
theorem pf_B (rf bk ct tl : Addr) : (pf rf bk ct tl).lookup ("block" : Str) = some (V.ref bk) := by unfold pf; rw [lk_miss nRB, lk_hit]
theorem pf_C (rf bk ct tl : Addr) : (pf rf bk ct tl).lookup ("cuts" : Str) = some (V.ref ct) := by unfold pf; rw [lk_miss nRC, lk_miss nBC, lk_hit]
theorem pf_T (rf bk ct tl : Addr) : (pf rf bk ct tl).lookup ("tools" : Str) = some (V.ref tl) := by unfold pf; rw [lk_miss nRT, lk_miss nBT, lk_miss nCT, lk_hit]
theorem put_hit {f : Str} {v x : V} {r : List (Str × V)} : putF f v ((f, x) :: r) = (f, v) :: r := by
  show (if f = f then (f, v) :: r else _) = _
  rw [if_pos rfl]
theorem put_miss {f g : Str} {v x : V} {r : List (Str × V)} (h : ¬ g = f) : putF f v ((g, x) :: r) = (g, x) :: putF f v r := by
  show (if g = f then (g, v) :: r else (g, x) :: putF f v r) = _
  rw [if_neg h]
theorem put_len {f : Str} {v : V} : ∀ fs : List (Str × V), (putF f v fs).length ≤ fs.length + 1
  | [] => Nat.le_refl _
  | (g, x) :: r => by
    show (if g = f then (g, v) :: r else (g, x) :: putF f v r).length ≤ r.length + 1 + 1
    split
    · show r.length + 1 ≤ _; omega
    · have := put_len (f := f) (v := v) r
      show (putF f v r).length + 1 ≤ _; omega
theorem put_R (rf bk ct tl x : Addr) : putF "refusal" (V.ref x) (pf rf bk ct tl) = pf x bk ct tl := put_hit
theorem put_B (rf bk ct tl x : Addr) : putF "block" (V.ref x) (pf rf bk ct tl) = pf rf x ct tl := by unfold pf; rw [put_miss nRB, put_hit]
structure Pl (K : PySem.W.Frag) (mg : Str → Option Value) (C : Addr) : Prop where
  cl : Cls K C
  nR : NoAttr K C "refusal"
  nB : NoAttr K C "block"
  nC : NoAttr K C "cuts"
  nT : NoAttr K C "tools"
  mgC : mg "Plan" = some (.ref C)
  ini : ∃ fI fd, Mk K C fI ∧ Fun K "__init__" "Plan.__init__" sPlan fI fd
def Ext2 (p c : Addr) (H H' : Hp) : Prop := ∀ b o, H b = some o → b ≠ p → b ≠ c → H' b = some o
theorem Ext2.trans {p c : Addr} {H H1 H2 : Hp} (a : Ext2 p c H H1) (b : Ext2 p c H1 H2) : Ext2 p c H H2 := fun x o h h1 h2 => b x o (a x o h h1 h2) h1 h2
theorem Ext2.of {p c : Addr} {H H1 : Hp} (a : Same H H1) : Ext2 p c H H1 := fun x o h _ _ => a x o h
structure PlanAt (C : Addr) (H : Hp) (p ct tl : Addr) (B : List Nat) (Cs : List Jo.Box) (kvs : List (Key × V)) : Prop where
  ex : ∃ (dx rf bk : Addr) (as : List Addr), H p = some (.ins C dx (pf rf bk ct tl)) ∧ H rf = some (.lst []) ∧ H bk = some (.lst (B.map nV)) ∧ H ct = some (.lst (as.map V.ref)) ∧ H tl = some (.dK kvs) ∧ rf ≠ ct ∧ bk ≠ ct ∧
    Paired (fun a b => H a = some (.lst ((CM.box6 b).map V.int)) ∧ a ≠ ct) as Cs
theorem PlanAt.same {C : Addr} {H H' : Hp} {p ct tl : Addr} {B : List Nat} {Cs : List Jo.Box} {kvs : List (Key × V)} (h : PlanAt C H p ct tl B Cs kvs) (e : Same H H') : PlanAt C H' p ct tl B Cs kvs := by
  obtain ⟨dx, rf, bk, as, h1, h2, h3, h4, h5, h6, h7, h8⟩ := h.ex
  exact ⟨dx, rf, bk, as, e _ _ h1, e _ _ h2, e _ _ h3, e _ _ h4, e _ _ h5, h6, h7, Paired.mapP h8 fun _ _ z => ⟨e _ _ z.1, z.2⟩⟩
section
variable {P : Program} {w : World} {K : PySem.W.Frag} {mg : Str → Option Value} {base : Heap} {C : Addr}
def spInit (C : Addr) : Sp := fun vs H Q _ => ∃ (p dx : Addr), vs = [.ref p] ∧ H p = some (.ins C dx []) ∧ ∀ (H' : Hp) (ct tl : Addr), PlanAt C H' p ct tl [] [] [] → H ct = none → H tl = none → (∀ b o, H b = some o → b ≠ p → H' b = some o) → Q .non H'
theorem scI : FnScope ["self"] ["self"] (defScope sPlan) := ⟨rfl, rfl, rfl, by decide +kernel, rfl, by decide +kernel, by decide +kernel⟩
theorem ok_init {f : Addr} {fd : FuncData} (F : Fun K "__init__" "Plan.__init__" sPlan f fd) (T : Pl K mg C) : FnOk P w K mg base CX0 1 f fd ["self"] (spInit C) := by
  refine F.ok scI (fun vs H Q E h => ?_) (fun cdv A outer s H vs Q E hr h => ?_)
  · obtain ⟨p, dx, rfl, _⟩ := h
    rfl
  · obtain ⟨p, dx, rfl, hp, k⟩ := h
    refine ⟨_, pss_cons (ps_fld (pv 0) (pe_lst pa_nil) rfl) (pss_cons (ps_fld (pv 0) (pe_lst pa_nil) rfl) (pss_cons (ps_fld (pv 0) (pe_lst pa_nil) rfl) (pss_one (ps_fld (pv 0) pe_dnewK rfl)))), ?_⟩
    refine ⟨Nat.zero_le _, fun r0 z0 => ?_⟩
    have n0 : p ≠ r0 := ne_of_none hp z0
    refine ⟨_, rfl, p, C, dx, [], rfl, by rw [upd_ne n0]; exact hp, T.cl, T.nR, by decide, Nat.zero_le _, fun r1 z1 => ?_⟩
    have n1 : p ≠ r1 := fun e => by rw [← e, upd_same] at z1; cases z1
    have m01 : r0 ≠ r1 := fun e => by rw [← e, upd_ne (Ne.symm n0), upd_same] at z1; cases z1
    have f1 : H r1 = none := by rw [upd_ne (Ne.symm n1), upd_ne (Ne.symm m01)] at z1; exact z1
    refine ⟨_, rfl, p, C, dx, _, rfl, by rw [upd_ne n1, upd_same], T.cl, T.nB, Nat.lt_of_le_of_lt (put_len _) (by decide), Nat.zero_le _, fun r2 z2 => ?_⟩
    have n2 : p ≠ r2 := fun e => by rw [← e, upd_same] at z2; cases z2
    have m12 : r1 ≠ r2 := fun e => by rw [← e, upd_ne (Ne.symm n1), upd_same] at z2; cases z2
    have m02 : r0 ≠ r2 := fun e => by rw [← e, upd_ne (Ne.symm n0), upd_ne m01, upd_ne (Ne.symm n0), upd_same] at z2; cases z2
    have f2 : H r2 = none := by rw [upd_ne (Ne.symm n2), upd_ne (Ne.symm m12), upd_ne (Ne.symm n2), upd_ne (Ne.symm m02)] at z2; exact z2
    refine ⟨_, rfl, p, C, dx, _, rfl, by rw [upd_ne n2, upd_same], T.cl, T.nC, Nat.lt_of_le_of_lt (Nat.le_trans (put_len _) (Nat.add_le_add_right (put_len _) 1)) (by decide), fun r3 z3 => ?_⟩
    have n3 : p ≠ r3 := fun e => by rw [← e, upd_same] at z3; cases z3
    have m23 : r2 ≠ r3 := fun e => by rw [← e, upd_ne (Ne.symm n2), upd_same] at z3; cases z3
    have m13 : r1 ≠ r3 := fun e => by rw [← e, upd_ne (Ne.symm n1), upd_ne m12, upd_ne (Ne.symm n1), upd_same] at z3; cases z3
    have m03 : r0 ≠ r3 := fun e => by rw [← e, upd_ne (Ne.symm n0), upd_ne m02, upd_ne (Ne.symm n0), upd_ne m01, upd_ne (Ne.symm n0), upd_same] at z3; cases z3
    have f3 : H r3 = none := by rw [upd_ne (Ne.symm n3), upd_ne (Ne.symm m23), upd_ne (Ne.symm n3), upd_ne (Ne.symm m13), upd_ne (Ne.symm n3), upd_ne (Ne.symm m03)] at z3; exact z3
    refine ⟨_, rfl, p, C, dx, _, rfl, by rw [upd_ne n3, upd_same], T.cl, T.nT, Nat.lt_of_le_of_lt (Nat.le_trans (put_len _) (Nat.add_le_add_right (Nat.le_trans (put_len _) (Nat.add_le_add_right (put_len _) 1)) 1)) (by decide), ?_⟩
    have e1 : putF "tools" (V.ref r3) (putF "cuts" (V.ref r2) (putF "block" (V.ref r1) (putF "refusal" (V.ref r0) []))) = pf r0 r1 r2 r3 := by
      show putF "tools" (V.ref r3) (putF "cuts" (V.ref r2) (putF "block" (V.ref r1) [("refusal", V.ref r0)])) = _
      rw [put_miss nRB, put_miss nRC, put_miss nRT]
      show (("refusal" : Str), V.ref r0) :: putF "tools" (V.ref r3) (putF "cuts" (V.ref r2) [("block", V.ref r1)]) = _
      rw [put_miss nBC, put_miss nBT]
      show (("refusal" : Str), V.ref r0) :: (("block" : Str), V.ref r1) :: putF "tools" (V.ref r3) [("cuts", V.ref r2)] = _
      rw [put_miss nCT]
      rfl
    refine k _ r2 r3 ⟨dx, r0, r1, [], by rw [upd_same]; exact congrArg (fun q => some (HO.ins C dx q)) e1, ?_, ?_, ?_, ?_, m02, m12, .nil⟩ f2 f3 fun b o e hb => ?_
    · rw [upd_ne (Ne.symm n0), upd_ne m03, upd_ne (Ne.symm n0), upd_ne m02, upd_ne (Ne.symm n0), upd_ne m01, upd_ne (Ne.symm n0), upd_same]
    · rw [upd_ne (Ne.symm n1), upd_ne m13, upd_ne (Ne.symm n1), upd_ne m12, upd_ne (Ne.symm n1), upd_same]; rfl
    · rw [upd_ne (Ne.symm n2), upd_ne m23, upd_ne (Ne.symm n2), upd_same]; rfl
    · rw [upd_ne (Ne.symm n3), upd_same]
    · rw [upd_ne hb, upd_ne (ne_of_none e f3), upd_ne hb, upd_ne (ne_of_none e f2), upd_ne hb, upd_ne (ne_of_none e f1), upd_ne hb, upd_ne (ne_of_none e z0)]; exact e
def spPartL (K : PySem.W.Frag) (C : Addr) : Sp := fun vs H Q _ => ∃ (a p ct tl : Addr) (ws : List BYs) (l : List Jo.Line), vs = [.ref a, .ref p] ∧ IsBB K H a ws ∧ CM.Good l ∧ PlanAt C H p ct tl (CM.stB l) (CM.stC l) [] ∧
  ∀ H', Ext2 p ct H H' → (∀ x, CM.lineW ws = some x → CM.whyOf l ws = 0 → PlanAt C H' p ct tl (CM.stB (l ++ [x])) (CM.stC (l ++ [x])) []) → (CM.whyOf l ws ≠ 0 → PlanAt C H' p ct tl (CM.stB l) (CM.stC l) []) → Q (.int (CM.whyOf l ws : Nat)) H'
theorem scPartL : FnScope ["words", "plan", "block", "cut"] ["words", "plan"] (defScope sPartL) := ⟨rfl, rfl, rfl, by decide +kernel, rfl, by decide +kernel, by decide +kernel⟩
theorem natsI_V (l : List Nat) : (CM.natsI l).map V.int = l.map nV := by unfold CM.natsI; rw [List.map_map]; rfl
theorem ok_partL (T : Txt K mg) (TC : Pl K mg C) : Fd P w K mg base 4 "read_part_line" ["words", "plan"] (spPartL K C) := by
  obtain ⟨f, fd, hm, F⟩ := T.dPartL.ex
  refine ⟨f, fd, hm, F.kp, F.binds (fun _ _ _ _ _ _ us hl => match us, hl with | [_, _], _ => rfl), F.ok scPartL (fun vs H Q E h => ?_) (fun cdv A outer s H vs Q E hr h => ?_)⟩
  · obtain ⟨a, p, ct, tl, ws, l, rfl, _⟩ := h; rfl
  · obtain ⟨a, p, ct, tl, ws, l, rfl, hW, hG, hP, k⟩ := h
    have hr1 : Room 1 _ := hr.mono (by decide)
    refine ⟨_, pss_cons (ps_set (i := 2) scPartL.nd rfl (Or.inl rfl) (pe_fn (ok_block T) hr rfl (pa_cons (pv 0) pa_nil)))
      (pss_cons (ps_set (i := 3) scPartL.nd rfl (Or.inl rfl) (pe_fn (ok_cut T) hr rfl (pa_cons (pv 0) pa_nil)))
      (pss_cons (ps_if (PW.pt (pw_and (pt_not (pt_truth (pv 2) (fun _ => rfl))) (pw_and1 (pt_not (pt_truth (pv 3) (fun _ => rfl)))))) (pss_one (ps_ret (pe_gi rfl T.notFormed))) pss_nil)
      (pss_cons (ps_if (PW.pt (pw_or (PW.pt (pw_and (pt_truth (pv 2) (fun _ => rfl)) (pw_and1 (pt_truth (pe_fld (pv 1) rfl) (fun _ => rfl))))) (pw_or1 (PW.pt (pw_and (pt_truth (pv 3) (fun _ => rfl)) (pw_and1 (pt_not (pt_truth (pe_fld (pv 1) rfl) (fun _ => rfl))))))))) (pss_one (ps_ret (pe_gi rfl T.cannot))) pss_nil)
      (pss_cons (ps_if (pt_truth (pv 2) (fun _ => rfl)) (pss_cons (ps_fld (pv 1) (pv 2) rfl) (pss_one (ps_ret (pe_gi rfl T.right)))) pss_nil)
      (pss_cons (ps_if (pt_val (pe_fn (ok_beyond T) hr1 rfl (pa_cons (pv 3) (pa_cons (pe_fld (pv 1) rfl) pa_nil)))) (pss_one (ps_ret (pe_gi rfl T.beyond))) pss_nil)
      (pss_cons (ps_if (pt_cmpR op_eq (pe_len1 T.len (pe_fld (pv 1) rfl)) (pe_gi rfl T.cuts) (nomark _)) (pss_one (ps_ret (pe_gi rfl T.tooMany))) pss_nil)
      (pss_cons (ps_expr (pe_app (pe_fld (pv 1) rfl) (pv 3)))
      (pss_one (ps_ret (pe_gi rfl T.right)))))))))), ?_⟩
    refine ⟨_, rfl, a, ws, rfl, hW, fun H1 nb s1 z1 e1 => ?_⟩
    refine ⟨_, rfl, a, ws, rfl, hW.same s1, fun H2 nc s2 z2 e2 => ?_⟩
    have s12 := s1.trans s2
    have P2 := hP.same s12
    have eb := s2 _ _ e1
    have zc : H nc = none := s1.free z2
    rw [CM.blockV_eq] at eb
    rw [CM.cutV6_eq] at e2
    obtain ⟨dx, rf, bk, as, h1, h2, h3, h4, h5, h6, h7, h8⟩ := P2.ex
    cases hx : CM.lineW ws with
    | none =>
      rw [hx] at eb e2
      have ew : CM.whyOf l ws = 1 := by unfold CM.whyOf; rw [hx]
      refine ⟨_, rfl, _, .inl ⟨_, SqL.of eb, rfl⟩, iteT ⟨_, rfl, _, .inl ⟨_, SqL.of e2, rfl⟩, iteT ?_⟩⟩
      have := k H2 (Ext2.of s12) (fun x hx' => by rw [hx] at hx'; cases hx') fun _ => P2
      rw [ew] at this
      exact this
    | some x =>
      have ew : CM.whyOf l ws = Jo.wrongOf l x := by unfold CM.whyOf; rw [hx]
      rw [ew] at k
      cases x with
      | part n w' d' h' g' =>
        rw [hx] at eb e2
        refine ⟨_, rfl, _, .inl ⟨_, SqL.of eb, rfl⟩, iteF ?_⟩
        -- if block and plan.block or ..
        refine ⟨_, rfl, _, .inl ⟨_, SqL.of eb, rfl⟩, iteT ⟨_, rfl, p, C, dx, _, _, rfl, h1, TC.cl, TC.nB, pf_B .., _, .inl ⟨_, SqL.of h3, rfl⟩, ?_⟩⟩
        by_cases hl : l = []
        · subst hl
          have ew0 : Jo.wrongOf [] (.part n w' d' h' g') = 0 := rfl
          refine iteF ⟨_, rfl, _, .inl ⟨_, SqL.of e2, rfl⟩, iteF (iteF ?_)⟩
          refine ⟨_, rfl, _, .inl ⟨_, SqL.of eb, rfl⟩, iteT ⟨_, rfl, _, rfl, p, C, dx, _, rfl, h1, TC.cl, TC.nB, by show 4 < 1000; decide, ?_⟩⟩
          have npb : nb ≠ p := ne_of eb h1 (by intro q; cases q)
          have nct : ct ≠ p := ne_of h4 h1 (by intro q; cases q)
          have ntl : tl ≠ p := ne_of h5 h1 (by intro q; cases q)
          have nrf : rf ≠ p := ne_of h2 h1 (by intro q; cases q)
          have nbc : nb ≠ ct := fun e => by
            obtain ⟨_, _, _, _, _, _, _, g4, _⟩ := (hP.same s1).ex
            obtain ⟨_, _, _, _, _, _, _, g5, _⟩ := hP.ex
            rw [← e, z1] at g5; cases g5
          have := k (L2.upd H2 p (.ins C dx (putF "block" (.ref nb) (pf rf bk ct tl)))) (fun b o hb hbp _ => by rw [upd_ne hbp]; exact s12 _ _ hb) (fun x hx' _ => ?_) (fun z => absurd ew0 z)
          · rw [ew0] at this
            exact this
          · rw [hx] at hx'
            cases hx'
            refine ⟨dx, rf, nb, as, by rw [upd_same, put_B], by rw [upd_ne nrf]; exact h2, ?_, by rw [upd_ne nct]; exact h4, by rw [upd_ne ntl]; exact h5, h6, nbc, Paired.mapP h8 fun a' b' z => ⟨?_, z.2⟩⟩
            · rw [upd_ne npb, eb, natsI_V]; rfl
            · rw [upd_ne (ne_of z.1 h1 (by intro q; cases q))]; exact z.1
        · have ew3 : Jo.wrongOf l (.part n w' d' h' g') = 3 := if_neg hl
          have hne : CM.stB l ≠ [] := by
            cases hG with
            | nil => exact absurd rfl hl
            | cuts => simp [CM.stB]
          have hT : (!((CM.stB l).map nV).isEmpty) = true := by
            cases q : CM.stB l with
            | nil => exact absurd q hne
            | cons => rfl
          rw [hT]
          refine iteT (iteT ?_)
          have := k H2 (Ext2.of s12) (fun x hx' z => by rw [ew3] at z; cases z) fun _ => P2
          rw [ew3] at this
          exact this
      | cut b =>
        rw [hx] at eb e2
        refine ⟨_, rfl, _, .inl ⟨_, SqL.of eb, rfl⟩, iteT ⟨_, rfl, _, .inl ⟨_, SqL.of e2, rfl⟩, iteF ?_⟩⟩
        refine ⟨_, rfl, _, .inl ⟨_, SqL.of eb, rfl⟩, iteF (iteF ⟨_, rfl, _, .inl ⟨_, SqL.of e2, rfl⟩, iteT ⟨_, rfl, p, C, dx, _, _, rfl, h1, TC.cl, TC.nB, pf_B .., _, .inl ⟨_, SqL.of h3, rfl⟩, ?_⟩⟩)⟩
        cases hG with
        | nil =>
          have ew3 : Jo.wrongOf [] (.cut b) = 3 := rfl
          refine iteT ?_
          have := k H2 (Ext2.of s12) (fun x hx' z => by rw [ew3] at z; cases z) fun _ => P2
          rw [ew3] at this
          exact this
        | cuts hw hd hh hrr hll =>
          rename_i n w' d' h' g' r
          have hC : CM.stC (Jo.Line.part n w' d' h' g' :: r.map Jo.Line.cut) = r := CM.stC_cuts ..
          rw [hC] at h8 P2
          refine iteF ?_
          refine ⟨_, rfl, _, .inl ⟨_, SqL.of eb, rfl⟩, iteF ?_⟩
          have h3' : H2 bk = some (.lst ((CM.natsI [w', d', h']).map V.int)) := by rw [h3, natsI_V]; rfl
          refine ⟨_, rfl, _, rfl, p, C, dx, _, _, rfl, h1, TC.cl, TC.nB, pf_B .., nc, bk, CM.cap6 b, CM.natsI [w', d', h'], rfl, SqL.of e2, SqL.of h3', rfl, rfl, fun H3 s3 => ⟨_, rfl, ?_⟩⟩
          rw [CM.beyond_eq hw.2 hd.2 hh.2]
          have s13 := s12.trans s3
          have P3 := P2.same s3
          by_cases hb : w' < b.x + b.w ∨ d' < b.y + b.d ∨ h' < b.z + b.h
          · have ew4 : Jo.wrongOf (Jo.Line.part n w' d' h' g' :: r.map Jo.Line.cut) (.cut b) = 4 := if_pos hb
            rw [decide_eq_true hb]
            refine iteT ?_
            have := k H3 (Ext2.of s13) (fun x hx' z => by rw [ew4] at z; cases z) fun _ => by rw [hC]; exact P3
            rw [ew4] at this
            exact this
          · rw [decide_eq_false hb]
            refine iteF ?_
            have g1 := s3 _ _ h1
            have g4 := s3 _ _ h4
            refine ⟨_, rfl, p, C, dx, _, _, rfl, g1, TC.cl, TC.nC, pf_C .., ct, _, rfl, .inl (SqL.of g4), rfl, _, rfl, ?_⟩
            have hlen : (as.map V.ref).length = r.length := by rw [List.length_map, h8.length]
            rw [hlen]
            by_cases h64 : r.length = 64
            · have ew2 : Jo.wrongOf (Jo.Line.part n w' d' h' g' :: r.map Jo.Line.cut) (.cut b) = 2 := by
                show (if _ then 4 else if Jo.CUTS ≤ (r.map Jo.Line.cut).length then 2 else 0) = 2
                rw [if_neg hb, if_pos (by rw [List.length_map, h64]; decide)]
              rw [decide_eq_true (show V.int (r.length : Int) = V.int 64 by rw [h64]; rfl)]
              refine iteT ?_
              have := k H3 (Ext2.of s13) (fun x hx' z => by rw [ew2] at z; cases z) fun _ => by rw [hC]; exact P3
              rw [ew2] at this
              exact this
            · have ew0 : Jo.wrongOf (Jo.Line.part n w' d' h' g' :: r.map Jo.Line.cut) (.cut b) = 0 := by
                show (if _ then 4 else if Jo.CUTS ≤ (r.map Jo.Line.cut).length then 2 else 0) = 0
                have : Jo.CUTS = 64 := rfl
                rw [if_neg hb, if_neg (by rw [List.length_map]; omega)]
              rw [decide_eq_false (show ¬ V.int (r.length : Int) = V.int 64 from fun z => h64 (by have : (r.length : Int) = 64 := by injection z
                                                                                                  omega))]
              refine iteF ?_
              refine ⟨_, rfl, p, C, dx, _, _, rfl, g1, TC.cl, TC.nC, pf_C .., .inl ⟨rfl, _, SqL.of g4⟩, _, rfl, ct, _, _, rfl, rfl, g4, by rw [hlen, sizeLine_eq]; omega, ?_⟩
              have hcap : CM.cap6 b = CM.box6 b := CM.cap_box (by omega) (by omega) (by omega)
              have e3 := s3 _ _ e2
              have e3' : H3 nc = some (.lst ((CM.box6 b).map V.int)) := by rw [e3]; show some (HO.lst ((CM.cap6 b).map V.int)) = _; rw [hcap]
              have nnc : nc ≠ ct := fun e => by
                obtain ⟨_, _, _, _, _, _, _, g5, _⟩ := hP.ex
                rw [← e, zc] at g5; cases g5
              have npc : p ≠ ct := ne_of g1 g4 (by intro q; cases q)
              have ntc : tl ≠ ct := ne_of (s3 _ _ h5) g4 (by intro q; cases q)
              have := k (L2.upd H3 ct (.lst (as.map V.ref ++ [V.ref nc]))) (fun b' o hb' _ hbc => by rw [upd_ne hbc]; exact s13 _ _ hb') (fun x hx' _ => ?_) (fun z => absurd ew0 z)
              · rw [ew0] at this
                exact this
              · rw [hx] at hx'
                cases hx'
                have eC : CM.stC ((Jo.Line.part n w' d' h' g' :: r.map Jo.Line.cut) ++ [Jo.Line.cut b]) = r ++ [b] := by
                  have : (Jo.Line.part n w' d' h' g' :: r.map Jo.Line.cut) ++ [Jo.Line.cut b] = .part n w' d' h' g' :: (r ++ [b]).map Jo.Line.cut := by rw [List.map_append]; rfl
                  rw [this, CM.stC_cuts]
                rw [eC]
                refine ⟨dx, rf, bk, as ++ [nc], by rw [upd_ne npc]; exact g1, by rw [upd_ne h6]; exact s3 _ _ h2, by rw [upd_ne h7]; exact s3 _ _ h3, by rw [upd_same, List.map_append]; rfl, by rw [upd_ne ntc]; exact s3 _ _ h5, h6, h7, Paired.snoc (Paired.mapP h8 fun a' b' z => ⟨?_, z.2⟩) ⟨?_, nnc⟩⟩
                · rw [upd_ne z.2]; exact s3 _ _ z.1
                · rw [upd_ne nnc]; exact e3'
end
end CR
set_option Elab.async false
set_option linter.all false
set_option maxRecDepth 100000
set_option maxHeartbeats 2000000
namespace CR
open PySem PySem.Spec PyProof.Rows L2
section
variable {P : Program} {w : World} {K : PySem.W.Frag} {mg : Str → Option Value} {base : Heap} {C : Addr}
def faultOf {α : Type} : Except (Nat × Nat) α → List Int
  | .error e => [(e.1 : Int), (e.2 : Int)]
  | .ok _ => []
theorem PlanAt.p {C : Addr} {H : Hp} {p ct tl : Addr} {B : List Nat} {Cs : List Jo.Box} {kvs : List (Key × V)} (h : PlanAt C H p ct tl B Cs kvs) : ∃ o, H p = some o := let ⟨_, _, _, _, h1, _⟩ := h.ex; ⟨_, h1⟩
theorem PlanAt.c {C : Addr} {H : Hp} {p ct tl : Addr} {B : List Nat} {Cs : List Jo.Box} {kvs : List (Key × V)} (h : PlanAt C H p ct tl B Cs kvs) : ∃ o, H ct = some o := let ⟨_, _, _, _, _, _, _, h1, _⟩ := h.ex; ⟨_, h1⟩
theorem PlanAt.t {C : Addr} {H : Hp} {p ct tl : Addr} {B : List Nat} {Cs : List Jo.Box} {kvs : List (Key × V)} (h : PlanAt C H p ct tl B Cs kvs) : H tl = some (.dK kvs) := let ⟨_, _, _, _, _, _, _, _, h1, _⟩ := h.ex; h1
theorem free_ne {H : Hp} {a b : Addr} (ha : H a = none) (hb : ∃ o, H b = some o) : a ≠ b := fun e => by
  obtain ⟨o, h⟩ := hb
  rw [← e, ha] at h; cases h
def spPart (K : PySem.W.Frag) (C : Addr) : Sp := fun vs H Q _ => ∃ (a p ct tl : Addr) (t : BYs), vs = [.ref a, .ref p] ∧ IsB K H a t ∧ PlanAt C H p ct tl [] [] [] ∧
  ∀ (H' : Hp) (q : Addr), Ext2 p ct H H' → H q = none → H' q = some (.lst ((faultOf (Jo.readPart t)).map V.int)) →
    (∃ B Cs, PlanAt C H' p ct tl B Cs [] ∧ ∀ pt, Jo.readPart t = .ok pt → B = [pt.w, pt.d, pt.h] ∧ Cs = pt.cuts ∧ CM.POk pt) → Q (.ref q) H'
theorem scPart : FnScope ["text", "plan", "lines", "number", "words", "why"] ["text", "plan"] (defScope sPart) := ⟨rfl, rfl, rfl, by decide +kernel, rfl, by decide +kernel, by decide +kernel⟩
theorem ok_part (T : Txt K mg) (TC : Pl K mg C) : Fd P w K mg base 5 "read_part" ["text", "plan"] (spPart K C) := by
  obtain ⟨f, fd, hm, F⟩ := T.dPart.ex
  refine ⟨f, fd, hm, F.kp, F.binds (fun _ _ _ _ _ _ us hl => match us, hl with | [_, _], _ => rfl), F.ok scPart (fun vs H Q E h => ?_) (fun cdv A outer s H vs Q E hr h => ?_)⟩
  · obtain ⟨a, p, ct, tl, t, rfl, _⟩ := h; rfl
  · obtain ⟨a, p, ct, tl, t, rfl, hB, hP, k⟩ := h
    refine ⟨_, pss_cons (ps_set (i := 2) scPart.nd rfl (Or.inl rfl) (pe_fn (ok_lines T) (hr.mono (by decide)) rfl (pa_cons (pv 0) pa_nil)))
      (pss_cons (ps_if (pt_not (pt_truth (pv 2) (fun _ => rfl))) (pss_one (ps_ret (pe_lst (pa_cons pe_int (pa_cons (pe_gi rfl T.cannot) pa_nil))))) pss_nil)
      (pss_cons (ps_for PassesOwn.never rfl (pi_enum rfl T.enum (pa_cons (pv 2) pa_nil)) (pg_tup rfl (pgs_cons (pg_name (i := 3) scPart.nd rfl (Or.inl rfl)) (pgs_cons (pg_name (i := 4) scPart.nd rfl (Or.inl rfl)) pgs_nil)))
        (pss_cons (ps_set (i := 5) scPart.nd rfl (Or.inl rfl) (pe_fn (ok_partL T TC) hr rfl (pa_cons (pv 4) (pa_cons (pv 1) pa_nil))))
        (pss_one (ps_if (pt_cmpR op_ne (pv 5) (pe_gi rfl T.right) (nomark _)) (pss_one (ps_ret (pe_lst (pa_cons (pv 3) (pa_cons (pv 5) pa_nil))))) pss_nil))))
      (pss_one (ps_ret (pe_lst pa_nil))))), ?_⟩
    refine ⟨_, rfl, a, t, rfl, hB, fun H1 L as s1 hL0 hL1 prs hlen => ?_⟩
    have hP1 := hP.same s1
    refine ⟨_, rfl, _, .inl ⟨_, SqL.of hL1, rfl⟩, ?_⟩
    have hal := prs.length
    by_cases hw : CM.wordLines t = []
    · have has : as = [] := List.length_eq_zero_iff.mp (by rw [hal, hw]; rfl)
      subst has
      refine iteT ⟨by show 2 ≤ sizeLine; decide, fun q hq => ?_⟩
      have hqH : H q = none := s1.free hq
      refine k _ q (Ext2.of (Same.upd s1 hqH)) hqH (by rw [upd_same, CM.Rd.empty hw]; rfl) ⟨[], [], (hP1.same (Same.new hq)), fun pt e => ?_⟩
      rw [CM.Rd.empty hw] at e; cases e
    · have hne : as ≠ [] := fun z => hw (List.length_eq_zero_iff.mp (by rw [← hal, z]; rfl))
      have hT : (!((as.map V.ref).isEmpty)) = true := by
        cases q : as with
        | nil => exact absurd q hne
        | cons => rfl
      rw [hT]
      refine iteF ?_
      have nLp : L ≠ p := free_ne hL0 hP.p
      have nLc : L ≠ ct := free_ne hL0 hP.c
      refine ⟨_, rfl, L, _, rfl, SqL.of hL1, for_enum (K := K) (xs := as.map V.ref) (fun i σ H' => ∃ (v3 v4 v5 : Option V) (l : List Jo.Line), σ = [some (.ref a), some (.ref p), some (.ref L), v3, v4, v5] ∧ Ext2 p ct H1 H' ∧ CM.Rd t i l ∧ PlanAt C H' p ct tl (CM.stB l) (CM.stC l) [])
        ⟨none, none, none, [], rfl, Ext2.of (Same.refl _), CM.Rd.zero t, hP1⟩ (fun i σ H' _ ⟨_, _, _, _, _, x1, _⟩ => SqL.of (x1 _ _ hL1 nLp nLc)) ?_ ?_⟩
      · rintro i x σ H' Tp hx ⟨v3, v4, v5, l, rfl, x1, rd, hP2⟩ hTp
        obtain ⟨c, hc, rfl⟩ := ref_at hx
        obtain ⟨ws, hws, nb⟩ := paired_get prs hc
        have sT : Same H' (L2.upd H' Tp (.tup [.int (i : Nat), .ref c])) := Same.new hTp
        have nb2 : IsBB K (L2.upd H' Tp (.tup [.int (i : Nat), .ref c])) c ws := (nb.step fun b o h0 h1 => sT _ _ (x1 b o h1 (free_ne h0 hP.p) (free_ne h0 hP.c))).isBB
        refine ⟨_, rfl, _, rfl, c, p, ct, tl, ws, l, rfl, nb2, rd.good, hP2.same sT, fun H3 x3 k1 k2 => ?_⟩
        have x13 : Ext2 p ct H1 H3 := (x1.trans (Ext2.of sT)).trans x3
        refine ⟨_, rfl, rfl, _, rfl, ?_⟩
        by_cases hy : CM.whyOf l ws = 0
        · refine ifN (eq_int' (by rw [hy]; rfl)) ?_
          obtain ⟨y, hy1, hy2⟩ := rd.step hws hy
          exact ⟨_, _, _, l ++ [y], rfl, x13, hy2, k1 y hy1 hy⟩
        · refine ifP (ne_int (by omega)) ?_
          refine ⟨_, rfl, _, rfl, by show 2 ≤ sizeLine; decide, fun q hq => ?_⟩
          have e := rd.bad hws hy
          have P3 := k2 hy
          have hq1 : H q = none := by
            cases z : H q with
            | none => rfl
            | some o =>
              by_cases q1 : q = p
              · obtain ⟨o', h'⟩ := P3.p; rw [q1, h'] at hq; cases hq
              · by_cases q2 : q = ct
                · obtain ⟨o', h'⟩ := P3.c; rw [q2, h'] at hq; cases hq
                · rw [x13 _ _ (s1 _ _ z) q1 q2] at hq; cases hq
          refine k _ q (fun b o h1 h2 h3 => ?_) hq1 (by rw [upd_same, e]; rfl) ⟨_, _, P3.same (Same.new hq), fun pt e' => by rw [e] at e'; cases e'⟩
          rw [upd_ne (ne_of_none h1 hq1)]
          exact x13 _ _ (s1 _ _ h1) h2 h3
      · rintro σ H' ⟨v3, v4, v5, l, rfl, x1, rd, hP2⟩
        refine ⟨Nat.zero_le _, fun q hq => ?_⟩
        rw [List.length_map, hal] at rd
        obtain ⟨pt, e1, e2, e3, e4⟩ := rd.fin hw
        have hq1 : H q = none := by
          cases z : H q with
          | none => rfl
          | some o =>
            by_cases q1 : q = p
            · obtain ⟨o', h'⟩ := hP2.p; rw [q1, h'] at hq; cases hq
            · by_cases q2 : q = ct
              · obtain ⟨o', h'⟩ := hP2.c; rw [q2, h'] at hq; cases hq
              · rw [x1 _ _ (s1 _ _ z) q1 q2] at hq; cases hq
        refine k _ q (fun b o h1 h2 h3 => ?_) hq1 (by rw [upd_same, e1]; rfl) ⟨_, _, hP2.same (Same.new hq), fun pt' e' => ?_⟩
        · rw [upd_ne (ne_of_none h1 hq1)]
          exact x1 _ _ (s1 _ _ h1) h2 h3
        · rw [e1] at e'
          cases e'
          exact ⟨e2, e3, e4⟩
end
end CR
set_option Elab.async false
set_option linter.all false
set_option maxRecDepth 100000
set_option maxHeartbeats 2000000
namespace CR
open PySem PySem.Spec PyProof.Rows L2
theorem ins_mem {k x : Nat} {m : List Nat} : x ∈ S6.ins k m ↔ x = k ∨ x ∈ m := by
  unfold S6.ins
  rw [List.mem_append, List.mem_cons, List.mem_filter, List.mem_filter, decide_eq_true_eq, decide_eq_true_eq]
  constructor
  · rintro (⟨h, _⟩ | h | ⟨h, _⟩)
    · exact .inr h
    · exact .inl h
    · exact .inr h
  · rintro (h | h)
    · exact .inr (.inl h)
    · by_cases q : x < k
      · exact .inl ⟨h, q⟩
      · by_cases q2 : x = k
        · exact .inr (.inl q2)
        · exact .inr (.inr ⟨h, by omega⟩)
theorem ins_rise {k : Nat} {m : List Nat} (h : m.Pairwise (· < ·)) : (S6.ins k m).Pairwise (· < ·) := by
  unfold S6.ins
  rw [List.pairwise_append, List.pairwise_cons]
  refine ⟨h.filter _, ⟨fun a ha => ?_, h.filter _⟩, fun a ha b hb => ?_⟩
  · exact of_decide_eq_true (List.mem_filter.mp ha).2
  · have h1 := of_decide_eq_true (List.mem_filter.mp ha).2
    rcases List.mem_cons.mp hb with q | q
    · omega
    · have h2 := of_decide_eq_true (List.mem_filter.mp q).2
      omega
theorem mets_facts : ∀ l : List Nat, (S6.mets l).Pairwise (· < ·) ∧ ∀ x, x ∈ S6.mets l ↔ x ∈ l := by
  refine CM.snoc_ind ?_ fun l a ih => ?_
  · exact ⟨List.Pairwise.nil, fun x => Iff.rfl⟩
  · rw [S6.mets_snoc]
    unfold S6.stp
    by_cases h : (S6.mets l).contains a = true
    · rw [if_pos h]
      refine ⟨ih.1, fun x => ?_⟩
      have ha : a ∈ l := (ih.2 a).mp (by rwa [List.contains_iff_mem] at h)
      rw [ih.2, List.mem_append]
      constructor
      · exact .inl
      · rintro (q | q)
        · exact q
        · have : x = a := by simpa using q
          rw [this]; exact ha
    · rw [if_neg h]
      refine ⟨ins_rise ih.1, fun x => ?_⟩
      rw [ins_mem, ih.2, List.mem_append, List.mem_singleton]
      exact Or.comm
theorem mets_strict (l : List Nat) : l = S6.mets l ↔ CM.strictB l = true := by
  rw [CM.strict_iff]
  obtain ⟨h1, h2⟩ := mets_facts l
  exact ⟨fun e => by rw [e]; exact h1, fun h => CG.rise_ext h h1 fun x => (h2 x).symm⟩
theorem I6_inj : ∀ {l m : List Nat}, S6.I6 l = S6.I6 m → l = m
  | [], [], _ => rfl
  | [], _ :: _, h => by cases h
  | _ :: _, [], h => by cases h
  | a :: l, b :: m, h => by
    obtain ⟨h1, h2⟩ := List.cons.inj h
    have h1' : (a : Int) = (b : Int) := h1
    have e : a = b := by omega
    rw [e, I6_inj (l := l) (m := m) h2]
theorem nV_I6 (l : List Nat) : l.map nV = (S6.I6 l).map V.int := by unfold S6.I6; rw [List.map_map]; rfl
section
variable {X : Cx}
theorem cr_set6 (hc : X.calm = true) : CallR X (.type "set") (fun vs H Q => ∃ (a : Addr) (l : List Nat), vs = [V.ref a] ∧ SqL X.K H a (l.map nV) ∧ (∀ k ∈ l, k < 6) ∧ ∀ S, H S = none → Q (.ref S) (L2.upd H S (.ext fun h => S6.Six X.w h S (S6.mets l)))) := by
  intro pins s σ H vs us Q I r h
  obtain ⟨a, l, rfl, hs, h6, q⟩ := h
  rw [nV_I6] at hs
  obtain ⟨its, rv, hl, _⟩ := I.list hs
  rw [Vals.ref1 r]
  refine S6.setOf6 (I.ok.hd hc) hl.isList rv.ints h6 fun h' tk hS keep => ?_
  have hget : ∃ o, h'.get? s.heap.objs.size = some o := let ⟨_, _, _, e, _⟩ := hS; ⟨_, e⟩
  exact ⟨.ref _, L2.upd H s.heap.objs.size (.ext fun h => S6.Six X.w h s.heap.objs.size (S6.mets l)),
    I.laid (t' := tk) (fun b u e => keep b u (Heap.lt_size e) e) (Nat.le_refl _) ⟨hS, hget, fun h1 h2 p k => S6.Six.kept p k⟩, rfl, q _ (I.hok.fresh (Nat.le_refl _))⟩
theorem cr_sorted6 (hc : X.calm = true) : CallR X (.builtin "sorted") (fun vs H Q => ∃ (a : Addr) (m : List Nat), vs = [V.ref a] ∧ H a = some (.ext fun h => S6.Six X.w h a m) ∧ ∀ p, H p = none → Q (.ref p) (L2.upd H p (.lst (m.map nV)))) := by
  intro pins s σ H vs us Q I r h
  obtain ⟨a, m, rfl, hs, q⟩ := h
  rw [Vals.ref1 r]
  obtain ⟨hS, _⟩ := I.hok a _ hs
  refine S6.sort6 (I.ok.hd hc) hS fun s' out ep p h1 h2 h3 keep hp hi hg => ?_
  have e : s' = { s with heap := s'.heap, toks := s'.toks } := by
    obtain ⟨a1, a2, a3, a4, a5⟩ := s
    obtain ⟨b1, b2, b3, b4, b5⟩ := s'
    simp only at h1 h2 h3
    subst h1 h2 h3
    rfl
  have hm6 := (S6.sub_facts m hS.1).1
  have hlen : (m.map nV).length ≤ sizeLine := by rw [List.length_map, sizeLine_eq]; omega
  rw [e]
  exact ⟨.ref p, L2.upd H p (.lst (m.map nV)), I.laid (t' := s'.toks) keep hp ⟨hlen, out, ep, by rw [nV_I6]; exact vals_of_ints hi, hg⟩, rfl, q p (I.hok.fresh hp)⟩
end
section
variable {P : Program} {w : World} {K : PySem.W.Frag} {mg : Str → Option Value} {base : Heap} {C : Addr}
def wayI : List Int := [114, 108, 98, 102, 117, 100]
theorem cps_ways : cpsV "rlbfud" = wayI.map V.int := by rfl
theorem u8_all {p : UInt8 → Bool} (h : (List.range 256).all (fun n => p (UInt8.ofNat n)) = true) (c : UInt8) : p c = true := by
  have := List.all_eq_true.mp h c.toNat (List.mem_range.mpr (UInt8.toNat_lt c))
  rwa [UInt8.ofNat_toNat] at this
theorem way_in (c : UInt8) : decide (bi c ∈ wayI) = Jo.LETTERS.contains c := by
  have h := u8_all (p := fun c => decide (bi c ∈ wayI) == Jo.LETTERS.contains c) (by decide +kernel) c
  exact eq_of_beq h
theorem way_ix (c : UInt8) (h : Jo.LETTERS.contains c = true) : wayI[Jo.LETTERS.idxOf c]? = some (bi c) ∧ ∀ m, m < Jo.LETTERS.idxOf c → ∀ z, wayI[m]? = some z → z ≠ bi c := by
  have q := u8_all (p := fun c => !Jo.LETTERS.contains c || (decide (wayI[Jo.LETTERS.idxOf c]? = some (bi c)) && (List.range (Jo.LETTERS.idxOf c)).all fun m => decide (wayI[m]? ≠ some (bi c)))) (by decide +kernel) c
  rw [h, Bool.not_true, Bool.false_or, Bool.and_eq_true] at q
  refine ⟨of_decide_eq_true q.1, fun m hm z hz e => ?_⟩
  have := List.all_eq_true.mp q.2 m (List.mem_range.mpr hm)
  exact of_decide_eq_true this (by rw [hz, e])
def toldW (b : BYs) : List Nat := (b.filter fun c => Jo.LETTERS.contains c).map fun c => Jo.LETTERS.idxOf c
theorem toldW_snoc {b : BYs} {i : Nat} {c : UInt8} (h : b[i]? = some c) : toldW (b.take (i + 1)) = toldW (b.take i) ++ (if Jo.LETTERS.contains c = true then [Jo.LETTERS.idxOf c] else []) := by
  unfold toldW
  rw [List.take_succ, h, List.filter_append, List.map_append]
  congr 1
  by_cases q : Jo.LETTERS.contains c = true
  · rw [if_pos q, show (some c).toList = [c] from rfl, List.filter_cons_of_pos q]; rfl
  · rw [if_neg q, show (some c).toList = [c] from rfl, List.filter_cons_of_neg q]; rfl
theorem toldW_len (b : BYs) : (toldW b).length = b.length ↔ b.all (fun c => Jo.LETTERS.contains c) = true := by
  unfold toldW
  rw [List.length_map, List.length_filter_eq_length_iff, List.all_eq_true]
theorem toldW_all {b : BYs} (h : b.all (fun c => Jo.LETTERS.contains c) = true) : toldW b = CM.waysIn b := by
  unfold toldW CM.waysIn
  rw [List.filter_eq_self.mpr (List.all_eq_true.mp h)]
theorem toldW_le (b : BYs) : (toldW b).length ≤ b.length := by
  unfold toldW; rw [List.length_map]; exact List.length_filter_le _ _
theorem toldW_six (b : BYs) : ∀ k ∈ toldW b, k < 6 := fun k hk => by
  obtain ⟨c, hc, rfl⟩ := List.mem_map.mp hk
  have := (CM.idx_le c).mpr (List.mem_filter.mp hc).2
  omega
theorem scWays : FnScope ["word", "signs", "told", "sign"] ["word"] (defScope sWays) := ⟨rfl, rfl, rfl, by decide +kernel, rfl, by decide +kernel, by decide +kernel⟩
theorem ok_waysOf (T : Txt K mg) : Fd P w K mg base 2 "ways_of" ["word"] (spWays K) := by
  obtain ⟨f, fd, hm, F⟩ := T.dWays.ex
  refine ⟨f, fd, hm, F.kp, F.binds (fun _ _ _ _ _ _ us hl => match us, hl with | [_], _ => rfl), F.ok scWays (fun vs H Q E h => ?_) (fun cdv A outer s H vs Q E hr h => ?_)⟩
  · obtain ⟨a, b, rfl, _⟩ := h; rfl
  · obtain ⟨a, b, rfl, hB, k⟩ := h
    refine ⟨_, pss_cons (ps_set (i := 1) scWays.nd rfl (Or.inr rfl) (pe_fn (ok_signs T) hr rfl (pa_cons (pe_gs rfl T.waySigns) pa_nil)))
      (pss_cons (ps_setLc (i := 2) rfl scWays.nd rfl rfl (sw_true rfl rfl rfl rfl) (pi_list (pv 0)) (blkOk_by (N := ["word", "signs", "told", "sign"]) (sc := defScope sWays) (own := [("sign", 3)]) (by decide +kernel)) (fun _ _ _ _ _ => pg_name (i := 3) scWays.nd rfl (Or.inl rfl)) (fun _ _ _ _ _ => pts_one (pt_cmpR (inK (K := K) rfl) (pv 3) (pv 1) (by with_unfolding_all rfl)))
        (fun _ _ _ _ _ => pe_indexK (K := K) rfl (pv 1) (pv 3)))
      (pss_cons (ps_if (PW.pt (pw_or (pt_cmpR op_ne (pe_len1 T.len (pv 2)) (pe_len1 T.len (pv 0)) (nomark _)) (pw_or1 (pt_cmpR (op_neD hr.units) (pv 2) (pe_callB (cr_sorted6 rfl) rfl T.sorted bt_sorted (pa_cons (pe_callTy (cr_set6 rfl) rfl T.set bt_set (pa_cons (pv 2) pa_nil)) pa_nil)) (nomark _))))) (pss_one (ps_ret (pe_lst pa_nil))) pss_nil)
      (pss_one (ps_ret (pv 2))))), ?_⟩
    have hbl := hB.2
    refine ⟨_, rfl, by decide, fun H1 sg s1 z1 h1 => ?_⟩
    rw [cps_ways] at h1
    have hB1 := hB.same s1
    refine ⟨_, rfl, a, rfl, ⟨_, hB1.1⟩, fun D hD => ?_⟩
    have hHD : H D = none := s1.free hD
    refine lc_list (xs := b.map bV) (fun i H' => Same H1 H' ∧ H' D = some (.lst ((toldW (b.take i)).map nV))) ⟨Same.new hD, upd_same⟩ (fun i H' _ p => p.1.seq hB1.1) (fun i x H' hi p => ?_) fun H' p => ?_
    · obtain ⟨s2, hDD⟩ := p
      obtain ⟨c, hc, rfl⟩ := bV_at hi
      have hib : i < b.length := (List.getElem?_eq_some_iff.mp hc).1
      refine ⟨wipe_one, _, rfl, _, rfl, sg, _, rfl, .inl (SqL.of (s2 _ _ h1)), rfl, flat_ints _, _, rfl, ?_⟩
      show if inV (.int (bi c)) (wayI.map V.int) = true then _ else _
      rw [inV_ints, way_in]
      by_cases hL : Jo.LETTERS.contains c = true
      · rw [hL]
        refine iteT ?_
        obtain ⟨w1, w2⟩ := way_ix c hL
        refine ⟨_, rfl, .inl ⟨rfl, _, SqL.of (s2 _ _ h1)⟩, _, rfl, sg, wayI.map V.int, bV c, Jo.LETTERS.idxOf c, .int (bi c), rfl, rfl, SqL.of (s2 _ _ h1), rfl, flat_ints _, by rw [List.getElem?_map, w1]; rfl, beq_self_eq_true (bi c), fun m z' hm hz => ?_, _, hDD, ?_, Same.upd s2 hD, ?_⟩
        · rw [List.getElem?_map] at hz
          cases e : wayI[m]? with
          | none => rw [e] at hz; cases hz
          | some z =>
            rw [e] at hz
            have ez : z' = .int z := (Option.some.inj hz).symm
            subst ez
            exact beq_eq_false_iff_ne.mpr (w2 m hm z e)
        · rw [List.length_map, sizeLine_eq]
          have := toldW_le (b.take i)
          rw [List.length_take] at this
          omega
        · rw [upd_same, toldW_snoc hc, if_pos hL, List.map_append]; rfl
      · rw [Bool.not_eq_true] at hL
        rw [hL]
        refine iteF ⟨s2, ?_⟩
        rw [toldW_snoc hc, if_neg (by rw [hL]; decide), List.append_nil]; exact hDD
    · obtain ⟨s2, hDD⟩ := p
      rw [List.length_map, List.take_length] at hDD
      have s12 := s1.trans s2
      have no : ∀ (H2 : Hp) (σ : L2.St), Same H H2 → CM.waysV b = [] → ([] : List V).length ≤ sizeLine ∧ ∀ p, H2 p = none → Q (.ref p) (L2.upd H2 p (.lst [])) := fun H2 σ s3 e => ⟨Nat.zero_le _, fun p hp => by
        refine k _ p (Same.upd s3 (s3.free hp)) (s3.free hp) ?_
        rw [upd_same, e]; rfl⟩
      refine ⟨_, rfl, D, _, rfl, .inl (SqL.of hDD), _, rfl, a, _, rfl, .inl (hB1.same s2).1, rfl, _, rfl, ?_⟩
      by_cases hall : b.all (fun c => Jo.LETTERS.contains c) = true
      · have hl := (toldW_len b).mpr hall
        refine ifN (eq_int' (by rw [List.length_map, List.length_map, hl])) ?_
        refine ⟨_, rfl, _, rfl, D, _, rfl, SqL.of hDD, toldW_six b, fun S hS => ⟨S, _, rfl, upd_same, fun p hp => ?_⟩⟩
        have nD : D ≠ S := ne_of_none hDD hS
        have hpH' : H' p = none := by
          by_cases e : p = S
          · rw [e, upd_same] at hp; cases hp
          · rw [upd_ne e] at hp; exact hp
        have nDp : D ≠ p := ne_of_none hDD hpH'
        have hD2 : (L2.upd (L2.upd H' S (.ext fun h => S6.Six w h S (S6.mets (toldW b)))) p (.lst ((S6.mets (toldW b)).map nV))) D = some (.lst ((toldW b).map nV)) := by rw [upd_ne nDp, upd_ne nD]; exact hDD
        have s4 : Same H (L2.upd (L2.upd H' S (.ext fun h => S6.Six w h S (S6.mets (toldW b)))) p (.lst ((S6.mets (toldW b)).map nV))) := Same.upd (Same.upd s12 (s12.free hS)) (s12.free hpH')
        have hp4 : (L2.upd (L2.upd H' S (.ext fun h => S6.Six w h S (S6.mets (toldW b)))) p (.lst ((S6.mets (toldW b)).map nV))) p = some (.lst ((S6.mets (toldW b)).map nV)) := upd_same
        have hD2' := hD2.trans (show some (HO.lst ((toldW b).map nV)) = some (HO.lst ((S6.I6 (toldW b)).map V.int)) by rw [nV_I6])
        have hp4' := hp4.trans (show some (HO.lst ((S6.mets (toldW b)).map nV)) = some (HO.lst ((S6.I6 (S6.mets (toldW b))).map V.int)) by rw [nV_I6])
        refine ⟨_, _, dp_list (SqL.of hD2'), dp_list (SqL.of hp4'), sh_ints _, sh_ints _, _, rfl, ?_⟩
        rw [eqv_lists]
        have hI : S6.I6 (toldW b) = S6.I6 (S6.mets (toldW b)) ↔ toldW b = S6.mets (toldW b) := ⟨fun e => by
          exact I6_inj e, fun e => by rw [← e]⟩
        by_cases hst : CM.strictB (toldW b) = true
        · refine ifN (by rw [decide_eq_true (hI.mpr ((mets_strict _).mpr hst))]; decide) ?_
          refine ⟨_, rfl, k _ D s4 hHD ?_⟩
          refine hD2.trans ?_
          rw [toldW_all hall]
          have : CM.waysOk b = true := by unfold CM.waysOk; rw [hall, ← toldW_all hall, hst]; rfl
          unfold CM.waysV
          rw [if_pos this]
        · refine ifP (by rw [decide_eq_false (fun e => hst ((mets_strict _).mp (hI.mp e)))]; rfl) ?_
          refine no _ [] s4 ?_
          unfold CM.waysV
          rw [if_neg]
          unfold CM.waysOk
          rw [hall, ← toldW_all hall]
          simpa using hst
      · refine ifP (ne_int (fun e => hall ((toldW_len b).mp (by rw [List.length_map, List.length_map] at e; omega)))) ?_
        refine iteT (no H' [] s12 ?_)
        unfold CM.waysV
        rw [if_neg]
        unfold CM.waysOk
        rw [Bool.not_eq_true] at hall
        rw [hall]; simp
end
end CR
set_option Elab.async false
set_option linter.all false
set_option maxRecDepth 100000
set_option maxHeartbeats 2000000
namespace CR
open PySem PySem.Spec PyProof.Rows L2
def ToolAt (H : Hp) (kv : Key × V) (t : Jo.Tool) : Prop := kv.1 = Sum.inl (t.cut : Int) ∧ ∃ tp wl, kv.2 = .ref tp ∧ H tp = some (.tup [.ref wl, .int (t.reach : Int)]) ∧ H wl = some (.lst (t.ways.map nV))
def ToolsAt (H : Hp) (kvs : List (Key × V)) (l : List Jo.Tool) : Prop := Paired (ToolAt H) kvs l
theorem ToolsAt.step {H H' : Hp} {kvs : List (Key × V)} {l : List Jo.Tool} (h : ToolsAt H kvs l) (e : ∀ b o, H b = some o → (∀ q, o ≠ .dK q) → H' b = some o) : ToolsAt H' kvs l :=
  Paired.mapP h fun kv t ⟨h1, tp, wl, h2, h3, h4⟩ => ⟨h1, tp, wl, h2, e _ _ h3 (fun q z => by cases z), e _ _ h4 (fun q z => by cases z)⟩
theorem ToolsAt.same {H H' : Hp} {kvs : List (Key × V)} {l : List Jo.Tool} (h : ToolsAt H kvs l) (e : Same H H') : ToolsAt H' kvs l := h.step fun b o q _ => e b o q
theorem key_eq {n m : Nat} : (Sum.inl (n : Int) : Key) = Sum.inl (m : Int) ↔ n = m := ⟨fun e => by
  have : (n : Int) = (m : Int) := by injection e
  omega, fun e => by rw [e]⟩
theorem tools_find {H : Hp} {n : Nat} : ∀ {kvs : List (Key × V)} {l : List Jo.Tool}, ToolsAt H kvs l → (l.find? (fun t => t.cut == n) = none ∧ valV kvs (Sum.inl (n : Int)) = none) ∨ ∃ t tp wl, l.find? (fun t => t.cut == n) = some t ∧ valV kvs (Sum.inl (n : Int)) = some (.ref tp) ∧ H tp = some (.tup [.ref wl, .int (t.reach : Int)]) ∧ H wl = some (.lst (t.ways.map nV))
  | _, _, .nil => .inl ⟨rfl, rfl⟩
  | kv :: kvs, t :: l, .cons h r => by
    obtain ⟨h1, tp, wl, h2, h3, h4⟩ := h
    by_cases q : t.cut = n
    · refine .inr ⟨t, tp, wl, ?_, ?_, h3, h4⟩
      · rw [List.find?_cons, show (t.cut == n) = true from beq_iff_eq.mpr q]
      · rw [valV_pos (by rw [h1]; exact key_eq.mpr q), h2]
    · have e1 : (t :: l).find? (fun t => t.cut == n) = l.find? (fun t => t.cut == n) := by
        rw [List.find?_cons, show (t.cut == n) = false from beq_eq_false_iff_ne.mpr q]
      have e2 : valV (kv :: kvs) (Sum.inl (n : Int)) = valV kvs (Sum.inl (n : Int)) := valV_neg (by rw [h1]; exact fun z => q (key_eq.mp z))
      rw [e1, e2]
      exact tools_find r
theorem any_find {n : Nat} (l : List Jo.Tool) : l.any (fun t => t.cut == n) = (l.find? (fun t => t.cut == n)).isSome := by
  rw [Bool.eq_iff_iff, List.find?_isSome, List.any_eq_true]
def Ext1 (t : Addr) (H H' : Hp) : Prop := ∀ b o, H b = some o → b ≠ t → H' b = some o
theorem Ext1.of {t : Addr} {H H' : Hp} (e : Same H H') : Ext1 t H H' := fun b o h _ => e b o h
theorem Ext1.trans {t : Addr} {H H1 H2 : Hp} (a : Ext1 t H H1) (b : Ext1 t H1 H2) : Ext1 t H H2 := fun x o h n => b x o (a x o h n) n
theorem Ext1.free {t : Addr} {H H' : Hp} (e : Ext1 t H H') {q : Addr} (hq : H' q = none) (ht : ∃ o, H' t = some o) : H q = none := by
  cases z : H q with
  | none => rfl
  | some o =>
    by_cases q1 : q = t
    · obtain ⟨o', h'⟩ := ht; rw [q1, h'] at hq; cases hq
    · rw [e _ _ z q1] at hq; cases hq
section
variable {P : Program} {w : World} {K : PySem.W.Frag} {mg : Str → Option Value} {base : Heap} {C : Addr}
def spToolL (K : PySem.W.Frag) (C : Addr) : Sp := fun vs H Q _ => ∃ (a p ct tl : Addr) (ws : List BYs) (B : List Nat) (Cs : List Jo.Box) (kvs : List (Key × V)) (l : List Jo.Tool), vs = [.ref a, .ref p] ∧ IsBB K H a ws ∧ PlanAt C H p ct tl B Cs kvs ∧ ToolsAt H kvs l ∧ Cs.length ≤ 64 ∧ l.length ≤ 20001 ∧
  ∀ H', Ext1 tl H H' → (∀ x, CM.toolW ws = some x → CM.whyT Cs.length l ws = 0 → ∃ kvs', PlanAt C H' p ct tl B Cs kvs' ∧ ToolsAt H' kvs' (l ++ [x])) → (CM.whyT Cs.length l ws ≠ 0 → PlanAt C H' p ct tl B Cs kvs ∧ ToolsAt H' kvs l) → Q (.int (CM.whyT Cs.length l ws : Nat)) H'
theorem scToolL : FnScope ["words", "plan", "tool", "cut_number"] ["words", "plan"] (defScope sToolL) := ⟨rfl, rfl, rfl, by decide +kernel, rfl, by decide +kernel, by decide +kernel⟩
theorem ok_toolL (T : Txt K mg) (TC : Pl K mg C) : Fd P w K mg base 4 "read_tool_line" ["words", "plan"] (spToolL K C) := by
  obtain ⟨f, fd, hm, F⟩ := T.dToolL.ex
  refine ⟨f, fd, hm, F.kp, F.binds (fun _ _ _ _ _ _ us hl => match us, hl with | [_, _], _ => rfl), F.ok scToolL (fun vs H Q E h => ?_) (fun cdv A outer s H vs Q E hr h => ?_)⟩
  · obtain ⟨a, p, ct, tl, ws, B, Cs, kvs, l, rfl, _⟩ := h; rfl
  · obtain ⟨a, p, ct, tl, ws, B, Cs, kvs, l, rfl, hW, hP, hTl, h64, hll, k⟩ := h
    have hu := hu_of hr
    refine ⟨_, pss_cons (ps_set (i := 2) scToolL.nd rfl (Or.inl rfl) (pe_fn (ok_tool T (ok_waysOf T)) hr rfl (pa_cons (pv 0) pa_nil)))
      (pss_cons (ps_if (pt_not (pt_truth (pv 2) (fun _ => rfl))) (pss_one (ps_ret (pe_gi rfl T.notFormed))) pss_nil)
      (pss_cons (ps_set (i := 3) scToolL.nd rfl (Or.inl rfl) (pe_ix ix_tup (pv 2) pe_int (fun _ _ => rfl)))
      (pss_cons (ps_if (pt_cmpR op_ge (pv 3) (pe_len1 T.len (pe_fld (pv 1) rfl)) (nomark _)) (pss_one (ps_ret (pe_gi rfl T.noCut))) pss_nil)
      (pss_cons (ps_if (pt_cmp (pc_din hu (pv 3) (pe_fld (pv 1) rfl))) (pss_one (ps_ret (pe_gi rfl T.told))) pss_nil)
      (pss_cons (ps_dput hu (pe_fld (pv 1) rfl) (pv 3) (pe_tup (pa_cons (pe_ix ix_tup (pv 2) pe_int (fun _ _ => rfl)) (pa_cons (pe_ix ix_tup (pv 2) pe_int (fun _ _ => rfl)) pa_nil))) rfl)
      (pss_one (ps_ret (pe_gi rfl T.right)))))))), ?_⟩
    refine ⟨_, rfl, a, ws, rfl, hW, fun e H1 tp s1 z1 h1 => ?_, fun t e H1 tp wl s1 z1 z2 h1 h2 => ?_⟩
    · have hx : CM.toolW ws = none := by
        rw [CM.toolV_eq] at e
        cases q : CM.toolW ws with
        | none => rfl
        | some t => rw [q] at e; cases e
      have ew : CM.whyT Cs.length l ws = 1 := by unfold CM.whyT; rw [hx]
      refine ⟨_, rfl, _, .inr (.inl ⟨_, SqT.of h1, rfl⟩), iteT ?_⟩
      have := k H1 (Ext1.of s1) (fun x hx' => by rw [hx] at hx'; cases hx') fun _ => ⟨hP.same s1, hTl.same s1⟩
      rw [ew] at this
      exact this
    · obtain ⟨x, hx, rfl⟩ : ∃ x, CM.toolW ws = some x ∧ t = (min (x.cut : Int) 1000, x.ways, (x.reach : Int)) := by
        rw [CM.toolV_eq] at e
        cases q : CM.toolW ws with
        | none => rw [q] at e; cases e
        | some x => rw [q] at e; exact ⟨x, rfl, (Option.some.inj e).symm⟩
      have ew : CM.whyT Cs.length l ws = if Cs.length ≤ x.cut then 3 else if l.any (fun (s : Jo.Tool) => s.cut == x.cut) = true then 4 else 0 := by unfold CM.whyT; rw [hx]
      have P1 := hP.same s1
      have T1 := hTl.same s1
      obtain ⟨dx, rf, bk, as, g1, g2, g3, g4, g5, g6, g7, g8⟩ := P1.ex
      have hal : (as.map V.ref).length = Cs.length := by rw [List.length_map, g8.length]
      refine ⟨_, rfl, _, .inr (.inl ⟨_, SqT.of h1, rfl⟩), iteF ?_⟩
      refine ⟨_, rfl, tp, _, _, _, rfl, rfl, SqT.of h1, at_of (j := 0) rfl rfl, ?_⟩
      refine ⟨_, rfl, _, rfl, p, C, dx, _, _, rfl, g1, TC.cl, TC.nC, pf_C .., ct, _, rfl, .inl (SqL.of g4), _, _, rfl, rfl, _, rfl, ?_⟩
      rw [hal]
      by_cases hN : Cs.length ≤ x.cut
      · refine ifP (decide_eq_true (show (Cs.length : Int) ≤ min (x.cut : Int) 1000 by omega)) ?_
        have e3 : CM.whyT Cs.length l ws = 3 := by rw [ew, if_pos hN]
        have := k H1 (Ext1.of s1) (fun y _ z => by rw [e3] at z; cases z) fun _ => ⟨P1, T1⟩
        rw [e3] at this
        exact this
      · refine ifN (by rw [decide_eq_false (show ¬ (Cs.length : Int) ≤ min (x.cut : Int) 1000 by omega)]; decide) ?_
        have hmin : min (x.cut : Int) 1000 = (x.cut : Int) := by omega
        refine ⟨_, rfl, _, rfl, p, C, dx, _, _, rfl, g1, TC.cl, TC.nT, pf_T .., tl, _, rfl, DGet.k (k := Sum.inl (min (x.cut : Int) 1000)) g5, _, rfl, ?_⟩
        rw [hmin]
        rcases tools_find (n := x.cut) T1 with ⟨f1, f2⟩ | ⟨y, tp', wl', f1, f2, _, _⟩
        · have e0 : CM.whyT Cs.length l ws = 0 := by
            rw [ew, if_neg hN, any_find, f1]; rfl
          rw [f2]
          refine iteF ?_
          refine ⟨_, rfl, tp, _, _, _, rfl, rfl, SqT.of h1, at_of (j := 1) rfl rfl, _, rfl, tp, _, _, _, rfl, rfl, SqT.of h1, at_of (j := 2) rfl rfl, by show 2 ≤ sizeLine; decide, fun np hnp => ?_⟩
          have sN : Same H1 (L2.upd H1 np (.tup [.ref wl, .int (x.reach : Int)])) := Same.new hnp
          have P2 := P1.same sN
          have T2 := T1.same sN
          have hkl : kvs.length = l.length := hTl.length
          refine ⟨_, rfl, p, C, dx, _, _, rfl, sN _ _ g1, TC.cl, TC.nT, pf_T .., _, rfl, tl, _, rfl, DPut.k (k := Sum.inl (x.cut : Int)) (sN _ _ g5) (by rw [hkl, sizeLine_eq]; omega), ?_⟩
          rw [putK_new _ f2]
          generalize hH2 : L2.upd H1 np (.tup [.ref wl, .int (x.reach : Int)]) = H2 at P2 T2 sN
          have hnp2 : H2 np = some (.tup [.ref wl, .int (x.reach : Int)]) := by rw [← hH2, upd_same]
          have x3 : Ext1 tl H2 (L2.upd H2 tl (.dK (kvs ++ [(Sum.inl (x.cut : Int), V.ref np)]))) := fun b o h n => by rw [upd_ne n]; exact h
          have notl : ∀ b o, H2 b = some o → (∀ q, o ≠ .dK q) → b ≠ tl := fun b o h hn z => by
            rw [z, sN _ _ g5] at h
            exact hn _ (Option.some.inj h).symm
          have e3 : ∀ b o, H2 b = some o → (∀ q, o ≠ .dK q) → (L2.upd H2 tl (.dK (kvs ++ [(Sum.inl (x.cut : Int), V.ref np)]))) b = some o := fun b o h hn => x3 b o h (notl b o h hn)
          have := k _ ((Ext1.of (s1.trans sN)).trans x3) (fun y hy _ => ?_) (fun z => absurd e0 z)
          · rw [e0] at this
            exact this
          · rw [hx] at hy
            cases hy
            refine ⟨_, ⟨dx, rf, bk, as, e3 _ _ (sN _ _ g1) (fun q z => by cases z), e3 _ _ (sN _ _ g2) (fun q z => by cases z), e3 _ _ (sN _ _ g3) (fun q z => by cases z), e3 _ _ (sN _ _ g4) (fun q z => by cases z), upd_same, g6, g7, Paired.mapP g8 fun a' b' z => ⟨e3 _ _ (sN _ _ z.1) (fun q z => by cases z), z.2⟩⟩, ?_⟩
            refine Paired.snoc (T2.step e3) ⟨rfl, np, wl, rfl, e3 _ _ hnp2 (fun q z => by cases z), e3 _ _ (sN _ _ h2) (fun q z => by cases z)⟩
        · have e4 : CM.whyT Cs.length l ws = 4 := by
            rw [ew, if_neg hN, any_find, f1]; rfl
          rw [f2]
          refine iteT ?_
          have := k H1 (Ext1.of s1) (fun y _ z => by rw [e4] at z; cases z) fun _ => ⟨P1, T1⟩
          rw [e4] at this
          exact this
def spTools (K : PySem.W.Frag) (C : Addr) : Sp := fun vs H Q _ => ∃ (a p ct tl : Addr) (u : BYs) (B : List Nat) (pt : Jo.Part), vs = [.ref a, .ref p] ∧ IsB K H a u ∧ PlanAt C H p ct tl B pt.cuts [] ∧ pt.cuts.length ≤ 64 ∧
  ∀ (H' : Hp) (q : Addr), Ext1 tl H H' → H q = none → H' q = some (.lst ((faultOf (Jo.readTools pt u)).map V.int)) →
    (∃ kvs l, PlanAt C H' p ct tl B pt.cuts kvs ∧ ToolsAt H' kvs l ∧ ∀ l', Jo.readTools pt u = .ok l' → l' = l ∧ ∀ t ∈ l, CG.TOk t) → Q (.ref q) H'
theorem scTools : FnScope ["text", "plan", "number", "words", "why"] ["text", "plan"] (defScope sTools) := ⟨rfl, rfl, rfl, by decide +kernel, rfl, by decide +kernel, by decide +kernel⟩
theorem ok_tools (T : Txt K mg) (TC : Pl K mg C) : Fd P w K mg base 5 "read_tools" ["text", "plan"] (spTools K C) := by
  obtain ⟨f, fd, hm, F⟩ := T.dTools.ex
  refine ⟨f, fd, hm, F.kp, F.binds (fun _ _ _ _ _ _ us hl => match us, hl with | [_, _], _ => rfl), F.ok scTools (fun vs H Q E h => ?_) (fun cdv A outer s H vs Q E hr h => ?_)⟩
  · obtain ⟨a, p, ct, tl, u, B, pt, rfl, _⟩ := h; rfl
  · obtain ⟨a, p, ct, tl, u, B, pt, rfl, hB, hP, h64, k⟩ := h
    refine ⟨_, pss_cons (ps_for PassesOwn.never rfl (pi_enum rfl T.enum (pa_cons (pe_fn (ok_lines T) (hr.mono (by decide)) rfl (pa_cons (pv 0) pa_nil)) pa_nil)) (pg_tup rfl (pgs_cons (pg_name (i := 2) scTools.nd rfl (Or.inl rfl)) (pgs_cons (pg_name (i := 3) scTools.nd rfl (Or.inl rfl)) pgs_nil)))
        (pss_cons (ps_set (i := 4) scTools.nd rfl (Or.inl rfl) (pe_fn (ok_toolL T TC) hr rfl (pa_cons (pv 3) (pa_cons (pv 1) pa_nil))))
        (pss_one (ps_if (pt_cmpR op_ne (pv 4) (pe_gi rfl T.right) (nomark _)) (pss_one (ps_ret (pe_lst (pa_cons (pv 2) (pa_cons (pv 4) pa_nil))))) pss_nil))))
      (pss_one (ps_ret (pe_lst pa_nil))), ?_⟩
    refine ⟨_, rfl, a, u, rfl, hB, fun H1 L as s1 hL0 hL1 prs hlen => ?_⟩
    have hP1 := hP.same s1
    have hal := prs.length
    have htl : ∃ o, H tl = some o := ⟨_, hP.t⟩
    have nLt : L ≠ tl := free_ne hL0 htl
    refine ⟨L, _, rfl, SqL.of hL1, for_enum (K := K) (xs := as.map V.ref) (fun i σ H' => ∃ (v2 v3 v4 : Option V) (l : List Jo.Tool) (kvs : List (Key × V)), σ = [some (.ref a), some (.ref p), v2, v3, v4] ∧ Ext1 tl H1 H' ∧ CM.TRd pt u i l ∧ PlanAt C H' p ct tl B pt.cuts kvs ∧ ToolsAt H' kvs l)
      ⟨none, none, none, [], [], rfl, Ext1.of (Same.refl _), CM.TRd.zero pt u, hP1, .nil⟩ (fun i σ H' _ ⟨_, _, _, _, _, _, x1, _⟩ => SqL.of (x1 _ _ hL1 nLt)) ?_ ?_⟩
    · rintro i x σ H' Tp hx ⟨v2, v3, v4, l, kvs, rfl, x1, rd, hP2, hT2⟩ hTp
      obtain ⟨c, hc, rfl⟩ := ref_at hx
      obtain ⟨ws, hws, nb⟩ := paired_get prs hc
      have hi : i < (CM.wordLines u).length := (List.getElem?_eq_some_iff.mp hws).1
      have sT : Same H' (L2.upd H' Tp (.tup [.int (i : Nat), .ref c])) := Same.new hTp
      have nb2 : IsBB K (L2.upd H' Tp (.tup [.int (i : Nat), .ref c])) c ws := (nb.step fun b o h0 h1 => sT _ _ (x1 b o h1 (free_ne h0 htl))).isBB
      refine ⟨_, rfl, _, rfl, c, p, ct, tl, ws, B, pt.cuts, kvs, l, rfl, nb2, hP2.same sT, hT2.same sT, h64, by have := rd.len; omega, fun H3 x3 k1 k2 => ?_⟩
      have x13 : Ext1 tl H1 H3 := (x1.trans (Ext1.of sT)).trans x3
      refine ⟨_, rfl, rfl, _, rfl, ?_⟩
      by_cases hy : CM.whyT pt.cuts.length l ws = 0
      · refine ifN (eq_int' (by rw [hy]; rfl)) ?_
        obtain ⟨y, hy1, hy2⟩ := rd.step hws hy
        obtain ⟨kvs', q1, q2⟩ := k1 y hy1 hy
        exact ⟨_, _, _, l ++ [y], kvs', rfl, x13, hy2, q1, q2⟩
      · refine ifP (ne_int (by omega)) ?_
        refine ⟨_, rfl, _, rfl, by show 2 ≤ sizeLine; decide, fun q hq => ?_⟩
        have e := rd.bad hws hy
        obtain ⟨P3, T3⟩ := k2 hy
        have hq1 : H q = none := s1.free (x13.free hq ⟨_, P3.t⟩)
        refine k _ q (fun b o h1 h2 => ?_) hq1 (by rw [upd_same, e]; rfl) ⟨_, _, P3.same (Same.new hq), T3.same (Same.new hq), fun l' e' => by rw [e] at e'; cases e'⟩
        rw [upd_ne (ne_of_none h1 hq1)]
        exact x13 _ _ (s1 _ _ h1) h2
    · rintro σ H' ⟨v2, v3, v4, l, kvs, rfl, x1, rd, hP2, hT2⟩
      refine ⟨Nat.zero_le _, fun q hq => ?_⟩
      rw [List.length_map, hal] at rd
      have e1 := rd.fin
      have hq1 : H q = none := s1.free (x1.free hq ⟨_, hP2.t⟩)
      refine k _ q (fun b o h1 h2 => ?_) hq1 (by rw [upd_same, e1]; rfl) ⟨kvs, l, hP2.same (Same.new hq), hT2.same (Same.new hq), fun l' e' => ?_⟩
      · rw [upd_ne (ne_of_none h1 hq1)]
        exact x1 _ _ (s1 _ _ h1) h2
      · rw [e1] at e'
        cases e'
        exact ⟨rfl, rd.ok⟩
end
end CR
set_option Elab.async false
set_option linter.all false
set_option maxRecDepth 100000
set_option maxHeartbeats 2000000
namespace CR
open PySem PySem.Spec PyProof.Rows L2
structure FullP (C : Addr) (H : Hp) (p : Addr) (pt : Jo.Part) (l : List Jo.Tool) : Prop where
  ex : ∃ ct tl kvs, PlanAt C H p ct tl [pt.w, pt.d, pt.h] pt.cuts kvs ∧ ToolsAt H kvs l
  pok : CM.POk pt
  tok : ∀ t ∈ l, CG.TOk t
theorem FullP.same {C : Addr} {H H' : Hp} {p : Addr} {pt : Jo.Part} {l : List Jo.Tool} (h : FullP C H p pt l) (e : Same H H') : FullP C H' p pt l :=
  let ⟨ct, tl, kvs, h1, h2⟩ := h.ex; ⟨⟨ct, tl, kvs, h1.same e, h2.same e⟩, h.pok, h.tok⟩
def RefAt (C : Addr) (H : Hp) (p : Addr) (r : List Int) : Prop := ∃ dx rf bk ct tl, H p = some (.ins C dx (pf rf bk ct tl)) ∧ H rf = some (.lst (r.map V.int))
theorem upd_none {H : Hp} {a b : Addr} {o : HO} (h : L2.upd H a o b = none) : b ≠ a ∧ H b = none := by
  by_cases e : b = a
  · rw [e, upd_same] at h; cases h
  · rw [upd_ne e] at h; exact ⟨e, h⟩
section
variable {P : Program} {w : World} {K : PySem.W.Frag} {mg : Str → Option Value} {base : Heap} {C : Addr}
def spTexts (K : PySem.W.Frag) (C : Addr) : Sp := fun vs H Q _ => ∃ (a b : Addr) (t u : BYs), vs = [.ref a, .ref b] ∧ IsB K H a t ∧ IsB K H b u ∧
  (∀ r, CM.told t u = .error r → ∀ (H' : Hp) (p : Addr), Same H H' → H p = none → RefAt C H' p r → Q (.ref p) H') ∧
  (∀ pt l, CM.told t u = .ok (pt, l) → ∀ (H' : Hp) (p : Addr), Same H H' → H p = none → FullP C H' p pt l → Q (.ref p) H')
theorem scTexts : FnScope ["part", "tools", "plan", "fault"] ["part", "tools"] (defScope sTexts) := ⟨rfl, rfl, rfl, by decide +kernel, rfl, by decide +kernel, by decide +kernel⟩
theorem ok_texts (T : Txt K mg) (TC : Pl K mg C) : Fd P w K mg base 6 "read_texts" ["part", "tools"] (spTexts K C) := by
  obtain ⟨f, fd, hm, F⟩ := T.dTexts.ex
  obtain ⟨fI, fdI, M, FI⟩ := TC.ini
  have bI : Binds K fdI ["self"] [] := FI.binds (fun _ _ _ _ _ _ us hl => match us, hl with | [_], _ => rfl)
  have GI : FnOk P w K mg base CX0 1 fI fdI ["self"] (spInit C) := ok_init FI TC
  refine ⟨f, fd, hm, F.kp, F.binds (fun _ _ _ _ _ _ us hl => match us, hl with | [_, _], _ => rfl), F.ok scTexts (fun vs H Q E h => ?_) (fun cdv A outer s H vs Q E hr h => ?_)⟩
  · obtain ⟨a, b, t, u, rfl, _⟩ := h; rfl
  · obtain ⟨a, b, t, u, rfl, hA, hB, kE, kO⟩ := h
    refine ⟨_, pss_cons (ps_set (i := 2) scTexts.nd rfl (Or.inl rfl) (pe_make0 M GI (hr.mono (by decide)) rfl TC.mgC bI .nil pass0))
      (pss_cons (ps_if (PW.pt (pw_or (pt_cmpR op_gt (pe_len1 T.len (pv 0)) (pe_gi rfl T.bytes) (nomark _)) (pw_or1 (pt_cmpR op_gt (pe_len1 T.len (pv 1)) (pe_gi rfl T.bytes) (nomark _))))) (pss_cons (ps_fld (pv 2) (pe_lst (pa_cons (pe_gi rfl T.tooLong) pa_nil)) rfl) (pss_one (ps_ret (pv 2)))) pss_nil)
      (pss_cons (ps_set (i := 3) scTexts.nd rfl (Or.inl rfl) (pe_fn (ok_part T TC) hr rfl (pa_cons (pv 0) (pa_cons (pv 2) pa_nil))))
      (pss_cons (ps_if (pt_truth (pv 3) (fun _ => rfl)) (pss_cons (ps_fld (pv 2) (pe_lst (pa_cons (pe_gi rfl T.faulty) (pa_cons (pe_ix ix_list (pv 3) pe_int (fun _ _ => rfl)) (pa_cons (pe_ix ix_list (pv 3) pe_int (fun _ _ => rfl)) pa_nil)))) rfl) (pss_one (ps_ret (pv 2)))) pss_nil)
      (pss_cons (ps_set (i := 3) scTexts.nd rfl (Or.inl rfl) (pe_fn (ok_tools T TC) hr rfl (pa_cons (pv 1) (pa_cons (pv 2) pa_nil))))
      (pss_cons (ps_if (pt_truth (pv 3) (fun _ => rfl)) (pss_one (ps_fld (pv 2) (pe_lst (pa_cons (pe_gi rfl T.faulty) (pa_cons (pe_ix ix_list (pv 3) pe_int (fun _ _ => rfl)) (pa_cons (pe_op op_add (pe_ix ix_list (pv 3) pe_int (fun _ _ => rfl)) (pe_gi rfl T.mark)) pa_nil)))) rfl)) pss_nil)
      (pss_one (ps_ret (pv 2)))))))), ?_⟩
    intro x dx nx ndx nex
    refine ⟨x, dx, rfl, upd_same, fun H1 ct tl P1 z1 z2 k1 => ⟨rfl, ?_⟩⟩
    have s1 : Same H H1 := Same.made nx ndx k1
    have hct : H ct = none := (upd_none (upd_none z1).2).2
    have htl : H tl = none := (upd_none (upd_none z2).2).2
    -- a refusal is put in
    have put : ∀ (H2 : Hp) (dx' rf bk q : Addr) (r : List Int), Same H H2 → H2 x = some (.ins C dx' (pf rf bk ct tl)) → H2 q = some (.lst (r.map V.int)) → RefAt C (L2.upd H2 x (.ins C dx' (putF "refusal" (.ref q) (pf rf bk ct tl)))) x r ∧ Same H (L2.upd H2 x (.ins C dx' (putF "refusal" (.ref q) (pf rf bk ct tl)))) := fun H2 dx' rf bk q r s2 h1 h2 =>
      ⟨⟨dx', q, bk, ct, tl, by rw [upd_same, put_R], by rw [upd_ne (ne_of h2 h1 (by intro z; cases z))]; exact h2⟩, Same.upd s2 nx⟩
    refine ⟨_, rfl, a, _, rfl, .inl (hA.same s1).1, _, _, rfl, rfl, _, rfl, ?_⟩
    obtain ⟨dx1, rf1, bk1, as1, w1, _⟩ := P1.ex
    have long : (16384 < t.length ∨ 16384 < u.length) → ∀ q, H1 q = none → Q (.ref x) (L2.upd (L2.upd H1 q (.lst [V.int (-2)])) x (.ins C dx1 (putF "refusal" (.ref q) (pf rf1 bk1 ct tl)))) := fun hl q hq => by
      have e : CM.told t u = .error [-2] := by unfold CM.told; rw [if_pos hl]
      have sq := Same.upd (o := HO.lst [V.int (-2)]) s1 (s1.free hq)
      obtain ⟨r1, r2⟩ := put _ dx1 rf1 bk1 q [-2] sq ((Same.new hq) _ _ w1) upd_same
      exact kE _ e _ x r2 nx r1
    refine ite2 (fun e => iteT ⟨by show 1 ≤ sizeLine; decide, fun q hq => ⟨_, rfl, x, C, dx1, _, rfl, (Same.new hq) _ _ w1, TC.cl, TC.nR, by show 4 < 1000; decide, _, rfl, long ?_ q hq⟩⟩) fun e => ?_
    · left
      have : (16384 : Int) < ((t.map bV).length : Int) := of_decide_eq_true e
      rw [List.length_map] at this; omega
    refine ⟨_, rfl, b, _, rfl, .inl (hB.same s1).1, _, _, rfl, rfl, _, rfl, ite2 (fun e2 => ⟨by show 1 ≤ sizeLine; decide, fun q hq => ⟨_, rfl, x, C, dx1, _, rfl, (Same.new hq) _ _ w1, TC.cl, TC.nR, by show 4 < 1000; decide, _, rfl, long ?_ q hq⟩⟩) fun e2 => ?_⟩
    · right
      have : (16384 : Int) < ((u.map bV).length : Int) := of_decide_eq_true e2
      rw [List.length_map] at this; omega
    have hsh : ¬ (16384 < t.length ∨ 16384 < u.length) := by
      rintro (z | z)
      · exact e (decide_eq_true (by rw [List.length_map]; omega))
      · exact e2 (decide_eq_true (by rw [List.length_map]; omega))
    -- read_part
    refine ⟨_, rfl, _, rfl, a, x, ct, tl, t, rfl, hA.same s1, P1, fun H2 q x2 zq hq hpl => ?_⟩
    obtain ⟨B, Cs, P2, hpt⟩ := hpl
    have s2 : Same H H2 := fun b' o h => x2 b' o (s1 _ _ h) (ne_of_none h nx) (ne_of_none h hct)
    refine ⟨_, rfl, _, .inl ⟨_, SqL.of hq, rfl⟩, ?_⟩
    cases er : Jo.readPart t with
    | error e3 =>
      rw [er] at hq
      have et : CM.told t u = .error [-6, (e3.1 : Int), (e3.2 : Int)] := by unfold CM.told; rw [if_neg hsh, er]
      obtain ⟨dx', rf, bk, as, h1, _⟩ := P2.ex
      refine iteT ⟨_, rfl, q, _, _, _, rfl, rfl, SqL.of hq, at_of (j := 0) rfl rfl, _, rfl, q, _, _, _, rfl, rfl, SqL.of hq, at_of (j := 1) rfl rfl, by show 3 ≤ sizeLine; decide, fun r hr0 => ⟨_, rfl, x, C, dx', _, rfl, (Same.new hr0) _ _ h1, TC.cl, TC.nR, by show 4 < 1000; decide, _, rfl, ?_⟩⟩
      have sq := Same.upd (o := HO.lst [V.int (-6), V.int (e3.1 : Int), V.int (e3.2 : Int)]) s2 (s2.free hr0)
      obtain ⟨r1, r2⟩ := put _ dx' rf bk r [-6, (e3.1 : Int), (e3.2 : Int)] sq ((Same.new hr0) _ _ h1) upd_same
      exact kE _ et _ x r2 nx r1
    | ok pt =>
      rw [er] at hq
      obtain ⟨rfl, rfl, pok⟩ := hpt pt er
      refine iteF ?_
      -- read_tools
      refine ⟨_, rfl, _, rfl, b, x, ct, tl, u, _, pt, rfl, hB.same s2, P2, pok.len, fun H3 q3 x3 zq3 hq3 htl3 => ?_⟩
      obtain ⟨kvs, l, P3, T3, hl3⟩ := htl3
      have s3 : Same H H3 := fun b' o h => x3 b' o (s2 _ _ h) (ne_of_none h htl)
      refine ⟨_, rfl, _, .inl ⟨_, SqL.of hq3, rfl⟩, ?_⟩
      cases eu : Jo.readTools pt u with
      | error e3 =>
        rw [eu] at hq3
        have et : CM.told t u = .error [-6, (e3.1 : Int), (e3.2 : Int) + 16] := by unfold CM.told; rw [if_neg hsh, er]; simp only []; rw [eu]
        obtain ⟨dx', rf, bk, as, h1, _⟩ := P3.ex
        refine iteT ⟨_, rfl, q3, _, _, _, rfl, rfl, SqL.of hq3, at_of (j := 0) rfl rfl, _, rfl, q3, _, _, _, rfl, rfl, SqL.of hq3, at_of (j := 1) rfl rfl, _, _, rfl, rfl, by show 3 ≤ sizeLine; decide, fun r hr0 => ⟨_, rfl, x, C, dx', _, rfl, (Same.new hr0) _ _ h1, TC.cl, TC.nR, by show 4 < 1000; decide, _, rfl, ?_⟩⟩
        have sq := Same.upd (o := HO.lst [V.int (-6), V.int (e3.1 : Int), V.int ((e3.2 : Int) + 16)]) s3 (s3.free hr0)
        obtain ⟨r1, r2⟩ := put _ dx' rf bk r [-6, (e3.1 : Int), (e3.2 : Int) + 16] sq ((Same.new hr0) _ _ h1) upd_same
        exact kE _ et _ x r2 nx r1
      | ok l' =>
        rw [eu] at hq3
        obtain ⟨rfl, tok⟩ := hl3 l' eu
        have et : CM.told t u = .ok (pt, l') := by unfold CM.told; rw [if_neg hsh, er]; simp only []; rw [eu]
        exact iteF ⟨_, rfl, kO _ _ et _ x s3 nx ⟨⟨ct, tl, kvs, P3, T3⟩, pok, tok⟩⟩
def Byte (z : Int) : Prop := 0 ≤ z ∧ z ≤ 255
theorem byte_V : ∀ {l : List Int}, (∀ z ∈ l, Byte z) → l.map V.int = (WqatddNeutral.bytes l).map bV
  | [], _ => rfl
  | z :: l, h => by
    have h0 := h z List.mem_cons_self
    show V.int z :: l.map V.int = bV (UInt8.ofNat z.toNat) :: (WqatddNeutral.bytes l).map bV
    rw [byte_V fun y hy => h y (List.mem_cons_of_mem _ hy)]
    congr 1
    unfold bV
    rw [UInt8.toNat_ofNat_of_lt' (by have := h0.1; have := h0.2; show z.toNat < 256; omega)]
    have := h0.1
    congr 1
    omega
theorem isB_of {K : PySem.W.Frag} {H : Hp} {a : Addr} {l : List Int} (h : SqL K H a (l.map V.int)) (hb : ∀ z ∈ l, Byte z) (hl : l.length ≤ 16500) : IsB K H a (WqatddNeutral.bytes l) := by
  rw [byte_V hb] at h
  refine ⟨h, ?_⟩
  unfold WqatddNeutral.bytes
  rw [List.length_map]; omega
structure Hand (K : PySem.W.Frag) (H : Hp) (a b : Addr) (part tools : List Int) : Prop where
  ha : SqL K H a (part.map V.int)
  hb : SqL K H b (tools.map V.int)
  ba : ∀ z ∈ part, Byte z
  bb : ∀ z ∈ tools, Byte z
  la : part.length ≤ 16500
  lb : tools.length ≤ 16500
end
end CR
set_option Elab.async false
set_option linter.all false
set_option maxRecDepth 100000
set_option maxHeartbeats 2000000
namespace CR
open PySem PySem.Spec PyProof.Rows L2
open PySem.W (Codec WData)
theorem len_ok {m : Nat} {l : List Int} (h : Codec.inLen 0 m l = true) : l.length ≤ m := (Codec.inNat_iff.mp h).2
theorem byte_ok {l : List Int} (h : l.all (Codec.inInt 0 255) = true) : ∀ z ∈ l, Byte z := fun z hz => Codec.inInt_iff.mp (List.all_eq_true.mp h z hz)
theorem hand_ok {K : PySem.W.Frag} {H : Hp} {a b : Addr} {l m : List Int} (ha : SqL K H a (l.map V.int)) (hb : SqL K H b (m.map V.int)) (h1 : (Codec.inLen 0 16500 l && l.all (Codec.inInt 0 255)) = true) (h2 : (Codec.inLen 0 16500 m && m.all (Codec.inInt 0 255)) = true) : Hand K H a b l m := by
  rw [Bool.and_eq_true] at h1 h2
  exact ⟨ha, hb, byte_ok h1.2, byte_ok h2.2, len_ok h1.1, len_ok h2.1⟩
end CR
namespace ST
def S : Nat → Nat
  | 0 => 0
  | n + 1 => 5 * S n + 1
theorem S_add (a : Nat) : ∀ b : Nat, S (a + b) = 5 ^ b * S a + S b
  | 0 => by simp [S]
  | b + 1 => by
    show 5 * S (a + b) + 1 = 5 ^ (b + 1) * S a + (5 * S b + 1)
    rw [S_add a b, Nat.pow_succ, Nat.mul_add, ← Nat.mul_assoc, Nat.mul_comm 5 (5 ^ b)]
    omega
def it (n i : Nat) : Nat := 5 ^ n * i + S n
theorem it_succ (n i : Nat) : it (n + 1) i = 5 * it n i + 1 := by
  unfold it
  show 5 ^ (n + 1) * i + (5 * S n + 1) = 5 * (5 ^ n * i + S n) + 1
  rw [Nat.pow_succ, Nat.mul_add, ← Nat.mul_assoc, Nat.mul_comm 5 (5 ^ n)]
  omega
theorem it_add (a b i : Nat) : it (a + b) i = 5 ^ b * it a i + S b := by
  unfold it
  rw [S_add, Nat.mul_add, ← Nat.mul_assoc, ← Nat.pow_add, Nat.add_comm b a]
  omega
theorem five_pow : ∀ k : Nat, ∃ c, 5 ^ 2 ^ k = 1 + 2 ^ (k + 2) * c
  | 0 => ⟨1, by decide⟩
  | k + 1 => by
    obtain ⟨c, hc⟩ := five_pow k
    refine ⟨c + 2 ^ (k + 1) * (c * c), ?_⟩
    have e : 5 ^ 2 ^ (k + 1) = 5 ^ 2 ^ k * 5 ^ 2 ^ k := by rw [← Nat.pow_add]; congr 1; rw [Nat.pow_succ]; omega
    rw [e, hc]
    have e1 : 2 ^ (k + 1 + 2) = 2 * 2 ^ (k + 2) := by rw [Nat.pow_succ 2 (k + 2), Nat.mul_comm]
    have e2 : 2 ^ (k + 2) = 2 * 2 ^ (k + 1) := by rw [Nat.pow_succ 2 (k + 1), Nat.mul_comm]
    rw [e1]
    generalize hA : 2 ^ (k + 2) = A at *
    generalize hB : 2 ^ (k + 1) = B at *
    -- (1 + A c)(1 + A c) = 1 + 2 A (c + B c c), A = 2 B
    have : (1 + A * c) * (1 + A * c) = 1 + 2 * A * c + A * c * (A * c) := by
      have h2 : 2 * A * c = A * c + A * c := by rw [Nat.mul_assoc, Nat.two_mul]
      rw [h2]
      generalize A * c = X
      rw [Nat.add_mul, Nat.one_mul, Nat.mul_add, Nat.mul_one]
      omega
    rw [this, Nat.mul_add]
    have e3 : 2 * A * (B * (c * c)) = A * c * (A * c) := by
      have : A * c * (A * c) = A * A * (c * c) := by rw [Nat.mul_mul_mul_comm]
      rw [this]
      have h2 : A * A = 2 * A * B := by
        rw [Nat.mul_comm 2 A, Nat.mul_assoc, ← e2]
      rw [h2, Nat.mul_assoc (2 * A) B]
    omega
theorem S_pow : ∀ k : Nat, ∃ b, S (2 ^ k) = 2 ^ k * (2 * b + 1)
  | 0 => ⟨0, by decide⟩
  | k + 1 => by
    obtain ⟨b, hb⟩ := S_pow k
    obtain ⟨c, hc⟩ := five_pow k
    have e : 2 ^ (k + 1) = 2 ^ k + 2 ^ k := by rw [Nat.pow_succ]; omega
    rw [show S (2 ^ (k + 1)) = S (2 ^ k + 2 ^ k) by rw [e], S_add, hc, hb]
    have e2 : 2 ^ (k + 2) = 2 * (2 * 2 ^ k) := by rw [Nat.pow_succ, Nat.pow_succ]; omega
    refine ⟨b + (2 ^ k * c) * (2 * b + 1), ?_⟩
    rw [e2, Nat.pow_succ]
    generalize 2 ^ k = A
    -- (1 + 4 A c) * (A m) + A m = 2 A (2 (b + A c m) + 1), m = 2 b + 1
    generalize hm : 2 * b + 1 = m
    have f1 : (1 + 2 * (2 * A) * c) * (A * m) = A * m + 4 * (A * c * (A * m)) := by
      rw [Nat.add_mul, Nat.one_mul]
      congr 1
      rw [show 2 * (2 * A) * c = 4 * (A * c) by rw [Nat.mul_assoc, Nat.mul_assoc, ← Nat.mul_assoc 2 2]]
      rw [Nat.mul_assoc]
    rw [f1]
    have f2 : A * 2 * (2 * (b + A * c * m) + 1) = 2 * (A * m) + 4 * (A * (A * c * m)) := by
      have : 2 * (b + A * c * m) + 1 = m + 2 * (A * c * m) := by omega
      rw [this, Nat.mul_add, Nat.mul_comm A 2, Nat.mul_assoc, Nat.mul_assoc 2 A]
      rw [show A * (2 * (A * c * m)) = 2 * (A * (A * c * m)) by rw [← Nat.mul_assoc, Nat.mul_comm A 2, Nat.mul_assoc]]
      omega
    rw [f2]
    have f3 : A * c * (A * m) = A * (A * c * m) := by
      rw [Nat.mul_assoc A c, Nat.mul_assoc A c m, ← Nat.mul_assoc c A m, Nat.mul_comm c A, Nat.mul_assoc A c m]
    rw [f3]
    omega
theorem covers (i : Nat) : ∀ (k j : Nat), ∃ n, n < 2 ^ k ∧ it n i % 2 ^ k = j % 2 ^ k
  | 0, j => ⟨0, by decide, by simp [Nat.mod_one]⟩
  | k + 1, j => by
    obtain ⟨n, hn, he⟩ := covers i k j
    have hp : 2 ^ (k + 1) = 2 * 2 ^ k := by rw [Nat.pow_succ, Nat.mul_comm]
    have pos : 0 < 2 ^ k := Nat.two_pow_pos k
    by_cases q : it n i % 2 ^ (k + 1) = j % 2 ^ (k + 1)
    · exact ⟨n, by omega, q⟩
    · refine ⟨n + 2 ^ k, by omega, ?_⟩
      obtain ⟨c, hc⟩ := five_pow k
      obtain ⟨b, hb⟩ := S_pow k
      rw [it_add, hc, hb]
      have e2 : 2 ^ (k + 2) = 2 * 2 ^ (k + 1) := by rw [Nat.pow_succ 2 (k + 1), Nat.mul_comm]
      -- = y + 2^k + 2^(k+1) * ..
      have f : (1 + 2 ^ (k + 2) * c) * it n i + 2 ^ k * (2 * b + 1) = it n i + 2 ^ k + 2 ^ (k + 1) * (2 * (c * it n i) + b) := by
        rw [e2, Nat.add_mul, Nat.one_mul, Nat.mul_add, Nat.mul_add, Nat.mul_one]
        have g1 : 2 * 2 ^ (k + 1) * c * it n i = 2 ^ (k + 1) * (2 * (c * it n i)) := by
          rw [Nat.mul_comm 2 (2 ^ (k + 1)), Nat.mul_assoc, Nat.mul_assoc]
        have g2 : 2 ^ k * (2 * b) = 2 ^ (k + 1) * b := by rw [hp, Nat.mul_comm 2 (2 ^ k), Nat.mul_assoc]
        rw [g1, g2]; omega
      rw [f, Nat.add_mul_mod_self_left]
      generalize hA : 2 ^ k = A at *
      rw [hp] at q ⊢
      -- y % A = j % A, y % 2A ≠ j % 2A
      have m1 : it n i % (2 * A) = it n i % A ∨ it n i % (2 * A) = it n i % A + A := by
        have h1 := Nat.mod_lt (it n i) (show 0 < 2 * A by omega)
        have h2 : it n i % (2 * A) % A = it n i % A := by rw [Nat.mul_comm, Nat.mod_mul_right_mod]
        by_cases z : it n i % (2 * A) < A
        · left; rw [Nat.mod_eq_of_lt z] at h2; exact h2
        · right
          have h3 : it n i % (2 * A) = (it n i % (2 * A) - A) + A := by omega
          rw [h3, Nat.add_mod_right, Nat.mod_eq_of_lt (by omega)] at h2
          omega
      have m2 : j % (2 * A) = j % A ∨ j % (2 * A) = j % A + A := by
        have h1 := Nat.mod_lt j (show 0 < 2 * A by omega)
        have h2 : j % (2 * A) % A = j % A := by rw [Nat.mul_comm, Nat.mod_mul_right_mod]
        by_cases z : j % (2 * A) < A
        · left; rw [Nat.mod_eq_of_lt z] at h2; exact h2
        · right
          have h3 : j % (2 * A) = (j % (2 * A) - A) + A := by omega
          rw [h3, Nat.add_mod_right, Nat.mod_eq_of_lt (by omega)] at h2
          omega
      have hlt := Nat.mod_lt (it n i) pos
      have hlj := Nat.mod_lt j pos
      rw [Nat.add_mod]
      rw [Nat.mod_eq_of_lt (show A < 2 * A by omega)]
      rcases m1 with m1 | m1 <;> rcases m2 with m2 | m2
      · exact absurd (by rw [m1, m2, he]) q
      · rw [m1, m2, he, Nat.mod_eq_of_lt (by omega)]
      · rw [m1, m2, he]
        rw [show j % A + A + A = j % A + 2 * A by omega, Nat.add_mod_right, Nat.mod_eq_of_lt (by omega)]
      · exact absurd (by rw [m1, m2, he]) q
end ST
set_option linter.all false
namespace ST
open PySem
def Up (xs : Array Nat) : Prop := ∀ i k, i < k → k < xs.size → xs.getD i 0 < xs.getD k 0
def Inn (xs : Array Nat) (j : Nat) : Prop := ∃ i, i < xs.size ∧ xs.getD i 0 = j
theorem getD_any {xs : Array Nat} {i : Nat} (h : i < xs.size) (a b : Nat) : xs.getD i a = xs.getD i b := by
  simp [Array.getD, h]
theorem go_spec {xs : Array Nat} (h : Up xs) (j : Nat) : ∀ (f lo hi : Nat), lo ≤ hi → hi ≤ xs.size → hi - lo ≤ f → (∀ i, i < lo → xs.getD i 0 < j) → (∀ i, hi ≤ i → i < xs.size → j ≤ xs.getD i 0) →
    SetTable.below.go xs j f lo hi ≤ xs.size ∧ (∀ i, i < SetTable.below.go xs j f lo hi → xs.getD i 0 < j) ∧ ∀ i, SetTable.below.go xs j f lo hi ≤ i → i < xs.size → j ≤ xs.getD i 0
  | 0, lo, hi, h1, h2, h3, h4, h5 => by
    have e : lo = hi := by omega
    unfold SetTable.below.go
    subst e
    exact ⟨h2, h4, h5⟩
  | f + 1, lo, hi, h1, h2, h3, h4, h5 => by
    unfold SetTable.below.go
    by_cases hlt : lo < hi
    · rw [if_pos hlt]
      dsimp only
      have hm : (lo + hi) / 2 < xs.size := by omega
      rw [getD_any hm j 0]
      by_cases q : xs.getD ((lo + hi) / 2) 0 < j
      · rw [if_pos q]
        refine go_spec h j f _ hi (by omega) h2 (by omega) (fun i hi' => ?_) h5
        by_cases z : i = (lo + hi) / 2
        · rw [z]; exact q
        · exact Nat.lt_trans (h i ((lo + hi) / 2) (by omega) hm) q
      · rw [if_neg q]
        refine go_spec h j f lo _ (by omega) (by omega) (by omega) h4 fun i hi' hs => ?_
        by_cases z : i = (lo + hi) / 2
        · rw [z]; omega
        · have := h ((lo + hi) / 2) i (by omega) hs
          omega
    · rw [if_neg hlt]
      have e : lo = hi := by omega
      subst e
      exact ⟨h2, h4, h5⟩
theorem below_spec {xs : Array Nat} (h : Up xs) (j : Nat) : SetTable.below xs j ≤ xs.size ∧ (∀ i, i < SetTable.below xs j → xs.getD i 0 < j) ∧ ∀ i, SetTable.below xs j ≤ i → i < xs.size → j ≤ xs.getD i 0 :=
  go_spec h j xs.size 0 xs.size (Nat.zero_le _) (Nat.le_refl _) (by omega) (fun i hi => absurd hi (by omega)) fun i h1 h2 => absurd h2 (by omega)
theorem below_eq {xs : Array Nat} (h : Up xs) {j r : Nat} (h1 : r ≤ xs.size) (h2 : ∀ i, i < r → xs.getD i 0 < j) (h3 : ∀ i, r ≤ i → i < xs.size → j ≤ xs.getD i 0) : SetTable.below xs j = r := by
  obtain ⟨b1, b2, b3⟩ := below_spec h j
  rcases Nat.lt_trichotomy (SetTable.below xs j) r with q | q | q
  · have a := h2 _ q
    have b := b3 _ (Nat.le_refl _) (by omega)
    omega
  · exact q
  · have a := b2 _ q
    have b := h3 _ (Nat.le_refl _) (by omega)
    omega
theorem get_iff {xs : Array Nat} {i j : Nat} : xs[i]? = some j ↔ i < xs.size ∧ xs.getD i 0 = j := by
  constructor
  · intro h
    obtain ⟨h1, h2⟩ := Array.getElem?_eq_some_iff.mp h
    exact ⟨h1, by simp [Array.getD, h1, h2]⟩
  · rintro ⟨h1, h2⟩
    rw [Array.getElem?_eq_getElem h1]
    simp [Array.getD, h1] at h2
    rw [h2]
theorem below_in {xs : Array Nat} (h : Up xs) {j : Nat} : xs[SetTable.below xs j]? = some j ↔ Inn xs j := by
  obtain ⟨b1, b2, b3⟩ := below_spec h j
  constructor
  · intro e
    obtain ⟨h1, h2⟩ := get_iff.mp e
    exact ⟨_, h1, h2⟩
  · rintro ⟨i, h1, h2⟩
    refine get_iff.mpr ?_
    have hb : SetTable.below xs j ≤ i := by
      by_cases z : i < SetTable.below xs j
      · have := b2 i z; omega
      · omega
    have hs : SetTable.below xs j < xs.size := by omega
    refine ⟨hs, ?_⟩
    have a := b3 _ (Nat.le_refl _) hs
    by_cases z : SetTable.below xs j = i
    · rw [z]; exact h2
    · have := h (SetTable.below xs j) i (by omega) h1
      omega
theorem below_zero {xs : Array Nat} (h : Up xs) : SetTable.below xs 0 = 0 := below_eq h (Nat.zero_le _) (fun i hi => absurd hi (by omega)) fun i _ _ => Nat.zero_le _
theorem below_next {xs : Array Nat} (h : Up xs) {i : Nat} (hi : i < xs.size) : SetTable.below xs (xs.getD i 0 + 1) = i + 1 := by
  refine below_eq h (by omega) (fun k hk => ?_) fun k hk hs => ?_
  · by_cases z : k = i
    · rw [z]; omega
    · have := h k i (by omega) hi; omega
  · have := h i k (by omega) hs; omega
theorem slot_empty {t : SetTable} (h : Up t.place) (hd : t.dummies = #[]) {j : Nat} (hn : ¬ Inn t.place j) : t.slot j = .empty := by
  unfold SetTable.slot
  dsimp only
  rw [if_neg (by rw [beq_iff_eq, below_in h]; exact hn), hd]
  rfl
theorem slot_live {t : SetTable} (h : Up t.place) {j : Nat} (hn : Inn t.place j) : ∃ i, t.slot j = .live i ∧ i < t.place.size := by
  unfold SetTable.slot
  dsimp only
  have q := (below_in h).mpr hn
  rw [if_pos (by rw [beq_iff_eq]; exact q)]
  exact ⟨_, rfl, (get_iff.mp q).1⟩
theorem ins_size {α : Type} (xs : Array α) (p : Nat) (x : α) : (SetTable.insertAt xs p x).size = xs.size + 1 := by
  rw [← Array.length_toList, (SetTable.insertAt_perm xs p x).length_eq]; simp
theorem ins_get (xs : Array Nat) {p : Nat} (x i : Nat) (hp : p ≤ xs.size) : (SetTable.insertAt xs p x).getD i 0 = if i < p then xs.getD i 0 else if i = p then x else xs.getD (i - 1) 0 := by
  rw [Array.getD_eq_getD_getElem?, ← Array.getElem?_toList, SetTable.toList_insertAt]
  rw [Array.getD_eq_getD_getElem?, Array.getD_eq_getD_getElem?, ← Array.getElem?_toList, ← Array.getElem?_toList]
  have hl : xs.toList.length = xs.size := Array.length_toList
  by_cases h1 : i < p
  · rw [if_pos h1, List.getElem?_append_left (by rw [List.length_take]; omega), List.getElem?_take, if_pos h1]
  · rw [if_neg h1, List.getElem?_append_right (by rw [List.length_take]; omega), List.length_take, Nat.min_eq_left (by omega)]
    by_cases h2 : i = p
    · rw [if_pos h2, h2]; simp
    · rw [if_neg h2, show i - p = (i - 1 - p) + 1 by omega, List.getElem?_cons_succ, List.getElem?_drop, show p + (i - 1 - p) = i - 1 by omega]
theorem put_up {xs : Array Nat} (h : Up xs) {j : Nat} (hn : ¬ Inn xs j) : Up (SetTable.insertAt xs (SetTable.below xs j) j) ∧ ∀ y, Inn (SetTable.insertAt xs (SetTable.below xs j) j) y ↔ y = j ∨ Inn xs y := by
  obtain ⟨b1, b2, b3⟩ := below_spec h j
  have b3' : ∀ i, SetTable.below xs j ≤ i → i < xs.size → j < xs.getD i 0 := fun i hi hs => by
    have := b3 i hi hs
    have : xs.getD i 0 ≠ j := fun e => hn ⟨i, hs, e⟩
    omega
  constructor
  · intro i k hik hk
    rw [ins_size] at hk
    rw [ins_get xs j i b1, ins_get xs j k b1]
    by_cases c1 : i < SetTable.below xs j
    · rw [if_pos c1]
      by_cases c2 : k < SetTable.below xs j
      · rw [if_pos c2]; exact h i k hik (by omega)
      · rw [if_neg c2]
        by_cases c3 : k = SetTable.below xs j
        · rw [if_pos c3]; exact b2 i c1
        · rw [if_neg c3]
          have a := b2 i c1
          have b := b3' (k - 1) (by omega) (by omega)
          omega
    · rw [if_neg c1, if_neg (by omega : ¬ k < SetTable.below xs j), if_neg (by omega : ¬ k = SetTable.below xs j)]
      by_cases c3 : i = SetTable.below xs j
      · rw [if_pos c3]; exact b3' (k - 1) (by omega) (by omega)
      · rw [if_neg c3]; exact h (i - 1) (k - 1) (by omega) (by omega)
  · intro y
    constructor
    · rintro ⟨i, hi, e⟩
      rw [ins_size] at hi
      rw [ins_get xs j i b1] at e
      by_cases c1 : i < SetTable.below xs j
      · rw [if_pos c1] at e; exact .inr ⟨i, by omega, e⟩
      · rw [if_neg c1] at e
        by_cases c2 : i = SetTable.below xs j
        · rw [if_pos c2] at e; exact .inl e.symm
        · rw [if_neg c2] at e; exact .inr ⟨i - 1, by omega, e⟩
    · rintro (e | ⟨i, hi, e⟩)
      · exact ⟨SetTable.below xs j, by rw [ins_size]; omega, by rw [ins_get xs j _ b1, if_neg (by omega), if_pos rfl]; exact e.symm⟩
      · by_cases c1 : i < SetTable.below xs j
        · exact ⟨i, by rw [ins_size]; omega, by rw [ins_get xs j i b1, if_pos c1]; exact e⟩
        · exact ⟨i + 1, by rw [ins_size]; omega, by rw [ins_get xs j (i + 1) b1, if_neg (by omega), if_neg (by omega)]; exact e⟩
end ST
set_option linter.all false
namespace ST
open PySem SetTable
structure Tab (t : SetTable) : Prop where
  up : Up t.place
  dum : t.dummies = #[]
  inb : ∀ j, Inn t.place j → j ≤ t.mask
  pow : ∃ k, t.mask + 1 = 2 ^ k
  room : t.place.size ≤ t.mask
  big : 7 ≤ t.mask
def iterA (t : SetTable) : Nat → Probe → Probe
  | 0, p => p
  | n + 1, p => iterA t n (t.advance p)
theorem iterA_add (t : SetTable) (a : Nat) : ∀ (b : Nat) (p : Probe), iterA t (b + a) p = iterA t a (iterA t b p)
  | 0, p => by rw [Nat.zero_add]; rfl
  | b + 1, p => by
    rw [Nat.add_right_comm]
    show iterA t (b + a) (t.advance p) = iterA t a (iterA t b (t.advance p))
    exact iterA_add t a b _
theorem adv_dummy {t : SetTable} {p : Probe} (h : p.dummy = none) : (t.advance p).dummy = none := by
  unfold SetTable.advance
  split
  · exact h
  · exact h
theorem go_finds {t : SetTable} (T : Tab t) (ha : Nat → Int) (h : Int) : ∀ (f : Nat) (p : Probe), p.dummy = none → (∃ m, m < f ∧ ¬ Inn t.place (iterA t m p).j) →
    (∃ j, SetTable.probe.go t ha h f p = some (.empty j none) ∧ ¬ Inn t.place j ∧ ∃ m, j = (iterA t m p).j) ∨ ∃ j i nx, SetTable.probe.go t ha h f p = some (.candidate j i nx) ∧ ha i = h ∧ i < t.place.size
  | 0, p, _, ⟨m, hm, _⟩ => absurd hm (by omega)
  | f + 1, p, hd, ⟨m, hm, hn⟩ => by
    unfold SetTable.probe.go
    by_cases q : Inn t.place p.j
    · obtain ⟨i, e, hi⟩ := slot_live T.up q
      rw [e]
      dsimp only
      by_cases z : ha i = h
      · rw [if_pos (by rw [beq_iff_eq]; exact z)]
        exact .inr ⟨p.j, i, t.advance p, rfl, z, hi⟩
      · rw [if_neg (by rw [beq_iff_eq]; exact z)]
        have hm0 : m ≠ 0 := fun e => hn (by rw [e]; exact q)
        obtain ⟨m', rfl⟩ : ∃ m', m = m' + 1 := ⟨m - 1, by omega⟩
        rcases go_finds T ha h f (t.advance p) (adv_dummy hd) ⟨m', by omega, hn⟩ with ⟨j, e1, e2, m2, e3⟩ | r
        · exact .inl ⟨j, e1, e2, m2 + 1, e3⟩
        · exact .inr r
    · rw [slot_empty T.up T.dum q]
      exact .inl ⟨p.j, by rw [hd], q, 0, rfl⟩
def baseP (mask i perturb : Nat) : Probe := { j := i, more := runEnd mask i - i, i, perturb, dummy := none }
theorem run_len (mask i : Nat) : runEnd mask i - i ≤ 9 := by unfold runEnd; split <;> omega
theorem run_le {mask i : Nat} (h : i ≤ mask) : runEnd mask i ≤ mask ∧ i ≤ runEnd mask i := by unfold runEnd; split <;> omega
theorem run_to (t : SetTable) : ∀ (m : Nat) (p : Probe), m ≤ p.more → iterA t m p = { p with j := p.j + m, more := p.more - m }
  | 0, p, _ => rfl
  | m + 1, p, h => by
    show iterA t m (t.advance p) = _
    have e : t.advance p = { p with j := p.j + 1, more := p.more - 1 } := by
      unfold SetTable.advance
      rw [if_pos (by omega)]
    rw [e, run_to t m _ (by show m ≤ p.more - 1; omega)]
    show ({ j := p.j + 1 + m, more := p.more - 1 - m, i := p.i, perturb := p.perturb, dummy := p.dummy } : Probe) = { j := p.j + (m + 1), more := p.more - (m + 1), i := p.i, perturb := p.perturb, dummy := p.dummy }
    rw [show p.j + 1 + m = p.j + (m + 1) by omega, show p.more - 1 - m = p.more - (m + 1) by omega]
def bas (mask i perturb : Nat) : Nat → Nat × Nat
  | 0 => (i, perturb)
  | n + 1 => leap mask (bas mask i perturb n).1 (bas mask i perturb n).2
theorem to_base (t : SetTable) (i perturb : Nat) : ∀ n : Nat, ∃ c, c ≤ 10 * n ∧ iterA t c (baseP t.mask i perturb) = baseP t.mask (bas t.mask i perturb n).1 (bas t.mask i perturb n).2
  | 0 => ⟨0, Nat.le_refl _, rfl⟩
  | n + 1 => by
    obtain ⟨c, hc, e⟩ := to_base t i perturb n
    generalize hb : bas t.mask i perturb n = b at *
    have hr := run_len t.mask b.1
    refine ⟨c + (runEnd t.mask b.1 - b.1 + 1), by omega, ?_⟩
    rw [iterA_add, e]
    rw [iterA_add t 1, run_to t (runEnd t.mask b.1 - b.1) (baseP t.mask b.1 b.2) (Nat.le_refl _)]
    show t.advance _ = _
    unfold SetTable.advance
    rw [if_neg (by show ¬ (baseP t.mask b.1 b.2).more - (baseP t.mask b.1 b.2).more > 0; omega)]
    show baseP t.mask (leap t.mask b.1 b.2).1 (leap t.mask b.1 b.2).2 = baseP t.mask (bas t.mask i perturb (n + 1)).1 (bas t.mask i perturb (n + 1)).2
    unfold bas
    rw [hb]
theorem bas_pert (mask i p : Nat) : ∀ n, (bas mask i p n).2 = p / 32 ^ n
  | 0 => by simp [bas]
  | n + 1 => by
    show (bas mask i p n).2 / 32 = _
    rw [bas_pert mask i p n, Nat.div_div_eq_div_mul, Nat.pow_succ]
theorem bas_le (mask i p : Nat) (hi : i ≤ mask) : ∀ n, (bas mask i p n).1 ≤ mask
  | 0 => hi
  | n + 1 => by
    show ((bas mask i p n).1 * 5 + 1 + (bas mask i p n).2 / 32) % (mask + 1) ≤ mask
    have := Nat.mod_lt ((bas mask i p n).1 * 5 + 1 + (bas mask i p n).2 / 32) (show 0 < mask + 1 by omega)
    omega
theorem bas_it (mask i p : Nat) (hp : p < 2 ^ 65) : ∀ m, (bas mask i p (13 + m)).1 % (mask + 1) = it m (bas mask i p 13).1 % (mask + 1)
  | 0 => by simp [it, S]
  | m + 1 => by
    have ih := bas_it mask i p hp m
    have h0 : (bas mask i p (13 + m)).2 / 32 = 0 := by
      rw [bas_pert]
      have : 32 ^ 13 = 2 ^ 65 := by decide
      have h1 : p / 32 ^ (13 + m) = 0 := by
        apply Nat.div_eq_of_lt
        have : 32 ^ 13 ≤ 32 ^ (13 + m) := Nat.pow_le_pow_right (by decide) (by omega)
        omega
      rw [h1]
    show (((bas mask i p (13 + m)).1 * 5 + 1 + (bas mask i p (13 + m)).2 / 32) % (mask + 1)) % (mask + 1) = _
    rw [h0, Nat.add_zero, Nat.mod_mod, it_succ, Nat.mul_comm 5]
    rw [Nat.add_mod, Nat.mul_mod, ih, ← Nat.mul_mod, ← Nat.add_mod]
theorem base_hits {mask k i p e0 : Nat} (hk : mask + 1 = 2 ^ k) (hi : i ≤ mask) (hp : p < 2 ^ 65) (he : e0 ≤ mask) : ∃ n, n < mask + 14 ∧ (bas mask i p n).1 = e0 := by
  obtain ⟨m, hm, e⟩ := covers (bas mask i p 13).1 k e0
  refine ⟨13 + m, by omega, ?_⟩
  have := bas_it mask i p hp m
  rw [hk, e, ← hk, Nat.mod_eq_of_lt (by have := bas_le mask i p hi (13 + m); omega), Nat.mod_eq_of_lt (by omega)] at this
  exact this
theorem bits_lt (h : Int) : bits h < 2 ^ 65 := by
  unfold bits
  have h1 : (0 : Int) ≤ h % 2 ^ 64 := Int.emod_nonneg _ (by decide)
  have h2 : h % 2 ^ 64 < 2 ^ 64 := Int.emod_lt_of_pos _ (by decide)
  omega
theorem some_free {t : SetTable} (T : Tab t) : ∃ e0, e0 ≤ t.mask ∧ ¬ Inn t.place e0 := by
  by_cases q : ∃ e0, e0 ≤ t.mask ∧ ¬ Inn t.place e0
  · exact q
  · exfalso
    have all : ∀ e0, e0 ≤ t.mask → Inn t.place e0 := fun e0 h => Classical.byContradiction fun z => q ⟨e0, h, z⟩
    -- the i-th place is at least i; the last at most mask: size ≥ mask + 1
    have grow : ∀ i, i ≤ t.mask → ∃ a, i ≤ a ∧ a < t.place.size ∧ t.place.getD a 0 = i := by
      intro i
      induction i with
      | zero =>
        intro h
        obtain ⟨a, h1, h2⟩ := all 0 h
        exact ⟨a, Nat.zero_le _, h1, h2⟩
      | succ i ih =>
        intro h
        obtain ⟨a, h1, h2, h3⟩ := ih (by omega)
        obtain ⟨b, g1, g2⟩ := all (i + 1) h
        refine ⟨b, ?_, g1, g2⟩
        by_cases z : b ≤ a
        · by_cases z2 : b = a
          · rw [z2, h3] at g2; omega
          · have := T.up b a (by omega) h2; omega
        · omega
    obtain ⟨a, h1, h2, _⟩ := grow t.mask (Nat.le_refl _)
    have := T.room
    omega
theorem probe_ok {t : SetTable} (T : Tab t) (ha : Nat → Int) (h : Int) :
    (∃ j, t.probe ha h (t.probeStart h) = some (.empty j none) ∧ ¬ Inn t.place j ∧ j ≤ t.mask) ∨ ∃ j i nx, t.probe ha h (t.probeStart h) = some (.candidate j i nx) ∧ ha i = h ∧ i < t.place.size := by
  obtain ⟨k, hk⟩ := T.pow
  obtain ⟨e0, he, hn⟩ := some_free T
  have hs : t.probeStart h = baseP t.mask (bits h % (t.mask + 1)) (bits h) := rfl
  have hi : bits h % (t.mask + 1) ≤ t.mask := by
    have := Nat.mod_lt (bits h) (show 0 < t.mask + 1 by omega)
    omega
  obtain ⟨n, hn1, hn2⟩ := base_hits hk hi (bits_lt h) he
  obtain ⟨c, hc, e⟩ := to_base t (bits h % (t.mask + 1)) (bits h) n
  have hfu : c < 10 * turns t.mask := by unfold turns; omega
  have hx : ¬ Inn t.place (iterA t c (t.probeStart h)).j := by rw [hs, e]; show ¬ Inn t.place (bas t.mask (bits h % (t.mask + 1)) (bits h) n).1; rw [hn2]; exact hn
  unfold SetTable.probe
  rcases go_finds T ha h (10 * turns t.mask) (t.probeStart h) rfl ⟨c, hfu, hx⟩ with ⟨j, e1, e2, m, e3⟩ | r
  · refine .inl ⟨j, e1, e2, ?_⟩
    -- all that is looked at lies in the table
    have inTab : ∀ (m : Nat) (p : Probe), p.j + p.more ≤ t.mask → p.i ≤ t.mask → (iterA t m p).j ≤ t.mask := by
      intro m
      induction m with
      | zero => intro p h1 h2; show p.j ≤ t.mask; omega
      | succ m ih =>
        intro p h1 h2
        show (iterA t m (t.advance p)).j ≤ t.mask
        unfold SetTable.advance
        by_cases z : p.more > 0
        · rw [if_pos z]; exact ih _ (by show p.j + 1 + (p.more - 1) ≤ t.mask; omega) h2
        · rw [if_neg z]
          have h3 : (leap t.mask p.i p.perturb).1 ≤ t.mask := by
            show (p.i * 5 + 1 + p.perturb / 32) % (t.mask + 1) ≤ t.mask
            have := Nat.mod_lt (p.i * 5 + 1 + p.perturb / 32) (show 0 < t.mask + 1 by omega)
            omega
          have h4 := run_le h3
          exact ih _ (by show (leap t.mask p.i p.perturb).1 + (runEnd t.mask (leap t.mask p.i p.perturb).1 - (leap t.mask p.i p.perturb).1) ≤ t.mask; omega) h3
    rw [e3]
    have h4 := run_le hi
    exact inTab m _ (by rw [hs]; show bits h % (t.mask + 1) + (runEnd t.mask (bits h % (t.mask + 1)) - bits h % (t.mask + 1)) ≤ t.mask; omega) (by rw [hs]; exact hi)
  · exact .inr r
end ST
set_option linter.all false
namespace ST
open PySem SetTable
theorem bas_shift (mask i p : Nat) : ∀ n, bas mask i p (n + 1) = bas mask (leap mask i p).1 (leap mask i p).2 n
  | 0 => rfl
  | n + 1 => by
    show leap mask (bas mask i p (n + 1)).1 (bas mask i p (n + 1)).2 = leap mask (bas mask (leap mask i p).1 (leap mask i p).2 n).1 (bas mask (leap mask i p).1 (leap mask i p).2 n).2
    rw [bas_shift mask i p n]
theorem free_finds {mask e0 : Nat} {owner : Array (Option Nat)} (he : (owner.getD e0 (some 0)).isNone = true) : ∀ (f i p : Nat), i ≤ mask → (∃ n, n < f ∧ (bas mask i p n).1 = e0) → ∃ j, layClean.free mask owner f i p = some j ∧ (owner.getD j (some 0)).isNone = true
  | 0, i, p, _, ⟨n, hn, _⟩ => absurd hn (by omega)
  | f + 1, i, p, hi, ⟨n, hn, e⟩ => by
    unfold layClean.free
    cases q : (List.range (runEnd mask i + 1 - i)).find? fun k => (owner.getD (i + k) (some 0)).isNone with
    | some k => exact ⟨i + k, rfl, by have h := List.find?_some q; exact h⟩
    | none =>
      dsimp only
      have hr := run_le hi
      have hne : i ≠ e0 := fun z => by
        have := List.find?_eq_none.mp q 0 (List.mem_range.mpr (by omega))
        rw [Nat.add_zero, z] at this
        exact this he
      have hn0 : n ≠ 0 := fun z => hne (by rw [z] at e; exact e)
      obtain ⟨n', rfl⟩ : ∃ n', n = n' + 1 := ⟨n - 1, by omega⟩
      rw [bas_shift] at e
      have h3 : (leap mask i p).1 ≤ mask := by
        show (i * 5 + 1 + p / 32) % (mask + 1) ≤ mask
        have := Nat.mod_lt (i * 5 + 1 + p / 32) (show 0 < mask + 1 by omega)
        omega
      exact free_finds he f _ _ h3 ⟨n', by omega, e⟩
theorem fm_some (a : Nat) (l : List (Option Nat)) : (some a :: l).filterMap id = a :: l.filterMap id := List.filterMap_cons_some (f := id) (a := some a) (b := a) rfl
theorem fm_none (l : List (Option Nat)) : (none :: l).filterMap id = l.filterMap id := List.filterMap_cons_none (f := id) (a := none) rfl
theorem fm_congr {α β : Type} {f g : α → Option β} : ∀ {l : List α}, (∀ x ∈ l, f x = g x) → l.filterMap f = l.filterMap g
  | [], _ => rfl
  | a :: l, h => by
    rw [List.filterMap_cons, List.filterMap_cons, h a List.mem_cons_self, fm_congr fun x hx => h x (List.mem_cons_of_mem _ hx)]
theorem all_some : ∀ l : List (Option Nat), (∀ x ∈ l, x ≠ none) → (l.filterMap id).length = l.length
  | [], _ => rfl
  | none :: l, h => absurd rfl (h none List.mem_cons_self)
  | some a :: l, h => by
    rw [fm_some, List.length_cons, List.length_cons, all_some l fun x hx => h x (List.mem_cons_of_mem _ hx)]
theorem set_perm (k : Nat) : ∀ (l : List (Option Nat)) (j : Nat), l[j]? = some none → ((l.set j (some k)).filterMap id).Perm (k :: l.filterMap id)
  | [], j, h => by simp at h
  | x :: l, 0, h => by
    have : x = none := by simpa using h
    subst this
    rw [List.set_cons_zero, fm_some, fm_none]
  | x :: l, j + 1, h => by
    have ih := set_perm k l j (by simpa using h)
    rw [List.set_cons_succ]
    cases x with
    | none => rw [fm_none, fm_none]; exact ih
    | some a =>
      rw [fm_some, fm_some]
      exact (ih.cons a).trans (List.Perm.swap k a _)
def stepO (mask : Nat) (acc : Option (Array (Option Nat) × Nat)) (h : Int) : Option (Array (Option Nat) × Nat) := do
  let (owner, k) ← acc
  let j ← layClean.free mask owner (turns mask) (bits h % (mask + 1)) (bits h)
  pure (owner.setIfInBounds j (some k), k + 1)
theorem fold_ok {mask k : Nat} (hk : mask + 1 = 2 ^ k) : ∀ (hs : List Int) (owner : Array (Option Nat)) (n : Nat), owner.size = mask + 1 → (owner.toList.filterMap id).Perm (List.range n) → n + hs.length ≤ mask →
    ∃ owner', hs.foldl (stepO mask) (some (owner, n)) = some (owner', n + hs.length) ∧ owner'.size = mask + 1 ∧ (owner'.toList.filterMap id).Perm (List.range (n + hs.length))
  | [], owner, n, h1, h2, _ => ⟨owner, rfl, h1, h2⟩
  | h :: hs, owner, n, h1, h2, h3 => by
    have hi : bits h % (mask + 1) ≤ mask := by
      have := Nat.mod_lt (bits h) (show 0 < mask + 1 by omega)
      omega
    have hll : owner.toList.length = mask + 1 := by rw [Array.length_toList, h1]
    obtain ⟨e0, he⟩ : ∃ e0 : Nat, owner.toList[e0]? = some none := by
      by_cases q : ∃ e0 : Nat, owner.toList[e0]? = some none
      · exact q
      · exfalso
        have hal : ∀ x ∈ owner.toList, x ≠ none := fun x hx z => by
          obtain ⟨i, hi⟩ := List.mem_iff_getElem?.mp hx
          exact q ⟨i, by rw [hi, z]⟩
        have := all_some _ hal
        rw [h2.length_eq, List.length_range, hll] at this
        rw [List.length_cons] at h3
        omega
    have he1 : e0 ≤ mask := by
      have := (List.getElem?_eq_some_iff.mp he).1
      omega
    have he2 : (owner.getD e0 (some 0)).isNone = true := by
      rw [Array.getD_eq_getD_getElem?, ← Array.getElem?_toList, he]; rfl
    obtain ⟨j, hj, hjn⟩ := free_finds he2 (turns mask) _ _ hi (by
      obtain ⟨m, hm, e⟩ := base_hits hk hi (bits_lt h) he1
      exact ⟨m, by unfold turns; omega, e⟩)
    have hjo : owner.toList[j]? = some none := by
      rw [Array.getD_eq_getD_getElem?, ← Array.getElem?_toList] at hjn
      cases q : owner.toList[j]? with
      | none => rw [q] at hjn; cases hjn
      | some x =>
        rw [q] at hjn
        cases x with
        | none => rfl
        | some y => cases hjn
    have es : stepO mask (some (owner, n)) h = some (owner.setIfInBounds j (some n), n + 1) := by
      show (do let j ← layClean.free mask owner (turns mask) (bits h % (mask + 1)) (bits h); pure (owner.setIfInBounds j (some n), n + 1)) = _
      rw [hj]; rfl
    rw [List.foldl_cons, es]
    have p2 : ((owner.setIfInBounds j (some n)).toList.filterMap id).Perm (List.range (n + 1)) := by
      rw [Array.toList_setIfInBounds, List.range_succ]
      exact (set_perm n _ j hjo).trans ((h2.cons n).trans (List.perm_append_singleton n _).symm)
    obtain ⟨o', a1, a2, a3⟩ := fold_ok hk hs (owner.setIfInBounds j (some n)) (n + 1) (by rw [Array.size_setIfInBounds]; exact h1) p2 (by rw [List.length_cons] at h3; omega)
    refine ⟨o', ?_, a2, ?_⟩
    · rw [a1, List.length_cons, Nat.add_assoc, Nat.add_comm 1]
    · rw [List.length_cons, show n + (hs.length + 1) = n + 1 + hs.length by omega]; exact a3
theorem clean_ok {mask k : Nat} (hk : mask + 1 = 2 ^ k) (hs : Array Int) (h : hs.size ≤ mask) : ∃ owner, layClean mask hs = some owner ∧ owner.size = mask + 1 ∧ (owner.toList.filterMap id).Perm (List.range hs.size) := by
  have e0 : ((Array.replicate (mask + 1) (none : Option Nat)).toList.filterMap id).Perm (List.range 0) := by
    have : (Array.replicate (mask + 1) (none : Option Nat)).toList.filterMap id = [] := by
      rw [Array.toList_replicate]
      exact List.filterMap_eq_nil_iff.mpr fun x hx => by rw [(List.mem_replicate.mp hx).2]; rfl
    rw [this]; exact List.Perm.refl _
  obtain ⟨o, a1, a2, a3⟩ := fold_ok hk hs.toList (Array.replicate (mask + 1) none) 0 (by simp) e0 (by rw [Array.length_toList]; omega)
  refine ⟨o, ?_, a2, by rw [Nat.zero_add, Array.length_toList] at a3; exact a3⟩
  unfold layClean
  rw [← Array.foldl_toList]
  have : (hs.toList.foldl (stepO mask) (some (Array.replicate (mask + 1) none, 0))).map (·.1) = some o := by rw [a1]; rfl
  exact this
theorem list_of (owner : Array (Option Nat)) : owner.toList = (List.range owner.size).map fun j => owner.getD j none := by
  apply List.ext_getElem?
  intro i
  rw [List.getElem?_map, Array.getElem?_toList]
  by_cases h : i < owner.size
  · rw [List.getElem?_range h, Array.getElem?_eq_getElem h]
    simp [Array.getD, h]
  · rw [Array.getElem?_eq_none (by omega), List.getElem?_eq_none (by rw [List.length_range]; omega)]; rfl
theorem up_of {l : List Nat} (h : l.Pairwise (· < ·)) : Up l.toArray := by
  intro i k hik hk
  have hk' : k < l.length := by simpa using hk
  have := List.pairwise_iff_getElem.mp h i k (by omega) hk' hik
  simpa [Array.getD, hk', show i < l.length by omega] using this
theorem laid_ok {mask k : Nat} (hk : mask + 1 = 2 ^ k) (h7 : 7 ≤ mask) (finger moves : Nat) (led plain : Bool) (hs : Array Int) (h : hs.size ≤ mask) : ∃ t order, SetTable.laid mask finger moves led plain hs = some (t, order) ∧ Tab t ∧ t.place.size = hs.size ∧ order.toList.Perm (List.range hs.size) ∧ t.led = led ∧ t.plain = plain ∧ t.mask = mask := by
  obtain ⟨o, a1, a2, a3⟩ := clean_ok hk hs h
  have hlive : ((List.range (mask + 1)).filterMap fun j => (o.getD j none).map (j, ·)).map (·.2) = o.toList.filterMap id := by
    rw [list_of o, a2, List.filterMap_map, List.map_filterMap]
    refine fm_congr fun j _ => ?_
    show ((o.getD j none).map (j, ·)).map (·.2) = o.getD j none
    cases o.getD j none <;> rfl
  have hfst : ((List.range (mask + 1)).filterMap fun j => (o.getD j none).map (j, ·)).map (·.1) = (List.range (mask + 1)).filter fun j => (o.getD j none).isSome := by
    rw [List.map_filterMap, ← List.filterMap_eq_filter]
    refine fm_congr fun j _ => ?_
    show ((o.getD j none).map (j, ·)).map (·.1) = Option.guard (fun j => (o.getD j none).isSome) j
    cases q : o.getD j none <;> simp [Option.guard, q]
  have hlen : ((List.range (mask + 1)).filterMap fun j => (o.getD j none).map (j, ·)).length = hs.size := by
    have := congrArg List.length hlive
    rw [List.length_map, a3.length_eq, List.length_range] at this
    exact this
  refine ⟨{ mask := mask, place := (((List.range (mask + 1)).filterMap fun j => (o.getD j none).map (j, ·)).map (·.1)).toArray, dummies := #[], finger := finger, led := led, moves := moves, plain := plain }, (((List.range (mask + 1)).filterMap fun j => (o.getD j none).map (j, ·)).map (·.2)).toArray, ?_, ⟨?_, rfl, ?_, ⟨k, hk⟩, ?_, h7⟩, ?_, ?_, rfl, rfl, rfl⟩
  · unfold SetTable.laid
    rw [a1]
    rfl
  · show Up (List.map _ _).toArray
    rw [hfst]
    exact up_of (List.pairwise_lt_range.filter _)
  · intro j hj
    obtain ⟨i, hi, e⟩ := hj
    have hm : j ∈ (List.range (mask + 1)).filter fun j => (o.getD j none).isSome := by
      rw [← hfst]
      have := get_iff.mpr ⟨hi, e⟩
      exact List.mem_of_getElem? (by simpa using this)
    have := List.mem_range.mp (List.mem_filter.mp hm).1
    show j ≤ mask
    omega
  · show (List.map _ _).toArray.size ≤ mask
    rw [List.size_toArray, List.length_map, hlen]; exact h
  · show (List.map _ _).toArray.size = _
    rw [List.size_toArray, List.length_map, hlen]
  · show (List.map _ _).toArray.toList.Perm _
    rw [List.toList_toArray, hlive]; exact a3
theorem above_go (n : Nat) : ∀ (f a : Nat), n < 2 ^ (a + f) → ∃ k, a ≤ k ∧ sizeAbove.go n f (2 ^ a) = 2 ^ k ∧ n < 2 ^ k ∧ (2 ^ k ≤ 2 * n ∨ k = a)
  | 0, a, h => ⟨a, Nat.le_refl _, rfl, h, .inr rfl⟩
  | f + 1, a, h => by
    unfold sizeAbove.go
    by_cases q : 2 ^ a ≤ n
    · rw [if_pos q, show 2 ^ a * 2 = 2 ^ (a + 1) from (Nat.pow_succ ..).symm]
      obtain ⟨k, h1, h2, h3, h4⟩ := above_go n f (a + 1) (by rw [show a + 1 + f = a + (f + 1) by omega]; exact h)
      refine ⟨k, by omega, h2, h3, ?_⟩
      rcases h4 with h4 | h4
      · exact .inl h4
      · left; rw [h4, Nat.pow_succ]; omega
    · rw [if_neg q]
      exact ⟨a, Nat.le_refl _, rfl, by omega, .inr rfl⟩
theorem above_ok {n : Nat} (h : n ≤ 1000000) : ∃ k, sizeAbove n = 2 ^ k ∧ n < 2 ^ k ∧ 8 ≤ 2 ^ k ∧ 2 ^ k ≤ 2 * n + 8 := by
  obtain ⟨k, h1, h2, h3, h4⟩ := above_go n 64 3 (by
    have : (2 : Nat) ^ 20 ≤ 2 ^ (3 + 64) := Nat.pow_le_pow_right (by decide) (by decide)
    have : (2 : Nat) ^ 20 = 1048576 := by decide
    omega)
  refine ⟨k, h2, h3, ?_, ?_⟩
  · have : 2 ^ 3 ≤ 2 ^ k := Nat.pow_le_pow_right (by decide) h1
    exact this
  · rcases h4 with h4 | h4
    · omega
    · rw [h4]; omega
theorem relaid_ok (t : SetTable) (hs : Array Int) {wanted : Nat} (h1 : hs.size ≤ wanted) (h2 : wanted ≤ 1000000) : ∃ t' order, t.relaid hs wanted = some (t', order) ∧ Tab t' ∧ t'.place.size = hs.size ∧ order.toList.Perm (List.range hs.size) ∧ t'.led = t.led ∧ t'.plain = t.plain ∧ wanted ≤ t'.mask := by
  obtain ⟨k, e1, e2, e3, e4⟩ := above_ok h2
  unfold SetTable.relaid
  rw [e1]
  obtain ⟨t', o, a1, a2, a3, a4, a5, a6, a7⟩ := laid_ok (mask := 2 ^ k - 1) (k := k) (by omega) (by omega) t.finger (t.movedTo (2 ^ k - 1)) t.led t.plain hs (by omega)
  exact ⟨t', o, a1, a2, a3, a4, a5, a6, by omega⟩
end ST
set_option Elab.async false
set_option linter.all false
set_option maxRecDepth 100000
set_option maxHeartbeats 3200000
namespace ST
open PySem
open S6 (follow)
theorem Tab.fits {t : SetTable} (T : Tab t) {n : Nat} (h : t.place.size = n) : t.fits n = true := by
  unfold SetTable.fits SetTable.fill
  rw [T.dum, h]
  have := T.room
  simp
  omega
theorem Tab.stays {t : SetTable} (T : Tab t) : t.gaveWay = false := by
  obtain ⟨k, hk⟩ := T.pow
  unfold SetTable.gaveWay
  have := T.big
  have h0 : k ≠ 0 := fun z => by rw [z] at hk; simp at hk; omega
  obtain ⟨k', rfl⟩ : ∃ k', k = k' + 1 := ⟨k - 1, by omega⟩
  rw [Nat.pow_succ] at hk
  rw [beq_eq_false_iff_ne]
  omega
theorem probe_not {t : SetTable} (T : Tab t) {ha : Nat → Int} {h : Int} (e : ∀ met, t.probe ha h (t.probeStart h) = some met → False) : False := by
  rcases probe_ok T ha h with ⟨j, e1, _⟩ | ⟨j, i, nx, e1, _⟩
  · exact e _ e1
  · exact e _ e1
theorem probe_empty {t : SetTable} (T : Tab t) {ha : Nat → Int} {h : Int} {j : Nat} {d : Option Nat} (e : t.probe ha h (t.probeStart h) = some (.empty j d)) : d = none ∧ ¬ Inn t.place j ∧ j ≤ t.mask := by
  rcases probe_ok T ha h with ⟨j', e1, e2, e3⟩ | ⟨j', i, nx, e1, _⟩
  · rw [e] at e1; cases e1; exact ⟨rfl, e2, e3⟩
  · rw [e] at e1; cases e1
theorem probe_cand {t : SetTable} (T : Tab t) {ha : Nat → Int} {h : Int} {j i : Nat} {nx : SetTable.Probe} (e : t.probe ha h (t.probeStart h) = some (.candidate j i nx)) : ha i = h ∧ i < t.place.size := by
  rcases probe_ok T ha h with ⟨j', e1, e2, e3⟩ | ⟨j', i', nx', e1, e2, e3⟩
  · rw [e] at e1; cases e1
  · rw [e] at e1; cases e1; exact ⟨e2, e3⟩
theorem put_tab {t : SetTable} (T : Tab t) {j : Nat} (hn : ¬ Inn t.place j) (hj : j ≤ t.mask) (hr : t.place.size + 1 ≤ t.mask) : Tab (t.put j).1 ∧ (t.put j).1.place.size = t.place.size + 1 ∧ (t.put j).1.mask = t.mask ∧ (t.put j).1.led = t.led ∧ (t.put j).1.plain = t.plain := by
  obtain ⟨u1, u2⟩ := put_up T.up hn
  have e : (t.put j).1 = { t with place := SetTable.insertAt t.place (SetTable.below t.place j) j, dummies := if SetTable.has t.dummies j then SetTable.eraseAt t.dummies (SetTable.below t.dummies j) else t.dummies } := rfl
  have hd : SetTable.has t.dummies j = false := by rw [T.dum]; rfl
  rw [e, hd]
  refine ⟨⟨u1, T.dum, fun y hy => ?_, T.pow, ?_, T.big⟩, ins_size .., rfl, rfl, rfl⟩
  · rcases (u2 y).mp hy with q | q
    · rw [q]; exact hj
    · exact T.inb y q
  · show (SetTable.insertAt _ _ _).size ≤ t.mask
    rw [ins_size]; exact hr
theorem hash32 {k : Nat} (h : k < 2 ^ 32) : hashInt (k : Int) = (k : Int) := by
  have h1 : (((k : Int).natAbs : Nat) : Int) % ((2 ^ 61 - 1 : Nat) : Int) = (k : Int) := by
    rw [Int.natAbs_natCast]
    exact Int.emod_eq_of_lt (by omega) (by omega)
  have h2 : rawHash (k : Int) = (k : Int) := by
    unfold rawHash
    dsimp only
    rw [h1, show (if (k : Int) < 0 then -(k : Int) else (k : Int)) = (k : Int) from if_neg (by omega), if_neg (by rw [beq_iff_eq]; omega)]
  unfold hashInt
  rw [h2, if_neg (by rw [beq_iff_eq]; omega)]
def OkE (es : List (Int × Value)) : Prop := ∀ e ∈ es, ∃ (n : Nat) (tk : Tok), n < 2 ^ 32 ∧ e = ((n : Int), Value.int (n : Int) tk)
def Gs (w : World) (h : Heap) (a : Addr) (m : List Nat) : Prop := ∃ (es : Array (Int × Value)) (ep : Nat) (t : SetTable), h.get? a = some { cls := .type "set", dict := none, data := .set es ep t, slots := #[] } ∧
  Tab t ∧ t.place.size = es.size ∧ es.size * 5 < t.mask * 3 ∧ t.led = !follow w ∧ t.plain = true ∧ OkE es.toList ∧ (∀ n : Nat, (n : Int) ∈ es.toList.map (·.1) ↔ n ∈ m) ∧ es.size ≤ m.length
theorem Gs.kept {w : World} {h h' : Heap} {a : Addr} {m : List Nat} (q : Gs w h a m) (e : ∀ o, h.get? a = some o → h'.get? a = some o) : Gs w h' a m :=
  let ⟨es, ep, t, q1, q2⟩ := q; ⟨es, ep, t, e _ q1, q2⟩
theorem OkE.elems {prog : Program} {w : World} {es : List (Int × Value)} (h : OkE es) : ElemsOf (intKind prog w) es := by
  intro e he
  obtain ⟨n, tk, hn, rfl⟩ := h e he
  exact ⟨⟨(n : Int), intKind_is _ _ _ _, (hash32 hn).symm⟩, rfl⟩
section
variable {prog : Program} {w : World} {A : Around} {E : Value → Shared → Prop} {s : Shared}
theorem loop_no {Q : Option Bool × PUnit → Shared → Prop} (hQ : Q (none, ()) s) (f : Value → Option Bool × PUnit → Sem (ForInStep (Option Bool × PUnit))) : ∀ ys : List Value, (∀ y ∈ ys, f y (none, ()) = pure (.yield (none, ()))) → wpAny (model prog w) A (forIn ys (none, ()) f) Q E s
  | [], _ => by rw [List.forIn_nil]; exact wpAny_pure hQ
  | y :: ys, h => by
    rw [List.forIn_cons]
    refine wpAny_bind ?_
    rw [h y List.mem_cons_self]
    exact wpAny_pure (loop_no hQ f ys fun z hz => h z (List.mem_cons_of_mem _ hz))
theorem seen_no (x : Int) (tx : Tok) {Q : Bool → Shared → Prop} (hQ : Q false s) (ys : List Value) (h : ∀ y ∈ ys, ∃ (n : Int) (tk : Tok), y = Value.int n tk) : wpAny (model prog w) A (searchCouldBeSeen (.int x tx) ys) Q E s := by
  unfold searchCouldBeSeen
  refine wpAny_bind (loop_no ?_ _ ys fun y hy => ?_)
  · exact wpAny_pure hQ
  · obtain ⟨n, tk, rfl⟩ := h y hy
    rfl
theorem addG {a : Addr} {m : List Nat} {k : Nat} {tx : Tok} {Q : Bool → Shared → Prop} (hS : Gs w s.heap a m) (hk : k < 2 ^ 32) (hm : m.length ≤ 20000)
    (h : ∀ h' b, Heap.SameBut a s.heap h' → Gs w h' a (m ++ [k]) → Q b { s with heap := h' }) :
    wpAny (model prog w) A (setAddHashed a (.int (k : Int) tx) (k : Int)) Q E s := by
  obtain ⟨es, ep, t, ho, T, hsz, hroom, hled, hpl, hok, hmem, hle⟩ := hS
  have hel : ElemsOf (intKind prog w) es.toList := hok.elems
  have hf : t.fits es.size = true := T.fits hsz
  have hhk : (intKind prog w).hash (k : Int) = (k : Int) := hash32 hk
  have hkey : (intKind prog w).is (k : Int) (.int (k : Int) tx) = true := intKind_is _ _ _ _
  -- it is there already
  have there : ∀ b, k ∈ m → Q b s := fun b hin => h s.heap b (Heap.SameBut.refl a s.heap) ⟨es, ep, t, ho, T, hsz, hroom, hled, hpl, hok, fun n => by
    rw [hmem n, List.mem_append, List.mem_singleton]
    exact ⟨.inl, fun q => q.elim id fun z => by rw [z]; exact hin⟩, by rw [List.length_append]; omega⟩
  -- the elements with the new one
  have newE : ∀ (es' : Array (Int × Value)), es'.toList.Perm (es.toList ++ [((k : Int), Value.int (k : Int) tx)]) → OkE es'.toList ∧ (∀ n : Nat, (n : Int) ∈ es'.toList.map (·.1) ↔ n ∈ m ++ [k]) ∧ es'.size = es.size + 1 := fun es' p => by
    refine ⟨fun e he => ?_, fun n => ?_, ?_⟩
    · rcases List.mem_append.mp (p.mem_iff.mp he) with q | q
      · exact hok e q
      · have : e = ((k : Int), Value.int (k : Int) tx) := by simpa using q
        exact ⟨k, tx, hk, this⟩
    · rw [(p.map (·.1)).mem_iff, List.map_append, List.mem_append, hmem n, List.mem_append]
      refine or_congr Iff.rfl ?_
      show (n : Int) ∈ [(k : Int)] ↔ n ∈ [k]
      rw [List.mem_singleton, List.mem_singleton]
      omega
    · have := p.length_eq
      rw [Array.length_toList, List.length_append, Array.length_toList] at this
      exact this
  have insP : ∀ p, (SetTable.insertAt es p ((k : Int), Value.int (k : Int) tx)).toList.Perm (es.toList ++ [((k : Int), Value.int (k : Int) tx)]) := fun p => by
    have := SetTable.insertAt_perm es p ((k : Int), Value.int (k : Int) tx)
    rwa [Array.toList_push] at this
  -- stored
  have at1 : ∀ (hp : Heap) (e0 : Array (Int × Value)) (p0 : Nat) (t0 : SetTable) (es' : Array (Int × Value)) (t' : SetTable), hp.get? a = some { cls := .type "set", dict := none, data := .set e0 p0 t0, slots := #[] } →
      (hp.update a (Obj.putSet es' t')).get? a = some { cls := .type "set", dict := none, data := .set es' (p0 + 1) t', slots := #[] } := fun hp e0 p0 t0 es' t' q => by
    have := Heap.get?_update_self (Obj.putSet es' t') q (by rw [putSet_of es' _ rfl]; rfl)
    rw [putSet_of es' _ rfl] at this; exact this
  -- the end, the table not too full
  have fin1 : ∀ (es' : Array (Int × Value)) (t' : SetTable), es'.toList.Perm (es.toList ++ [((k : Int), Value.int (k : Int) tx)]) → Tab t' → t'.place.size = es'.size → es'.size * 5 < t'.mask * 3 → t'.led = t.led → t'.plain = true → ∀ (hp : Heap) (p0 : Nat) (b : Bool), Heap.SameBut a s.heap hp →
      hp.get? a = some { cls := .type "set", dict := none, data := .set es' p0 t', slots := #[] } → Q b { s with heap := hp } := fun es' t' p T' hs' hr' hl' hp' hp p0 b sb hg => by
    obtain ⟨n1, n2, n3⟩ := newE es' p
    exact h hp b sb ⟨es', p0, t', hg, T', hs', hr', by rw [hl', hled], hp', n1, n2, by rw [n3, List.length_append, List.length_singleton]; omega⟩
  -- laid anew
  have relay : ∀ (es' : Array (Int × Value)) (t1 : SetTable), es'.toList.Perm (es.toList ++ [((k : Int), Value.int (k : Int) tx)]) → t1.led = t.led → t1.plain = true → ∃ t' order, t1.relaid (es'.map (·.1)) (SetTable.grown es'.size) = some (t', order) ∧ Tab t' ∧ (order.filterMap (es'[·]?)).toList.Perm (es.toList ++ [((k : Int), Value.int (k : Int) tx)]) ∧ t'.place.size = es'.size ∧ (order.filterMap (es'[·]?)).size = es'.size ∧ es'.size * 5 < t'.mask * 3 ∧ t'.led = t.led ∧ t'.plain = true ∧ order.toList.Perm (List.range es'.size) := fun es' t1 p hl1 hp1 => by
    obtain ⟨n1, n2, n3⟩ := newE es' p
    have hg : SetTable.grown es'.size = es'.size * 4 := by unfold SetTable.grown; rw [if_neg (by omega)]
    obtain ⟨t', o, a1, a2, a3, a4, a5, a6, a7⟩ := relaid_ok t1 (es'.map (·.1)) (wanted := SetTable.grown es'.size) (by rw [Array.size_map, hg]; omega) (by rw [hg]; omega)
    rw [Array.size_map] at a3 a4
    have pp : (o.filterMap (es'[·]?)).toList.Perm es'.toList := by
      rw [Array.toList_filterMap]
      have := a4.filterMap (fun i => es'[i]?)
      rw [filterMap_getElem?_range es'] at this
      exact this
    refine ⟨t', o, a1, a2, pp.trans p, a3, ?_, ?_, by rw [a5, hl1], by rw [a6, hp1], a4⟩
    · have := pp.length_eq
      rw [Array.length_toList, Array.length_toList] at this
      exact this
    · rw [hg] at a7; omega
  have hsl : (16777216 : Nat) = sizeLine := sizeLine_eq.symm
  unfold setAddHashed setAddHashedIn
  refine wpAny_holding (wpAny_bind (wpAny_setState_of ho rfl hf ?_))
  dsimp only
  by_cases hb : es.size < scanBound
  · rw [byScan_of (knd := intKind prog w) rfl hb hel]
    simp only [↓reduceIte]
    unfold setAddByScan
    refine wpAny_bind ?_
    refine wpAny_bind (wpAny_rule ?_)
    refine wpAny_bind ?_
    have sc := wpAny_setScan_of (prog := prog) (w := w) (A := A) (E := E) (s := s) (adding := true) (Q := fun r s' => s' = s ∧ r = (match es.toList.findIdx? (fun e => (intKind prog w).is (k : Int) e.2) with | some j => ScanMet.found (0 + j) | none => ScanMet.absent)) hkey ho rfl hf hel ⟨rfl, rfl⟩
    rw [hhk] at sc
    refine wpAny_mono sc (fun r s' hr => ?_) fun _ _ x => x
    obtain ⟨rfl, rfl⟩ := hr
    cases hr : List.findIdx? (fun e => (intKind prog w).is (k : Int) e.2) es.toList with
    | some j =>
      dsimp only
      obtain ⟨hj, hpj, _⟩ := List.findIdx?_eq_some_iff_getElem.mp hr
      have hin : k ∈ m := by
        obtain ⟨n, tk, hn, e⟩ := hok _ (List.getElem_mem hj)
        rw [e] at hpj
        have e1 : ((n : Int) == (k : Int)) = true := hpj
        have e2 : (n : Int) = (k : Int) := eq_of_beq e1
        refine (hmem k).mp ?_
        rw [← e2]
        exact List.mem_map.mpr ⟨_, List.getElem_mem hj, by rw [e]⟩
      exact wpAny_pure (wpAny_pure (there false hin))
    | none =>
      dsimp only
      have hfs : ∃ j, t.freeSlot (k : Int) = some (j, false) ∧ ¬ Inn t.place j ∧ j ≤ t.mask := by
        unfold SetTable.freeSlot
        rcases probe_ok T (fun _ => (k : Int) + 1) (k : Int) with ⟨j, e1, e2, e3⟩ | ⟨j, i, nx, e1, e2, _⟩
        · exact ⟨j, by rw [e1]; rfl, e2, e3⟩
        · omega
      obtain ⟨j, hj, hjn, hjm⟩ := hfs
      obtain ⟨P1, P2, P3, P4, P5⟩ := put_tab T hjn hjm (by omega)
      have hins := ins_size es (SetTable.below t.place j) ((k : Int), Value.int (k : Int) tx)
      have hlay : layNew t es (k : Int) (.int (k : Int) tx) = (SetTable.insertAt es (SetTable.below t.place j) ((k : Int), .int (k : Int) tx), (t.put j).1, false, false) := by
        unfold layNew
        rw [hj]
        have hft : (t.put j).1.fits (SetTable.insertAt es (SetTable.below t.place j) ((k : Int), Value.int (k : Int) tx)).size = true := P1.fits (by rw [P2, hins, hsz])
        show (_, (t.put j).1.orStandIn _, _, !(t.put j).1.fits _) = _
        unfold SetTable.orStandIn
        rw [if_pos hft, hft]
        rfl
      rw [hlay]
      dsimp only
      have hp := insP (SetTable.below t.place j)
      generalize hes : SetTable.insertAt es (SetTable.below t.place j) ((k : Int), Value.int (k : Int) tx) = es' at hp hins
      generalize ht1 : (t.put j).1 = t1 at *
      refine wpAny_bind (wpAny_pure ?_)
      rw [P5, hpl]
      simp only [↓reduceIte]
      refine wpAny_bind ?_
      rw [hashByValue_scannable 8 rfl]
      refine wpAny_pure ?_
      simp only [plainKind, ↓reduceIte]
      have ho1 := at1 s'.heap es ep t es' t1 ho
      have sb1 := Heap.SameBut.update s'.heap a (Obj.putSet es' t1)
      refine wpAny_bind (wpAny_storeSet_of ho rfl ?_ (by omega))
      by_cases hfull : t1.tooFull = true
      · rw [hfull]
        simp only [Bool.not_false, Bool.and_self, ↓reduceIte]
        obtain ⟨t2, o, r1, r2, r3, r4, r5, r6, r7, r8, r9⟩ := relay es' t1 hp P4 (by rw [P5, hpl])
        have hrel : relayAll t1 es' (SetTable.grown es'.size) = (o.filterMap (es'[·]?), t2, false) := by
          unfold relayAll
          rw [r1]
          dsimp only
          rw [r2.fits (by rw [r4, r5])]
          have hco : coversAll o es'.size = true := by
            unfold coversAll
            exact List.isPerm_iff.mpr r9
          rw [hco]
          rfl
        rw [hrel]
        dsimp only
        refine wpAny_bind (wpAny_pure ?_)
        refine wpAny_bind (wpAny_storeSet_of ho1 rfl ?_ (by omega))
        refine wpAny_pure (wpAny_pure ?_)
        exact fin1 _ t2 r3 r2 (by rw [r4, r5]) (by rw [r5]; exact r6) r7 r8 _ _ true (sb1.trans (Heap.SameBut.update _ a _)) (at1 _ _ _ _ _ _ ho1)
      · have hnf : es'.size * 5 < t1.mask * 3 := by
          unfold SetTable.tooFull SetTable.fill at hfull
          rw [P1.dum] at hfull
          simp at hfull
          omega
        rw [Bool.not_eq_true] at hfull
        rw [hfull]
        simp only [Bool.not_false, Bool.and_false, Bool.false_eq_true, ↓reduceIte]
        refine wpAny_pure (wpAny_pure ?_)
        exact fin1 es' t1 hp P1 (by rw [P2, hins, hsz]) hnf P4 (by rw [P5, hpl]) _ _ true sb1 ho1
  · have hbs : byScan (.int (k : Int) tx) es = false := by
      unfold byScan
      rw [decide_eq_false hb, Bool.and_false, Bool.false_and]
    rw [hbs]
    simp only [Bool.false_eq_true, ↓reduceIte]
    refine wpAny_bind ?_
    unfold setSearch setSearchFrom
    refine wpAny_bind (wpAny_setState_of ho rfl hf ?_)
    dsimp only
    rw [T.stays]
    simp only [Bool.false_eq_true, ↓reduceIte, Option.getD_none]
    split
    · rename_i met hmet
      cases met with
      | empty j d =>
        obtain ⟨rfl, hjn, hjm⟩ := probe_empty T hmet
        dsimp only
        refine wpAny_pure ?_
        dsimp only
        refine wpAny_bind (wpAny_setState_of ho rfl hf ?_)
        dsimp only
        obtain ⟨P1, P2, P3, P4, P5⟩ := put_tab T hjn hjm (by omega)
        have hins := ins_size es (SetTable.below t.place j) ((k : Int), Value.int (k : Int) tx)
        have hp := insP (SetTable.below t.place j)
        have e2 : (t.put j).2 = SetTable.below t.place j := rfl
        rw [e2]
        generalize hes : SetTable.insertAt es (SetTable.below t.place j) ((k : Int), Value.int (k : Int) tx) = es' at hp hins
        generalize ht1 : (t.put j).1 = t1 at *
        rw [P5, hpl]
        simp only [↓reduceIte]
        refine wpAny_bind ?_
        rw [hashByValue_scannable 8 rfl]
        refine wpAny_pure ?_
        simp only [plainKind, ↓reduceIte]
        have ho1 := at1 s.heap es ep t es' t1 ho
        have sb1 := Heap.SameBut.update s.heap a (Obj.putSet es' t1)
        refine wpAny_bind (wpAny_storeSet_of ho rfl ?_ (by omega))
        by_cases hfull : t1.tooFull = true
        · rw [hfull]
          simp only [Bool.not_false, Bool.and_self, ↓reduceIte]
          obtain ⟨t2, o, r1, r2, r3, r4, r5, r6, r7, r8, r9⟩ := relay es' t1 hp P4 (by rw [P5, hpl])
          refine wpAny_bind ?_
          unfold setRelay
          refine wpAny_bind (wpAny_setState_of ho1 rfl (P1.fits (by rw [P2, hins, hsz])) ?_)
          dsimp only
          have hg : SetTable.grown (es.size + 1) = SetTable.grown es'.size := by rw [hins]
          rw [hg]
          have hsz2 : ¬ SetTable.sizeAbove (SetTable.grown es'.size) > sizeLine := by
            have hgr : SetTable.grown es'.size = es'.size * 4 := by unfold SetTable.grown; rw [if_neg (by omega)]
            obtain ⟨kk, q1, q2, q3, q4⟩ := above_ok (n := SetTable.grown es'.size) (by rw [hgr]; omega)
            rw [q1]
            rw [hgr] at q4
            omega
          rw [if_neg hsz2, r1]
          have hzz : ((o.filterMap (es'[·]?)).size != es'.size) = false := by rw [r5]; simp
          refine wpAny_bind (S6.ite_no (c := ((o.filterMap (es'[·]?)).size != es'.size)) hzz (wpAny_pure ?_))
          dsimp only
          refine wpAny_storeSet_of ho1 rfl ?_ (by omega)
          refine wpAny_pure ?_
          exact fin1 _ t2 r3 r2 (by rw [r4, r5]) (by rw [r5]; exact r6) r7 r8 _ _ true (sb1.trans (Heap.SameBut.update _ a _)) (at1 _ _ _ _ _ _ ho1)
        · have hnf : es'.size * 5 < t1.mask * 3 := by
            unfold SetTable.tooFull SetTable.fill at hfull
            rw [P1.dum] at hfull
            simp at hfull
            omega
          rw [Bool.not_eq_true] at hfull
          rw [hfull]
          simp only [Bool.not_false, Bool.and_false, Bool.false_eq_true, ↓reduceIte]
          refine wpAny_pure ?_
          exact fin1 es' t1 hp P1 (by rw [P2, hins, hsz]) hnf P4 (by rw [P5, hpl]) _ _ true sb1 ho1
      | candidate j i nx =>
        obtain ⟨hh, hi⟩ := probe_cand T hmet
        rw [hsz] at hi
        have hge : es[i]? = some es[i] := Array.getElem?_eq_getElem hi
        obtain ⟨n, tk, hn, e⟩ := hok es[i] (Array.getElem_mem_toList hi)
        have hnk : n = k := by
          have hh' : ((es[i]?.map (·.1)).getD 0) = (k : Int) := hh
          rw [hge, e] at hh'
          have : (n : Int) = (k : Int) := hh'
          omega
        subst hnk
        rw [e] at hge
        have hin : n ∈ m := (hmem n).mp (List.mem_map.mpr ⟨es[i], Array.getElem_mem_toList hi, by rw [e]⟩)
        dsimp only
        rw [hge]
        have hfl : ∀ y ∈ (Array.filter (fun x => x.fst == (n : Int)) es).toList.map (fun x => x.snd), ∃ (z : Int) (tz : Tok), y = Value.int z tz := fun y hy => by
          obtain ⟨e', he', rfl⟩ := List.mem_map.mp hy
          rw [Array.toList_filter] at he'
          obtain ⟨z, tz, _, rfl⟩ := hok e' (List.mem_filter.mp he').1
          exact ⟨_, _, rfl⟩
        cases hl : t.led with
        | true =>
          rw [if_neg (by decide)]
          dsimp only
          refine wpAny_bind (wpAny_holding ((intKind prog w).eqBool (intKind_is _ _ _ _) hkey ?_))
          refine wpAny_bind (wpAny_setState_of ho rfl hf ?_)
          simp only [decide_true, Bool.and_self, ↓reduceIte]
          refine wpAny_pure ?_
          dsimp only
          exact wpAny_pure (there false hin)
        | false =>
          rw [if_pos (by decide)]
          refine wpAny_bind (seen_no (n : Int) tx ?_ _ hfl)
          simp only [Bool.false_eq_true, ↓reduceIte]
          refine wpAny_bind (wpAny_holding ((intKind prog w).eqBool (intKind_is _ _ _ _) hkey ?_))
          refine wpAny_bind (wpAny_setState_of ho rfl hf ?_)
          simp only [decide_true, Bool.and_self, ↓reduceIte]
          refine wpAny_pure ?_
          dsimp only
          exact wpAny_pure (there false hin)
    · rename_i hmet
      exact (probe_not T hmet).elim
end
end ST
set_option Elab.async false
set_option linter.all false
set_option maxRecDepth 100000
set_option maxHeartbeats 3200000
namespace ST
open PySem
open S6 (follow I6 newS new6)
section
variable {prog : Program} {w : World} {A : Around} {R : Result → Shared → Prop} {I : Addr} {fp wr : List Addr} {G : Array GenState → Array GenState → Prop} {St : Nat → Shared → Prop}
theorem loopG {l : List Nat} (W : WalksS prog w A.in1 I fp wr G l.length (fun i v => ∃ k t, l[i]? = some k ∧ v = Value.int (k : Int) t) St) (S : Addr) (hSf : S ∉ fp) (hv : ∀ k ∈ l, k < 2 ^ 32) (hll : l.length ≤ 20000) :
    ∀ (j i : Nat) (s : Shared), l.length - i = j → i ≤ l.length → St i s → Gs w s.heap S (l.take i) →
      (∀ s', Moved (S :: wr) G s s' → Gs w s'.heap S l → R (.ok (.ret .none)) s') → codeAny (model prog w) A (.builtin "set.update.loop" ⟨[.ref S, .ref I], []⟩) R s := by
  have hSw : S ∉ wr := fun q => hSf (W.sub _ q)
  have sub1 : ∀ b ∈ wr, b ∈ S :: wr := fun b hb => List.mem_cons_of_mem _ hb
  intro j
  induction j with
  | zero =>
    intro i s hj hi st six done
    obtain rfl : i = l.length := by omega
    rw [List.take_length] at six
    refine codeAny_builtin PyProof.Rows.F.entry_set_update_loop ?_
    rw [Around.under_plainId PyProof.Rows.F.plain_set_update_loop _]
    show wpAny _ A.in1 (pyNext (.ref I) >>= _) _ _ s
    refine wpAny_bind (W.done s _ _ st fun s' mv => ?_)
    show wpAny _ A.in1 (ret Value.none) _ _ s'
    exact wpAny_pure (done s' (mv.mono sub1) (six.kept fun o e => mv.heap S o hSw e))
  | succ j ih =>
    intro i s hj hi st six done
    have hlt : i < l.length := by omega
    refine codeAny_builtin PyProof.Rows.F.entry_set_update_loop ?_
    rw [Around.under_plainId PyProof.Rows.F.plain_set_update_loop _]
    show wpAny _ A.in1 (pyNext (.ref I) >>= _) _ _ s
    refine wpAny_bind (W.item i s _ _ hlt st fun v s' hP st' mv => ?_)
    obtain ⟨k, t, hk, rfl⟩ := hP
    have hk6 : k < 2 ^ 32 := hv k (List.mem_of_getElem? hk)
    have six' : Gs w s'.heap S (l.take i) := six.kept fun o e => mv.heap S o hSw e
    show wpAny _ A.in1 (holding [Value.int (k : Int) t] (setAdd S (.int (k : Int) t)) >>= _) _ _ s'
    refine wpAny_bind (wpAny_holding ?_)
    unfold setAdd
    refine wpAny_holding ?_
    refine wpAny_bind (wpAny_pyHash_int ?_)
    rw [hash32 hk6]
    refine addG (s := { s' with toks := s'.toks + 1 }) six' hk6 (by rw [List.length_take]; omega) fun h' b sb q => ?_
    have q' : Gs w h' S (l.take (i + 1)) := by
      have e : l.take (i + 1) = l.take i ++ [k] := by rw [List.take_succ, hk]; rfl
      rw [e]; exact q
    refine wpAny_pure ⟨plainId_quiet PyProof.Rows.F.plain_set_update_loop _, ih (i + 1) _ (by omega) hlt (W.frame _ s' _ _ st' (Nat.le_succ _) fun c hc o e => ?_) q' fun s'' mv2 six2 => ?_⟩
    · rw [sb.2 c (fun z : c = S => hSf (by rw [← z]; exact hc))]; exact e
    · refine done s'' (Moved.trans W.gtrans ((mv.mono sub1).then_heap (Nat.le_succ _) fun c o hc e => ?_) mv2) six2
      rw [sb.2 c (fun z : c = S => hc (by rw [z]; exact List.mem_cons_self))]; exact e
end
section
variable {prog : Program} {w : World} {A : Around} {E : Value → Shared → Prop} {s : Shared}
theorem gs_nil (w : World) {h : Heap} : Gs w (h.push (newS w)) h.objs.size [] := by
  refine ⟨#[], 0, .fresh 0 0 (!follow w), Heap.get?_push_size _ rfl, ⟨fun i k _ hk => absurd hk (by show ¬ k < 0; omega), rfl, fun j ⟨i, hi, _⟩ => absurd hi (by show ¬ i < 0; omega), ⟨3, rfl⟩, Nat.zero_le _, Nat.le_refl _⟩, rfl, by show 0 * 5 < 7 * 3; decide, rfl, rfl, fun e he => by simp at he, fun n => by simp, Nat.le_refl _⟩
theorem setOfG {a : Addr} {items : Array Value} {l : List Nat} {Q : Value → Shared → Prop} (hh : A.handled = none) (hl : s.heap.IsList a items) (hi : PyProof.Rows.IntsAre items.toList (I6 l)) (hv : ∀ k ∈ l, k < 2 ^ 32) (hll : l.length ≤ 20000)
    (h : ∀ (h' : Heap) (tk : Nat), Gs w h' s.heap.objs.size l → (∀ b o, b < s.heap.objs.size → s.heap.get? b = some o → h'.get? b = some o) → Q (.ref s.heap.objs.size) { s with heap := h', toks := tk }) :
    wpAny (model prog w) A (call (.type "set") [.ref a]) Q E s := by
  obtain ⟨c, tl, hmro⟩ := F.called_set.mro
  have hmade := F.called_set.made
  have hsub := F.called_set.sub
  refine wpAny_call (codeAny_of_tree ?_)
  show wpAny _ _ (callAny (.type "set") _) _ _ _
  refine wpAny_pure ⟨Code.quiet_builtin _ (by decide +kernel), codeAny_builtin F.entry_type_call ?_⟩
  rw [Around.under_plain (weight_type_call_type "set" [.ref a] []) rfl]
  have n1 := F.called_set.notType
  have n2 := F.called_set.canCreate
  have n3 := F.typeCall_set_1 (.ref a)
  repeat (any_goals (first | assumption | wp_step))
  refine codeAny_mono (new6 (.ref a) (E := E) (Q1 := fun x s1 => x = .ref s.heap.objs.size ∧ s1 = { s with heap := s.heap.push (newS w) }) ⟨rfl, rfl⟩) fun r s1 hr => ?_
  cases r with
  | error e => exact hr
  | ok fl =>
    cases fl with
    | ret x =>
      obtain ⟨rfl, rfl⟩ := hr
      have hS : (s.heap.push (newS w)).get? s.heap.objs.size = some (newS w) := Heap.get?_push_size _ rfl
      have hT : Shared.TypeIs { s with heap := s.heap.push (newS w) } (.ref s.heap.objs.size) "set" := ⟨_, hS, rfl⟩
      have hli := F.called_set.init.lookup
      have hbi := F.called_set.init.bind (.ref s.heap.objs.size)
      repeat (any_goals (first | assumption | wp_step))
      refine codeAny_mono (codeAny_call_builtin (R := wants (fun r s2 => r = .none ∧ ∃ h' tk, s2 = { s with heap := h', toks := tk } ∧ Gs w h' s.heap.objs.size l ∧ (∀ b o, b < s.heap.objs.size → s.heap.get? b = some o → h'.get? b = some o)) E)
        F.called_set.init.plain F.entry_set_init (check_set_init_1 hT ?_)) fun r2 s2 hr2 => ?_
      · obtain ⟨ol, hol, hcl, nl, hdl⟩ := hl
        obtain ⟨ocls, odict, odata, oslots⟩ := ol
        simp only at hcl hdl
        subst hcl; subst hdl
        have hol' : (s.heap.push (newS w)).get? a = some { cls := .type "list", dict := odict, data := .seq items nl, slots := oslots } := Heap.get?_push_of_some _ hol
        have hsls := F.sub_list_set
        have hslf := F.sub_list_frozenset
        have hne : (Value.type "list" == Value.type "dict") = false := by decide
        have hl1 : (s.heap.push (newS w)).IsList a items := ⟨_, hol', rfl, nl, rfl⟩
        unfold Builtin.«set.__init__» noKeywords Builtin.Frozenset.updateFrom
        generalize hPI : pyIter = PI
        wp_walk
        subst hPI
        refine wpAny_pyIter_list hl1 ?_
        refine wpAny_bind (wpAny_runValue ?_)
        have haS : a < s.heap.objs.size := Heap.lt_size hol
        have hh3 : A.in1.in1.in1.handled = none := by simp [hh]
        have hneI : a ≠ (s.heap.push (newS w)).objs.size := by rw [Heap.size_push]; exact Nat.ne_of_lt (Nat.lt_succ_of_lt haS)
        have hSf : s.heap.objs.size ∉ [(s.heap.push (newS w)).objs.size, a] := by
          rw [Heap.size_push]
          simp only [List.mem_cons, List.not_mem_nil, or_false, not_or]
          exact ⟨Nat.ne_of_lt (Nat.lt_succ_self _), Nat.ne_of_gt haS⟩
        have hlen : items.size = l.length := by
          have := PyProof.Rows.IntsAre.length hi
          unfold I6 at this
          simpa using this
        have W0 := (Walks.list (prog := prog) (w := w) hh3 (s.heap.push (newS w)).objs.size a hneI items).toS
        have W : WalksS prog w A.in1.in1.in1 (s.heap.push (newS w)).objs.size [(s.heap.push (newS w)).objs.size, a] [(s.heap.push (newS w)).objs.size] (fun x y => y = x) l.length (fun i v => ∃ k t, l[i]? = some k ∧ v = Value.int (k : Int) t) (fun i s' => s'.heap.IsListIter (s.heap.push (newS w)).objs.size a i ∧ s'.heap.IsList a items) := by
          refine ⟨W0.sub, W0.grefl, W0.gtrans, W0.frame, fun i s' Q' E' hi' st' hQ' => W0.item i s' Q' E' (by rw [hlen]; exact hi') st' fun v s'' hP => hQ' v s'' ?_, fun s' Q' E' st' hQ' => W0.done s' Q' E' (by rw [hlen]; exact st') hQ', W0.self⟩
          obtain ⟨t, ht⟩ := PyProof.Rows.IntsAre.int_at hi i v (by rw [Array.getElem?_toList]; exact hP)
          refine ⟨l[i], t, List.getElem?_eq_getElem hi', ?_⟩
          rw [ht]
          congr 1
          unfold I6
          rw [List.getD_eq_getElem?_getD, List.getElem?_map, List.getElem?_eq_getElem hi']; rfl
        refine loopG W s.heap.objs.size hSf hv hll l.length 0 _ (by omega) (Nat.zero_le _) ⟨⟨_, Heap.get?_push_size _ rfl, rfl, rfl⟩, (hl1.push _)⟩ ?hS0 ?hR
        case hS0 => exact (gs_nil w).kept fun o e => Heap.get?_push_of_some _ e
        case hR =>
          intro s' hm hS'
          obtain ⟨h', g', d', tk', os'⟩ := s'
          have eg : g' = s.gens := hm.gens
          have ed : d' = s.drawn := hm.drawn
          have eo : os' = s.os := hm.os
          subst eg; subst ed; subst eo
          show wpAny _ _ _ _ _ _
          refine wpAny_pure ?_
          show wpAny _ _ (ret Value.none) _ _ _
          refine wpAny_pure ⟨rfl, h', tk', rfl, hS', fun b o hb e => ?_⟩
          have hb1 : b ≠ s.heap.objs.size := Nat.ne_of_lt hb
          have hb2 : b ≠ (s.heap.push (newS w)).objs.size := by rw [Heap.size_push]; exact Nat.ne_of_lt (Nat.lt_succ_of_lt hb)
          exact hm.heap b o (by simp only [List.mem_cons, List.not_mem_nil, or_false, not_or]; exact ⟨hb1, hb2⟩) (Heap.get?_push_of_some _ (Heap.get?_push_of_some _ e))
      · cases r2 with
        | error e => exact hr2
        | ok fl2 =>
          cases fl2 with
          | ret r =>
            obtain ⟨rfl, h', tk, rfl, hS', hk'⟩ := hr2
            repeat (any_goals (first | assumption | wp_step))
            exact h _ _ hS' hk'
          | _ => exact hr2.elim
    | _ => exact hr.elim
end
end ST
set_option Elab.async false
set_option linter.all false
set_option maxRecDepth 100000
set_option maxHeartbeats 3200000
namespace ST
open PySem
open S6 (follow follow_ask ordE ordE_perm slot_nx entry_nx args_nx slot_si entry_si args_si entry_it)
def sl (w : World) (t : SetTable) : Nat → Nat
  | 0 => 0
  | i + 1 => if follow w = true then 0 else t.place.getD i 0 + 1
abbrev setO (t : SetTable) (es : Array (Int × Value)) (ep : Nat) : Obj := { cls := .type "set", dict := none, data := .set es ep t, slots := #[] }
abbrev itO (w : World) (t : SetTable) (n : Nat) (a : Addr) (ep i : Nat) : Obj := { cls := .type "set_iterator", data := .fields #[rawInt (sl w t i), rawInt i, .ref a, rawInt n, rawInt ep] }
section
variable {prog : Program} {w : World} {A : Around} {E : Value → Shared → Prop} {s : Shared}
theorem nextG {a : Addr} {t : SetTable} {es : Array (Int × Value)} {ep i : Nat} {Q : Option (Value × Nat) → Shared → Prop} (T : Tab t) (hsz : t.place.size = es.size) (hled : t.led = !follow w) (hpl : t.plain = true) (ho : s.heap.get? a = some (setO t es ep)) (hi : i ≤ es.size)
    (h : Q (((ordE w a ep es)[i]?).map fun e => (e.2, sl w t (i + 1))) s) : wpAny (model prog w) A (setNext a (sl w t i) i ep) Q E s := by
  have hf : t.fits es.size = true := T.fits hsz
  unfold setNext
  refine wpAny_bind (wpAny_setState_of ho rfl hf ?_)
  dsimp only
  refine wpAny_bind (follow_ask ?_)
  cases hw : follow w with
  | true =>
    simp only [↓reduceIte, bne_self_eq_false, Bool.false_eq_true]
    refine wpAny_bind ?_
    unfold setWalk
    refine wpAny_bind (wpAny_setState_of ho rfl hf ?_)
    dsimp only
    refine wpAny_bind (follow_ask ?_)
    rw [hw]
    simp only [↓reduceIte]
    refine wpAny_bind (wpAny_askSetting (wpAny_pure (wpAny_pure ?_)))
    have e1 : ordE w a ep es = pickOrder (w.params.setOrder a ep) es := by unfold ordE; rw [if_pos hw]
    have e2 : sl w t (i + 1) = sl w t i := by
      cases i with
      | zero => show (if follow w = true then 0 else _) = 0; rw [if_pos hw]
      | succ j => show (if follow w = true then 0 else _) = (if follow w = true then 0 else _); rw [if_pos hw, if_pos hw]
    rw [e1, e2] at h
    exact h
  | false =>
    simp only [Bool.false_eq_true, ↓reduceIte]
    have e1 : ordE w a ep es = es := by unfold ordE; rw [if_neg (by rw [hw]; decide)]
    have e2 : ∀ j, sl w t (j + 1) = t.place.getD j 0 + 1 := fun j => by show (if follow w = true then 0 else _) = _; rw [if_neg (by rw [hw]; decide)]
    have e3 : SetTable.below t.place (sl w t i) = i := by
      cases i with
      | zero => exact below_zero T.up
      | succ j => rw [e2]; exact below_next T.up (by omega)
    have hl : t.led = true := by rw [hled, hw]; rfl
    refine S6.ite_no (c := !t.plain && decide (es.size > 1)) (by rw [hpl]; rfl) ?_
    refine wpAny_bind (S6.ite_no (c := !t.led && !es.isEmpty) (by rw [hl]; rfl) (wpAny_pure ?_))
    refine wpAny_pure ?_
    show Q (match es[SetTable.below t.place (sl w t i)]?, t.place[SetTable.below t.place (sl w t i)]? with
      | some (_, x), some j => some (x, j + 1)
      | _, _ => none) s
    rw [e3]
    rw [e1, e2] at h
    by_cases hlt : i < es.size
    · have q1 : es[i]? = some es[i] := Array.getElem?_eq_getElem (by omega)
      have q2 : t.place[i]? = some (t.place.getD i 0) := get_iff.mpr ⟨by omega, rfl⟩
      rw [q1] at h
      rw [q1, q2]
      exact h
    · have q1 : es[i]? = none := Array.getElem?_eq_none (by omega)
      rw [q1] at h
      rw [q1]
      exact h
theorem walksG (hh : A.handled = none) (I a : Addr) (hne : a ≠ I) {t : SetTable} {es : Array (Int × Value)} {ep : Nat} (T : Tab t) (hsz : t.place.size = es.size) (hled : t.led = !follow w) (hpl : t.plain = true) :
    Walks prog w A I [I, a] [I] es.size (fun i v => ((ordE w a ep es).map (·.2))[i]? = some v) (fun i h => h.get? I = some (itO w t es.size a ep i) ∧ h.get? a = some (setO t es ep)) where
  sub := fun b hb => by simp at hb; simp [hb]
  frame := fun _ _ _ st hk => ⟨hk I (by simp) _ st.1, hk a (by simp) _ st.2⟩
  item := fun i s Q E hi st hQ => by
    have hf : t.fits es.size = true := T.fits hsz
    have hos : (ordE w a ep es).size = es.size := by
      rw [← Array.length_toList, (ordE_perm w a ep es).length_eq, Array.length_toList]
    have hT : s.TypeIs (.ref I) "set_iterator" := ⟨_, st.1, rfl⟩
    have q1 : (ordE w a ep es)[i]? = some (ordE w a ep es)[i] := Array.getElem?_eq_getElem (by omega)
    unfold pyNext
    refine wpAny_bind (wpAny_attempt (wpAny_callSpecial?_slot (name := Str.ofString "__next__") hT slot_nx (wpAny_call_entry slot_nx hT entry_nx ?_ (args_nx _))))
    unfold Builtin.«set_iterator.__next__» slotArgs
    simp only [List.isEmpty_nil, Bool.not_true, Bool.false_eq_true, ↓reduceIte, List.length_nil, bne_self_eq_false]
    refine wpAny_bind (wpAny_pure ?_)
    refine wpAny_bind (wpAny_fieldsOf st.1 rfl ?_)
    show wpAny _ _ (setEntries a >>= _) _ _ s
    refine wpAny_bind (wpAny_setEntries_of st.2 rfl hf ?_)
    simp only [bne_self_eq_false, Bool.false_eq_true, ↓reduceIte]
    show wpAny _ _ (setNext a (Int.toNat ((sl w t i : Nat) : Int)) (Int.toNat ((i : Nat) : Int)) (Int.toNat ((ep : Nat) : Int)) >>= _) _ _ s
    rw [Int.toNat_natCast, Int.toNat_natCast, Int.toNat_natCast]
    refine wpAny_bind (nextG T hsz hled hpl st.2 (Nat.le_of_lt hi) ?_)
    rw [q1]
    dsimp only [Option.map]
    refine wpAny_bind (wpAny_setField st.1 rfl (by simp) ?_)
    have st2 := Heap.get?_update_self (Obj.mapFields (·.setIfInBounds 0 (rawInt (sl w t (i + 1))))) st.1 rfl
    refine wpAny_bind (wpAny_setField st2 rfl (by simp [Obj.mapFields]) (wpAny_pure ⟨_, rfl, wpAny_pure (hQ _ _ s.toks (by rw [Array.getElem?_map, q1]; rfl) ⟨?_, ?_⟩ fun b o hb e => ?_)⟩))
    · have := Heap.get?_update_self (Obj.mapFields (·.setIfInBounds 1 (rawInt ((i : Int) + 1)))) st2 rfl
      exact this
    · rw [Heap.get?_update_other _ _ (Ne.symm hne), Heap.get?_update_other _ _ (Ne.symm hne)]; exact st.2
    · have hbI : I ≠ b := fun z => hb (by simp [z])
      rw [Heap.get?_update_other _ _ hbI, Heap.get?_update_other _ _ hbI]; exact e
  done := fun s Q E st hQ => by
    have hf : t.fits es.size = true := T.fits hsz
    have hos : (ordE w a ep es).size = es.size := by
      rw [← Array.length_toList, (ordE_perm w a ep es).length_eq, Array.length_toList]
    have hT : s.TypeIs (.ref I) "set_iterator" := ⟨_, st.1, rfl⟩
    have q1 : (ordE w a ep es)[es.size]? = none := Array.getElem?_eq_none (by omega)
    unfold pyNext
    refine wpAny_bind (wpAny_attempt (wpAny_callSpecial?_slot (name := Str.ofString "__next__") hT slot_nx (wpAny_call_entry slot_nx hT entry_nx ?_ (args_nx _))))
    unfold Builtin.«set_iterator.__next__» slotArgs
    simp only [List.isEmpty_nil, Bool.not_true, Bool.false_eq_true, ↓reduceIte, List.length_nil, bne_self_eq_false]
    refine wpAny_bind (wpAny_pure ?_)
    refine wpAny_bind (wpAny_fieldsOf st.1 rfl ?_)
    show wpAny _ _ (setEntries a >>= _) _ _ s
    refine wpAny_bind (wpAny_setEntries_of st.2 rfl hf ?_)
    simp only [bne_self_eq_false, Bool.false_eq_true, ↓reduceIte]
    show wpAny _ _ (setNext a (Int.toNat ((sl w t es.size : Nat) : Int)) (Int.toNat ((es.size : Nat) : Int)) (Int.toNat ((ep : Nat) : Int)) >>= _) _ _ s
    rw [Int.toNat_natCast, Int.toNat_natCast, Int.toNat_natCast]
    refine wpAny_bind (nextG T hsz hled hpl st.2 (Nat.le_refl _) ?_)
    rw [q1]
    dsimp only [Option.map]
    refine wpAny_bind (wpAny_setField st.1 rfl (by simp) ?_)
    show wpAny _ _ (newExc (.type "StopIteration") [] >>= _) _ _ _
    refine wpAny_bind ?_
    simp only [newExc, newTuple]
    refine wpAny_bind (wpAny_newObj_type ?_ (by size_fits))
    refine wpAny_bind (m := firstArgMember _ _) (wpAny_of_eq (a := Value.none) (by first | rfl | (simp only [firstArgMember]; rfl)) ?_)
    refine wpAny_newObj_type ?_ (by size_fits)
    simp only [raiseNew]
    refine wpAny_bind (wpAny_handled ?_)
    first | rw [show A.in1.handled = none from hh] | rw [hh]
    refine wpAny_bind (wpAny_pure (wpAny_throw ?_))
    refine wpAny_bind (wpAny_isInstance (T := "StopIteration") (b := true) ⟨_, Heap.get?_push_size _ rfl, rfl⟩ isSubtype_stop ?_)
    refine wpAny_pure (hQ _ _ fun b o hb e => ?_)
    have hbI : I ≠ b := fun z => hb (by simp [z])
    exact Heap.get?_push_of_some _ (Heap.get?_push_of_some _ (by rw [Heap.get?_update_other _ _ hbI]; exact e))
  self := fun i s Q E st hQ => by
    have hT : s.TypeIs (.ref I) "set_iterator" := ⟨_, st.1, rfl⟩
    refine wpAny_pyIter_slot hT slot_si (wpAny_call_entry slot_si hT entry_si ?_ (args_si _))
    show wpAny _ _ (ret (.ref I)) _ _ s
    exact wpAny_pure ⟨_, rfl, "set_iterator", _, hT, slot_nx.lookup, hQ⟩
end
end ST
set_option Elab.async false
set_option linter.all false
set_option maxRecDepth 100000
set_option maxHeartbeats 3200000
namespace ST
open PySem
open S6 (follow follow_ask ordE ordE_perm slot_nx entry_nx args_nx slot_si entry_si args_si entry_it I6 ite_no ite_yes)
section
variable {prog : Program} {w : World} {A : Around} {E : Value → Shared → Prop} {s : Shared}
theorem iterG {a : Addr} {t : SetTable} {es : Array (Int × Value)} {ep : Nat} {Q : Value → Shared → Prop} (T : Tab t) (hsz : t.place.size = es.size) (hpl : t.plain = true) (ho : s.heap.get? a = some (setO t es ep))
    (h : Q (.ref s.heap.objs.size) { s with heap := s.heap.push (itO w t es.size a ep 0) }) : wpAny (model prog w) A (pyIter (.ref a)) Q E s := by
  have hf : t.fits es.size = true := T.fits hsz
  have hT : s.TypeIs (.ref a) "set" := ⟨_, ho, rfl⟩
  refine wpAny_pyIter_slot hT F.slot_set_iter (wpAny_call_entry F.slot_set_iter hT entry_it ?_ (F.args_set_iter_1 _))
  unfold Builtin.«frozenset.__iter__» Builtin.Frozenset.slot0 slotArgs
  simp only [List.isEmpty_nil, Bool.not_true, Bool.false_eq_true, ↓reduceIte, List.length_nil, bne_self_eq_false, bind_assoc]
  unfold Builtin.Frozenset.addrOf Builtin.Frozenset.sizeOf
  refine wpAny_bind (wpAny_pure ?_)
  try dsimp only
  refine wpAny_bind (wpAny_pure ?_)
  refine wpAny_bind (wpAny_bind (wpAny_setEntries_of ho rfl hf (wpAny_pure ?_)))
  refine wpAny_bind ?_
  unfold setDrawn
  refine wpAny_bind (wpAny_setState_of ho rfl hf ?_)
  dsimp only
  refine wpAny_bind (follow_ask (wpAny_pure ?_))
  refine S6.ite_no (c := !follow w && (!t.plain && decide (es.size > 1))) (by rw [hpl]; simp) ?_
  refine wpAny_bind (wpAny_pure ?_)
  refine wpAny_bind (wpAny_setEpoch_of ho rfl hf ?_)
  exact wpAny_bind (wpAny_newObj_type (wpAny_pure ⟨_, rfl, "set_iterator", _, ⟨_, Heap.get?_push_size _ rfl, rfl⟩, slot_nx.lookup, h⟩))
theorem collG {a : Addr} {t : SetTable} {es : Array (Int × Value)} {ep : Nat} {Q : List Value → Shared → Prop} (hh : A.handled = none) (T : Tab t) (hsz : t.place.size = es.size) (hled : t.led = !follow w) (hpl : t.plain = true) (hes : es.size ≤ 20000) (ho : s.heap.get? a = some (setO t es ep))
    (hQ : ∀ s' (acc : Array Value), Moved [] (fun x y => y = x) s s' → s.heap.objs.size < s'.heap.objs.size → ItemsOf (fun i v => ((ordE w a ep es).map (·.2))[i]? = some v) acc es.size → Q acc.toList s') : wpAny (model prog w) A (collect (.ref a)) Q E s := by
  have haS : a < s.heap.objs.size := Heap.lt_size ho
  have hSa : s.heap.objs.size ≠ a := Nat.ne_of_gt haS
  unfold collect
  refine wpAny_bind (wpAny_runValue (codeAny_builtin F.entry_proto_collect ?_))
  rw [Around.under_plainId F.plain_proto_collect _]
  show wpAny _ A.in1 (newList [] >>= fun l => again (.builtin "list.__iadd__" ⟨[l, .ref a], []⟩)) _ _ s
  refine wpAny_bind (wpAny_newObj_type ?_)
  refine wpAny_pure ⟨plainId_quiet F.plain_list_iadd _, codeAny_builtin F.entry_list_iadd ?_⟩
  rw [Around.under_plainId F.plain_list_iadd _]
  show wpAny _ A.in1 (Builtin.List.listExtendWith (.ref s.heap.objs.size) (.ref a) (.ref s.heap.objs.size)) _ _ _
  have ho1 : (s.heap.push { cls := .type "list", data := .seq ([] : List Value).toArray }).get? a = some (setO t es ep) := Heap.get?_push_of_some _ ho
  generalize hh1 : s.heap.push { cls := .type "list", data := .seq ([] : List Value).toArray } = g1 at ho1
  have hg1 : g1.get? s.heap.objs.size = some { cls := .type "list", data := .seq ([] : List Value).toArray } := by rw [← hh1]; exact Heap.get?_push_size _ rfl
  have hz1 : g1.objs.size = s.heap.objs.size + 1 := by rw [← hh1, Heap.size_push]
  have hT : Shared.TypeIs { s with heap := g1 } (.ref a) "set" := ⟨_, ho1, rfl⟩
  unfold Builtin.List.listExtendWith
  refine wpAny_bind (wpAny_typeOf hT ?_)
  have n1 : Builtin.List.listSameRef (.ref s.heap.objs.size) (.ref a) = false := by simp [Builtin.List.listSameRef, hSa]
  have n2 : (Value.type "set" == Value.type "list") = false := by decide
  have n3 : (Value.type "set" == Value.type "tuple") = false := by decide
  simp only [n1, n2, n3, Bool.or_false, Bool.false_eq_true, if_false]
  refine wpAny_bind (iterG (s := { s with heap := g1 }) T hsz hpl ho1 ?_)
  have ho2 : (g1.push (itO w t es.size a ep 0)).get? a = some (setO t es ep) := Heap.get?_push_of_some _ ho1
  have hi2 : (g1.push (itO w t es.size a ep 0)).get? g1.objs.size = some (itO w t es.size a ep 0) := Heap.get?_push_size _ rfl
  have hg2 : (g1.push (itO w t es.size a ep 0)).get? s.heap.objs.size = some { cls := .type "list", data := .seq ([] : List Value).toArray } := Heap.get?_push_of_some _ hg1
  show wpAny _ _ _ _ _ { s with heap := g1.push (itO w t es.size a ep 0) }
  have old2 : ∀ b o, s.heap.get? b = some o → (g1.push (itO w t es.size a ep 0)).get? b = some o := fun b o e => Heap.get?_push_of_some _ (by rw [← hh1]; exact Heap.get?_push_of_some _ e)
  generalize hg3 : g1.push (itO w t es.size a ep 0) = g2 at ho2 hi2 hg2 old2
  have hT2 : Shared.TypeIs { s with heap := g2 } (.ref a) "set" := ⟨_, ho2, rfl⟩
  refine wpAny_bind (wpAny_holding ?_)
  unfold Builtin.List.listLengthHint
  refine wpAny_bind (wpAny_specialOf hT2 F.slot_set_len.lookup ?_)
  have sp : splitId "set.__len__" = some ("set", "__len__") := by kernel_rfl
  simp only [sp]
  refine wpAny_bind (wpAny_isInstance hT2 sub_set_self ?_)
  simp only [Bool.not_true, Bool.false_eq_true, if_false]
  refine ite_yes (by kernel_rfl) ?_
  refine wpAny_bind (wpAny_typeOf hT2 ?_)
  refine wpAny_pure ?_
  refine ite_yes (by kernel_rfl) ?_
  refine wpAny_bind (wpAny_rule ?_)
  refine wpAny_bind ?_
  show wpAny _ A.in1 (updateSeq s.heap.objs.size (·.push .none) >>= fun _ => updateSeq s.heap.objs.size (·.pop)) _ _ _
  refine wpAny_bind (wpAny_updateSeq hg2 rfl ?_)
  have k2 := Heap.get?_update_self (Obj.mapSeq (·.push Value.none)) hg2 rfl
  refine wpAny_updateSeq k2 rfl ?_
  have k3 := Heap.get?_update_self (Obj.mapSeq (·.pop)) k2 rfl
  have oth : ∀ b o, b ≠ s.heap.objs.size → g2.get? b = some o → ((g2.update s.heap.objs.size (Obj.mapSeq (·.push Value.none))).update s.heap.objs.size (Obj.mapSeq (·.pop))).get? b = some o :=
    fun b o hb e => (Heap.get?_update_other _ _ (Ne.symm hb)).trans ((Heap.get?_update_other _ _ (Ne.symm hb)).trans e)
  have hI : g1.objs.size ≠ s.heap.objs.size := by omega
  have haI : a ≠ g1.objs.size := Nat.ne_of_lt (by rw [hz1]; exact Nat.lt_succ_of_lt haS)
  have W := (walksG (prog := prog) (w := w) (A := A.in1) (by simp [hh]) g1.objs.size a haI (ep := ep) T hsz hled hpl).toS
  refine wpAny_pure ⟨plainId_quiet F.plain_extend_loop _, codeAny_extend_loopS W (by rw [sizeLine_eq]; omega) s.heap.objs.size (by simp only [List.mem_cons, List.not_mem_nil, or_false, not_or]; exact ⟨Ne.symm hI, hSa⟩) _ es.size 0 _ _ _ rfl (Nat.zero_le _) ⟨oth _ _ hI hi2, oth _ _ (Ne.symm hSa) ho2⟩ k3 (ItemsOf.nil _) fun s' acc' c' hm' hS' hacc => ?_⟩
  show wpAny _ A (load s.heap.objs.size >>= _) _ _ s'
  refine wpAny_bind (wpAny_load hS' ?_)
  refine wpAny_pure (hQ s' acc' ⟨fun b o _ e => ?_, hm'.gens, hm'.drawn, hm'.os, hm'.toks⟩ (Heap.lt_size hS') hacc)
  have hb : b < s.heap.objs.size := Heap.lt_size e
  refine hm'.heap b o (by simp only [List.mem_cons, List.not_mem_nil, or_false, not_or]; exact ⟨Nat.ne_of_lt hb, Nat.ne_of_lt (by rw [hz1]; exact Nat.lt_succ_of_lt hb)⟩) (oth b o (Nat.ne_of_lt hb) (old2 b o e))
theorem sortG {a : Addr} {m : List Nat} {Q : Value → Shared → Prop} (hh : A.handled = none) (hS : Gs w s.heap a m) (hml : m.length ≤ 20000)
    (h : ∀ (s' : Shared) (out : List Value) (ep : Nat) (p : Addr) (ks : List Nat), s'.os = s.os → s'.gens = s.gens → s'.drawn = s.drawn → (∀ b o, s.heap.get? b = some o → s'.heap.get? b = some o) → s.heap.objs.size ≤ p → PyProof.Rows.IntsAre out (I6 ks) → ks.Pairwise (· ≤ ·) → (∀ x, x ∈ ks ↔ x ∈ m) → ks.length ≤ m.length →
      s'.heap.get? p = some { cls := .type "list", data := .seq out.toArray ep } → Q (.ref p) s') :
    wpAny (model prog w) A (call (.builtin "sorted") [.ref a]) Q E s := by
  obtain ⟨es, ep, t, ho, T, hsz, hroom, hled, hpl, hok, hmem, hle⟩ := hS
  have hp := ordE_perm w a ep es
  refine Calls.call_function_entry PyProof.Rows.kind_sorted PyProof.Rows.plain_sorted PyProof.Rows.entry_sorted (PyProof.Rows.args_sorted1 _) ?_
  unfold Builtin.«sorted»
  refine wpAny_bind (m := checkCount "sorted" 1 1 _) (wpAny_pure ?_)
  refine wpAny_bind (collG (A := A.in1) (by simp [hh]) T hsz hled hpl (by omega) ho fun s1 acc mv hlt hacc => ?_)
  have hosz : (ordE w a ep es).size = es.size := by
    rw [← Array.length_toList, hp.length_eq, Array.length_toList]
  have eacc : acc.toList = (ordE w a ep es).toList.map (·.2) := by
    apply List.ext_getElem?
    intro j
    rw [Array.getElem?_toList]
    by_cases hj : j < acc.size
    · have q := hacc.2 j acc[j] (Array.getElem?_eq_getElem hj)
      rw [Array.getElem?_eq_getElem hj, ← q, ← Array.getElem?_toList, Array.toList_map]
    · rw [Array.getElem?_eq_none (by omega), List.getElem?_eq_none (by rw [List.length_map, Array.length_toList]; have := hacc.1; omega)]
  have hoko : OkE (ordE w a ep es).toList := fun e he => hok e (hp.mem_iff.mp he)
  have intsL : ∀ l : List (Int × Value), OkE l → PyProof.Rows.IntsAre (l.map (·.2)) (l.map (·.1)) := by
    intro l
    induction l with
    | nil => intro _; exact .nil
    | cons e l ih =>
      intro q
      obtain ⟨n, tk, _, ht⟩ := q e List.mem_cons_self
      rw [List.map_cons, List.map_cons, ht]
      exact .cons _ _ (ih fun x hx => q x (List.mem_cons_of_mem _ hx))
  have hI : PyProof.Rows.IntsAre acc.toList ((ordE w a ep es).toList.map (·.1)) := by
    rw [eacc]; exact intsL _ hoko
  have hlacc : acc.toList.length ≤ sizeLine := by rw [Array.length_toList, hacc.1, sizeLine_eq]; omega
  refine wpAny_bind (wpAny_newList ?_)
  have hoL : (s1.heap.push (PyProof.Rows.seqObj "list" acc.toList.toArray 0)).get? s1.heap.objs.size = some (PyProof.Rows.seqObj "list" acc.toList.toArray 0) := Heap.get?_push_size _ rfl
  refine wpAny_bind (wpAny_holding (wpAny_call_entry PyProof.Rows.slot_list_sort ⟨_, hoL, rfl⟩ PyProof.Rows.entry_list_sort (PyProof.Rows.list_sort_treeAny hoL hI hlacc fun out ns' a1 a2 a3 => ⟨_, rfl, ?_⟩) (PyProof.Rows.args_list_sort _)))
  refine wpAny_pure ⟨_, rfl, ?_⟩
  obtain ⟨e, he⟩ := PyProof.Rows.sortedHeap_at (vs := acc.toList) (out := out) hoL
  have nat : ∀ z ∈ ns', ((z.toNat : Nat) : Int) = z := fun z hz => by
    obtain ⟨x, hx, rfl⟩ := List.mem_map.mp (a2.mem_iff.mp hz)
    obtain ⟨n, tk, _, ht⟩ := hoko x hx
    rw [ht]; rfl
  have hn : I6 (ns'.map Int.toNat) = ns' := by
    unfold I6
    rw [List.map_map]
    refine (List.map_congr_left (g := id) fun z hz => nat z hz).trans (List.map_id _)
  have mem : ∀ x : Nat, x ∈ ns'.map Int.toNat ↔ x ∈ m := fun x => by
    rw [← hmem x, ← (hp.map (·.1)).mem_iff, ← a2.mem_iff, List.mem_map]
    constructor
    · rintro ⟨z, hz, rfl⟩
      rw [nat z hz]; exact hz
    · intro q
      exact ⟨(x : Int), q, Int.toNat_natCast x⟩
  have srt : (ns'.map Int.toNat).Pairwise (· ≤ ·) := by
    rw [List.pairwise_map]
    exact a3.imp fun {x y} q => by omega
  have hlen : (ns'.map Int.toNat).length ≤ m.length := by
    rw [List.length_map, a2.length_eq, List.length_map, Array.length_toList, hosz]; exact hle
  rw [← hn] at a1
  refine h _ out.toList e s1.heap.objs.size (ns'.map Int.toNat) mv.os mv.gens mv.drawn (fun b o q => ?_) ?_ a1 srt mem hlen ?_
  · have q1 := mv.heap b o (by simp) q
    have hb : b < s1.heap.objs.size := Heap.lt_size q1
    rw [PyProof.Rows.sortedHeap_old (Nat.ne_of_lt hb) (by rw [PyProof.Rows.size_push']; exact Nat.lt_succ_of_lt hb)]
    exact Heap.get?_push_of_some _ q1
  · exact Nat.le_of_lt hlt
  · simpa using he
end
end ST
set_option Elab.async false
set_option linter.all false
set_option maxRecDepth 100000
set_option maxHeartbeats 2000000
namespace CR
open PySem PySem.Spec PyProof.Rows L2
def KT (K : PySem.W.Frag) (a : Addr) (xs : List V) : Prop := ∃ (o : Obj) (its : Array Value) (n : Nat), K.lookup a = some o ∧ o.cls = .type "tuple" ∧ o.data = .seq its n ∧ its.size ≤ sizeLine ∧ Vals xs its.toList
theorem KT.sq {K : PySem.W.Frag} {a : Addr} {xs : List V} (h : KT K a xs) (H : Hp) : SqT K H a xs := .inr h
def inn (g : Nat) : Nat := if g = 0 then 1 else 0
def out (g : Nat) : Nat := if g = 2 then 1 else 2
structure TxtG (K : PySem.W.Frag) (mg : Str → Option Value) : Prop where
  cross : ∃ (a : Addr) (Bs : Nat → Addr), mg "CROSSING_AXES" = some (.ref a) ∧ KT K a ((List.range 3).map fun g => V.ref (Bs g)) ∧ ∀ g, g < 3 → KT K (Bs g) [nV (inn g), nV (out g)]
  allW : ∃ a : Addr, mg "ALL_WAYS" = some (.ref a) ∧ KT K a ((List.range 6).map nV)
  dThr : Df K mg "lines_through" sThr
  dWith : Df K mg "lines_with_wood" sWith
  dClear : Df K mg "is_clear" sClear
  dDepth : Df K mg "depth_from" sDepth
  dWaysTo : Df K mg "ways_to" sWaysTo
  dTake : Df K mg "take_away" sTake
  dWood : Df K mg "wood_left" sWood
theorem bitOr_nat (a b : Nat) : Builtin.bitOr (a : Int) (b : Int) = ((a ||| b : Nat) : Int) := by
  rw [bitOr_and, bitAnd_pp (by omega) (by omega)]
  have := nat_or_add_and a b
  simp only [Int.toNat_natCast]
  omega
theorem bitAnd_nat (a b : Nat) : Builtin.bitAnd (a : Int) (b : Int) = ((a &&& b : Nat) : Int) := by
  rw [bitAnd_pp (by omega) (by omega)]; simp only [Int.toNat_natCast]
theorem bitMinus_nat (a b : Nat) : Builtin.bitAnd (a : Int) (Builtin.bitNot (b : Int)) = ((CG.minusB a b : Nat) : Int) := by
  rw [bitAnd_not, bitAnd_nat]
  unfold CG.minusB
  have : a &&& b ≤ a := Nat.and_le_left
  omega
theorem pow_int (n : Nat) : (2 : Int) ^ n = ((2 ^ n : Nat) : Int) := by rw [Int.natCast_pow]; rfl
theorem row_int (x w : Nat) : ((1 : Int) * 2 ^ ((w : Nat) : Int).toNat - 1) * 2 ^ ((x : Nat) : Int).toNat = ((CG.row x w : Nat) : Int) := by
  unfold CG.row
  have h1 : 1 ≤ 2 ^ w := Nat.one_le_two_pow
  rw [Int.toNat_natCast, Int.toNat_natCast, pow_int, pow_int, Int.natCast_mul, Int.one_mul]
  congr 1
  omega
theorem row_lt {x w : Nat} (h : x + w ≤ 16) : CG.row x w < 2 ^ 16 := by
  refine Nat.lt_pow_two_of_testBit _ fun i hi => ?_
  rw [CG.row_bit]
  have : ¬ i < x + w := by omega
  simp [this]
theorem box_lo (b : Jo.Box) {g : Nat} (hg : g < 3) : ((CM.box6 b).map V.int)[g]? = some (nV (b.side g).1) := by
  rcases CG.g3 hg with rfl | rfl | rfl <;> rfl
theorem box_hi (b : Jo.Box) {g : Nat} (hg : g < 3) : ((CM.box6 b).map V.int)[g + 3]? = some (nV (b.side g).2) := by
  rcases CG.g3 hg with rfl | rfl | rfl <;> rfl
theorem inn_lt (g : Nat) : inn g < 3 := by unfold inn; split <;> decide
theorem out_lt (g : Nat) : out g < 3 := by unfold out; split <;> decide
theorem cutV_from {xs : List V} (i : Nat) (h : i ≤ xs.length) : cutV xs (some (i : Int)) none = xs.drop i := by
  unfold cutV
  rw [HT.sIx_nat, HT.sIx_none, Nat.min_eq_left h, List.take_of_length_le (by rw [List.length_drop]; omega)]
theorem cutV_to {xs : List V} (j : Nat) (h : j ≤ xs.length) : cutV xs none (some (j : Int)) = xs.take j := by
  unfold cutV
  rw [HT.sIx_nat, HT.sIx_none, Nat.min_eq_left h, List.drop_zero, Nat.sub_zero]
theorem cutV_both {xs : List V} (i j : Nat) (h1 : i ≤ j) (h2 : j ≤ xs.length) : cutV xs (some (i : Int)) (some (j : Int)) = (xs.take j).drop i := by
  unfold cutV
  rw [HT.sIx_nat, HT.sIx_nat, Nat.min_eq_left h2, Nat.min_eq_left (Nat.le_trans h1 h2), List.drop_take]
def iSeq (K : PySem.W.Frag) (tl : TE) : TI := fun σ H R => tl σ H fun x H1 => ∃ a, x = .ref a ∧ (((∃ xs, SqL K H1 a xs) ∧ R (Itl K a) H1) ∨ ((∃ xs, SqT K H1 a xs) ∧ R (Itt K a) H1))
theorem pi_either {X : Cx} {tg l : Expr} {tl : TE} (hl : PE X l tl) : PI X tg l (iSeq X.K tl) := by
  intro pins s σ H R I h
  refine thn (hl pins s σ H _ I h) fun v s1 ⟨x, H1, I1, r1, q1⟩ => ?_
  obtain ⟨a, e, q1⟩ := q1
  subst e
  cases r1
  have fp : ∀ b ∈ [s1.heap.objs.size], FpOk X pins H1 b := fun b hb => by
    have e : b = s1.heap.objs.size := by simpa using hb
    subst e
    exact I1.fpOk (Nat.le_refl _) (I1.hok.fresh (Nat.le_refl _))
  rcases q1 with ⟨⟨xs, hq⟩, q⟩ | ⟨⟨xs, hq⟩, q⟩
  · obtain ⟨its, rv, p, hz⟩ := I1.list hq
    exact wpAny_pyIter_list p.isList ⟨_, _, _, _, H1, rfl, I1.kept (t' := s1.toks) fun b o e => Heap.get?_push_of_some _ e, turn_list a _, ⟨_, Heap.get?_push_size _ rfl, rfl, rfl⟩, fp, q⟩
  · obtain ⟨its, rv, p, hz⟩ := I1.tuple hq
    exact wpAny_pyIter_tuple (show s1.heap.IsTuple a its.toArray from p) ⟨_, _, _, _, H1, rfl, I1.kept (t' := s1.toks) fun b o e => Heap.get?_push_of_some _ e, turn_tuple a _, ⟨_, Heap.get?_push_size _ rfl, rfl, rfl⟩, fp, q⟩
section
variable {P : Program} {w : World} {K : PySem.W.Frag} {mg : Str → Option Value} {base : Heap} {C : Addr}
def spThr (K : PySem.W.Frag) : Sp := fun vs H Q _ => ∃ (a : Addr) (g : Nat) (b : Jo.Box), vs = [.ref a, nV g] ∧ SqL K H a ((CM.box6 b).map V.int) ∧ g < 3 ∧ (CG.sS b g).1 + (CG.sS b g).2 ≤ 16 ∧ (CG.sT b g).1 + (CG.sT b g).2 ≤ 16 ∧ Q (nV (CG.thrOf b g)) H
theorem scThr : FnScope ["box", "axis", "inner", "outer", "row", "bits", "place"] ["box", "axis"] (defScope sThr) := ⟨rfl, rfl, rfl, by decide +kernel, rfl, by decide +kernel, by decide +kernel⟩
theorem ok_thr (T : Txt K mg) (G : TxtG K mg) : Fd P w K mg base 1 "lines_through" ["box", "axis"] (spThr K) := by
  obtain ⟨f, fd, hm, F⟩ := G.dThr.ex
  obtain ⟨ca, Bs, hc, hca, hcb⟩ := G.cross
  refine ⟨f, fd, hm, F.kp, F.binds (fun _ _ _ _ _ _ us hl => match us, hl with | [_, _], _ => rfl), F.ok scThr (fun vs H Q E h => ?_) (fun cdv A outer s H vs Q E hr h => ?_)⟩
  · obtain ⟨a, g, b, rfl, _⟩ := h; rfl
  · obtain ⟨a, g, b, rfl, hb, hg, h1, h2, k⟩ := h
    refine ⟨_, pss_cons (ps_set (i := 2) scThr.nd rfl (Or.inl rfl) (pe_ix ix_tup (pe_ix ix_tup (pe_glob (v := .ref ca) rfl hc rfl) (pv 1) (fun _ _ => rfl)) pe_int (fun _ _ => rfl)))
      (pss_cons (ps_set (i := 3) scThr.nd rfl (Or.inl rfl) (pe_ix ix_tup (pe_ix ix_tup (pe_glob (v := .ref ca) rfl hc rfl) (pv 1) (fun _ _ => rfl)) pe_int (fun _ _ => rfl)))
      (pss_cons (ps_set (i := 4) scThr.nd rfl (Or.inl rfl) (pe_op op_shl (pe_op op_sub (pe_op op_shl pe_int (pe_ix ix_list (pv 0) (pe_op op_add (pv 2) pe_int) (fun _ _ => rfl))) pe_int) (pe_ix ix_list (pv 0) (pv 2) (fun _ _ => rfl))))
      (pss_cons (ps_set (i := 5) scThr.nd rfl (Or.inl rfl) pe_int)
      (pss_cons (ps_for PassesOwn.never rfl (pi_range2 rfl T.range (pa_cons (pe_ix ix_list (pv 0) (pv 3) (fun _ _ => rfl)) (pa_cons (pe_op op_add (pe_ix ix_list (pv 0) (pv 3) (fun _ _ => rfl)) (pe_ix ix_list (pv 0) (pe_op op_add (pv 3) pe_int) (fun _ _ => rfl))) pa_nil))) (pg_name (i := 6) scThr.nd rfl (Or.inl rfl))
        (pss_one (ps_set (i := 5) scThr.nd rfl (Or.inl rfl) (pe_op op_or (pv 5) (pe_op op_shl (pv 4) (pe_op op_mul (pv 6) (pe_gi rfl T.cells)))))))
      (pss_one (ps_ret (pv 5))))))), ?_⟩
    have hg3 : ((List.range 3).map fun g => V.ref (Bs g))[g]? = some (.ref (Bs g)) := by
      rcases CG.g3 hg with rfl | rfl | rfl <;> rfl
    have eS : CG.sS b g = b.side (inn g) := rfl
    have eT : CG.sT b g = b.side (out g) := rfl
    have li := inn_lt g
    have lo := out_lt g
    have hlo : ∀ j : Nat, j < 3 → atI ((CM.box6 b).map V.int) (j : Int) = some (nV (b.side j).1) := fun j hj => atI_nat (box_lo b hj)
    have hhi : ∀ j : Nat, j < 3 → atI ((CM.box6 b).map V.int) ((j : Int) + 3) = some (nV (b.side j).2) := fun j hj => at_of (j := j + 3) (by omega) (box_hi b hj)
    rw [eS] at h1
    rw [eT] at h2
    refine ⟨_, rfl, ca, _, _, _, rfl, rfl, hca.sq H, at_of rfl hg3, Bs g, _, _, _, rfl, rfl, (hcb g hg).sq H, at_of (j := 0) rfl rfl, ?_⟩
    refine ⟨_, rfl, ca, _, _, _, rfl, rfl, hca.sq H, at_of rfl hg3, Bs g, _, _, _, rfl, rfl, (hcb g hg).sq H, at_of (j := 1) rfl rfl, ?_⟩
    refine ⟨_, rfl, _, rfl, _, _, rfl, rfl, a, _, _, _, rfl, rfl, hb, hhi (inn g) li, _, _, rfl, rfl, ⟨by omega, by omega, by decide⟩, _, _, rfl, rfl, _, rfl, _, rfl, a, _, _, _, rfl, rfl, hb, hlo (inn g) li, _, _, rfl, rfl, ⟨by omega, by omega, ?_⟩, ?_⟩
    · have e : (1 : Int) * 2 ^ (((b.side (inn g)).2 : Nat) : Int).toNat - 1 = ((2 ^ (b.side (inn g)).2 - 1 : Nat) : Int) := by
        have h1 : 1 ≤ 2 ^ (b.side (inn g)).2 := Nat.one_le_two_pow
        rw [Int.toNat_natCast, pow_int, Int.one_mul]; omega
      rw [e, Int.natAbs_natCast]
      have : 2 ^ (b.side (inn g)).2 ≤ 2 ^ 16 := Nat.pow_le_pow_right (by decide) (by omega)
      have h64 : (2 : Nat) ^ 16 < 2 ^ 64 := by decide
      omega
    dsimp only
    rw [row_int]
    have hrw := row_lt h1
    generalize hR : CG.row (b.side (inn g)).1 (b.side (inn g)).2 = R at hrw
    have hR64 : ((R : Nat) : Int).natAbs < 2 ^ 64 := by
      rw [Int.natAbs_natCast]
      have h64 : (2 : Nat) ^ 16 < 2 ^ 64 := by decide
      omega
    refine ⟨_, rfl, _, rfl, a, _, _, _, rfl, rfl, hb, hlo (out g) lo, _, rfl, _, rfl, a, _, _, _, rfl, rfl, hb, hlo (out g) lo, _, rfl, _, rfl, _, _, rfl, rfl, a, _, _, _, rfl, rfl, hb, hhi (out g) lo, _, _, rfl, rfl, _, _, rfl, ⟨by omega, by omega, by omega, by omega⟩, ?_⟩
    have en : ((((b.side (out g)).1 : Nat) : Int) + (((b.side (out g)).2 : Nat) : Int) - (((b.side (out g)).1 : Nat) : Int)).toNat = (b.side (out g)).2 := by omega
    rw [en]
    refine for_range (fun i σ H' => ∃ v6 : Option V, σ = [some (.ref a), some (nV g), some (nV (inn g)), some (nV (out g)), some (nV R), some (nV (CG.thr (b.side (inn g)).1 (b.side (inn g)).2 (b.side (out g)).1 i)), v6] ∧ H' = H)
      ⟨none, rfl, rfl⟩ ?_ ?_
    · rintro i σ H' hi ⟨v6, rfl, rfl⟩
      refine ⟨_, rfl, _, rfl, _, rfl, _, _, rfl, rfl, .inl ⟨by omega, by omega⟩, _, _, rfl, rfl, ⟨by omega, by omega, hR64⟩, _, _, rfl, rfl, ?_⟩
      refine ⟨some (.int (((b.side (out g)).1 : Int) + (i : Int))), ?_, rfl⟩
      have e1 : (((b.side (out g)).1 : Int) + (i : Int)) * 16 = ((((b.side (out g)).1 + i) * 16 : Nat) : Int) := by omega
      have e2 : ((R : Nat) : Int) * 2 ^ ((((b.side (out g)).1 + i) * 16 : Nat) : Int).toNat = ((R * 2 ^ (((b.side (out g)).1 + i) * 16) : Nat) : Int) := by
        rw [Int.toNat_natCast, pow_int, Int.natCast_mul]
      have e3 : CG.thr (b.side (inn g)).1 (b.side (inn g)).2 (b.side (out g)).1 (i + 1) = CG.thr (b.side (inn g)).1 (b.side (inn g)).2 (b.side (out g)).1 i ||| R * 2 ^ (((b.side (out g)).1 + i) * 16) := by
        rw [CG.thr_succ, hR]; rfl
      rw [e3]
      unfold nV
      rw [← bitOr_nat, ← e2, ← e1]
      rfl
    · rintro σ H' ⟨v6, rfl, rfl⟩
      exact ⟨_, rfl, k⟩
def spWith (K : PySem.W.Frag) : Sp := fun vs H Q _ => ∃ (a : Addr) (ns : List Nat), vs = [.ref a] ∧ SqL K H a (ns.map nV) ∧ Q (nV (CG.orB ns)) H
theorem scWith : FnScope ["layers", "bits", "layer"] ["layers"] (defScope sWith) := ⟨rfl, rfl, rfl, by decide +kernel, rfl, by decide +kernel, by decide +kernel⟩
theorem nV_at {l : List Nat} {i : Nat} {x : V} (h : (l.map nV)[i]? = some x) : ∃ n, l[i]? = some n ∧ x = nV n := by
  rw [List.getElem?_map] at h
  cases e : l[i]? with
  | none => rw [e] at h; cases h
  | some c => rw [e] at h; exact ⟨c, rfl, (Option.some.inj h).symm⟩
theorem ok_with (T : Txt K mg) (G : TxtG K mg) : Fd P w K mg base 1 "lines_with_wood" ["layers"] (spWith K) := by
  obtain ⟨f, fd, hm, F⟩ := G.dWith.ex
  refine ⟨f, fd, hm, F.kp, F.binds (fun _ _ _ _ _ _ us hl => match us, hl with | [_], _ => rfl), F.ok scWith (fun vs H Q E h => ?_) (fun cdv A outer s H vs Q E hr h => ?_)⟩
  · obtain ⟨a, ns, rfl, _⟩ := h; rfl
  · obtain ⟨a, ns, rfl, hS, k⟩ := h
    refine ⟨_, pss_cons (ps_set (i := 1) scWith.nd rfl (Or.inl rfl) pe_int)
      (pss_cons (ps_for PassesOwn.never rfl (pi_list (pv 0)) (pg_name (i := 2) scWith.nd rfl (Or.inl rfl)) (pss_one (ps_set (i := 1) scWith.nd rfl (Or.inl rfl) (pe_op op_or (pv 1) (pv 2)))))
      (pss_one (ps_ret (pv 1)))), ?_⟩
    refine ⟨_, rfl, a, rfl, ⟨_, hS⟩, for_list (K := K) (xs := ns.map nV) (fun i σ H' => ∃ v2 : Option V, σ = [some (.ref a), some (nV (CG.orB (ns.take i))), v2] ∧ H' = H)
      ⟨none, rfl, rfl⟩ (fun i σ H' _ ⟨_, _, e⟩ => by rw [e]; exact hS) ?_ ?_⟩
    · rintro i y σ H' hi ⟨v2, rfl, rfl⟩
      obtain ⟨n, hn, rfl⟩ := nV_at hi
      refine ⟨_, rfl, _, rfl, _, _, rfl, rfl, some (nV n), ?_, rfl⟩
      rw [List.take_succ, hn]
      show _ = [some (V.ref a), some (nV (CG.orB (ns.take i ++ [n]))), some (nV n)]
      rw [CG.orB_snoc]
      unfold nV
      rw [← bitOr_nat]
      rfl
    · rintro σ H' ⟨v2, rfl, rfl⟩
      refine ⟨_, rfl, ?_⟩
      rw [List.length_map, List.take_length]
      exact k
end
end CR
set_option Elab.async false
set_option linter.all false
set_option maxRecDepth 100000
set_option maxHeartbeats 2000000
namespace CR
open PySem PySem.Spec PyProof.Rows L2
structure WoodL (pt : Jo.Part) (H : Hp) (aw : Addr) (La : Nat → Addr) (f : Jo.Cell → Bool) : Prop where
  top : H aw = some (.lst ((List.range 3).map fun g => V.ref (La g)))
  lay : ∀ g, g < 3 → ∃ ns : List Nat, H (La g) = some (.lst (ns.map nV)) ∧ ns.length = pt.side g ∧ CG.Lays f g ns
  ne : ∀ g, g < 3 → aw ≠ La g
  inj : ∀ g h, g < 3 → h < 3 → g ≠ h → La g ≠ La h
theorem WoodL.same {pt : Jo.Part} {H H' : Hp} {aw : Addr} {La : Nat → Addr} {f : Jo.Cell → Bool} (h : WoodL pt H aw La f) (e : Same H H') : WoodL pt H' aw La f :=
  ⟨e _ _ h.top, fun g hg => let ⟨ns, h1, h2⟩ := h.lay g hg; ⟨ns, e _ _ h1, h2⟩, h.ne, h.inj⟩
theorem WoodL.congr {pt : Jo.Part} {H : Hp} {aw : Addr} {La : Nat → Addr} {f f' : Jo.Cell → Bool} (h : WoodL pt H aw La f) (e : ∀ c, f c = f' c) : WoodL pt H aw La f' :=
  (funext e : f = f') ▸ h
theorem La_at {La : Nat → Addr} {g : Nat} (hg : g < 3) : ((List.range 3).map fun g => V.ref (La g))[g]? = some (.ref (La g)) := by
  rcases CG.g3 hg with rfl | rfl | rfl <;> rfl
theorem half_int (n : Nat) : ((n : Nat) : Int) / 2 = ((n / 2 : Nat) : Int) := by omega
theorem rest_int (n : Nat) : ((n : Nat) : Int) % 2 = ((n % 2 : Nat) : Int) := by omega
theorem odd_way {way : Nat} (he : ¬ way % 2 = 0) : decide (V.int (((way : Nat) : Int) % 2) = V.int 0) = false := by
  refine decide_eq_false fun z => he ?_
  have z1 : ((way : Nat) : Int) % 2 = 0 := by injection z
  omega
section
variable {P : Program} {w : World} {K : PySem.W.Frag} {mg : Str → Option Value} {base : Heap} {C : Addr}
def spClear (K : PySem.W.Frag) : Sp := fun vs H Q _ => ∃ (way : Nat) (ac aw : Addr) (b : Jo.Box) (pt : Jo.Part) (La : Nat → Addr) (f : Jo.Cell → Bool), vs = [nV way, .ref ac, .ref aw] ∧ way < 6 ∧ H ac = some (.lst ((CM.box6 b).map V.int)) ∧ CG.Small pt ∧ CG.Fits pt b ∧ WoodL pt H aw La f ∧
  ∀ H', Same H H' → (∀ ns, H (La (way / 2)) = some (.lst (ns.map nV)) → ns.length = pt.side (way / 2) → CG.Lays f (way / 2) ns → Q (.bl (CG.clearN b way ns)) H')
theorem scClear : FnScope ["way", "cut", "wood", "axis", "layers", "start", "end", "beyond", "blocked"] ["way", "cut", "wood"] (defScope sClear) := ⟨rfl, rfl, rfl, by decide +kernel, rfl, by decide +kernel, by decide +kernel⟩
theorem ok_clear (T : Txt K mg) (G : TxtG K mg) : Fd P w K mg base 2 "is_clear" ["way", "cut", "wood"] (spClear K) := by
  obtain ⟨f, fd, hm, F⟩ := G.dClear.ex
  refine ⟨f, fd, hm, F.kp, F.binds (fun _ _ _ _ _ _ us hl => match us, hl with | [_, _, _], _ => rfl), F.ok scClear (fun vs H Q E h => ?_) (fun cdv A outer s H vs Q E hr h => ?_)⟩
  · obtain ⟨way, ac, aw, b, pt, La, f, rfl, _⟩ := h; rfl
  · obtain ⟨way, ac, aw, b, pt, La, fw, rfl, h6, hb, hs, hF, hW, k⟩ := h
    refine ⟨_, pss_cons (ps_set (i := 3) scClear.nd rfl (Or.inl rfl) (pe_op op_fdiv (pv 0) pe_int))
      (pss_cons (ps_set (i := 4) scClear.nd rfl (Or.inl rfl) (pe_ix ix_list (pv 2) (pv 3) (fun _ _ => rfl)))
      (pss_cons (ps_set (i := 5) scClear.nd rfl (Or.inl rfl) (pe_ix ix_list (pv 1) (pv 3) (fun _ _ => rfl)))
      (pss_cons (ps_set (i := 6) scClear.nd rfl (Or.inl rfl) (pe_op op_add (pv 5) (pe_ix ix_list (pv 1) (pe_op op_add (pv 3) pe_int) (fun _ _ => rfl))))
      (pss_cons (ps_set (i := 7) scClear.nd rfl (Or.inl rfl) (pe_ifExp (pt_cmpR op_eq (pe_op op_mod (pv 0) pe_int) pe_int (nomark _)) (pe_slice sl_list (pv 4) (po_some (pv 6)) po_none) (pe_slice sl_list (pv 4) po_none (po_some (pv 5)))))
      (pss_cons (ps_set (i := 8) scClear.nd rfl (Or.inl rfl) (pe_op op_and (pe_op op_and (pe_fn (ok_thr T G) hr rfl (pa_cons (pv 1) (pa_cons (pv 3) pa_nil))) (pe_fn (ok_with T G) hr rfl (pa_cons (pe_slice sl_list (pv 4) (po_some (pv 5)) (po_some (pv 6))) pa_nil))) (pe_fn (ok_with T G) hr rfl (pa_cons (pv 7) pa_nil))))
      (pss_one (ps_ret (pe_cmpR op_eq (pv 8) pe_int (nomark _))))))))), ?_⟩
    have hg : way / 2 < 3 := by omega
    obtain ⟨ns, hn, hl, hL⟩ := hW.lay _ hg
    have hsd := hF.side hg
    obtain ⟨z1, z2⟩ := hF.s16 hs hg
    rw [← hl] at hsd
    have hlen : (ns.map nV).length = ns.length := List.length_map _
    generalize hst : (b.side (way / 2)).1 = st at hsd
    generalize hln : (b.side (way / 2)).2 = ln at hsd
    have b1 : atI ((CM.box6 b).map V.int) (((way / 2 : Nat) : Nat) : Int) = some (nV st) := by rw [← hst]; exact atI_nat (box_lo b hg)
    have b2 : atI ((CM.box6 b).map V.int) ((((way / 2 : Nat) : Nat) : Int) + 3) = some (nV ln) := by rw [← hln]; exact at_of (j := way / 2 + 3) (by omega) (box_hi b hg)
    refine ⟨_, rfl, _, _, rfl, rfl, ⟨by decide, by decide⟩, ?_⟩
    dsimp only
    rw [half_int]
    refine ⟨_, rfl, _, rfl, aw, _, _, _, rfl, rfl, SqL.of hW.top, atI_nat (La_at hg), ?_⟩
    refine ⟨_, rfl, _, rfl, ac, _, _, _, rfl, rfl, SqL.of hb, b1, ?_⟩
    refine ⟨_, rfl, _, rfl, _, rfl, _, _, rfl, rfl, ac, _, _, _, rfl, rfl, SqL.of hb, b2, _, _, rfl, rfl, ?_⟩
    have een : ((st : Nat) : Int) + ((ln : Nat) : Int) = ((st + ln : Nat) : Int) := by omega
    have hmid : cutV (ns.map nV) (some ((st : Nat) : Int)) (some ((st + ln : Nat) : Int)) = (CG.midOf b (way / 2) ns).map nV := by
      rw [cutV_both _ _ (by omega) (by rw [hlen]; exact hsd)]
      unfold CG.midOf
      rw [hst, hln, List.map_drop, List.map_take]
    -- what comes behind beyond is known
    have fin : ∀ (H1 : Hp) (q : Addr), Same H H1 → H1 q = some (.lst ((CG.outOf b way ns).map nV)) →
        (tSeq (tAsg (tOp (rI0 fun i j => .int (Builtin.bitAnd i j)) (tOp (rI0 fun i j => .int (Builtin.bitAnd i j)) (tCall (spThr K) [] E0 (tCons (tVar 1) (tCons (tVar 3) tNil))) (tCall (spWith K) [] E0 (tCons (tSl (rSlL K) (tVar 4) (tPart (tVar 5)) (tPart (tVar 6))) tNil))) (tCall (spWith K) [] E0 (tCons (tVar 7) tNil))) (gName 8)) (tRet (tOp rEq (tVar 8) (tC (.int 0))))) { nx := fun _ H' => Q .non H', rt := Q }
          [some (nV way), some (.ref ac), some (.ref aw), some (nV (way / 2)), some (.ref (La (way / 2))), some (nV st), some (.int (((st : Nat) : Int) + ((ln : Nat) : Int))), some (.ref q), none] H1 := fun H1 q s1 hq => by
      refine ⟨_, rfl, _, rfl, ac, way / 2, b, rfl, SqL.of (s1 _ _ hb), hg, z1, z2, ?_⟩
      refine ⟨_, rfl, _, rfl, _, rfl, _, rfl, _, rfl, La (way / 2), _, rfl, SqL.of (s1 _ _ hn), fun sl hsl => ?_⟩
      rw [een, hmid]
      have s2 : Same H1 (L2.upd H1 sl (.lst ((CG.midOf b (way / 2) ns).map nV))) := Same.new hsl
      refine ⟨sl, _, rfl, SqL.of upd_same, _, _, rfl, rfl, _, rfl, q, _, rfl, SqL.of (s2 _ _ hq), _, _, rfl, rfl, _, rfl, rfl, ?_⟩
      have := k _ (s1.trans s2) ns hn hl hL
      unfold CG.clearN at this
      show Q (V.bl (decide (V.int (Builtin.bitAnd (Builtin.bitAnd ((CG.thrOf b (way / 2) : Nat) : Int) ((CG.orB (CG.midOf b (way / 2) ns) : Nat) : Int)) ((CG.orB (CG.outOf b way ns) : Nat) : Int)) = V.int 0))) _
      rw [bitAnd_nat, bitAnd_nat]
      have e : decide (nV (CG.thrOf b (way / 2) &&& CG.orB (CG.midOf b (way / 2) ns) &&& CG.orB (CG.outOf b way ns)) = V.int 0) = decide (CG.thrOf b (way / 2) &&& CG.orB (CG.midOf b (way / 2) ns) &&& CG.orB (CG.outOf b way ns) = 0) := by
        refine decide_eq_decide.mpr ⟨fun z => ?_, fun z => by rw [z]; rfl⟩
        have : ((CG.thrOf b (way / 2) &&& CG.orB (CG.midOf b (way / 2) ns) &&& CG.orB (CG.outOf b way ns) : Nat) : Int) = 0 := by injection z
        omega
      show Q (V.bl (decide (nV _ = V.int 0))) _
      rw [e]
      exact this
    refine ⟨_, rfl, _, _, rfl, rfl, (by show (0 : Int) < 2; decide), rfl, _, rfl, ?_⟩
    by_cases he : way % 2 = 0
    · refine ifP (decide_eq_true (show V.int (((way : Nat) : Int) % 2) = V.int 0 by rw [rest_int, he]; rfl)) ?_
      refine ⟨_, rfl, _, rfl, _, rfl, La (way / 2), _, rfl, SqL.of hn, fun q hq => ?_⟩
      have eo : cutV (ns.map nV) (some (((st : Nat) : Int) + ((ln : Nat) : Int))) none = (CG.outOf b way ns).map nV := by
        rw [een, cutV_from _ (by rw [hlen]; exact hsd)]
        unfold CG.outOf
        rw [if_pos he, hst, hln, List.map_drop]
      rw [eo]
      exact fin _ q (Same.new hq) upd_same
    · refine ifN (show ¬ decide (V.int (((way : Nat) : Int) % 2) = V.int 0) = true by rw [odd_way he]; decide) ?_
      refine ⟨_, rfl, _, rfl, _, rfl, La (way / 2), _, rfl, SqL.of hn, fun q hq => ?_⟩
      have eo : cutV (ns.map nV) none (some ((st : Nat) : Int)) = (CG.outOf b way ns).map nV := by
        rw [cutV_to _ (by rw [hlen]; omega)]
        unfold CG.outOf
        rw [if_neg he, hst, List.map_take]
      rw [eo]
      exact fin _ q (Same.new hq) upd_same
def spDepth (K : PySem.W.Frag) : Sp := fun vs H Q _ => ∃ (way : Nat) (ac ab : Addr) (b : Jo.Box) (pt : Jo.Part), vs = [nV way, .ref ac, .ref ab] ∧ way < 6 ∧ SqL K H ac ((CM.box6 b).map V.int) ∧ SqL K H ab ([pt.w, pt.d, pt.h].map nV) ∧ CG.Fits pt b ∧ Q (nV (pt.depth b way)) H
theorem scDepth : FnScope ["way", "cut", "block", "axis"] ["way", "cut", "block"] (defScope sDepth) := ⟨rfl, rfl, rfl, by decide +kernel, rfl, by decide +kernel, by decide +kernel⟩
theorem side_at (pt : Jo.Part) {g : Nat} (hg : g < 3) : ([pt.w, pt.d, pt.h].map nV)[g]? = some (nV (pt.side g)) := by
  rcases CG.g3 hg with rfl | rfl | rfl <;> rfl
theorem depth_eq (pt : Jo.Part) (b : Jo.Box) {way : Nat} (h : way < 6) : pt.depth b way = if way % 2 = 0 then pt.side (way / 2) - (b.side (way / 2)).1 else (b.side (way / 2)).1 + (b.side (way / 2)).2 := by
  match way, h with
  | 0, _ => rfl
  | 1, _ => rfl
  | 2, _ => rfl
  | 3, _ => rfl
  | 4, _ => rfl
  | 5, _ => rfl
theorem ok_depth (T : Txt K mg) (G : TxtG K mg) : Fd P w K mg base 1 "depth_from" ["way", "cut", "block"] (spDepth K) := by
  obtain ⟨f, fd, hm, F⟩ := G.dDepth.ex
  refine ⟨f, fd, hm, F.kp, F.binds (fun _ _ _ _ _ _ us hl => match us, hl with | [_, _, _], _ => rfl), F.ok scDepth (fun vs H Q E h => ?_) (fun cdv A outer s H vs Q E hr h => ?_)⟩
  · obtain ⟨way, ac, ab, b, pt, rfl, _⟩ := h; rfl
  · obtain ⟨way, ac, ab, b, pt, rfl, h6, hb, hB, hF, k⟩ := h
    refine ⟨_, pss_cons (ps_set (i := 3) scDepth.nd rfl (Or.inl rfl) (pe_op op_fdiv (pv 0) pe_int))
      (pss_one (ps_ret (pe_ifExp (pt_cmpR op_eq (pe_op op_mod (pv 0) pe_int) pe_int (nomark _)) (pe_op op_sub (pe_ix ix_list (pv 2) (pv 3) (fun _ _ => rfl)) (pe_ix ix_list (pv 1) (pv 3) (fun _ _ => rfl))) (pe_op op_add (pe_ix ix_list (pv 1) (pv 3) (fun _ _ => rfl)) (pe_ix ix_list (pv 1) (pe_op op_add (pv 3) pe_int) (fun _ _ => rfl)))))), ?_⟩
    have hg : way / 2 < 3 := by omega
    have hsd := hF.side hg
    rw [depth_eq pt b h6] at k
    refine ⟨_, rfl, _, _, rfl, rfl, ⟨by decide, by decide⟩, ?_⟩
    dsimp only
    rw [half_int]
    refine ⟨_, rfl, _, _, rfl, rfl, (by show (0 : Int) < 2; decide), rfl, _, rfl, ?_⟩
    by_cases he : way % 2 = 0
    · refine ifP (decide_eq_true (show V.int (((way : Nat) : Int) % 2) = V.int 0 by rw [rest_int, he]; rfl)) ?_
      rw [if_pos he] at k
      refine ⟨_, rfl, _, rfl, ab, _, _, _, rfl, rfl, hB, atI_nat (side_at pt hg), _, rfl, _, rfl, ac, _, _, _, rfl, rfl, hb, atI_nat (box_lo b hg), _, _, rfl, rfl, ?_⟩
      have e : ((pt.side (way / 2) - (b.side (way / 2)).1 : Nat) : Int) = ((pt.side (way / 2) : Nat) : Int) - (((b.side (way / 2)).1 : Nat) : Int) := by omega
      unfold nV at k
      rw [e] at k
      exact k
    · refine ifN (show ¬ decide (V.int (((way : Nat) : Int) % 2) = V.int 0) = true by rw [odd_way he]; decide) ?_
      rw [if_neg he] at k
      refine ⟨_, rfl, _, rfl, ac, _, _, _, rfl, rfl, hb, atI_nat (box_lo b hg), _, rfl, _, rfl, _, _, rfl, rfl, ac, _, _, _, rfl, rfl, hb, at_of (j := way / 2 + 3) (by omega) (box_hi b hg), _, _, rfl, rfl, ?_⟩
      have e : (((b.side (way / 2)).1 + (b.side (way / 2)).2 : Nat) : Int) = (((b.side (way / 2)).1 : Nat) : Int) + (((b.side (way / 2)).2 : Nat) : Int) := by omega
      unfold nV at k
      rw [e] at k
      exact k
end
end CR
set_option Elab.async false
set_option linter.all false
set_option maxRecDepth 100000
set_option maxHeartbeats 2000000
namespace CR
open PySem PySem.Spec PyProof.Rows L2
theorem ixN_nat {n j : Nat} (h : j < n) : ixN n (j : Int) = some j := by
  unfold ixN
  rw [if_pos (by omega), if_pos (by omega), Int.toNat_natCast]
theorem paired_at {α β : Type} {G : α → β → Prop} {l : List α} {m : List β} (h : Paired G l m) {i : Nat} {b : β} (hb : m[i]? = some b) : ∃ a, l[i]? = some a ∧ G a b := by
  have hl := h.length
  have hi := (List.getElem?_eq_some_iff.mp hb).1
  obtain ⟨b', e1, e2⟩ := paired_get h (List.getElem?_eq_getElem (show i < l.length by omega))
  have : b' = b := Option.some.inj (e1.symm.trans hb)
  subst this
  exact ⟨_, List.getElem?_eq_getElem (by omega), e2⟩
theorem filter_take {l : List Nat} {i n : Nat} (q : Nat → Bool) (h : l[i]? = some n) : (l.take (i + 1)).filter q = (l.take i).filter q ++ (if q n = true then [n] else []) := by
  rw [List.take_succ, h, List.filter_append]
  congr 1
  by_cases z : q n = true
  · rw [if_pos z, show (some n).toList = [n] from rfl, List.filter_cons_of_pos z]; rfl
  · rw [if_neg z, show (some n).toList = [n] from rfl, List.filter_cons_of_neg z]; rfl
section
variable {P : Program} {w : World} {K : PySem.W.Frag} {mg : Str → Option Value} {base : Heap} {C : Addr}
def spWaysTo (K : PySem.W.Frag) (C : Addr) : Sp := fun vs H Q _ => ∃ (k : Nat) (ap aw : Addr) (pt : Jo.Part) (l : List Jo.Tool) (La : Nat → Addr) (made : List Nat), vs = [nV k, .ref ap, .ref aw] ∧ FullP C H ap pt l ∧ k < pt.cuts.length ∧ WoodL pt H aw La (pt.wood made) ∧
  ∀ (H' : Hp) (p : Addr), Same H H' → H p = none → H' p = some (.lst ((Jo.waysBy pt l made k).map nV)) → Q (.ref p) H'
theorem scWaysTo : FnScope ["k", "plan", "wood", "cut", "tool", "near", "way"] ["k", "plan", "wood"] (defScope sWaysTo) := ⟨rfl, rfl, rfl, by decide +kernel, rfl, by decide +kernel, by decide +kernel⟩
theorem ok_waysTo (T : Txt K mg) (G : TxtG K mg) (TC : Pl K mg C) : Fd P w K mg base 3 "ways_to" ["k", "plan", "wood"] (spWaysTo K C) := by
  obtain ⟨f, fd, hm, F⟩ := G.dWaysTo.ex
  obtain ⟨wa0, hwa, hKT⟩ := G.allW
  refine ⟨f, fd, hm, F.kp, F.binds (fun _ _ _ _ _ _ us hl => match us, hl with | [_, _, _], _ => rfl), F.ok scWaysTo (fun vs H Q E h => ?_) (fun cdv A outer s H vs Q E hr h => ?_)⟩
  · obtain ⟨k, ap, aw, pt, l, La, made, rfl, _⟩ := h; rfl
  · obtain ⟨k, ap, aw, pt, l, La, made, rfl, hP, hk, hW, kk⟩ := h
    have hu := hu_of hr
    have hr1 : Room 1 _ := hr.mono (by decide)
    refine ⟨_, pss_cons (ps_set (i := 3) scWaysTo.nd rfl (by first | exact Or.inl rfl | exact Or.inr rfl) (pe_ix ix_list (pe_fld (pv 1) rfl) (pv 0) (fun _ _ => rfl)))
      (pss_cons (ps_set (i := 4) scWaysTo.nd rfl (by first | exact Or.inl rfl | exact Or.inr rfl) (pe_dget2 hu (pe_fld (pv 1) rfl) (pv 0) (pe_tup (pa_cons (pe_glob (v := .ref wa0) rfl hwa rfl) (pa_cons (pe_gi rfl T.cells) pa_nil))) ⟨rfl, rfl, rfl, rfl⟩))
      (pss_cons (ps_setLc (i := 5) rfl scWaysTo.nd rfl rfl (sw_true rfl rfl rfl rfl) (pi_either (pe_ix ix_tup (pv 4) pe_int (fun _ _ => rfl))) (blkOk_by (N := ["k", "plan", "wood", "cut", "tool", "near", "way"]) (sc := defScope sWaysTo) (own := [("way", 6)]) (by decide +kernel)) (fun _ _ _ _ _ => pg_name (i := 6) scWaysTo.nd rfl (Or.inl rfl))
        (fun _ _ _ _ _ => pts_one (pt_cmpR op_le (pe_fn (ok_depth T G) hr1 rfl (pa_cons (pv 6) (pa_cons (pv 3) (pa_cons (pe_fldK (K := K) rfl (pv 1) rfl) pa_nil)))) (pe_ix (ixTK (K := K) rfl) (pv 4) pe_int (fun _ _ => rfl)) (nomark _)))
        (fun _ _ _ _ _ => pv 6))
      (pss_one (ps_ret (pe_lc rfl scWaysTo.nd (pi_list (pv 5)) (blkOk_by (N := ["k", "plan", "wood", "cut", "tool", "near", "way"]) (sc := defScope sWaysTo) (own := [("way", 6)]) (by decide +kernel)) (fun _ _ _ _ _ => pg_name (i := 6) scWaysTo.nd rfl (Or.inl rfl))
        (fun _ _ _ _ _ => pts_one (pt_val (pe_fn (ok_clear T G) hr rfl (pa_cons (pv 6) (pa_cons (pv 3) (pa_cons (pv 2) pa_nil))))))
        (fun _ _ _ _ _ => pv 6)))))), ?_⟩
    obtain ⟨ct, tl, kvs, hPl, hTl⟩ := hP.ex
    obtain ⟨dx, rf, bk, as, g1, g2, g3, g4, g5, g6, g7, g8⟩ := hPl.ex
    obtain ⟨b, hb⟩ : ∃ b, pt.cuts[k]? = some b := ⟨_, List.getElem?_eq_getElem hk⟩
    obtain ⟨ac, hac, hbx, _⟩ := paired_at g8 hb
    have hF : CG.Fits pt b := hP.pok.fit b (List.mem_of_getElem? hb)
    have hs := hP.pok.sm
    have hack : (as.map V.ref)[k]? = some (.ref ac) := by rw [List.getElem?_map, hac]; rfl
    obtain ⟨t1, t2, t3, t4⟩ := CG.toolOf_ok hP.tok k
    refine ⟨_, rfl, ap, C, dx, _, _, rfl, g1, TC.cl, TC.nC, pf_C .., _, rfl, ct, _, _, _, rfl, rfl, SqL.of g4, atI_nat hack, ?_⟩
    refine ⟨_, rfl, ap, C, dx, _, _, rfl, g1, TC.cl, TC.nT, pf_T .., tl, rfl, .inl ⟨_, .inl g5⟩, _, rfl, by show 2 ≤ sizeLine; decide, fun tp htp => ⟨_, DGet.k (k := Sum.inl (k : Int)) ((Same.new htp) _ _ g5), ?_⟩⟩
    have sN : Same H (L2.upd H tp (.tup [.ref wa0, .int 16])) := Same.new htp
    obtain ⟨tv, wa, n, ws, etv, hTv, hWs, etool⟩ : ∃ (tv wa : Addr) (n : Nat) (ws : List Nat), (valV kvs (Sum.inl (k : Int))).getD (.ref tp) = .ref tv ∧ (L2.upd H tp (.tup [.ref wa0, .int 16])) tv = some (.tup [.ref wa, nV n]) ∧ (SqL K (L2.upd H tp (.tup [.ref wa0, .int 16])) wa (ws.map nV) ∨ SqT K (L2.upd H tp (.tup [.ref wa0, .int 16])) wa (ws.map nV)) ∧ Jo.toolOf l k = (ws, n) := by
      rcases tools_find (n := k) hTl with ⟨f1, f2⟩ | ⟨t, tp', wl', f1, f2, f3, f4⟩
      · refine ⟨tp, wa0, 16, List.range 6, by rw [f2]; rfl, upd_same, .inr (hKT.sq _), ?_⟩
        unfold Jo.toolOf
        rw [f1]; rfl
      · refine ⟨tp', wl', t.reach, t.ways, by rw [f2]; rfl, sN _ _ f3, .inl (SqL.of (sN _ _ f4)), ?_⟩
        unfold Jo.toolOf
        rw [f1]
    rw [etv]
    rw [etool] at t1 t2 t3 t4
    generalize hH1 : L2.upd H tp (.tup [.ref wa0, .int 16]) = H1 at sN hTv hWs
    have h6 : ws.length ≤ 6 := by
      have := CG.nodup_len 6 ws (t1.imp fun {a b} q => by omega) t2
      exact this
    -- one turn of near
    have turn1 : ∀ (D : Addr) (σ : L2.St) (i way : Nat) (H' : Hp), H1 D = none → σ = [some (nV k), some (.ref ap), some (.ref aw), some (.ref ac), some (.ref tv), none, none] → ws[i]? = some way → Same H1 H' ∧ H' D = some (.lst (((ws.take i).filter fun way => decide (pt.depth b way ≤ n)).map nV)) →
        gName 6 (nV way) (wipe σ [6]) H' fun σ2 H2 => wipe σ2 [6] = wipe σ [6] ∧ (tB (tOp (rI0 fun i j => .bl (decide (i ≤ j))) (tCall (spDepth K) [] E0 (tCons (tVar 6) (tCons (tVar 3) (tCons (tFld K (tVar 1) "block") tNil)))) (tOp (rIxT K) (tVar 4) (tC (.int 1))))) σ2 H2 fun c H3 =>
          if c = true then tVar 6 σ2 H3 fun y H4 => ∃ acc, H4 D = some (.lst acc) ∧ acc.length < sizeLine ∧ (fun H5 => Same H1 H5 ∧ H5 D = some (.lst (((ws.take (i + 1)).filter fun way => decide (pt.depth b way ≤ n)).map nV))) (L2.upd H4 D (.lst (acc ++ [y]))) else Same H1 H3 ∧ H3 D = some (.lst (((ws.take (i + 1)).filter fun way => decide (pt.depth b way ≤ n)).map nV)) := by
      rintro D σ i way H' hD rfl hi ⟨s2, hDD⟩
      have sH' := sN.trans s2
      refine ⟨wipe_one, _, rfl, _, rfl, _, rfl, ap, C, dx, _, _, rfl, sH' _ _ g1, TC.cl, TC.nB, pf_B .., way, ac, bk, b, pt, rfl, t2 way (List.mem_of_getElem? hi), SqL.of (sH' _ _ hbx), SqL.of (sH' _ _ g3), hF, ?_⟩
      refine ⟨_, rfl, tv, _, _, _, rfl, rfl, SqT.of (s2 _ _ hTv), at_of (j := 1) rfl rfl, _, _, rfl, rfl, _, rfl, ?_⟩
      have ed : decide (((pt.depth b way : Nat) : Int) ≤ ((n : Nat) : Int)) = decide (pt.depth b way ≤ n) := decide_eq_decide.mpr (by omega)
      rw [ed, filter_take _ hi]
      have hle : (((ws.take i).filter fun way => decide (pt.depth b way ≤ n)).map nV).length < sizeLine := by
        rw [List.length_map, sizeLine_eq]
        have := List.length_filter_le (fun way => decide (pt.depth b way ≤ n)) (ws.take i)
        rw [List.length_take] at this
        omega
      refine ite2 (fun e => ?_) fun e => ?_
      · rw [if_pos e]
        exact ⟨_, rfl, _, hDD, hle, Same.upd s2 hD, by rw [upd_same, List.map_append]; rfl⟩
      · rw [if_neg e, List.append_nil]
        exact ⟨s2, hDD⟩
    -- behind near
    have fin : ∀ (D : Addr) (H2 : Hp), H1 D = none → Same H1 H2 → H2 D = some (.lst ((CG.nearW pt l k b).map nV)) →
        (tRet (tLc (iList K (tVar 5)) (gName 6) (tB (tCall (spClear K) [] E0 (tCons (tVar 6) (tCons (tVar 3) (tCons (tVar 2) tNil))))) (tVar 6) [6])) { nx := fun _ H' => Q .non H', rt := Q } [some (nV k), some (.ref ap), some (.ref aw), some (.ref ac), some (.ref tv), some (.ref D), none] H2 := fun D H2 hD s2 hDD => by
      have sH2 := sN.trans s2
      refine ⟨_, rfl, D, rfl, ⟨_, SqL.of hDD⟩, fun D2 hD2 => ?_⟩
      have hlN : (CG.nearW pt l k b).length ≤ 6 := by
        unfold CG.nearW
        rw [etool]
        exact Nat.le_trans (List.length_filter_le _ _) h6
      refine lc_list (xs := (CG.nearW pt l k b).map nV) (fun i H' => Same H2 H' ∧ H' D2 = some (.lst ((((CG.nearW pt l k b).take i).filter fun way => Jo.freeBy pt (pt.woodBy made) b way).map nV))) ⟨Same.new hD2, upd_same⟩ (fun i H' _ p => p.1.seq (SqL.of hDD)) (fun i x H' hi p => ?_) fun H' p => ?_
      · obtain ⟨s3, hDD2⟩ := p
        obtain ⟨way, hway, rfl⟩ := nV_at hi
        have hw6 : way < 6 := by
          have hm := List.mem_of_getElem? hway
          unfold CG.nearW at hm
          rw [etool] at hm
          exact t2 way (List.mem_filter.mp hm).1
        have sH3 := sH2.trans s3
        refine ⟨wipe_one, _, rfl, _, rfl, _, rfl, way, ac, aw, b, pt, La, pt.wood made, rfl, hw6, sH3 _ _ hbx, hs, hF, hW.same sH3, fun H4 s4 ns e1 e2 e3 => ⟨_, rfl, ?_⟩⟩
        rw [← CG.free_clear hs (CG.woodBy_arr pt made) hF hw6 e3 e2, filter_take _ hway]
        refine ite2 (fun e => ?_) fun e => ?_
        · rw [if_pos e]
          refine ⟨_, rfl, _, s4 _ _ hDD2, ?_, Same.upd (s3.trans s4) hD2, by rw [upd_same, List.map_append]; rfl⟩
          rw [List.length_map, sizeLine_eq]
          have := List.length_filter_le (fun way => Jo.freeBy pt (pt.woodBy made) b way) ((CG.nearW pt l k b).take i)
          rw [List.length_take] at this
          omega
        · rw [if_neg e, List.append_nil]
          exact ⟨s3.trans s4, s4 _ _ hDD2⟩
      · rw [List.length_map, List.take_length, ← CG.waysBy_eq hP.tok hb] at p
        exact kk H' D2 (sH2.trans p.1) (sH2.free hD2) p.2
    have eN : (ws.filter fun way => decide (pt.depth b way ≤ n)) = CG.nearW pt l k b := by unfold CG.nearW; rw [etool]
    refine ⟨_, rfl, tv, _, _, _, rfl, rfl, SqT.of hTv, at_of (j := 0) rfl rfl, wa, rfl, ?_⟩
    rcases hWs with hL | hT
    · refine .inl ⟨⟨_, hL⟩, fun D hD => ?_⟩
      refine lc_list (xs := ws.map nV) (fun i H' => Same H1 H' ∧ H' D = some (.lst (((ws.take i).filter fun way => decide (pt.depth b way ≤ n)).map nV))) ⟨Same.new hD, upd_same⟩ (fun i H' _ p => p.1.seq hL) (fun i x H' hi p => ?_) fun H' p => ?_
      · obtain ⟨way, hway, rfl⟩ := nV_at hi
        exact turn1 D _ i way H' hD rfl hway p
      · rw [List.length_map, List.take_length, eN] at p
        exact fin D H' hD p.1 p.2
    · refine .inr ⟨⟨_, hT⟩, fun D hD => ?_⟩
      refine lc_tup (xs := ws.map nV) (fun i H' => Same H1 H' ∧ H' D = some (.lst (((ws.take i).filter fun way => decide (pt.depth b way ≤ n)).map nV))) ⟨Same.new hD, upd_same⟩ (fun i H' _ p => p.1.tup hT) (fun i x H' hi p => ?_) fun H' p => ?_
      · obtain ⟨way, hway, rfl⟩ := nV_at hi
        exact turn1 D _ i way H' hD rfl hway p
      · rw [List.length_map, List.take_length, eN] at p
        exact fin D H' hD p.1 p.2
def spTake (K : PySem.W.Frag) : Sp := fun vs H Q _ => ∃ (aw ac : Addr) (b : Jo.Box) (pt : Jo.Part) (La : Nat → Addr) (f : Jo.Cell → Bool), vs = [.ref aw, .ref ac] ∧ WoodL pt H aw La f ∧ H ac = some (.lst ((CM.box6 b).map V.int)) ∧ (∀ g, g < 3 → ac ≠ La g) ∧ CG.Small pt ∧ CG.Fits pt b ∧
  ∀ H', WoodL pt H' aw La (fun c => f c && !b.has c) → (∀ x o, H x = some o → (∀ g, g < 3 → x ≠ La g) → H' x = some o) → Q .non H'
theorem scTake : FnScope ["wood", "cut", "axis", "layers", "gone", "place"] ["wood", "cut"] (defScope sTake) := ⟨rfl, rfl, rfl, by decide +kernel, rfl, by decide +kernel, by decide +kernel⟩
theorem ok_take (T : Txt K mg) (G : TxtG K mg) : Fd P w K mg base 2 "take_away" ["wood", "cut"] (spTake K) := by
  obtain ⟨f, fd, hm, F⟩ := G.dTake.ex
  refine ⟨f, fd, hm, F.kp, F.binds (fun _ _ _ _ _ _ us hl => match us, hl with | [_, _], _ => rfl), F.ok scTake (fun vs H Q E h => ?_) (fun cdv A outer s H vs Q E hr h => ?_)⟩
  · obtain ⟨aw, ac, b, pt, La, fw, rfl, _⟩ := h; rfl
  · obtain ⟨aw, ac, b, pt, La, fw, rfl, hW, hb, hne, hs, hF, k⟩ := h
    refine ⟨_, pss_one (ps_for PassesOwn.never rfl (pi_range1 rfl T.range (pa_cons pe_int pa_nil)) (pg_name (i := 2) scTake.nd rfl (Or.inl rfl))
      (pss_cons (ps_set (i := 3) scTake.nd rfl (Or.inl rfl) (pe_ix ix_list (pv 0) (pv 2) (fun _ _ => rfl)))
      (pss_cons (ps_set (i := 4) scTake.nd rfl (Or.inl rfl) (pe_fn (ok_thr T G) hr rfl (pa_cons (pv 1) (pa_cons (pv 2) pa_nil))))
      (pss_one (ps_for PassesOwn.never rfl (pi_range2 rfl T.range (pa_cons (pe_ix ix_list (pv 1) (pv 2) (fun _ _ => rfl)) (pa_cons (pe_op op_add (pe_ix ix_list (pv 1) (pv 2) (fun _ _ => rfl)) (pe_ix ix_list (pv 1) (pe_op op_add (pv 2) pe_int) (fun _ _ => rfl))) pa_nil))) (pg_name (i := 5) scTake.nd rfl (Or.inl rfl))
        (pss_one (ps_asg (pe_op op_and (pe_ix ix_list (pv 3) (pv 5) (fun _ _ => rfl)) (pe_un un_inv (pv 4))) (pg_sub (pv 3) (pv 5) set_list)))))))), ?_⟩
    refine ⟨3, rfl, by decide, by decide, for_range (n := 3) (fun i σ H' => ∃ v2 v3 v4 v5 : Option V, σ = [some (.ref aw), some (.ref ac), v2, v3, v4, v5] ∧ (∀ x o, H x = some o → (∀ g, g < 3 → x ≠ La g) → H' x = some o) ∧
      ∀ g, g < 3 → ∃ ns : List Nat, H' (La g) = some (.lst (ns.map nV)) ∧ ns.length = pt.side g ∧ CG.Lays (fun c => fw c && (decide (i ≤ g) || !b.has c)) g ns) ⟨none, none, none, none, rfl, fun x o h _ => h, fun g hg => ?_⟩ ?_ ?_⟩
    · obtain ⟨ns, n1, n2, n3⟩ := hW.lay g hg
      exact ⟨ns, n1, n2, n3.congr fun c => by simp⟩
    · rintro i σ H1 hi ⟨v2, v3, v4, v5, rfl, o1, l1⟩
      rw [show (0 : Int) + (i : Int) = ((i : Nat) : Int) by omega]
      have hb1 := o1 _ _ hb hne
      have ht1 := o1 _ _ hW.top hW.ne
      obtain ⟨z1, z2⟩ := hF.s16 hs hi
      have hsd := hF.side hi
      have s16 := (hs.side hi).2
      obtain ⟨ns, n1, n2, n3⟩ := l1 i hi
      generalize hst : (b.side i).1 = st at hsd
      generalize hln : (b.side i).2 = ln at hsd
      have b1 : atI ((CM.box6 b).map V.int) ((i : Nat) : Int) = some (nV st) := by rw [← hst]; exact atI_nat (box_lo b hi)
      have b2 : atI ((CM.box6 b).map V.int) (((i : Nat) : Int) + 3) = some (nV ln) := by rw [← hln]; exact at_of (j := i + 3) (by omega) (box_hi b hi)
      refine ⟨_, rfl, _, rfl, aw, _, _, _, rfl, rfl, SqL.of ht1, atI_nat (La_at hi), ?_⟩
      refine ⟨_, rfl, _, rfl, ac, i, b, rfl, SqL.of hb1, hi, z1, z2, ?_⟩
      refine ⟨_, rfl, _, rfl, ac, _, _, _, rfl, rfl, SqL.of hb1, b1, _, rfl, _, rfl, ac, _, _, _, rfl, rfl, SqL.of hb1, b1, _, rfl, _, rfl, _, _, rfl, rfl, ac, _, _, _, rfl, rfl, SqL.of hb1, b2, _, _, rfl, rfl, _, _, rfl, ⟨by omega, by omega, by omega, by omega⟩, ?_⟩
      rw [show (((st : Nat) : Int) + ((ln : Nat) : Int) - ((st : Nat) : Int)).toNat = ln by omega]
      refine for_range (fun j σ H' => ∃ v5 : Option V, σ = [some (.ref aw), some (.ref ac), some (nV i), some (.ref (La i)), some (nV (CG.thrOf b i)), v5] ∧ (∀ x o, H1 x = some o → x ≠ La i → H' x = some o) ∧
        ∃ ns' : List Nat, H' (La i) = some (.lst (ns'.map nV)) ∧ ns'.length = pt.side i ∧ ∀ k n, ns'[k]? = some n → CG.Lay (fun c => fw c && (!(decide (st ≤ k) && decide (k < st + j)) || !b.has c)) i k n) ⟨_, rfl, fun x o h _ => h, ns, n1, n2, fun k n hk => ?_⟩ ?_ ?_
      · have := n3 k n hk
        have e : (fun c => fw c && (decide (i ≤ i) || !b.has c)) = (fun c => fw c && (!(decide (st ≤ k) && decide (k < st + 0)) || !b.has c)) := by
          funext c
          have : ¬ (st ≤ k ∧ k < st + 0) := by omega
          have e2 : (decide (st ≤ k) && decide (k < st + 0)) = false := by
            cases q : (decide (st ≤ k) && decide (k < st + 0)) with
            | false => rfl
            | true => rw [Bool.and_eq_true, decide_eq_true_eq, decide_eq_true_eq] at q; exact absurd q this
          rw [e2]; simp
        rw [← e]; exact this
      · rintro j σ H2 hj ⟨v5', rfl, o2, ns', m1, m2, m3⟩
        rw [show ((st : Nat) : Int) + (j : Int) = ((st + j : Nat) : Int) by omega]
        have hlt : st + j < ns'.length := by rw [m2]; omega
        obtain ⟨n, hn⟩ : ∃ n, ns'[st + j]? = some n := ⟨_, List.getElem?_eq_getElem hlt⟩
        have hnV : (ns'.map nV)[st + j]? = some (nV n) := by rw [List.getElem?_map, hn]; rfl
        refine ⟨_, rfl, _, rfl, La i, _, _, _, rfl, rfl, SqL.of m1, atI_nat hnV, _, rfl, _, rfl, _, _, rfl, rfl, _, rfl, _, rfl, La i, _, _, st + j, rfl, rfl, m1, ixN_nat (by rw [List.length_map]; exact hlt), ?_⟩
        have eV : V.int (Builtin.bitAnd ((n : Nat) : Int) (Builtin.bitNot ((CG.thrOf b i : Nat) : Int))) = nV (CG.minusB n (CG.thrOf b i)) := congrArg V.int (bitMinus_nat _ _)
        dsimp only
        rw [eV]
        have eM : (ns'.map nV).set (st + j) (nV (CG.minusB n (CG.thrOf b i))) = (ns'.set (st + j) (CG.minusB n (CG.thrOf b i))).map nV := by rw [List.map_set]
        rw [eM]
        refine ⟨_, rfl, fun x o h hx => by rw [upd_ne hx]; exact o2 x o h hx, _, upd_same, by rw [List.length_set]; exact m2, fun k' n' hk' => ?_⟩
        by_cases q : k' = st + j
        · subst q
          rw [List.getElem?_set_self hlt] at hk'
          cases hk'
          have h0 := m3 _ _ hn
          have e0 : (fun c => fw c && (!(decide (st ≤ st + j) && decide (st + j < st + j)) || !b.has c)) = fw := by funext c; simp
          rw [e0] at h0
          have h1 := CG.lay_cut hs hF hi h0 (by rw [hst, hln]; omega)
          have e1 : (fun c => fw c && (!(decide (st ≤ st + j) && decide (st + j < st + (j + 1))) || !b.has c)) = fun c => fw c && !b.has c := by
            funext c
            have : (decide (st ≤ st + j) && decide (st + j < st + (j + 1))) = true := by simp
            rw [this]; simp
          rw [e1]; exact h1
        · rw [List.getElem?_set_ne (Ne.symm q)] at hk'
          have h0 := m3 _ _ hk'
          have e1 : (decide (st ≤ k') && decide (k' < st + (j + 1))) = (decide (st ≤ k') && decide (k' < st + j)) := by
            rw [Bool.eq_iff_iff]; simp only [Bool.and_eq_true, decide_eq_true_eq]; omega
          rw [e1]; exact h0
      · rintro σ H2 ⟨v5', rfl, o2, ns', m1, m2, m3⟩
        refine ⟨_, _, _, _, rfl, fun x o h hx => o2 x o (o1 x o h hx) (hx i hi), fun g hg => ?_⟩
        by_cases q : g = i
        · subst q
          refine ⟨ns', m1, m2, fun k' n' hk' => ?_⟩
          have h0 := m3 k' n' hk'
          have e : (fun c => fw c && (decide (g + 1 ≤ g) || !b.has c)) = fun c => fw c && !b.has c := by
            funext c
            have : ¬ g + 1 ≤ g := by omega
            simp [this]
          rw [e]
          by_cases z : st ≤ k' ∧ k' < st + ln
          · have e1 : (decide (st ≤ k') && decide (k' < st + ln)) = true := by simp; omega
            rw [e1] at h0
            have e2 : (fun c => fw c && (!true || !b.has c)) = fun c => fw c && !b.has c := by funext c; simp
            rw [e2] at h0; exact h0
          · have e1 : (decide (st ≤ k') && decide (k' < st + ln)) = false := by
              cases q : (decide (st ≤ k') && decide (k' < st + ln)) with
              | false => rfl
              | true => rw [Bool.and_eq_true, decide_eq_true_eq, decide_eq_true_eq] at q; exact absurd q z
            rw [e1] at h0
            have e2 : (fun c => fw c && (!false || !b.has c)) = fw := by funext c; simp
            rw [e2] at h0
            exact CG.lay_keep hg h0 (by rw [hst, hln]; exact z)
        · obtain ⟨ns2, p1, p2, p3⟩ := l1 g hg
          refine ⟨ns2, o2 _ _ p1 (hW.inj g i hg hi q), p2, p3.congr fun c => ?_⟩
          have : decide (i ≤ g) = decide (i + 1 ≤ g) := decide_eq_decide.mpr (by omega)
          rw [this]
    · rintro σ H1 ⟨v2, v3, v4, v5, rfl, o1, l1⟩
      refine k H1 ⟨o1 _ _ hW.top hW.ne, fun g hg => ?_, hW.ne, hW.inj⟩ o1
      obtain ⟨ns, n1, n2, n3⟩ := l1 g hg
      refine ⟨ns, n1, n2, n3.congr fun c => ?_⟩
      have : ¬ 3 ≤ g := by omega
      simp [this]
end
end CR
set_option Elab.async false
set_option linter.all false
set_option maxRecDepth 100000
set_option maxHeartbeats 2000000
namespace CR
open PySem PySem.Spec PyProof.Rows L2
theorem rep_flat (n k : Nat) : (List.replicate k [nV n]).flatten = (List.replicate k n).map nV := by
  induction k with
  | zero => rfl
  | succ k ih => rw [List.replicate_succ, List.flatten_cons, ih, List.replicate_succ, List.map_cons]; rfl
theorem nV_inj {n m : Nat} (h : nV n = nV m) : n = m := by
  have : ((n : Nat) : Int) = ((m : Nat) : Int) := by injection h
  omega
section
variable {P : Program} {w : World} {K : PySem.W.Frag} {mg : Str → Option Value} {base : Heap} {C : Addr}
def spWood (K : PySem.W.Frag) (C : Addr) : Sp := fun vs H Q _ => ∃ (ap am : Addr) (pt : Jo.Part) (l : List Jo.Tool) (ms : List Nat), vs = [.ref ap, .ref am] ∧ FullP C H ap pt l ∧ SqL K H am (ms.map nV) ∧ (∀ x ∈ ms, x < pt.cuts.length) ∧
  ∀ (H' : Hp) (aw : Addr) (La : Nat → Addr), Same H H' → H aw = none → (∀ g, g < 3 → H (La g) = none) → WoodL pt H' aw La (pt.wood ms) → Q (.ref aw) H'
theorem scWood : FnScope ["plan", "made", "block", "wood", "axis", "number"] ["plan", "made"] (defScope sWood) := ⟨rfl, rfl, rfl, by decide +kernel, rfl, by decide +kernel, by decide +kernel⟩
theorem blk_six (pt : Jo.Part) : [V.int 0, .int 0, .int 0] ++ [pt.w, pt.d, pt.h].map nV = (CM.box6 (CG.blkBox pt)).map V.int := rfl
theorem ok_wood (T : Txt K mg) (G : TxtG K mg) (TC : Pl K mg C) : Fd P w K mg base 3 "wood_left" ["plan", "made"] (spWood K C) := by
  obtain ⟨f, fd, hm, F⟩ := G.dWood.ex
  refine ⟨f, fd, hm, F.kp, F.binds (fun _ _ _ _ _ _ us hl => match us, hl with | [_, _], _ => rfl), F.ok scWood (fun vs H Q E h => ?_) (fun cdv A outer s H vs Q E hr h => ?_)⟩
  · obtain ⟨ap, am, pt, l, ms, rfl, _⟩ := h; rfl
  · obtain ⟨ap, am, pt, l, ms, rfl, hP, hM, hms, k⟩ := h
    have hr1 : Room 1 _ := hr.mono (by decide)
    refine ⟨_, pss_cons (ps_set (i := 2) scWood.nd rfl (by first | exact Or.inl rfl | exact Or.inr rfl) (pe_op op_cat (pe_lst (pa_cons pe_int (pa_cons pe_int (pa_cons pe_int pa_nil)))) (pe_fld (pv 0) rfl)))
      (pss_cons (ps_setLc (i := 3) rfl scWood.nd rfl rfl (sw_true rfl rfl rfl rfl) (pi_range1 rfl T.range (pa_cons pe_int pa_nil)) (blkOk_by (N := ["plan", "made", "block", "wood", "axis", "number"]) (sc := defScope sWood) (own := [("axis", 4)]) (by decide +kernel)) (fun _ _ _ _ _ => pg_name (i := 4) scWood.nd rfl (Or.inl rfl)) (fun _ _ _ _ _ => pts_nil)
        (fun _ _ _ _ _ => pe_op op_rep (pe_lst (pa_cons (pe_fn (ok_thr T G) hr1 rfl (pa_cons (pv 2) (pa_cons (pv 4) pa_nil))) pa_nil)) (pe_ix (ixLK (K := K) rfl) (pe_fldK (K := K) rfl (pv 0) rfl) (pv 4) (fun _ _ => rfl))))
      (pss_cons (ps_for PassesOwn.never rfl (pi_list (pv 1)) (pg_name (i := 5) scWood.nd rfl (Or.inl rfl))
        (pss_one (ps_expr (pe_fn (ok_take T G) hr rfl (pa_cons (pv 3) (pa_cons (pe_ix ix_list (pe_fld (pv 0) rfl) (pv 5) (fun _ _ => rfl)) pa_nil))))))
      (pss_one (ps_ret (pv 3))))), ?_⟩
    obtain ⟨ct, tl, kvs, hPl, hTl⟩ := hP.ex
    obtain ⟨dx, rf, bk, as, g1, g2, g3, g4, g5, g6, g7, g8⟩ := hPl.ex
    have hs := hP.pok.sm
    refine ⟨by show 3 ≤ sizeLine; decide, fun q hq => ?_⟩
    have sq : Same H (L2.upd H q (.lst [.int 0, .int 0, .int 0])) := Same.new hq
    refine ⟨_, rfl, ap, C, dx, _, _, rfl, sq _ _ g1, TC.cl, TC.nB, pf_B .., q, bk, _, _, rfl, rfl, upd_same, sq _ _ g3, by show 3 + 3 ≤ sizeLine; decide, fun bl hbl => ?_⟩
    rw [blk_six]
    have hblH : H bl = none := sq.free hbl
    have s1 : Same H (L2.upd (L2.upd H q (.lst [.int 0, .int 0, .int 0])) bl (.lst ((CM.box6 (CG.blkBox pt)).map V.int))) := Same.upd sq hblH
    generalize hH1 : L2.upd (L2.upd H q (.lst [.int 0, .int 0, .int 0])) bl (.lst ((CM.box6 (CG.blkBox pt)).map V.int)) = H1 at s1
    have hb1 : H1 bl = some (.lst ((CM.box6 (CG.blkBox pt)).map V.int)) := by rw [← hH1, upd_same]
    refine ⟨3, rfl, by decide, by decide, fun D hD => ?_⟩
    have hDH : H D = none := s1.free hD
    refine lc_range (lo := 0) (n := 3) (fun i H' => Same H1 H' ∧ ∃ La : Nat → Addr, H' D = some (.lst ((List.range i).map fun g => V.ref (La g))) ∧ (∀ g, g < i → H' (La g) = some (.lst ((List.replicate (pt.side g) (CG.thrOf (CG.blkBox pt) g)).map nV)) ∧ H1 (La g) = none ∧ D ≠ La g) ∧ ∀ g h, g < i → h < i → g ≠ h → La g ≠ La h)
      ⟨Same.new hD, fun _ => D, upd_same, fun g hg => absurd hg (by omega), fun g h hg => absurd hg (by omega)⟩ (fun i H' hi p => ?_) fun H' p => ?_
    · obtain ⟨s2, La, d1, d2, d3⟩ := p
      rw [show (0 : Int) + (i : Int) = ((i : Nat) : Int) by omega]
      have sH' := s1.trans s2
      obtain ⟨z1, z2⟩ := (CG.blk_fits pt).s16 hs hi
      refine ⟨wipe_one, id ⟨_, rfl, _, rfl, bl, i, CG.blkBox pt, rfl, SqL.of (s2 _ _ hb1), hi, z1, z2, by show 1 ≤ sizeLine; decide, fun e1 he1 => ?_⟩⟩
      have s3 : Same H' (L2.upd H' e1 (.lst [nV (CG.thrOf (CG.blkBox pt) i)])) := Same.new he1
      have sd := hs.side hi
      refine ⟨_, rfl, ap, C, dx, _, _, rfl, s3 _ _ (sH' _ _ g1), TC.cl, TC.nB, pf_B .., _, rfl, bk, _, _, _, rfl, rfl, SqL.of (s3 _ _ (sH' _ _ g3)), atI_nat (side_at pt hi), e1, _, _, rfl, rfl, upd_same, by omega, by omega, ?_, fun e2 he2 => ?_⟩
      · rw [Int.toNat_natCast, sizeLine_eq]
        show 1 * pt.side i ≤ _
        omega
      rw [Int.toNat_natCast, rep_flat]
      have he2H : H' e2 = none := s3.free he2
      have s4 : Same H' (L2.upd (L2.upd H' e1 (.lst [nV (CG.thrOf (CG.blkBox pt) i)])) e2 (.lst ((List.replicate (pt.side i) (CG.thrOf (CG.blkBox pt) i)).map nV))) := Same.upd s3 he2H
      have nD : D ≠ e2 := ne_of_none d1 he2H
      refine ⟨_, s4 _ _ d1, ?_, Same.upd (s2.trans s4) hD, fun g => if g = i then e2 else La g, ?_, fun g hg => ?_, fun g h hg hh hgh => ?_⟩
      · rw [List.length_map, List.length_range, sizeLine_eq]; omega
      · rw [upd_same, List.range_succ, List.map_append]
        congr 2
        show _ = ((List.range i).map _) ++ [V.ref (if i = i then e2 else La i)]
        rw [if_pos rfl]
        congr 1
        refine List.map_congr_left fun g hg => ?_
        have := List.mem_range.mp hg
        dsimp only
        rw [if_neg (by omega)]
      · dsimp only
        by_cases z : g = i
        · subst z
          rw [if_pos rfl]
          exact ⟨by rw [upd_ne (Ne.symm nD), upd_same], s2.free he2H, nD⟩
        · rw [if_neg z]
          obtain ⟨a1, a2, a3⟩ := d2 g (by omega)
          exact ⟨by rw [upd_ne (Ne.symm a3)]; exact s4 _ _ a1, a2, a3⟩
      · dsimp only
        by_cases z : g = i
        · subst z
          rw [if_pos rfl, if_neg (fun e => hgh e.symm)]
          obtain ⟨a1, _⟩ := d2 h (by omega)
          exact Ne.symm (ne_of_none a1 he2H)
        · rw [if_neg z]
          by_cases z2 : h = i
          · subst z2
            rw [if_pos rfl]
            obtain ⟨a1, _⟩ := d2 g (by omega)
            exact ne_of_none a1 he2H
          · rw [if_neg z2]
            exact d3 g h (by omega) (by omega) hgh
    · obtain ⟨s2, La, d1, d2, d3⟩ := p
      have sH2 := s1.trans s2
      have hLa : ∀ g, g < 3 → H (La g) = none := fun g hg => s1.free (d2 g hg).2.1
      have W0 : WoodL pt H' D La (pt.wood []) := ⟨d1, fun g hg => ⟨_, (d2 g hg).1, List.length_replicate, CG.lays_nil hs hg⟩, fun g hg => (d2 g hg).2.2, d3⟩
      refine ⟨_, rfl, am, rfl, ⟨_, sH2.seq hM⟩, for_list (K := K) (xs := ms.map nV) (fun i σ H3 => ∃ v5 : Option V, σ = [some (.ref ap), some (.ref am), some (.ref bl), some (.ref D), none, v5] ∧ Same H H3 ∧ WoodL pt H3 D La (pt.wood (ms.take i)))
        ⟨none, rfl, sH2, W0⟩ (fun i σ H3 _ ⟨_, _, s3, _⟩ => s3.seq hM) ?_ ?_⟩
      · rintro i y σ H3 hi ⟨v5, rfl, s3, W3⟩
        obtain ⟨n, hn, rfl⟩ := nV_at hi
        have hnl := hms n (List.mem_of_getElem? hn)
        obtain ⟨b, hb⟩ : ∃ b, pt.cuts[n]? = some b := ⟨_, List.getElem?_eq_getElem hnl⟩
        obtain ⟨ac, hac, hbx, _⟩ := paired_at g8 hb
        have hack : (as.map V.ref)[n]? = some (.ref ac) := by rw [List.getElem?_map, hac]; rfl
        refine ⟨_, rfl, _, rfl, ap, C, dx, _, _, rfl, s3 _ _ g1, TC.cl, TC.nC, pf_C .., _, rfl, ct, _, _, _, rfl, rfl, SqL.of (s3 _ _ g4), atI_nat hack, D, ac, b, pt, La, _, rfl, W3, s3 _ _ hbx, fun g hg => ne_of_none hbx (hLa g hg), hs, hP.pok.fit b (List.mem_of_getElem? hb), fun H4 W4 o4 => ?_⟩
        refine ⟨_, rfl, fun x o h => o4 x o (s3 x o h) fun g hg => ne_of_none h (hLa g hg), W4.congr fun c => ?_⟩
        rw [List.take_succ, hn]
        exact (CG.wood_snoc pt (ms.take i) hb c).symm
      · rintro σ H3 ⟨v5, rfl, s3, W3⟩
        rw [List.length_map, List.take_length] at W3
        exact ⟨_, rfl, k H3 D La s3 hDH hLa W3⟩
end
end CR
set_option Elab.async false
set_option linter.all false
set_option maxRecDepth 100000
set_option maxHeartbeats 2000000
namespace CR
open PySem PySem.Spec PyProof.Rows L2
theorem bt_max : bootBuiltins "max" = some (.builtin "max") := by decide +kernel
section
variable {P : Program} {w : World} {K : PySem.W.Frag} {mg : Str → Option Value} {base : Heap} {C : Addr}
def spCall (K : PySem.W.Frag) (C : Addr) : Sp := fun vs H Q _ => ∃ (aq a b : Addr) (ks : List Nat) (t u : BYs), vs = [.ref aq, .ref a, .ref b] ∧ SqL K H aq (ks.map nV) ∧ ks ≠ [] ∧ IsB K H a t ∧ IsB K H b u ∧
  (∀ r, CM.told t u = .error r → ∀ (H' : Hp) (p : Addr), Same H H' → RefAt C H' p r → Q (.ref p) H') ∧
  (∀ pt l, CM.told t u = .ok (pt, l) → (∃ k ∈ ks, pt.cuts.length ≤ k) → ∀ (H' : Hp) (p : Addr), Same H H' → RefAt C H' p [-4] → Q (.ref p) H') ∧
  (∀ pt l, CM.told t u = .ok (pt, l) → (∀ k ∈ ks, k < pt.cuts.length) → ∀ (H' : Hp) (p : Addr), Same H H' → FullP C H' p pt l → Q (.ref p) H')
theorem scCall : FnScope ["asked", "part", "tools", "plan"] ["asked", "part", "tools"] (defScope sCall) := ⟨rfl, rfl, rfl, by decide +kernel, rfl, by decide +kernel, by decide +kernel⟩
theorem ok_call (T : Txt K mg) (TC : Pl K mg C) (hmx : mg "max" = none) (hunk : ∃ t, mg "UNKNOWN_CUT" = some (.int (-4) t)) (D : Df K mg "read_call" sCall) : Fd P w K mg base 7 "read_call" ["asked", "part", "tools"] (spCall K C) := by
  obtain ⟨f, fd, hm, F⟩ := D.ex
  refine ⟨f, fd, hm, F.kp, F.binds (fun _ _ _ _ _ _ us hl => match us, hl with | [_, _, _], _ => rfl), F.ok scCall (fun vs H Q E h => ?_) (fun cdv A outer s H vs Q E hr h => ?_)⟩
  · obtain ⟨aq, a, b, ks, t, u, rfl, _⟩ := h; rfl
  · obtain ⟨aq, a, b, ks, t, u, rfl, hq, hne, hA, hB, kE, kN, kO⟩ := h
    refine ⟨_, pss_cons (ps_set (i := 3) scCall.nd rfl (Or.inl rfl) (pe_fn (ok_texts T TC) hr rfl (pa_cons (pv 1) (pa_cons (pv 2) pa_nil))))
      (pss_cons (ps_if (PW.pt (pw_and (pt_not (pt_truth (pe_fld (pv 3) rfl) (fun _ => rfl))) (pw_and1 (pt_cmpR op_ge (pe_callB (cr_max rfl) rfl hmx bt_max (pa_cons (pv 0) pa_nil)) (pe_len1 T.len (pe_fld (pv 3) rfl)) (nomark _))))) (pss_one (ps_fld (pv 3) (pe_lst (pa_cons (pe_gi rfl hunk) pa_nil)) rfl)) pss_nil)
      (pss_one (ps_ret (pv 3)))), ?_⟩
    refine ⟨_, rfl, _, rfl, a, b, t, u, rfl, hA, hB, fun r e H1 p s1 z1 hr1 => ?_, fun pt l e H1 p s1 z1 hP => ?_⟩
    · have hR := hr1
      obtain ⟨dx, rf, bk, ct, tl, h1, h2⟩ := hr1
      have hT : (!((r.map V.int).isEmpty)) = true := by
        cases q : r with
        | nil => exact absurd q (CM.told_ne e)
        | cons => rfl
      refine ⟨_, rfl, p, C, dx, _, _, rfl, h1, TC.cl, TC.nR, pf_R .., _, .inl ⟨_, SqL.of h2, rfl⟩, ?_⟩
      rw [hT]
      exact iteF (iteF ⟨_, rfl, kE r e H1 p s1 hR⟩)
    · have hP' := hP
      obtain ⟨ct, tl, kvs, hPl, hTl⟩ := hP.ex
      obtain ⟨dx, rf, bk, as, g1, g2, g3, g4, g5, g6, g7, g8⟩ := hPl.ex
      have hal : (as.map V.ref).length = pt.cuts.length := by rw [List.length_map, g8.length]
      refine ⟨_, rfl, p, C, dx, _, _, rfl, g1, TC.cl, TC.nR, pf_R .., _, .inl ⟨_, SqL.of g2, rfl⟩, iteT ?_⟩
      have hqI : SqL K H1 aq ((CM.natsI ks).map V.int) := by rw [natsI_V]; exact s1.seq hq
      refine ⟨_, rfl, aq, CM.natsI ks, rfl, hqI, ?_, fun m hm1 hm2 => ?_⟩
      · unfold CM.natsI; rw [List.length_map]; exact List.length_pos_iff.mpr hne
      obtain ⟨mk, hmk, rfl⟩ := List.mem_map.mp hm1
      have hmx2 : ∀ y ∈ ks, y ≤ mk := fun y hy => by
        have := hm2 (y : Int) (List.mem_map.mpr ⟨y, hy, rfl⟩)
        omega
      refine ⟨_, rfl, p, C, dx, _, _, rfl, g1, TC.cl, TC.nC, pf_C .., ct, _, rfl, .inl (SqL.of g4), _, _, rfl, rfl, _, rfl, ?_⟩
      rw [hal]
      refine ite2 (fun e2 => ?_) fun e2 => ?_
      · have hge : ((pt.cuts.length : Nat) : Int) ≤ ((mk : Nat) : Int) := of_decide_eq_true e2
        refine ⟨by show 1 ≤ sizeLine; decide, fun q hq0 => ⟨_, rfl, p, C, dx, _, rfl, (Same.new hq0) _ _ g1, TC.cl, TC.nR, by show 4 < 1000; decide, _, rfl, ?_⟩⟩
        refine kN pt l e ⟨mk, hmk, by omega⟩ _ p (Same.upd (Same.upd s1 (s1.free hq0)) z1) ⟨dx, q, bk, ct, tl, by rw [upd_same, put_R], ?_⟩
        rw [upd_ne (Ne.symm (ne_of_none g1 hq0)), upd_same]; rfl
      · have hlt : ¬ ((pt.cuts.length : Nat) : Int) ≤ ((mk : Nat) : Int) := fun z => e2 (decide_eq_true z)
        exact ⟨_, rfl, kO pt l e (fun y hy => by have := hmx2 y hy; omega) H1 p s1 hP'⟩
end
end CR
set_option Elab.async false
set_option linter.all false
set_option maxRecDepth 100000
set_option maxHeartbeats 2000000
namespace CR
open PySem PySem.Spec PyProof.Rows L2
section
variable {P : Program} {w : World} {K : PySem.W.Frag} {mg : Str → Option Value} {base : Heap} {C : Addr}
def spCounted (K : PySem.W.Frag) : Sp := fun vs H Q _ => ∃ (a : Addr) (ns : List Nat), vs = [.ref a] ∧ H a = some (.lst (ns.map nV)) ∧ ns.length ≤ 1000 ∧ ∀ (H' : Hp) (p : Addr), H' p = some (.lst ((ns.length :: ns).map nV)) → Q (.ref p) H'
theorem scCounted : FnScope ["numbers"] ["numbers"] (defScope sCounted) := ⟨rfl, rfl, rfl, by decide +kernel, rfl, by decide +kernel, by decide +kernel⟩
theorem ok_counted (T : Txt K mg) (D : Df K mg "counted" sCounted) : Fd P w K mg base 1 "counted" ["numbers"] (spCounted K) := by
  obtain ⟨f, fd, hm, F⟩ := D.ex
  refine ⟨f, fd, hm, F.kp, F.binds (fun _ _ _ _ _ _ us hl => match us, hl with | [_], _ => rfl), F.ok scCounted (fun vs H Q E h => ?_) (fun cdv A outer s H vs Q E hr h => ?_)⟩
  · obtain ⟨a, ns, rfl, _⟩ := h; rfl
  · obtain ⟨a, ns, rfl, hN, hl, k⟩ := h
    refine ⟨_, pss_one (ps_ret (pe_op op_cat (pe_lst (pa_cons (pe_len1 T.len (pv 0)) pa_nil)) (pv 0))), ?_⟩
    refine ⟨_, rfl, a, _, rfl, .inl (SqL.of hN), by show 1 ≤ sizeLine; decide, fun q hq => ⟨_, rfl, q, a, _, _, rfl, rfl, upd_same, (Same.new hq) _ _ hN, ?_, fun p hp => k _ p ?_⟩⟩
    · rw [List.length_map, sizeLine_eq]
      show 1 + ns.length ≤ _
      omega
    · rw [upd_same, List.length_map]; rfl
end
end CR
set_option Elab.async false
set_option linter.all false
set_option maxRecDepth 100000
set_option maxHeartbeats 2000000
namespace CR
open PySem PySem.Spec PyProof.Rows L2
section
variable {X : Cx}
theorem cr_setG (hc : X.calm = true) : CallR X (.type "set") (fun vs H Q => ∃ (a : Addr) (l : List Nat), vs = [V.ref a] ∧ SqL X.K H a (l.map nV) ∧ (∀ k ∈ l, k < 2 ^ 32) ∧ l.length ≤ 20000 ∧ ∀ S, H S = none → Q (.ref S) (L2.upd H S (.ext fun h => ST.Gs X.w h S l))) := by
  intro pins s σ H vs us Q I r h
  obtain ⟨a, l, rfl, hs, h32, hll, q⟩ := h
  rw [nV_I6] at hs
  obtain ⟨its, rv, hl, _⟩ := I.list hs
  rw [Vals.ref1 r]
  refine ST.setOfG (I.ok.hd hc) hl.isList rv.ints h32 hll fun h' tk hS keep => ?_
  have hget : ∃ o, h'.get? s.heap.objs.size = some o := let ⟨_, _, _, e, _⟩ := hS; ⟨_, e⟩
  exact ⟨.ref _, L2.upd H s.heap.objs.size (.ext fun h => ST.Gs X.w h s.heap.objs.size l),
    I.laid (t' := tk) (fun b u e => keep b u (Heap.lt_size e) e) (Nat.le_refl _) ⟨hS, hget, fun h1 h2 p k => ST.Gs.kept p k⟩, rfl, q _ (I.hok.fresh (Nat.le_refl _))⟩
theorem cr_sortedG (hc : X.calm = true) : CallR X (.builtin "sorted") (fun vs H Q => ∃ (a : Addr) (m : List Nat), vs = [V.ref a] ∧ H a = some (.ext fun h => ST.Gs X.w h a m) ∧ m.length ≤ 20000 ∧ ∀ (p : Addr) (ks : List Nat), (∀ x, x ∈ ks ↔ x ∈ m) → ks.length ≤ m.length → H p = none → Q (.ref p) (L2.upd H p (.lst (ks.map nV)))) := by
  intro pins s σ H vs us Q I r h
  obtain ⟨a, m, rfl, hs, hml, q⟩ := h
  rw [Vals.ref1 r]
  obtain ⟨hS, _⟩ := I.hok a _ hs
  refine ST.sortG (I.ok.hd hc) hS hml fun s' out ep p ks h1 h2 h3 keep hp hi _ hmem hlen hg => ?_
  have e : s' = { s with heap := s'.heap, toks := s'.toks } := by
    obtain ⟨a1, a2, a3, a4, a5⟩ := s
    obtain ⟨b1, b2, b3, b4, b5⟩ := s'
    simp only at h1 h2 h3
    subst h1 h2 h3
    rfl
  have hlen2 : (ks.map nV).length ≤ sizeLine := by rw [List.length_map, sizeLine_eq]; omega
  rw [e]
  exact ⟨.ref p, L2.upd H p (.lst (ks.map nV)), I.laid (t' := s'.toks) keep hp ⟨hlen2, out, ep, by rw [nV_I6]; exact vals_of_ints hi, hg⟩, rfl, q p ks hmem hlen (I.hok.fresh hp)⟩
end
section
variable {P : Program} {w : World} {K : PySem.W.Frag} {mg : Str → Option Value} {base : Heap} {C : Addr}
structure Many (K : PySem.W.Frag) (H : Hp) (c : Addr) (made : List Int) : Prop where
  sq : SqL K H c (made.map V.int)
  nn : ∀ z ∈ made, 0 ≤ z ∧ z ≤ 4294967295
  len : made.length ≤ 10000
theorem many_V : ∀ {l : List Int}, (∀ z ∈ l, 0 ≤ z ∧ z ≤ 4294967295) → l.map V.int = (WqatddNeutral.nats l).map nV
  | [], _ => rfl
  | z :: l, h => by
    have h0 := h z List.mem_cons_self
    show V.int z :: l.map V.int = nV z.toNat :: (WqatddNeutral.nats l).map nV
    rw [many_V fun y hy => h y (List.mem_cons_of_mem _ hy)]
    congr 1
    unfold nV
    congr 1
    omega
def spReach (K : PySem.W.Frag) : Sp := fun vs H Q _ => ∃ (k : Nat) (a b c : Addr) (part tools made : List Int), vs = [nV k, .ref a, .ref b, .ref c] ∧ Hand K H a b part tools ∧ Many K H c made ∧ ∀ (H' : Hp) (p : Addr), H' p = some (.lst ((PyWqatdd.reach ((k : Nat) : Int) part tools made).map V.int)) → Q (.ref p) H'
theorem scReach : FnScope ["k", "part", "tools", "made", "plan", "others", "number"] ["k", "part", "tools", "made"] (defScope sReach) := ⟨rfl, rfl, rfl, by decide +kernel, rfl, by decide +kernel, by decide +kernel⟩
theorem ok_reach {f : Addr} {fd : FuncData} (F : Fun K "reach" "reach" sReach f fd) (T : Txt K mg) (G : TxtG K mg) (TC : Pl K mg C) (hmx : mg "max" = none) (hunk : ∃ t, mg "UNKNOWN_CUT" = some (.int (-4) t))
    (Dc : Df K mg "counted" sCounted) (Dr : Df K mg "read_call" sCall) : FnOk P w K mg base CX0 8 f fd ["k", "part", "tools", "made"] (spReach K) := by
  refine F.ok scReach (fun vs H Q E h => ?_) (fun cdv A outer s H vs Q E hr h => ?_)
  · obtain ⟨k, a, b, c, part, tools, made, rfl, _⟩ := h; rfl
  · obtain ⟨k, a, b, c, part, tools, made, rfl, hh, hMd, kk⟩ := h
    have hr3 : Room 3 _ := hr.mono (by decide)
    have hr1 : Room 1 _ := hr.mono (by decide)
    refine ⟨_, pss_cons (ps_set (i := 4) scReach.nd rfl (by first | exact Or.inl rfl | exact Or.inr rfl) (pe_fn (ok_call T TC hmx hunk Dr) hr rfl (pa_cons (pe_lst (pa_cons (pv 0) pa_nil)) (pa_cons (pv 1) (pa_cons (pv 2) pa_nil)))))
      (pss_cons (ps_if (pt_truth (pe_fld (pv 4) rfl) (fun _ => rfl)) (pss_one (ps_ret (pe_fld (pv 4) rfl))) pss_nil)
      (pss_cons (ps_setLc (i := 5) rfl scReach.nd rfl rfl (sw_true rfl rfl rfl rfl) (pi_list (pe_callB (cr_sortedG rfl) rfl T.sorted bt_sorted (pa_cons (pe_callTy (cr_setG rfl) rfl T.set bt_set (pa_cons (pv 3) pa_nil)) pa_nil))) (blkOk_by (N := ["k", "part", "tools", "made", "plan", "others", "number"]) (sc := defScope sReach) (own := [("number", 6)]) (by decide +kernel)) (fun _ _ _ _ _ => pg_name (i := 6) scReach.nd rfl (Or.inl rfl))
        (fun _ _ _ _ _ => pts_one (PW.pt (pw_and (pt_cmpR op_lt (pv 6) (pe_lenK (K := K) rfl T.len (pe_fldK (K := K) rfl (pv 4) rfl)) (nomark _)) (pw_and1 (pt_cmpR op_ne (pv 6) (pv 0) (nomark _))))))
        (fun _ _ _ _ _ => pv 6))
      (pss_one (ps_ret (pe_fn (ok_counted T Dc) hr1 rfl (pa_cons (pe_fn (ok_waysTo T G TC) hr3 rfl (pa_cons (pv 0) (pa_cons (pv 4) (pa_cons (pe_fn (ok_wood T G TC) hr3 rfl (pa_cons (pv 4) (pa_cons (pv 5) pa_nil))) pa_nil)))) pa_nil)))))), ?_⟩
    refine ⟨_, rfl, by show 1 ≤ sizeLine; decide, fun aq haq => ?_⟩
    have sq : Same H (L2.upd H aq (.lst [nV k])) := Same.new haq
    have refuse : ∀ (H1 : Hp) (p : Addr) (r : List Int) (D : Ends) (ts : TS), RefAt C H1 p r → r ≠ [] → D.rt = Q → PyWqatdd.reach ((k : Nat) : Int) part tools made = r →
        (tSeq (tIfS (fun σ H Q => tFld K (tVar 4) "refusal" σ H fun x H' => ∃ k, TruV K x H' k ∧ Q k H') (tRet (tFld K (tVar 4) "refusal")) tNext) ts) D [some (nV k), some (.ref a), some (.ref b), some (.ref c), some (.ref p), none, none] H1 := fun H1 p r D ts hR hne hD due => by
      obtain ⟨dx, rf, bk, ct, tl, h1, h2⟩ := hR
      refine ⟨_, rfl, p, C, dx, _, _, rfl, h1, TC.cl, TC.nR, pf_R .., _, .inl ⟨_, SqL.of h2, rfl⟩, ?_⟩
      have hT : (!((r.map V.int).isEmpty)) = true := by
        cases q : r with
        | nil => exact absurd q hne
        | cons => rfl
      rw [hT]
      refine iteT ⟨_, rfl, p, C, dx, _, _, rfl, h1, TC.cl, TC.nR, pf_R .., ?_⟩
      show D.rt _ _
      rw [hD]
      exact kk H1 rf (by rw [h2, due])
    refine ⟨_, rfl, _, rfl, aq, a, b, [k], _, _, rfl, SqL.of upd_same, by simp, (isB_of hh.ha hh.ba hh.la).same sq, (isB_of hh.hb hh.bb hh.lb).same sq, fun r e H1 p s1 hR => ?_, fun pt l e hk H1 p s1 hR => ?_, fun pt l e hk H1 p s1 hP => ?_⟩
    · refine refuse H1 p r _ _ hR (CM.told_ne e) rfl ?_
      rw [CM.due_reach, e]
    · obtain ⟨x, hx, hx2⟩ := hk
      have : x = k := by simpa using hx
      subst this
      refine refuse H1 p [-4] _ _ hR (by simp) rfl ?_
      rw [CM.due_reach, e]
      simp only [Int.toNat_natCast]
      rw [if_pos hx2]
    · have hk' : k < pt.cuts.length := hk k (by simp)
      have due := CM.due_reach ((k : Nat) : Int) part tools made
      rw [e] at due
      simp only [Int.toNat_natCast] at due
      rw [if_neg (by omega)] at due
      obtain ⟨ct, tl, kvs, hPl, _⟩ := hP.ex
      obtain ⟨dx, rf, bk, as, g1, g2, g3, g4, g5, g6, g7, g8⟩ := hPl.ex
      have hal : (as.map V.ref).length = pt.cuts.length := by rw [List.length_map, g8.length]
      have h64 := hP.pok.len
      have s01 := sq.trans s1
      have hms : SqL K H c ((WqatddNeutral.nats made).map nV) := by rw [← many_V hMd.nn]; exact hMd.sq
      have hml : (WqatddNeutral.nats made).length ≤ 10000 := by unfold WqatddNeutral.nats; rw [List.length_map]; exact hMd.len
      have hm32 : ∀ x ∈ WqatddNeutral.nats made, x < 2 ^ 32 := fun x hx => by
        obtain ⟨z, hz, rfl⟩ := List.mem_map.mp hx
        have := hMd.nn z hz
        omega
      refine ⟨_, rfl, p, C, dx, _, _, rfl, g1, TC.cl, TC.nR, pf_R .., _, .inl ⟨_, SqL.of g2, rfl⟩, iteF ?_⟩
      refine ⟨_, rfl, c, WqatddNeutral.nats made, rfl, s01.seq hms, hm32, by omega, fun S hS => ⟨S, WqatddNeutral.nats made, rfl, upd_same, by omega, fun q ks hks hkl hq => ?_⟩⟩
      have hqH : H1 q = none := (upd_none hq).2
      have s2 : Same H1 (L2.upd (L2.upd H1 S (.ext fun h => ST.Gs w h S (WqatddNeutral.nats made))) q (.lst (ks.map nV))) := Same.upd (Same.new hS) hqH
      refine ⟨q, rfl, ⟨_, SqL.of upd_same⟩, fun D hD => ?_⟩
      refine lc_list (xs := ks.map nV) (fun i H' => Same (L2.upd (L2.upd H1 S (.ext fun h => ST.Gs w h S (WqatddNeutral.nats made))) q (.lst (ks.map nV))) H' ∧ H' D = some (.lst (((ks.take i).filter fun n => decide (n < pt.cuts.length) && decide (n ≠ k)).map nV))) ⟨Same.new hD, upd_same⟩ (fun i H' _ p => p.1.seq (SqL.of upd_same)) (fun i v H' hi p => ?_) fun H' p => ?_
      · obtain ⟨s4, hDD⟩ := p
        obtain ⟨n, hn, rfl⟩ := nV_at hi
        have sH' := s2.trans s4
        have hil : i < ks.length := (List.getElem?_eq_some_iff.mp hn).1
        have hlen : (((ks.take i).filter fun n => decide (n < pt.cuts.length) && decide (n ≠ k)).map nV).length < sizeLine := by
          rw [List.length_map, sizeLine_eq]
          have := List.length_filter_le (fun n => decide (n < pt.cuts.length) && decide (n ≠ k)) (ks.take i)
          rw [List.length_take] at this
          omega
        refine ⟨wipe_one, _, rfl, _, rfl, _, C, dx, _, _, rfl, sH' _ _ g1, TC.cl, TC.nC, pf_C .., ct, _, rfl, .inl (SqL.of (sH' _ _ g4)), _, _, rfl, rfl, _, rfl, ?_⟩
        rw [hal, filter_take _ hn]
        refine ite2 (fun e2 => ?_) fun e2 => ?_
        · have h1 : n < pt.cuts.length := by
            have : ((n : Nat) : Int) < ((pt.cuts.length : Nat) : Int) := of_decide_eq_true e2
            omega
          refine ⟨_, rfl, _, rfl, rfl, _, rfl, ?_⟩
          have ed : (!decide (nV n = nV k)) = decide (n ≠ k) := by
            rw [Bool.eq_iff_iff, Bool.not_eq_true', decide_eq_false_iff_not, decide_eq_true_eq]
            exact ⟨fun z q => z (by rw [q]), fun z q => z (nV_inj q)⟩
          rw [ed, decide_eq_true h1, Bool.true_and]
          refine ite2 (fun e3 => ?_) fun e3 => ?_
          · rw [if_pos e3]
            exact ⟨_, rfl, _, hDD, hlen, Same.upd s4 hD, by rw [upd_same, List.map_append]; rfl⟩
          · rw [if_neg e3, List.append_nil]
            exact ⟨s4, hDD⟩
        · have h1 : ¬ n < pt.cuts.length := fun z => e2 (decide_eq_true (by show ((n : Nat) : Int) < ((pt.cuts.length : Nat) : Int); omega))
          refine iteF ?_
          rw [decide_eq_false h1, Bool.false_and, if_neg (by decide), List.append_nil]
          exact ⟨s4, hDD⟩
      · obtain ⟨s4, hDD⟩ := p
        rw [List.length_map, List.take_length] at hDD
        have sH' := s2.trans s4
        generalize hO : (ks.filter fun n => decide (n < pt.cuts.length) && decide (n ≠ k)) = others at hDD
        have hoth : ∀ x, x ∈ others ↔ x ∈ Wqatdd.madeOf pt (WqatddNeutral.nats made) k := fun x => by
          rw [← hO]
          show _ ↔ x ∈ (List.range pt.cuts.length).filter fun (i : Nat) => i != k && (WqatddNeutral.nats made).contains i
          simp only [List.mem_filter, List.mem_range, Bool.and_eq_true, decide_eq_true_eq, bne_iff_ne, List.contains_iff_mem, hks]
          exact ⟨fun ⟨a, b, c⟩ => ⟨b, c, a⟩, fun ⟨a, b, c⟩ => ⟨c, a, b⟩⟩
        have holt : ∀ x ∈ others, x < pt.cuts.length := fun x hx => List.mem_range.mp (List.mem_filter.mp ((hoth x).mp hx)).1
        have eW : Jo.waysBy pt l others k = Jo.waysBy pt l (Wqatdd.madeOf pt (WqatddNeutral.nats made) k) k := CG.ways_set hP.pok.fit hP.tok hoth k
        refine ⟨_, rfl, _, rfl, _, rfl, _, rfl, _, D, pt, l, others, rfl, hP.same sH', SqL.of hDD, holt, fun H5 aw La s5 haw hLa hW => ?_⟩
        refine ⟨k, _, aw, pt, l, La, others, rfl, (hP.same sH').same s5, hk', hW, fun H6 q6 s6 hq6 hq7 => ?_⟩
        refine ⟨q6, _, rfl, hq7, ?_, fun H7 r hr7 => kk H7 r ?_⟩
        · have : (Jo.waysBy pt l others k).length ≤ 6 := by
            show ((List.range 6).filter _).length ≤ 6
            exact Nat.le_trans (List.length_filter_le _ _) (by rw [List.length_range]; exact Nat.le_refl _)
          omega
        · rw [hr7, due, eW]
          show some (HO.lst _) = some (HO.lst _)
          congr 2
          show V.int _ :: _ = V.int _ :: List.map V.int (List.map WqatddNeutral.int _)
          rw [List.map_map]
          rfl
end
end CR
set_option Elab.async false
set_option linter.all false
set_option maxRecDepth 100000
set_option maxHeartbeats 2000000
namespace CR
open PySem PySem.Spec PyProof.Rows L2
open PySem.W (Codec WData)
theorem many_ok {K : PySem.W.Frag} {H : Hp} {c : Addr} {l : List Int} (hs : SqL K H c (l.map V.int)) (h : (Codec.inLen 0 10000 l && l.all (Codec.inInt 0 4294967295)) = true) : Many K H c l := by
  rw [Bool.and_eq_true] at h
  exact ⟨hs, fun z hz => Codec.inInt_iff.mp (List.all_eq_true.mp h.2 z hz), len_ok h.1⟩
theorem req_s02_reach {K : PySem.W.Frag} {H : Hp} {xs : List V} {a : Codec.denoteAll PySem.Challenge.rw_cutreach_s02_reach.args} (hwi : Codec.withinAll PySem.Challenge.rw_cutreach_s02_reach.args a = true) (hx : DwAll K H xs (Codec.encAll PySem.Challenge.rw_cutreach_s02_reach.args a)) : spReach K xs H (fun v H' => Dw K H' v (PySem.Challenge.rw_cutreach_s02_reach.ret.enc (Codec.app PySem.Challenge.rw_cutreach_s02_reach.args PySem.Challenge.rw_cutreach_s02_reach.f a))) (fun _ _ _ => False) := by
  cases hx with
  | cons h0 g0 =>
    cases g0 with
    | cons h1 g1 =>
      cases g1 with
      | cons h2 g2 =>
        cases g2 with
        | cons h3 g3 =>
          cases g3
          cases h0
          cases h1 with
          | lst s1 d1 =>
            cases h2 with
            | lst s2 d2 =>
              cases h3 with
              | lst s3 d3 =>
                have e1 := ints_dw a.2.1 _ d1
                subst e1
                have e2 := ints_dw a.2.2.1 _ d2
                subst e2
                have e3 := ints_dw a.2.2.2.1 _ d3
                subst e3
                have q : (Codec.inInt 0 4294967295 a.1 && ((Codec.inLen 0 16500 a.2.1 && a.2.1.all (Codec.inInt 0 255)) && ((Codec.inLen 0 16500 a.2.2.1 && a.2.2.1.all (Codec.inInt 0 255)) && ((Codec.inLen 0 10000 a.2.2.2.1 && a.2.2.2.1.all (Codec.inInt 0 4294967295)) && true)))) = true := hwi
                have r0 := Bool.and_eq_true_iff.mp q
                have r1 := Bool.and_eq_true_iff.mp r0.2
                have r2 := Bool.and_eq_true_iff.mp r1.2
                have r3 := Bool.and_eq_true_iff.mp r2.2
                have n0 := (Codec.inInt_iff.mp r0.1).1
                have c0 : ((a.1.toNat : Nat) : Int) = a.1 := Int.toNat_of_nonneg n0
                refine ⟨a.1.toNat, _, _, _, a.2.1, a.2.2.1, a.2.2.2.1, ?_, hand_ok s1 s2 r1.1 r2.1, many_ok s3 r3.1, fun H' p hp => ?_⟩
                · show _ = [V.int ((a.1.toNat : Nat) : Int), _, _, _]
                  rw [c0]
                · rw [c0] at hp
                  exact .lst (SqL.of hp) (dw_ints _)
end CR
namespace CR
open PySem PySem.Spec PyProof.Rows L2
theorem df_mk {K : PySem.W.Frag} {h : Heap} {mg : Str → Option Value} {x : Str} {st : Stmt} {f : Addr} {oc : Value} {od an : Option Addr} {osl : Array (Option Value)} {kV doc pm cdv ct : Value} (X : K.In h) (G : h.Ns mainGlobals mg) (a : PySem.W.nsIn K mainGlobals x = some (some (.ref f))) (l : K.lookup f = some ⟨oc, od, .func (PySem.W.fnOf x x (defArgs st) (defBody st) (defScope st) .none kV doc pm an cdv ct), osl⟩) (c : PySem.W.codeIn K cdv x = true) (k : PySem.W.keepIn K (.ref f) = true) : Df K mg x st :=
  ⟨f, _, PySem.W.mg_of X G a, fun_mk l c k⟩
theorem all_mk {P : Program} {w : World} {K : PySem.W.Frag} {h : Heap} {mg : Str → Option Value} {fa C : Addr} (X : K.In h) (G : h.Ns mainGlobals mg) (hfa : mg "reach" = some (.ref fa))
    {f_init : Addr} {od_init an_init : Option Addr} {sl_init : Array (Option Value)} {oc_init kV_init dc_init pm_init cd_init ct_init : Value}
    {f_reach : Addr} {od_reach an_reach : Option Addr} {sl_reach : Array (Option Value)} {oc_reach kV_reach dc_reach pm_reach cd_reach ct_reach : Value}
    {f_read_texts : Addr} {od_read_texts an_read_texts : Option Addr} {sl_read_texts : Array (Option Value)} {oc_read_texts kV_read_texts dc_read_texts pm_read_texts cd_read_texts ct_read_texts : Value}
    {f_read_part : Addr} {od_read_part an_read_part : Option Addr} {sl_read_part : Array (Option Value)} {oc_read_part kV_read_part dc_read_part pm_read_part cd_read_part ct_read_part : Value}
    {f_read_part_line : Addr} {od_read_part_line an_read_part_line : Option Addr} {sl_read_part_line : Array (Option Value)} {oc_read_part_line kV_read_part_line dc_read_part_line pm_read_part_line cd_read_part_line ct_read_part_line : Value}
    {f_read_tools : Addr} {od_read_tools an_read_tools : Option Addr} {sl_read_tools : Array (Option Value)} {oc_read_tools kV_read_tools dc_read_tools pm_read_tools cd_read_tools ct_read_tools : Value}
    {f_read_tool_line : Addr} {od_read_tool_line an_read_tool_line : Option Addr} {sl_read_tool_line : Array (Option Value)} {oc_read_tool_line kV_read_tool_line dc_read_tool_line pm_read_tool_line cd_read_tool_line ct_read_tool_line : Value}
    {f_block_told : Addr} {od_block_told an_block_told : Option Addr} {sl_block_told : Array (Option Value)} {oc_block_told kV_block_told dc_block_told pm_block_told cd_block_told ct_block_told : Value}
    {f_cut_told : Addr} {od_cut_told an_cut_told : Option Addr} {sl_cut_told : Array (Option Value)} {oc_cut_told kV_cut_told dc_cut_told pm_cut_told cd_cut_told ct_cut_told : Value}
    {f_tool_told : Addr} {od_tool_told an_tool_told : Option Addr} {sl_tool_told : Array (Option Value)} {oc_tool_told kV_tool_told dc_tool_told pm_tool_told cd_tool_told ct_tool_told : Value}
    {f_goes_beyond : Addr} {od_goes_beyond an_goes_beyond : Option Addr} {sl_goes_beyond : Array (Option Value)} {oc_goes_beyond kV_goes_beyond dc_goes_beyond pm_goes_beyond cd_goes_beyond ct_goes_beyond : Value}
    {f_lines_of : Addr} {od_lines_of an_lines_of : Option Addr} {sl_lines_of : Array (Option Value)} {oc_lines_of kV_lines_of dc_lines_of pm_lines_of cd_lines_of ct_lines_of : Value}
    {f_split_at : Addr} {od_split_at an_split_at : Option Addr} {sl_split_at : Array (Option Value)} {oc_split_at kV_split_at dc_split_at pm_split_at cd_split_at ct_split_at : Value}
    {f_signs_of : Addr} {od_signs_of an_signs_of : Option Addr} {sl_signs_of : Array (Option Value)} {oc_signs_of kV_signs_of dc_signs_of pm_signs_of cd_signs_of ct_signs_of : Value}
    {f_is_digit : Addr} {od_is_digit an_is_digit : Option Addr} {sl_is_digit : Array (Option Value)} {oc_is_digit kV_is_digit dc_is_digit pm_is_digit cd_is_digit ct_is_digit : Value}
    {f_is_letter : Addr} {od_is_letter an_is_letter : Option Addr} {sl_is_letter : Array (Option Value)} {oc_is_letter kV_is_letter dc_is_letter pm_is_letter cd_is_letter ct_is_letter : Value}
    {f_is_name : Addr} {od_is_name an_is_name : Option Addr} {sl_is_name : Array (Option Value)} {oc_is_name kV_is_name dc_is_name pm_is_name cd_is_name ct_is_name : Value}
    {f_is_size : Addr} {od_is_size an_is_size : Option Addr} {sl_is_size : Array (Option Value)} {oc_is_size kV_is_size dc_is_size pm_is_size cd_is_size ct_is_size : Value}
    {f_number_of : Addr} {od_number_of an_number_of : Option Addr} {sl_number_of : Array (Option Value)} {oc_number_of kV_number_of dc_number_of pm_number_of cd_number_of ct_number_of : Value}
    {f_ways_of : Addr} {od_ways_of an_ways_of : Option Addr} {sl_ways_of : Array (Option Value)} {oc_ways_of kV_ways_of dc_ways_of pm_ways_of cd_ways_of ct_ways_of : Value}
    {f_lines_through : Addr} {od_lines_through an_lines_through : Option Addr} {sl_lines_through : Array (Option Value)} {oc_lines_through kV_lines_through dc_lines_through pm_lines_through cd_lines_through ct_lines_through : Value}
    {f_lines_with_wood : Addr} {od_lines_with_wood an_lines_with_wood : Option Addr} {sl_lines_with_wood : Array (Option Value)} {oc_lines_with_wood kV_lines_with_wood dc_lines_with_wood pm_lines_with_wood cd_lines_with_wood ct_lines_with_wood : Value}
    {f_is_clear : Addr} {od_is_clear an_is_clear : Option Addr} {sl_is_clear : Array (Option Value)} {oc_is_clear kV_is_clear dc_is_clear pm_is_clear cd_is_clear ct_is_clear : Value}
    {f_depth_from : Addr} {od_depth_from an_depth_from : Option Addr} {sl_depth_from : Array (Option Value)} {oc_depth_from kV_depth_from dc_depth_from pm_depth_from cd_depth_from ct_depth_from : Value}
    {f_ways_to : Addr} {od_ways_to an_ways_to : Option Addr} {sl_ways_to : Array (Option Value)} {oc_ways_to kV_ways_to dc_ways_to pm_ways_to cd_ways_to ct_ways_to : Value}
    {f_take_away : Addr} {od_take_away an_take_away : Option Addr} {sl_take_away : Array (Option Value)} {oc_take_away kV_take_away dc_take_away pm_take_away cd_take_away ct_take_away : Value}
    {f_wood_left : Addr} {od_wood_left an_wood_left : Option Addr} {sl_wood_left : Array (Option Value)} {oc_wood_left kV_wood_left dc_wood_left pm_wood_left cd_wood_left ct_wood_left : Value}
    {f_counted : Addr} {od_counted an_counted : Option Addr} {sl_counted : Array (Option Value)} {oc_counted kV_counted dc_counted pm_counted cd_counted ct_counted : Value}
    {f_read_call : Addr} {od_read_call an_read_call : Option Addr} {sl_read_call : Array (Option Value)} {oc_read_call kV_read_call dc_read_call pm_read_call cd_read_call ct_read_call : Value}
    {t_TOO_LONG : Tok}
    {t_FAULTY : Tok}
    {t_RIGHT : Tok}
    {t_NOT_FORMED : Tok}
    {t_TOO_MANY : Tok}
    {t_CANNOT_STAND : Tok}
    {t_BEYOND : Tok}
    {t_NO_SUCH_CUT : Tok}
    {t_TOLD_ALREADY : Tok}
    {t_TOOLS_MARK : Tok}
    {t_MOST_BYTES : Tok}
    {t_MOST_CUTS : Tok}
    {t_MOST_CELLS : Tok}
    {t_LONGEST_NAME : Tok}
    {t_LINE_FEED : Tok}
    {t_BLANK : Tok}
    {t_NO_NUMBER : Tok}
    {t_HUGE : Tok}
    {t_UNKNOWN_CUT : Tok}
    {t_ws : Tok}
    {wa ca b0 b1 b2 : Addr} {t0 t1 t2 t3 t4 t5 u0 u1 u2 u3 u4 u5 : Tok} {odw odc od0 od1 od2 : Option Addr} {nw nc n0 n1 n2 : Nat} {slw slc sl0 sl1 sl2 : Array (Option Value)}
    (aC : PySem.W.nsIn K mainGlobals "Plan" = some (some (.ref C)))
    (a_init : PySem.W.findIn K (.ref C) "__init__" = some (some (.ref f_init)))
    (i_init : PySem.W.isFn K (.ref f_init) = true)
    (l_init : K.lookup f_init = some ⟨oc_init, od_init, .func (PySem.W.fnOf "__init__" "Plan.__init__" (defArgs sPlan) (defBody sPlan) (defScope sPlan) .none kV_init dc_init pm_init an_init cd_init ct_init), sl_init⟩)
    (c_init : PySem.W.codeIn K cd_init "Plan.__init__" = true)
    (k_init : PySem.W.keepIn K (.ref f_init) = true)
    (a_reach : PySem.W.nsIn K mainGlobals "reach" = some (some (.ref f_reach)))
    (l_reach : K.lookup f_reach = some ⟨oc_reach, od_reach, .func (PySem.W.fnOf "reach" "reach" (defArgs sReach) (defBody sReach) (defScope sReach) .none kV_reach dc_reach pm_reach an_reach cd_reach ct_reach), sl_reach⟩)
    (c_reach : PySem.W.codeIn K cd_reach "reach" = true)
    (k_reach : PySem.W.keepIn K (.ref f_reach) = true)
    (a_read_texts : PySem.W.nsIn K mainGlobals "read_texts" = some (some (.ref f_read_texts)))
    (l_read_texts : K.lookup f_read_texts = some ⟨oc_read_texts, od_read_texts, .func (PySem.W.fnOf "read_texts" "read_texts" (defArgs sTexts) (defBody sTexts) (defScope sTexts) .none kV_read_texts dc_read_texts pm_read_texts an_read_texts cd_read_texts ct_read_texts), sl_read_texts⟩)
    (c_read_texts : PySem.W.codeIn K cd_read_texts "read_texts" = true)
    (k_read_texts : PySem.W.keepIn K (.ref f_read_texts) = true)
    (a_read_part : PySem.W.nsIn K mainGlobals "read_part" = some (some (.ref f_read_part)))
    (l_read_part : K.lookup f_read_part = some ⟨oc_read_part, od_read_part, .func (PySem.W.fnOf "read_part" "read_part" (defArgs sPart) (defBody sPart) (defScope sPart) .none kV_read_part dc_read_part pm_read_part an_read_part cd_read_part ct_read_part), sl_read_part⟩)
    (c_read_part : PySem.W.codeIn K cd_read_part "read_part" = true)
    (k_read_part : PySem.W.keepIn K (.ref f_read_part) = true)
    (a_read_part_line : PySem.W.nsIn K mainGlobals "read_part_line" = some (some (.ref f_read_part_line)))
    (l_read_part_line : K.lookup f_read_part_line = some ⟨oc_read_part_line, od_read_part_line, .func (PySem.W.fnOf "read_part_line" "read_part_line" (defArgs sPartL) (defBody sPartL) (defScope sPartL) .none kV_read_part_line dc_read_part_line pm_read_part_line an_read_part_line cd_read_part_line ct_read_part_line), sl_read_part_line⟩)
    (c_read_part_line : PySem.W.codeIn K cd_read_part_line "read_part_line" = true)
    (k_read_part_line : PySem.W.keepIn K (.ref f_read_part_line) = true)
    (a_read_tools : PySem.W.nsIn K mainGlobals "read_tools" = some (some (.ref f_read_tools)))
    (l_read_tools : K.lookup f_read_tools = some ⟨oc_read_tools, od_read_tools, .func (PySem.W.fnOf "read_tools" "read_tools" (defArgs sTools) (defBody sTools) (defScope sTools) .none kV_read_tools dc_read_tools pm_read_tools an_read_tools cd_read_tools ct_read_tools), sl_read_tools⟩)
    (c_read_tools : PySem.W.codeIn K cd_read_tools "read_tools" = true)
    (k_read_tools : PySem.W.keepIn K (.ref f_read_tools) = true)
    (a_read_tool_line : PySem.W.nsIn K mainGlobals "read_tool_line" = some (some (.ref f_read_tool_line)))
    (l_read_tool_line : K.lookup f_read_tool_line = some ⟨oc_read_tool_line, od_read_tool_line, .func (PySem.W.fnOf "read_tool_line" "read_tool_line" (defArgs sToolL) (defBody sToolL) (defScope sToolL) .none kV_read_tool_line dc_read_tool_line pm_read_tool_line an_read_tool_line cd_read_tool_line ct_read_tool_line), sl_read_tool_line⟩)
    (c_read_tool_line : PySem.W.codeIn K cd_read_tool_line "read_tool_line" = true)
    (k_read_tool_line : PySem.W.keepIn K (.ref f_read_tool_line) = true)
    (a_block_told : PySem.W.nsIn K mainGlobals "block_told" = some (some (.ref f_block_told)))
    (l_block_told : K.lookup f_block_told = some ⟨oc_block_told, od_block_told, .func (PySem.W.fnOf "block_told" "block_told" (defArgs sBlock) (defBody sBlock) (defScope sBlock) .none kV_block_told dc_block_told pm_block_told an_block_told cd_block_told ct_block_told), sl_block_told⟩)
    (c_block_told : PySem.W.codeIn K cd_block_told "block_told" = true)
    (k_block_told : PySem.W.keepIn K (.ref f_block_told) = true)
    (a_cut_told : PySem.W.nsIn K mainGlobals "cut_told" = some (some (.ref f_cut_told)))
    (l_cut_told : K.lookup f_cut_told = some ⟨oc_cut_told, od_cut_told, .func (PySem.W.fnOf "cut_told" "cut_told" (defArgs sCut) (defBody sCut) (defScope sCut) .none kV_cut_told dc_cut_told pm_cut_told an_cut_told cd_cut_told ct_cut_told), sl_cut_told⟩)
    (c_cut_told : PySem.W.codeIn K cd_cut_told "cut_told" = true)
    (k_cut_told : PySem.W.keepIn K (.ref f_cut_told) = true)
    (a_tool_told : PySem.W.nsIn K mainGlobals "tool_told" = some (some (.ref f_tool_told)))
    (l_tool_told : K.lookup f_tool_told = some ⟨oc_tool_told, od_tool_told, .func (PySem.W.fnOf "tool_told" "tool_told" (defArgs sTool) (defBody sTool) (defScope sTool) .none kV_tool_told dc_tool_told pm_tool_told an_tool_told cd_tool_told ct_tool_told), sl_tool_told⟩)
    (c_tool_told : PySem.W.codeIn K cd_tool_told "tool_told" = true)
    (k_tool_told : PySem.W.keepIn K (.ref f_tool_told) = true)
    (a_goes_beyond : PySem.W.nsIn K mainGlobals "goes_beyond" = some (some (.ref f_goes_beyond)))
    (l_goes_beyond : K.lookup f_goes_beyond = some ⟨oc_goes_beyond, od_goes_beyond, .func (PySem.W.fnOf "goes_beyond" "goes_beyond" (defArgs sBeyond) (defBody sBeyond) (defScope sBeyond) .none kV_goes_beyond dc_goes_beyond pm_goes_beyond an_goes_beyond cd_goes_beyond ct_goes_beyond), sl_goes_beyond⟩)
    (c_goes_beyond : PySem.W.codeIn K cd_goes_beyond "goes_beyond" = true)
    (k_goes_beyond : PySem.W.keepIn K (.ref f_goes_beyond) = true)
    (a_lines_of : PySem.W.nsIn K mainGlobals "lines_of" = some (some (.ref f_lines_of)))
    (l_lines_of : K.lookup f_lines_of = some ⟨oc_lines_of, od_lines_of, .func (PySem.W.fnOf "lines_of" "lines_of" (defArgs sLines) (defBody sLines) (defScope sLines) .none kV_lines_of dc_lines_of pm_lines_of an_lines_of cd_lines_of ct_lines_of), sl_lines_of⟩)
    (c_lines_of : PySem.W.codeIn K cd_lines_of "lines_of" = true)
    (k_lines_of : PySem.W.keepIn K (.ref f_lines_of) = true)
    (a_split_at : PySem.W.nsIn K mainGlobals "split_at" = some (some (.ref f_split_at)))
    (l_split_at : K.lookup f_split_at = some ⟨oc_split_at, od_split_at, .func (PySem.W.fnOf "split_at" "split_at" (defArgs sSplit) (defBody sSplit) (defScope sSplit) .none kV_split_at dc_split_at pm_split_at an_split_at cd_split_at ct_split_at), sl_split_at⟩)
    (c_split_at : PySem.W.codeIn K cd_split_at "split_at" = true)
    (k_split_at : PySem.W.keepIn K (.ref f_split_at) = true)
    (a_signs_of : PySem.W.nsIn K mainGlobals "signs_of" = some (some (.ref f_signs_of)))
    (l_signs_of : K.lookup f_signs_of = some ⟨oc_signs_of, od_signs_of, .func (PySem.W.fnOf "signs_of" "signs_of" (defArgs sSigns) (defBody sSigns) (defScope sSigns) .none kV_signs_of dc_signs_of pm_signs_of an_signs_of cd_signs_of ct_signs_of), sl_signs_of⟩)
    (c_signs_of : PySem.W.codeIn K cd_signs_of "signs_of" = true)
    (k_signs_of : PySem.W.keepIn K (.ref f_signs_of) = true)
    (a_is_digit : PySem.W.nsIn K mainGlobals "is_digit" = some (some (.ref f_is_digit)))
    (l_is_digit : K.lookup f_is_digit = some ⟨oc_is_digit, od_is_digit, .func (PySem.W.fnOf "is_digit" "is_digit" (defArgs sDigit) (defBody sDigit) (defScope sDigit) .none kV_is_digit dc_is_digit pm_is_digit an_is_digit cd_is_digit ct_is_digit), sl_is_digit⟩)
    (c_is_digit : PySem.W.codeIn K cd_is_digit "is_digit" = true)
    (k_is_digit : PySem.W.keepIn K (.ref f_is_digit) = true)
    (a_is_letter : PySem.W.nsIn K mainGlobals "is_letter" = some (some (.ref f_is_letter)))
    (l_is_letter : K.lookup f_is_letter = some ⟨oc_is_letter, od_is_letter, .func (PySem.W.fnOf "is_letter" "is_letter" (defArgs sLetter) (defBody sLetter) (defScope sLetter) .none kV_is_letter dc_is_letter pm_is_letter an_is_letter cd_is_letter ct_is_letter), sl_is_letter⟩)
    (c_is_letter : PySem.W.codeIn K cd_is_letter "is_letter" = true)
    (k_is_letter : PySem.W.keepIn K (.ref f_is_letter) = true)
    (a_is_name : PySem.W.nsIn K mainGlobals "is_name" = some (some (.ref f_is_name)))
    (l_is_name : K.lookup f_is_name = some ⟨oc_is_name, od_is_name, .func (PySem.W.fnOf "is_name" "is_name" (defArgs sName) (defBody sName) (defScope sName) .none kV_is_name dc_is_name pm_is_name an_is_name cd_is_name ct_is_name), sl_is_name⟩)
    (c_is_name : PySem.W.codeIn K cd_is_name "is_name" = true)
    (k_is_name : PySem.W.keepIn K (.ref f_is_name) = true)
    (a_is_size : PySem.W.nsIn K mainGlobals "is_size" = some (some (.ref f_is_size)))
    (l_is_size : K.lookup f_is_size = some ⟨oc_is_size, od_is_size, .func (PySem.W.fnOf "is_size" "is_size" (defArgs sSize) (defBody sSize) (defScope sSize) .none kV_is_size dc_is_size pm_is_size an_is_size cd_is_size ct_is_size), sl_is_size⟩)
    (c_is_size : PySem.W.codeIn K cd_is_size "is_size" = true)
    (k_is_size : PySem.W.keepIn K (.ref f_is_size) = true)
    (a_number_of : PySem.W.nsIn K mainGlobals "number_of" = some (some (.ref f_number_of)))
    (l_number_of : K.lookup f_number_of = some ⟨oc_number_of, od_number_of, .func (PySem.W.fnOf "number_of" "number_of" (defArgs sNumber) (defBody sNumber) (defScope sNumber) .none kV_number_of dc_number_of pm_number_of an_number_of cd_number_of ct_number_of), sl_number_of⟩)
    (c_number_of : PySem.W.codeIn K cd_number_of "number_of" = true)
    (k_number_of : PySem.W.keepIn K (.ref f_number_of) = true)
    (a_ways_of : PySem.W.nsIn K mainGlobals "ways_of" = some (some (.ref f_ways_of)))
    (l_ways_of : K.lookup f_ways_of = some ⟨oc_ways_of, od_ways_of, .func (PySem.W.fnOf "ways_of" "ways_of" (defArgs sWays) (defBody sWays) (defScope sWays) .none kV_ways_of dc_ways_of pm_ways_of an_ways_of cd_ways_of ct_ways_of), sl_ways_of⟩)
    (c_ways_of : PySem.W.codeIn K cd_ways_of "ways_of" = true)
    (k_ways_of : PySem.W.keepIn K (.ref f_ways_of) = true)
    (a_lines_through : PySem.W.nsIn K mainGlobals "lines_through" = some (some (.ref f_lines_through)))
    (l_lines_through : K.lookup f_lines_through = some ⟨oc_lines_through, od_lines_through, .func (PySem.W.fnOf "lines_through" "lines_through" (defArgs sThr) (defBody sThr) (defScope sThr) .none kV_lines_through dc_lines_through pm_lines_through an_lines_through cd_lines_through ct_lines_through), sl_lines_through⟩)
    (c_lines_through : PySem.W.codeIn K cd_lines_through "lines_through" = true)
    (k_lines_through : PySem.W.keepIn K (.ref f_lines_through) = true)
    (a_lines_with_wood : PySem.W.nsIn K mainGlobals "lines_with_wood" = some (some (.ref f_lines_with_wood)))
    (l_lines_with_wood : K.lookup f_lines_with_wood = some ⟨oc_lines_with_wood, od_lines_with_wood, .func (PySem.W.fnOf "lines_with_wood" "lines_with_wood" (defArgs sWith) (defBody sWith) (defScope sWith) .none kV_lines_with_wood dc_lines_with_wood pm_lines_with_wood an_lines_with_wood cd_lines_with_wood ct_lines_with_wood), sl_lines_with_wood⟩)
    (c_lines_with_wood : PySem.W.codeIn K cd_lines_with_wood "lines_with_wood" = true)
    (k_lines_with_wood : PySem.W.keepIn K (.ref f_lines_with_wood) = true)
    (a_is_clear : PySem.W.nsIn K mainGlobals "is_clear" = some (some (.ref f_is_clear)))
    (l_is_clear : K.lookup f_is_clear = some ⟨oc_is_clear, od_is_clear, .func (PySem.W.fnOf "is_clear" "is_clear" (defArgs sClear) (defBody sClear) (defScope sClear) .none kV_is_clear dc_is_clear pm_is_clear an_is_clear cd_is_clear ct_is_clear), sl_is_clear⟩)
    (c_is_clear : PySem.W.codeIn K cd_is_clear "is_clear" = true)
    (k_is_clear : PySem.W.keepIn K (.ref f_is_clear) = true)
    (a_depth_from : PySem.W.nsIn K mainGlobals "depth_from" = some (some (.ref f_depth_from)))
    (l_depth_from : K.lookup f_depth_from = some ⟨oc_depth_from, od_depth_from, .func (PySem.W.fnOf "depth_from" "depth_from" (defArgs sDepth) (defBody sDepth) (defScope sDepth) .none kV_depth_from dc_depth_from pm_depth_from an_depth_from cd_depth_from ct_depth_from), sl_depth_from⟩)
    (c_depth_from : PySem.W.codeIn K cd_depth_from "depth_from" = true)
    (k_depth_from : PySem.W.keepIn K (.ref f_depth_from) = true)
    (a_ways_to : PySem.W.nsIn K mainGlobals "ways_to" = some (some (.ref f_ways_to)))
    (l_ways_to : K.lookup f_ways_to = some ⟨oc_ways_to, od_ways_to, .func (PySem.W.fnOf "ways_to" "ways_to" (defArgs sWaysTo) (defBody sWaysTo) (defScope sWaysTo) .none kV_ways_to dc_ways_to pm_ways_to an_ways_to cd_ways_to ct_ways_to), sl_ways_to⟩)
    (c_ways_to : PySem.W.codeIn K cd_ways_to "ways_to" = true)
    (k_ways_to : PySem.W.keepIn K (.ref f_ways_to) = true)
    (a_take_away : PySem.W.nsIn K mainGlobals "take_away" = some (some (.ref f_take_away)))
    (l_take_away : K.lookup f_take_away = some ⟨oc_take_away, od_take_away, .func (PySem.W.fnOf "take_away" "take_away" (defArgs sTake) (defBody sTake) (defScope sTake) .none kV_take_away dc_take_away pm_take_away an_take_away cd_take_away ct_take_away), sl_take_away⟩)
    (c_take_away : PySem.W.codeIn K cd_take_away "take_away" = true)
    (k_take_away : PySem.W.keepIn K (.ref f_take_away) = true)
    (a_wood_left : PySem.W.nsIn K mainGlobals "wood_left" = some (some (.ref f_wood_left)))
    (l_wood_left : K.lookup f_wood_left = some ⟨oc_wood_left, od_wood_left, .func (PySem.W.fnOf "wood_left" "wood_left" (defArgs sWood) (defBody sWood) (defScope sWood) .none kV_wood_left dc_wood_left pm_wood_left an_wood_left cd_wood_left ct_wood_left), sl_wood_left⟩)
    (c_wood_left : PySem.W.codeIn K cd_wood_left "wood_left" = true)
    (k_wood_left : PySem.W.keepIn K (.ref f_wood_left) = true)
    (a_counted : PySem.W.nsIn K mainGlobals "counted" = some (some (.ref f_counted)))
    (l_counted : K.lookup f_counted = some ⟨oc_counted, od_counted, .func (PySem.W.fnOf "counted" "counted" (defArgs sCounted) (defBody sCounted) (defScope sCounted) .none kV_counted dc_counted pm_counted an_counted cd_counted ct_counted), sl_counted⟩)
    (c_counted : PySem.W.codeIn K cd_counted "counted" = true)
    (k_counted : PySem.W.keepIn K (.ref f_counted) = true)
    (a_read_call : PySem.W.nsIn K mainGlobals "read_call" = some (some (.ref f_read_call)))
    (l_read_call : K.lookup f_read_call = some ⟨oc_read_call, od_read_call, .func (PySem.W.fnOf "read_call" "read_call" (defArgs sCall) (defBody sCall) (defScope sCall) .none kV_read_call dc_read_call pm_read_call an_read_call cd_read_call ct_read_call), sl_read_call⟩)
    (c_read_call : PySem.W.codeIn K cd_read_call "read_call" = true)
    (k_read_call : PySem.W.keepIn K (.ref f_read_call) = true)
    (pg : PySem.W.plainGet K C Str.empty = true)
    (hd : PySem.W.hasDictIn K C = true)
    (po : PySem.W.plainOver K C = true)
    (sa : PySem.W.findIn K (.ref C) "__setattr__" = some (some (.builtin "object.__setattr__")))
    (mk : PySem.W.makesIn K C = true)
    (kc : PySem.W.keepIn K (.ref C) = true)
    (nR : PySem.W.findIn K (.ref C) "refusal" = some none)
    (nB : PySem.W.findIn K (.ref C) "block" = some none)
    (nC : PySem.W.findIn K (.ref C) "cuts" = some none)
    (nT : PySem.W.findIn K (.ref C) "tools" = some none)
    (z_len : PySem.W.nsIn K mainGlobals "len" = some none)
    (z_ord : PySem.W.nsIn K mainGlobals "ord" = some none)
    (z_all : PySem.W.nsIn K mainGlobals "all" = some none)
    (z_any : PySem.W.nsIn K mainGlobals "any" = some none)
    (z_min : PySem.W.nsIn K mainGlobals "min" = some none)
    (z_range : PySem.W.nsIn K mainGlobals "range" = some none)
    (z_enumerate : PySem.W.nsIn K mainGlobals "enumerate" = some none)
    (z_sorted : PySem.W.nsIn K mainGlobals "sorted" = some none)
    (z_set : PySem.W.nsIn K mainGlobals "set" = some none)
    (z_max : PySem.W.nsIn K mainGlobals "max" = some none)
    (i_TOO_LONG : PySem.W.nsIn K mainGlobals "TOO_LONG" = some (some (.int (-2) t_TOO_LONG)))
    (i_FAULTY : PySem.W.nsIn K mainGlobals "FAULTY" = some (some (.int (-6) t_FAULTY)))
    (i_RIGHT : PySem.W.nsIn K mainGlobals "RIGHT" = some (some (.int 0 t_RIGHT)))
    (i_NOT_FORMED : PySem.W.nsIn K mainGlobals "NOT_FORMED" = some (some (.int 1 t_NOT_FORMED)))
    (i_TOO_MANY : PySem.W.nsIn K mainGlobals "TOO_MANY" = some (some (.int 2 t_TOO_MANY)))
    (i_CANNOT_STAND : PySem.W.nsIn K mainGlobals "CANNOT_STAND" = some (some (.int 3 t_CANNOT_STAND)))
    (i_BEYOND : PySem.W.nsIn K mainGlobals "BEYOND" = some (some (.int 4 t_BEYOND)))
    (i_NO_SUCH_CUT : PySem.W.nsIn K mainGlobals "NO_SUCH_CUT" = some (some (.int 3 t_NO_SUCH_CUT)))
    (i_TOLD_ALREADY : PySem.W.nsIn K mainGlobals "TOLD_ALREADY" = some (some (.int 4 t_TOLD_ALREADY)))
    (i_TOOLS_MARK : PySem.W.nsIn K mainGlobals "TOOLS_MARK" = some (some (.int 16 t_TOOLS_MARK)))
    (i_MOST_BYTES : PySem.W.nsIn K mainGlobals "MOST_BYTES" = some (some (.int 16384 t_MOST_BYTES)))
    (i_MOST_CUTS : PySem.W.nsIn K mainGlobals "MOST_CUTS" = some (some (.int 64 t_MOST_CUTS)))
    (i_MOST_CELLS : PySem.W.nsIn K mainGlobals "MOST_CELLS" = some (some (.int 16 t_MOST_CELLS)))
    (i_LONGEST_NAME : PySem.W.nsIn K mainGlobals "LONGEST_NAME" = some (some (.int 12 t_LONGEST_NAME)))
    (i_LINE_FEED : PySem.W.nsIn K mainGlobals "LINE_FEED" = some (some (.int 10 t_LINE_FEED)))
    (i_BLANK : PySem.W.nsIn K mainGlobals "BLANK" = some (some (.int 32 t_BLANK)))
    (i_NO_NUMBER : PySem.W.nsIn K mainGlobals "NO_NUMBER" = some (some (.int (-1) t_NO_NUMBER)))
    (i_HUGE : PySem.W.nsIn K mainGlobals "HUGE" = some (some (.int 1000 t_HUGE)))
    (i_UNKNOWN_CUT : PySem.W.nsIn K mainGlobals "UNKNOWN_CUT" = some (some (.int (-4) t_UNKNOWN_CUT)))
    (i_ws : PySem.W.nsIn K mainGlobals "WAY_SIGNS" = some (some (.str "rlbfud" t_ws)))
    (a_W : PySem.W.nsIn K mainGlobals "ALL_WAYS" = some (some (.ref wa)))
    (l_W : K.lookup wa = some ⟨.type "tuple", odw, .seq #[.int 0 t0, .int 1 t1, .int 2 t2, .int 3 t3, .int 4 t4, .int 5 t5] nw, slw⟩)
    (a_X : PySem.W.nsIn K mainGlobals "CROSSING_AXES" = some (some (.ref ca)))
    (l_X : K.lookup ca = some ⟨.type "tuple", odc, .seq #[.ref b0, .ref b1, .ref b2] nc, slc⟩)
    (l_0 : K.lookup b0 = some ⟨.type "tuple", od0, .seq #[.int 1 u0, .int 2 u1] n0, sl0⟩)
    (l_1 : K.lookup b1 = some ⟨.type "tuple", od1, .seq #[.int 0 u2, .int 2 u3] n1, sl1⟩)
    (l_2 : K.lookup b2 = some ⟨.type "tuple", od2, .seq #[.int 0 u4, .int 1 u5] n2, sl2⟩)
    : ∃ fd : FuncData, (∀ (s : Shared) (us : List Value), us.length = (["k", "part", "tools", "made"] : List Str).length → BindsTo s fd ⟨us, []⟩ ((["k", "part", "tools", "made"] : List Str).zip us)) ∧ ∀ base : Heap, K.In base → base.Ns mainGlobals mg → FnOk P w K mg base CX0 8 fa fd ["k", "part", "tools", "made"] (spReach K) := by
  have e := hfa.symm.trans (PySem.W.mg_of X G a_reach)
  cases e
  have T : Txt K mg := {
    len := PySem.W.mg_none_of X G z_len
    ord := PySem.W.mg_none_of X G z_ord
    all := PySem.W.mg_none_of X G z_all
    any := PySem.W.mg_none_of X G z_any
    min := PySem.W.mg_none_of X G z_min
    range := PySem.W.mg_none_of X G z_range
    enum := PySem.W.mg_none_of X G z_enumerate
    sorted := PySem.W.mg_none_of X G z_sorted
    set := PySem.W.mg_none_of X G z_set
    tooLong := ⟨_, PySem.W.mg_of X G i_TOO_LONG⟩
    faulty := ⟨_, PySem.W.mg_of X G i_FAULTY⟩
    right := ⟨_, PySem.W.mg_of X G i_RIGHT⟩
    notFormed := ⟨_, PySem.W.mg_of X G i_NOT_FORMED⟩
    tooMany := ⟨_, PySem.W.mg_of X G i_TOO_MANY⟩
    cannot := ⟨_, PySem.W.mg_of X G i_CANNOT_STAND⟩
    beyond := ⟨_, PySem.W.mg_of X G i_BEYOND⟩
    noCut := ⟨_, PySem.W.mg_of X G i_NO_SUCH_CUT⟩
    told := ⟨_, PySem.W.mg_of X G i_TOLD_ALREADY⟩
    mark := ⟨_, PySem.W.mg_of X G i_TOOLS_MARK⟩
    bytes := ⟨_, PySem.W.mg_of X G i_MOST_BYTES⟩
    cuts := ⟨_, PySem.W.mg_of X G i_MOST_CUTS⟩
    cells := ⟨_, PySem.W.mg_of X G i_MOST_CELLS⟩
    long := ⟨_, PySem.W.mg_of X G i_LONGEST_NAME⟩
    lf := ⟨_, PySem.W.mg_of X G i_LINE_FEED⟩
    blank := ⟨_, PySem.W.mg_of X G i_BLANK⟩
    noNum := ⟨_, PySem.W.mg_of X G i_NO_NUMBER⟩
    huge := ⟨_, PySem.W.mg_of X G i_HUGE⟩
    waySigns := ⟨_, PySem.W.mg_of X G i_ws⟩
    dTexts := df_mk X G a_read_texts l_read_texts c_read_texts k_read_texts
    dPart := df_mk X G a_read_part l_read_part c_read_part k_read_part
    dPartL := df_mk X G a_read_part_line l_read_part_line c_read_part_line k_read_part_line
    dTools := df_mk X G a_read_tools l_read_tools c_read_tools k_read_tools
    dToolL := df_mk X G a_read_tool_line l_read_tool_line c_read_tool_line k_read_tool_line
    dBlock := df_mk X G a_block_told l_block_told c_block_told k_block_told
    dCut := df_mk X G a_cut_told l_cut_told c_cut_told k_cut_told
    dTool := df_mk X G a_tool_told l_tool_told c_tool_told k_tool_told
    dBeyond := df_mk X G a_goes_beyond l_goes_beyond c_goes_beyond k_goes_beyond
    dLines := df_mk X G a_lines_of l_lines_of c_lines_of k_lines_of
    dSplit := df_mk X G a_split_at l_split_at c_split_at k_split_at
    dSigns := df_mk X G a_signs_of l_signs_of c_signs_of k_signs_of
    dDigit := df_mk X G a_is_digit l_is_digit c_is_digit k_is_digit
    dLetter := df_mk X G a_is_letter l_is_letter c_is_letter k_is_letter
    dName := df_mk X G a_is_name l_is_name c_is_name k_is_name
    dSize := df_mk X G a_is_size l_is_size c_is_size k_is_size
    dNumber := df_mk X G a_number_of l_number_of c_number_of k_number_of
    dWays := df_mk X G a_ways_of l_ways_of c_ways_of k_ways_of }
  have FI := fun_mk (st := sPlan) l_init c_init k_init
  have TC : Pl K mg C := ⟨⟨pg, hd, po, sa⟩, nR, nB, nC, nT, PySem.W.mg_of X G aC, ⟨_, _, ⟨mk, a_init, i_init, kc⟩, FI⟩⟩
  have G' : TxtG K mg := {
    cross := ⟨ca, fun g => if g = 0 then b0 else if g = 1 then b1 else b2, PySem.W.mg_of X G a_X, ⟨_, _, _, l_X, rfl, rfl, by show 3 ≤ sizeLine; decide, .cons rfl (.cons rfl (.cons rfl .nil))⟩, fun g hg => by
      rcases CG.g3 hg with rfl | rfl | rfl
      · exact ⟨_, _, _, l_0, rfl, rfl, by show 2 ≤ sizeLine; decide, .cons ⟨_, rfl⟩ (.cons ⟨_, rfl⟩ .nil)⟩
      · exact ⟨_, _, _, l_1, rfl, rfl, by show 2 ≤ sizeLine; decide, .cons ⟨_, rfl⟩ (.cons ⟨_, rfl⟩ .nil)⟩
      · exact ⟨_, _, _, l_2, rfl, rfl, by show 2 ≤ sizeLine; decide, .cons ⟨_, rfl⟩ (.cons ⟨_, rfl⟩ .nil)⟩⟩
    allW := ⟨wa, PySem.W.mg_of X G a_W, ⟨_, _, _, l_W, rfl, rfl, by show 6 ≤ sizeLine; decide, .cons ⟨_, rfl⟩ (.cons ⟨_, rfl⟩ (.cons ⟨_, rfl⟩ (.cons ⟨_, rfl⟩ (.cons ⟨_, rfl⟩ (.cons ⟨_, rfl⟩ .nil)))))⟩⟩
    dThr := df_mk X G a_lines_through l_lines_through c_lines_through k_lines_through
    dWith := df_mk X G a_lines_with_wood l_lines_with_wood c_lines_with_wood k_lines_with_wood
    dClear := df_mk X G a_is_clear l_is_clear c_is_clear k_is_clear
    dDepth := df_mk X G a_depth_from l_depth_from c_depth_from k_depth_from
    dWaysTo := df_mk X G a_ways_to l_ways_to c_ways_to k_ways_to
    dTake := df_mk X G a_take_away l_take_away c_take_away k_take_away
    dWood := df_mk X G a_wood_left l_wood_left c_wood_left k_wood_left }
  have x_max : mg "max" = none := PySem.W.mg_none_of X G z_max
  have x_UNKNOWN_CUT : ∃ t, mg "UNKNOWN_CUT" = some (.int (-4) t) := ⟨_, PySem.W.mg_of X G i_UNKNOWN_CUT⟩
  have x_counted : Df K mg "counted" sCounted := df_mk X G a_counted l_counted c_counted k_counted
  have x_read_call : Df K mg "read_call" sCall := df_mk X G a_read_call l_read_call c_read_call k_read_call
  have F := fun_mk (st := sReach) l_reach c_reach k_reach
  exact ⟨_, fun s us hu => match us, hu with | [_, _, _, _], _ => .of_eq rfl, fun base _ _ => ok_reach F T G' TC x_max x_UNKNOWN_CUT x_counted x_read_call⟩
end CR
open PySem PySem.W PyProof.Rows
set_option maxRecDepth 100000 in
set_option maxHeartbeats 0 in
theorem PySem.Challenge.cw_cutreach_s02_reach_holds : PySem.Challenge.rw_cutreach_s02_reach.Holds := by
  w_on; k_headS; (case hw => exact ⟨[.int 0, .list [], .list [], .list []], by decide +kernel, by decide +kernel⟩)
  k_fillS
  refine L2.walk_specK (r := PySem.Challenge.rw_cutreach_s02_reach) (k := 8) (CX := L2.CX0) (ps := ["k", "part", "tools", "made"]) (sp := CR.spReach) (by decide +kernel) rfl rfl ⟨rfl, by decide, by decide⟩ (fun w h Y => PySem.W.kIn_of Y) ?F ?S (fun _ _ _ _ z => z)
  case F =>
    intro w mg fa h Y KX G hmg
    refine' CR.all_mk KX G hmg ?aC ?a_init ?i_init ?l_init ?c_init ?k_init ?a_reach ?l_reach ?c_reach ?k_reach ?a_read_texts ?l_read_texts ?c_read_texts ?k_read_texts ?a_read_part ?l_read_part ?c_read_part ?k_read_part ?a_read_part_line ?l_read_part_line ?c_read_part_line ?k_read_part_line ?a_read_tools ?l_read_tools ?c_read_tools ?k_read_tools ?a_read_tool_line ?l_read_tool_line ?c_read_tool_line ?k_read_tool_line ?a_block_told ?l_block_told ?c_block_told ?k_block_told ?a_cut_told ?l_cut_told ?c_cut_told ?k_cut_told ?a_tool_told ?l_tool_told ?c_tool_told ?k_tool_told ?a_goes_beyond ?l_goes_beyond ?c_goes_beyond ?k_goes_beyond ?a_lines_of ?l_lines_of ?c_lines_of ?k_lines_of ?a_split_at ?l_split_at ?c_split_at ?k_split_at ?a_signs_of ?l_signs_of ?c_signs_of ?k_signs_of ?a_is_digit ?l_is_digit ?c_is_digit ?k_is_digit ?a_is_letter ?l_is_letter ?c_is_letter ?k_is_letter ?a_is_name ?l_is_name ?c_is_name ?k_is_name ?a_is_size ?l_is_size ?c_is_size ?k_is_size ?a_number_of ?l_number_of ?c_number_of ?k_number_of ?a_ways_of ?l_ways_of ?c_ways_of ?k_ways_of ?a_lines_through ?l_lines_through ?c_lines_through ?k_lines_through ?a_lines_with_wood ?l_lines_with_wood ?c_lines_with_wood ?k_lines_with_wood ?a_is_clear ?l_is_clear ?c_is_clear ?k_is_clear ?a_depth_from ?l_depth_from ?c_depth_from ?k_depth_from ?a_ways_to ?l_ways_to ?c_ways_to ?k_ways_to ?a_take_away ?l_take_away ?c_take_away ?k_take_away ?a_wood_left ?l_wood_left ?c_wood_left ?k_wood_left ?a_counted ?l_counted ?c_counted ?k_counted ?a_read_call ?l_read_call ?c_read_call ?k_read_call ?pg ?hd ?po ?sa ?mk ?kc ?nR ?nB ?nC ?nT ?z_len ?z_ord ?z_all ?z_any ?z_min ?z_range ?z_enumerate ?z_sorted ?z_set ?z_max ?i_TOO_LONG ?i_FAULTY ?i_RIGHT ?i_NOT_FORMED ?i_TOO_MANY ?i_CANNOT_STAND ?i_BEYOND ?i_NO_SUCH_CUT ?i_TOLD_ALREADY ?i_TOOLS_MARK ?i_MOST_BYTES ?i_MOST_CUTS ?i_MOST_CELLS ?i_LONGEST_NAME ?i_LINE_FEED ?i_BLANK ?i_NO_NUMBER ?i_HUGE ?i_UNKNOWN_CUT ?i_ws ?a_W ?l_W ?a_X ?l_X ?l_0 ?l_1 ?l_2
    (case aC => k_is); (case a_init => k_is); (case i_init => k_is); (case l_init => k_is); (case c_init => k_is); (case k_init => k_is)
    (case a_reach => k_is); (case l_reach => k_is); (case c_reach => k_is); (case k_reach => k_is); (case a_read_texts => k_is); (case l_read_texts => k_is)
    (case c_read_texts => k_is); (case k_read_texts => k_is); (case a_read_part => k_is); (case l_read_part => k_is); (case c_read_part => k_is); (case k_read_part => k_is)
    (case a_read_part_line => k_is); (case l_read_part_line => k_is); (case c_read_part_line => k_is); (case k_read_part_line => k_is); (case a_read_tools => k_is); (case l_read_tools => k_is)
    (case c_read_tools => k_is); (case k_read_tools => k_is); (case a_read_tool_line => k_is); (case l_read_tool_line => k_is); (case c_read_tool_line => k_is); (case k_read_tool_line => k_is)
    (case a_block_told => k_is); (case l_block_told => k_is); (case c_block_told => k_is); (case k_block_told => k_is); (case a_cut_told => k_is); (case l_cut_told => k_is)
    (case c_cut_told => k_is); (case k_cut_told => k_is); (case a_tool_told => k_is); (case l_tool_told => k_is); (case c_tool_told => k_is); (case k_tool_told => k_is)
    (case a_goes_beyond => k_is); (case l_goes_beyond => k_is); (case c_goes_beyond => k_is); (case k_goes_beyond => k_is); (case a_lines_of => k_is); (case l_lines_of => k_is)
    (case c_lines_of => k_is); (case k_lines_of => k_is); (case a_split_at => k_is); (case l_split_at => k_is); (case c_split_at => k_is); (case k_split_at => k_is)
    (case a_signs_of => k_is); (case l_signs_of => k_is); (case c_signs_of => k_is); (case k_signs_of => k_is); (case a_is_digit => k_is); (case l_is_digit => k_is)
    (case c_is_digit => k_is); (case k_is_digit => k_is); (case a_is_letter => k_is); (case l_is_letter => k_is); (case c_is_letter => k_is); (case k_is_letter => k_is)
    (case a_is_name => k_is); (case l_is_name => k_is); (case c_is_name => k_is); (case k_is_name => k_is); (case a_is_size => k_is); (case l_is_size => k_is)
    (case c_is_size => k_is); (case k_is_size => k_is); (case a_number_of => k_is); (case l_number_of => k_is); (case c_number_of => k_is); (case k_number_of => k_is)
    (case a_ways_of => k_is); (case l_ways_of => k_is); (case c_ways_of => k_is); (case k_ways_of => k_is); (case a_lines_through => k_is); (case l_lines_through => k_is)
    (case c_lines_through => k_is); (case k_lines_through => k_is); (case a_lines_with_wood => k_is); (case l_lines_with_wood => k_is); (case c_lines_with_wood => k_is); (case k_lines_with_wood => k_is)
    (case a_is_clear => k_is); (case l_is_clear => k_is); (case c_is_clear => k_is); (case k_is_clear => k_is); (case a_depth_from => k_is); (case l_depth_from => k_is)
    (case c_depth_from => k_is); (case k_depth_from => k_is); (case a_ways_to => k_is); (case l_ways_to => k_is); (case c_ways_to => k_is); (case k_ways_to => k_is)
    (case a_take_away => k_is); (case l_take_away => k_is); (case c_take_away => k_is); (case k_take_away => k_is); (case a_wood_left => k_is); (case l_wood_left => k_is)
    (case c_wood_left => k_is); (case k_wood_left => k_is); (case a_counted => k_is); (case l_counted => k_is); (case c_counted => k_is); (case k_counted => k_is)
    (case a_read_call => k_is); (case l_read_call => k_is); (case c_read_call => k_is); (case k_read_call => k_is); (case pg => k_is); (case hd => k_is)
    (case po => k_is); (case sa => k_is); (case mk => k_is); (case kc => k_is); (case nR => k_is); (case nB => k_is)
    (case nC => k_is); (case nT => k_is); (case z_len => k_is); (case z_ord => k_is); (case z_all => k_is); (case z_any => k_is)
    (case z_min => k_is); (case z_range => k_is); (case z_enumerate => k_is); (case z_sorted => k_is); (case z_set => k_is); (case z_max => k_is)
    (case i_TOO_LONG => k_is); (case i_FAULTY => k_is); (case i_RIGHT => k_is); (case i_NOT_FORMED => k_is); (case i_TOO_MANY => k_is); (case i_CANNOT_STAND => k_is)
    (case i_BEYOND => k_is); (case i_NO_SUCH_CUT => k_is); (case i_TOLD_ALREADY => k_is); (case i_TOOLS_MARK => k_is); (case i_MOST_BYTES => k_is); (case i_MOST_CUTS => k_is)
    (case i_MOST_CELLS => k_is); (case i_LONGEST_NAME => k_is); (case i_LINE_FEED => k_is); (case i_BLANK => k_is); (case i_NO_NUMBER => k_is); (case i_HUGE => k_is)
    (case i_UNKNOWN_CUT => k_is); (case i_ws => k_is); (case a_W => k_is); (case l_W => k_is); (case a_X => k_is); (case l_X => k_is)
    (case l_0 => k_is); (case l_1 => k_is); (case l_2 => k_is)
  case S =>
    intro K H xs a hO hwi hask hx
    exact CR.req_s02_reach hwi hx
#print axioms PySem.Challenge.cw_cutreach_s02_reach_holds
