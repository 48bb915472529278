import PyProof.Rows.All
import Wide.All
import OpenK.AllK
import Wide.FinOn
import PyProof.EqAt
import PyProof.EqKinds
import PyProof.TupleCall
import KE.BitLaws
import KE.KNestM
import KE.KLam
import KE.KMinKey
import KE.KSortTup
import KE.KRevSl
import PyProof.Rows.SetFrom
import PySem.Challenge.RW_undocover_k18_whole_laying_numbers
set_option Elab.async false
set_option linter.all false
set_option maxRecDepth 100000
set_option maxHeartbeats 4000000
def lamNames : List PySem.Str := ["least_had", "cheapest"]
namespace L2
open PySem PySem.Spec PyProof.Rows

abbrev Key := Sum Int Str
def keyIs : Key → Value → Bool
  | .inl k, v => Value.isInt k v
  | .inr x, v => Value.isStrOf x v
def keyH (w : World) : Key → Int
  | .inl k => hashInt k
  | .inr x => hashStr w x
theorem keyIs_shape : ∀ {k : Key} {v : Value}, keyIs k v = true → (∃ i t, k = Sum.inl i ∧ v = Value.int i t) ∨ (∃ x t, k = Sum.inr x ∧ v = Value.str x t)
  | .inl i, v, h => by
    obtain ⟨t, e⟩ := Value.isInt_shape (k := i) (v := v) h
    exact .inl ⟨i, t, rfl, e⟩
  | .inr x, v, h => by
    obtain ⟨t, e⟩ := Value.isStrOf_shape (x := x) (v := v) h
    exact .inr ⟨x, t, rfl, e⟩
theorem key_ll (a b : Int) : decide ((Sum.inl a : Key) = Sum.inl b) = (a == b) := by
  by_cases e : a = b
  · subst e; simp
  · have h : ¬ (Sum.inl a : Key) = Sum.inl b := fun q => e (Sum.inl.inj q)
    rw [decide_eq_false h]
    exact (beq_eq_false_iff_ne.mpr e).symm
theorem key_rr (a b : Str) : decide ((Sum.inr a : Key) = Sum.inr b) = decide (a = b) := by
  by_cases e : a = b
  · subst e; simp
  · have h : ¬ (Sum.inr a : Key) = Sum.inr b := fun q => e (Sum.inr.inj q)
    rw [decide_eq_false h, decide_eq_false e]
theorem key_lr (a : Int) (b : Str) : decide ((Sum.inl a : Key) = Sum.inr b) = false := decide_eq_false (fun q => nomatch q)
theorem key_rl (a : Str) (b : Int) : decide ((Sum.inr a : Key) = Sum.inl b) = false := decide_eq_false (fun q => nomatch q)

def mixKind (prog : Program) (w : World) : PySem.KeyKind prog w Key where
  is := keyIs
  hash := keyH w
  inj := fun v a b ha hb => by
    rcases keyIs_shape ha with ⟨i, t, rfl, rfl⟩ | ⟨x, t, rfl, rfl⟩
    · rcases keyIs_shape hb with ⟨j, u, rfl, e⟩ | ⟨y, u, rfl, e⟩
      · injection e with e1 _; rw [e1]
      · exact nomatch e
    · rcases keyIs_shape hb with ⟨j, u, rfl, e⟩ | ⟨y, u, rfl, e⟩
      · exact nomatch e
      · injection e with e1 _; rw [e1]
  byValue := fun k v h => by
    rcases keyIs_shape h with ⟨i, t, rfl, rfl⟩ | ⟨x, t, rfl, rfl⟩ <;> rfl
  pyHash := fun hv h => by
    rcases keyIs_shape hv with ⟨i, t, rfl, rfl⟩ | ⟨x, t, rfl, rfl⟩
    · exact wpAny_pyHash_int h
    · exact wpAny_pyHash_str h
  eqBool := fun hu hv h => by
    rcases keyIs_shape hu with ⟨i, t, rfl, rfl⟩ | ⟨x, t, rfl, rfl⟩
    · rcases keyIs_shape hv with ⟨j, u, rfl, rfl⟩ | ⟨y, u, rfl, rfl⟩
      · rw [key_ll] at h; exact wpAny_eqBool_int h
      · rw [key_lr] at h; exact SeqAt.EqAt.int_str i t y u _ _ _ _ h
    · rcases keyIs_shape hv with ⟨j, u, rfl, rfl⟩ | ⟨y, u, rfl, rfl⟩
      · rw [key_rl] at h; exact SeqAt.EqAt.str_int x t j u _ _ _ _ h
      · rw [key_rr] at h; exact wpAny_eqBool_str h
  «strs» := fun k x t v h => by
    rcases keyIs_shape h with ⟨i, u, rfl, e⟩ | ⟨y, u, rfl, e⟩
    · exact nomatch e
    · injection e with e1 _
      subst e1
      cases v <;> rfl

end L2

namespace L2
open PySem PySem.Spec PyProof.Rows

inductive V where
  | non | bl (b : Bool) | int (i : Int) | str (x : Str) | byt (b : Array UInt8) | flt (b : UInt64) | ref (a : Addr) | ty (n : String)
  deriving DecidableEq

def RelV : V → Value → Prop
  | .non, u => u = Value.none
  | .bl b, u => u = Value.bool b
  | .int i, u => ∃ t, u = Value.int i t
  | .str x, u => ∃ t, u = Value.str x t
  | .byt b, u => ∃ t, u = Value.bytes b t
  | .flt b, u => ∃ t, u = Value.float b t
  | .ref a, u => u = Value.ref a
  | .ty n, u => u = Value.type n

abbrev Vals : List V → List Value → Prop := Paired RelV
theorem Vals.length {xs : List V} {us : List Value} (r : Vals xs us) : xs.length = us.length := Paired.length r
theorem Vals.get : ∀ {xs : List V} {us : List Value} {i : Nat} {x : V}, Vals xs us → xs[i]? = some x → ∃ u, us[i]? = some u ∧ RelV x u
  | _, _, _, _, .nil, e => by simp at e
  | _, _, 0, _, .cons r _, e => by simp at e; subst e; exact ⟨_, rfl, r⟩
  | _, _, i + 1, x, .cons _ t, e => by
    obtain ⟨u, h1, h2⟩ := Vals.get (i := i) (x := x) t (by simpa using e)
    exact ⟨u, by simpa using h1, h2⟩
theorem Vals.set {x : V} {u : Value} (r : RelV x u) : ∀ {xs : List V} {us : List Value} (i : Nat), Vals xs us → Vals (xs.set i x) (us.set i u)
  | _, _, _, .nil => .nil
  | _, _, 0, .cons _ t => .cons r t
  | _, _, i + 1, .cons q t => .cons q (Vals.set r i t)
theorem Vals.append : ∀ {xs ys : List V} {us ws : List Value}, Vals xs us → Vals ys ws → Vals (xs ++ ys) (us ++ ws)
  | _, _, _, _, .nil, s => s
  | _, _, _, _, .cons r t, s => .cons r (Vals.append t s)
theorem Vals.take : ∀ {xs : List V} {us : List Value} (n : Nat), Vals xs us → Vals (xs.take n) (us.take n)
  | _, _, 0, _ => .nil
  | _, _, _ + 1, .nil => .nil
  | _, _, n + 1, .cons r t => .cons r (Vals.take n t)
theorem Vals.drop : ∀ {xs : List V} {us : List Value} (n : Nat), Vals xs us → Vals (xs.drop n) (us.drop n)
  | _, _, 0, r => r
  | _, _, _ + 1, .nil => .nil
  | _, _, n + 1, .cons _ t => Vals.drop n t
def RelO : Option V → Option Value → Prop
  | some v, some u => RelV v u
  | none, none => True
  | _, _ => False
def KV {κ : Type} : List (κ × V) → List (κ × Value) → Prop := Paired fun (p : κ × V) (q : κ × Value) => p.1 = q.1 ∧ RelV p.2 q.2

def kV : Key → V
  | .inl i => .int i
  | .inr x => .str x

inductive HO where
  /-- a list -/
  | lst (xs : List V)
  /-- a tuple (never changes) -/
  | tup (xs : List V)
  /-- a dict whose keys are ints and texts; one whose keys are tuples of ints and texts (the empty one is both) -/
  | dK (kvs : List (Key × V)) | dT (kvs : List (List Key × V))
  /-- a set of ints: its members, its size -/
  | set (S : Int → Bool) (n : Nat)
  /-- an instance of the class at C, its dict at dx, its attributes -/
  | ins (C dx : Addr) (fs : List (Str × V))
  /-- the dict of the instance at x -/
  | own (x : Addr)
  /-- the dict of an exception -/
  | xd (fs : List (Str × V))
  /-- a bound method, f of x -/
  | met (f x : Addr)
  /-- a range object lo, lo + 1, .. below hi -/
  | rng (lo hi : Int)
  /-- a thing that is known to the object (the script; a dict while a loop walks it): read, never written while it is so -/
  | frz (o : Obj) (u : HO)
  /-- a code object's table -/
  | tbl (q : Str)
  /-- a code object that such a table notes -/
  | cod (q : Str)
  /-- any other thing, by what is true of its one object (a def of one's own: SetO a S n := HO.ext fun h => ..) -/
  | ext (φ : Heap → Prop)

abbrev Hp := Addr → Option HO
def upd (H : Hp) (a : Addr) (o : HO) : Hp := fun b => if b = a then some o else H b
theorem upd_same {H : Hp} {a : Addr} {o : HO} : upd H a o a = some o := by unfold upd; rw [if_pos rfl]
theorem upd_ne {H : Hp} {a b : Addr} {o : HO} (h : b ≠ a) : upd H a o b = H b := by unfold upd; rw [if_neg h]
theorem ne_of_none {H : Hp} {a b : Addr} {o : HO} (h : H a = some o) (h' : H b = none) : a ≠ b := by
  intro e; subst e; rw [h] at h'; cases h'

section
variable (P : Program) (w : World)
def ObjOk (H : Hp) (h : Heap) (a : Addr) : HO → Prop
  | .lst xs => xs.length ≤ sizeLine ∧ ∃ (its : List Value) (n : Nat), Vals xs its ∧ h.get? a = some { cls := .type "list", data := .seq its.toArray n }
  | .tup xs => xs.length ≤ sizeLine ∧ ∃ its : List Value, Vals xs its ∧ IsTup h a its.toArray
  | .dK kvs => kvs.length ≤ sizeLine ∧ (a == sysModules) = false ∧ ∃ vs, KV kvs vs ∧ h.DictOf (mixKind P w) a vs
  | .dT kvs => kvs.length ≤ sizeLine ∧ (a == sysModules) = false ∧ ∃ xs : List (List Key × Addr × Value),
      Paired (fun (p : List Key × V) (q : List Key × Addr × Value) => p.1 = q.1 ∧ H q.2.1 = some (.tup (p.1.map kV)) ∧ RelV p.2 q.2.2) kvs xs ∧
      ∃ o es ep, h.get? a = some o ∧ o.ExactDict ∧ o.data = .dict es ep ∧ es.toList = xs.map (entryOfKey (tupleKind (mixKind P w))) ∧ (xs.map (·.1)).Nodup
  | .set S n => h.SetOf (intKind P w) a S n
  | .ins C dx fs => H dx = some (.own a) ∧ fs.length ≤ 1000 ∧ dx ≠ a ∧ h.get? a = some (PySem.W.instObj C dx) ∧
      ∃ mA, h.Ns1 dx mA ∧ (∀ f, RelO (fs.lookup f) (mA f)) ∧ PySem.Within mA (fs.map (·.1))
  | .own _ => ∃ o, h.get? a = some o
  | .xd fs => ∃ mA, h.Ns1 a mA ∧ ∀ f, RelO (fs.lookup f) (mA f)
  | .rng lo hi => ∃ t u v, h.get? a = some { cls := .type "range", data := .fields #[.int lo t, .int hi u, .int 1 v] }
  | .frz o u => h.get? a = some o ∧ ObjOk H h a u
  | .tbl q => ∃ ps : Array Value, h.get? a = some { cls := .none, data := .fields ps } ∧ TriplesOk ps.toList ∧ ∀ (pos : Pos) (cv : Value), codeAmong pos ps.toList = some cv → ∃ c, cv = .ref c ∧ H c = some (.cod q)
  | .cod q => h.CodeRec (.ref a) q
  | .met f x => h.get? a = some (PySem.W.methodObj (.ref f) (.ref x))
  | .ext φ => φ h ∧ (∃ o, h.get? a = some o) ∧ ∀ h1 h2 : Heap, φ h1 → (∀ o, h1.get? a = some o → h2.get? a = some o) → φ h2
def HOk (H : Hp) (h : Heap) : Prop := ∀ a o, H a = some o → ObjOk P w H h a o
end

section
variable {P : Program} {w : World} {H H' : Hp} {h h' : Heap} {a : Addr} {o : HO}
theorem ObjOk.lt (x : ObjOk P w H h a o) : a < h.objs.size := by
  cases o with
  | lst xs => obtain ⟨_, _, _, _, e⟩ := x; exact Heap.lt_size e
  | tup xs => obtain ⟨_, _, _, p⟩ := x; exact p.lt
  | dK kvs => obtain ⟨_, _, _, _, o, _, _, e, _⟩ := x; exact Heap.lt_size e
  | dT kvs => obtain ⟨_, _, _, _, o, _, _, e, _⟩ := x; exact Heap.lt_size e
  | set S n => obtain ⟨o, _, _, _, e, _⟩ := x; exact Heap.lt_size e
  | ins C dx fs => obtain ⟨_, _, _, e, _⟩ := x; exact Heap.lt_size e
  | own y => obtain ⟨_, e⟩ := x; exact Heap.lt_size e
  | xd fs => obtain ⟨_, ⟨_, _, _, e, _⟩, _⟩ := x; exact Heap.lt_size e
  | rng lo hi => obtain ⟨_, _, _, e⟩ := x; exact Heap.lt_size e
  | frz ob u => obtain ⟨e, _⟩ := x; exact Heap.lt_size e
  | tbl q => obtain ⟨ps, e, _⟩ := x; exact Heap.lt_size e
  | cod q => obtain ⟨c, oc, vs, tq, hc, e, _⟩ := x; cases hc; exact Heap.lt_size e
  | met f y => exact Heap.lt_size (show h.get? a = some _ from x)
  | ext φ => obtain ⟨_, ⟨_, e⟩, _⟩ := x; exact Heap.lt_size e
theorem Paired.mapP {α β : Type} {F G : α → β → Prop} : ∀ {l₁ : List α} {l₂ : List β}, Paired F l₁ l₂ → (∀ a b, F a b → G a b) → Paired G l₁ l₂
  | _, _, .nil, _ => .nil
  | _, _, .cons r t, f => .cons (f _ _ r) (Paired.mapP t f)
def Fx : HO → Prop
  | .tup _ => True
  | .cod _ => True
  | _ => False
theorem ObjOk.stay (x : ObjOk P w H h a o) (k : ∀ b u, (b = a ∨ H b = some (.own a)) → h.get? b = some u → h'.get? b = some u)
    (ho : ∀ b, H b = some (.own a) → H' b = some (.own a)) (ht0 : ∀ b u, Fx u → H b = some u → H' b = some u) : ObjOk P w H' h' a o := by
  have ht : ∀ b xs, H b = some (.tup xs) → H' b = some (.tup xs) := fun b xs q => ht0 b _ True.intro q
  induction o with
  | lst xs => obtain ⟨z, its, n, r, e⟩ := x; exact ⟨z, its, n, r, k _ _ (.inl rfl) e⟩
  | tup xs => obtain ⟨z, its, r, ob, e, c⟩ := x; exact ⟨z, its, r, ob, k _ _ (.inl rfl) e, c⟩
  | dK kvs => obtain ⟨z, y, vs, r, ob, es, ep, e, c⟩ := x; exact ⟨z, y, vs, r, ob, es, ep, k _ _ (.inl rfl) e, c⟩
  | dT kvs =>
    obtain ⟨z, y, xs, r, ob, es, ep, e, c⟩ := x
    exact ⟨z, y, xs, Paired.mapP r fun p q z => ⟨z.1, ht _ _ z.2.1, z.2.2⟩, ob, es, ep, k _ _ (.inl rfl) e, c⟩
  | set S n => obtain ⟨ob, es, ep, t, e, c⟩ := x; exact ⟨ob, es, ep, t, k _ _ (.inl rfl) e, c⟩
  | ins C dx fs =>
    obtain ⟨d, z, ne, e, mA, ⟨od, es, ep, e2, c⟩, r⟩ := x
    exact ⟨ho _ d, z, ne, k _ _ (.inl rfl) e, mA, ⟨od, es, ep, k _ _ (.inr d) e2, c⟩, r⟩
  | own y => obtain ⟨ob, e⟩ := x; exact ⟨ob, k _ _ (.inl rfl) e⟩
  | xd fs => obtain ⟨mA, ⟨od, es, ep, e, c⟩, r⟩ := x; exact ⟨mA, ⟨od, es, ep, k _ _ (.inl rfl) e, c⟩, r⟩
  | rng lo hi => obtain ⟨t, u, v, e⟩ := x; exact ⟨t, u, v, k _ _ (.inl rfl) e⟩
  | frz ob u ih => obtain ⟨e, q⟩ := x; exact ⟨k _ _ (.inl rfl) e, ih q⟩
  | tbl q =>
    obtain ⟨ps, e, t, f⟩ := x
    exact ⟨ps, k a _ (.inl rfl) e, t, fun pos cv hc => let ⟨c, e1, e2⟩ := f pos cv hc; ⟨c, e1, ht0 c _ True.intro e2⟩⟩
  | cod q =>
    obtain ⟨c, oc, vs, tq, hc, e, z⟩ := x
    cases hc
    exact ⟨a, oc, vs, tq, rfl, k a _ (.inl rfl) e, z⟩
  | met f y =>
    have e : h.get? a = some (PySem.W.methodObj (.ref f) (.ref y)) := x
    show h'.get? a = some (PySem.W.methodObj (.ref f) (.ref y))
    exact k a _ (.inl rfl) e
  | ext φ => obtain ⟨p, ⟨o, e⟩, st⟩ := x; exact ⟨st _ _ p fun o q => k _ _ (.inl rfl) q, ⟨o, k _ _ (.inl rfl) e⟩, st⟩
theorem HOk.lt (x : HOk P w H h) (e : H a = some o) : a < h.objs.size := (x a o e).lt
theorem HOk.fresh (x : HOk P w H h) (e : h.objs.size ≤ a) : H a = none := by
  cases q : H a with
  | none => rfl
  | some u => exact absurd (Nat.lt_of_lt_of_le (x.lt q) e) (Nat.lt_irrefl _)
theorem HOk.kept (x : HOk P w H h) (k : ∀ b u, h.get? b = some u → h'.get? b = some u) : HOk P w H h' := fun a o e =>
  (x a o e).stay (fun b u _ q => k b u q) (fun _ q => q) fun _ _ _ q => q
theorem HOk.laid (x : HOk P w H h) (k : ∀ b u, h.get? b = some u → h'.get? b = some u) (hp : h.objs.size ≤ a) (new : ObjOk P w (upd H a o) h' a o) : HOk P w (upd H a o) h' := fun b u e => by
  have hn := x.fresh hp
  by_cases hb : b = a
  · subst hb; rw [upd_same] at e; cases e; exact new
  · rw [upd_ne hb] at e
    exact (x b u e).stay (fun c v _ q => k c v q) (fun c q => by rw [upd_ne (ne_of_none q hn)]; exact q) fun c xs _ q => by rw [upd_ne (ne_of_none q hn)]; exact q
end

def Rd (H : Hp) (a : Addr) (u : HO) : Prop := H a = some u ∨ ∃ o, H a = some (.frz o u)
theorem Rd.of {H : Hp} {a : Addr} {u : HO} (h : H a = some u) : Rd H a u := .inl h
theorem Rd.ok {P : Program} {w : World} {H : Hp} {h : Heap} {a : Addr} {u : HO} (r : Rd H a u) (x : HOk P w H h) : ObjOk P w H h a u := by
  rcases r with r | ⟨o, r⟩
  · exact x a u r
  · obtain ⟨_, q⟩ := x a _ r
    exact q
def Mut : Option HO → Prop
  | some (.lst _) => True
  | some (.dK _) => True
  | some (.dT _) => True
  | some (.set _ _) => True
  | some (.ins _ _ _) => True
  | some (.ext _) => True
  | _ => False
section
variable {P : Program} {w : World} {H : Hp} {h h' : Heap} {x e : Addr} {o' : HO}
theorem HOk.write (ok : HOk P w H h) (mu : Mut (H x)) (he : e = x ∨ H e = some (.own x)) (k : ∀ b u, b ≠ e → h.get? b = some u → h'.get? b = some u) (heo : ∃ u, h'.get? e = some u)
    (new : ObjOk P w (upd H x o') h' x o') : HOk P w (upd H x o') h' := fun b u q => by
  have nown : ∀ c y, H c = some (.own y) → c ≠ x := fun c y r z => by subst z; rw [r] at mu; exact mu
  have ntup : ∀ c u, Fx u → H c = some u → c ≠ x := fun c u f r z => by subst z; rw [r] at mu; cases u <;> first | exact mu | exact f
  by_cases hb : b = x
  · subst hb; rw [upd_same] at q; cases q; exact new
  · rw [upd_ne hb] at q
    by_cases hbe : b = e
    · have q' : H b = some (.own x) := by
        rcases he with z | z
        · exact absurd (hbe.trans z) hb
        · rw [hbe]; exact z
      rw [q] at q'; cases q'
      obtain ⟨v, hv⟩ := heo
      exact ⟨v, by rw [hbe]; exact hv⟩
    · refine (ok b u q).stay (fun c v hc r => k c v ?_ r) (fun c r => by rw [upd_ne (nown c b r)]; exact r) fun c xs f r => by rw [upd_ne (ntup c xs f r)]; exact r
      rcases hc with rfl | hc
      · exact hbe
      · rintro rfl
        rcases he with z | z
        · exact nown c b hc z
        · rw [hc] at z; cases z; exact hb rfl
end

structure Un (fs ex : List Addr) (H H' : Hp) (h h' : Heap) : Prop where
  keep : ∀ b o, h.get? b = some o → H b = none → b ∉ fs → b ∉ ex → h'.get? b = some o
  slot : ∀ b o, h.get? b = some o → H b = none → b ∈ fs → b ∉ ex → ∃ sl, h'.get? b = some { o with slots := sl }
  free : ∀ b o, h.get? b = some o → H b = none → b ∉ ex → H' b = none
  there : ∀ b o, h.get? b = some o → b ∉ ex → ∃ o', h'.get? b = some o'
  tups : ∀ b xs, H b = some (.tup xs) → H' b = some (.tup xs)
  frzs : ∀ b o u, H b = some (.frz o u) → H' b = some (.frz o u)
  tbls : ∀ b q, H b = some (.tbl q) → H' b = some (.tbl q)
section
variable {fs fs' ex ex' : List Addr} {H H1 H2 : Hp} {h h1 h2 h' : Heap} {a x e : Addr} {o : HO}
theorem Un.any (u : Un fs ex H H1 h h1) {b : Addr} {ob : Obj} (q : h.get? b = some ob) (n : H b = none) (hx : b ∉ ex) : ∃ sl, h1.get? b = some { ob with slots := sl } := by
  by_cases hb : b ∈ fs
  · exact u.slot b ob q n hb hx
  · exact ⟨ob.slots, u.keep b ob q n hb hx⟩
theorem Un.trans (a : Un fs ex H H1 h h1) (b : Un fs ex H1 H2 h1 h2) : Un fs ex H H2 h h2 where
  keep := fun c ob q n hc hx => b.keep c ob (a.keep c ob q n hc hx) (a.free c ob q n hx) hc hx
  slot := fun c ob q n hc hx => by
    obtain ⟨sl, e1⟩ := a.slot c ob q n hc hx
    obtain ⟨sl', e2⟩ := b.slot c _ e1 (a.free c ob q n hx) hc hx
    exact ⟨sl', e2⟩
  free := fun c ob q n hx => by
    obtain ⟨o', e1⟩ := a.there c ob q hx
    exact b.free c o' e1 (a.free c ob q n hx) hx
  there := fun c ob q hx => by
    obtain ⟨o', e1⟩ := a.there c ob q hx
    exact b.there c o' e1 hx
  tups := fun c xs q => b.tups c xs (a.tups c xs q)
  frzs := fun c ob xs q => b.frzs c ob xs (a.frzs c ob xs q)
  tbls := fun c ps q => b.tbls c ps (a.tbls c ps q)
theorem Un.kept (k : ∀ b u, h.get? b = some u → h'.get? b = some u) : Un fs ex H H h h' :=
  ⟨fun b ob q _ _ _ => k b ob q, fun b ob q _ _ _ => ⟨ob.slots, k b ob q⟩, fun _ _ _ n _ => n, fun b ob q _ => ⟨ob, k b ob q⟩, fun _ _ q => q, fun _ _ _ q => q, fun _ _ q => q⟩
theorem Un.refl : Un fs ex H H h h := Un.kept fun _ _ q => q
theorem Un.laid (k : ∀ b u, h.get? b = some u → h'.get? b = some u) (hp : h.objs.size ≤ a) (hn : H a = none) : Un fs ex H (upd H a o) h h' where
  keep := fun b u q _ _ _ => k b u q
  slot := fun b u q _ _ _ => ⟨u.slots, k b u q⟩
  free := fun b u q n _ => by rw [upd_ne (Nat.ne_of_lt (Nat.lt_of_lt_of_le (Heap.lt_size q) hp))]; exact n
  there := fun b u q _ => ⟨u, k b u q⟩
  tups := fun b xs q => by rw [upd_ne (ne_of_none q hn)]; exact q
  frzs := fun b u xs q => by rw [upd_ne (ne_of_none q hn)]; exact q
  tbls := fun b ps q => by rw [upd_ne (ne_of_none q hn)]; exact q
theorem Un.write (mu : Mut (H x)) (he : e = x ∨ H e = some (.own x)) (k : ∀ b u, b ≠ e → h.get? b = some u → h'.get? b = some u) (heo : ∃ u, h'.get? e = some u) : Un fs ex H (upd H x o) h h' := by
  have hx : ∀ b, H b = none → b ≠ x := fun b n z => by subst z; rw [n] at mu; exact mu
  have hb : ∀ b, H b = none → b ≠ e := fun b n z => by
    subst z
    rcases he with r | r
    · exact hx b n r
    · rw [n] at r; cases r
  have hm : ∀ b u, H b = some u → ¬ Mut (some u) → b ≠ x := fun b u q nm z => by subst z; rw [q] at mu; exact nm mu
  refine ⟨fun b u q n _ _ => k b u (hb b n) q, fun b u q n _ _ => ⟨u.slots, k b u (hb b n) q⟩, fun b u q n _ => by rw [upd_ne (hx b n)]; exact n, fun b u q _ => ?_,
    fun b xs q => by rw [upd_ne (hm b _ q fun z => z)]; exact q, fun b u xs q => by rw [upd_ne (hm b _ q fun z => z)]; exact q, fun b ps q => by rw [upd_ne (hm b _ q fun z => z)]; exact q⟩
  by_cases hbe : b = e
  · subst hbe; exact heo
  · exact ⟨u, k b u hbe q⟩
theorem Un.mono (u : Un fs ex H H1 h h1) (hs : ∀ b ∈ fs, b ∈ fs') (hx : ∀ b ∈ ex, b ∈ ex') : Un fs' ex' H H1 h h1 :=
  ⟨fun b ob q n hb he => u.keep b ob q n (fun z => hb (hs b z)) fun z => he (hx b z), fun _ _ q n _ he => u.any q n fun z => he (hx _ z), fun b ob q n he => u.free b ob q n fun z => he (hx b z), fun b ob q he => u.there b ob q fun z => he (hx b z), u.tups, u.frzs, u.tbls⟩
end

def trk (h : Heap) (H : Hp) : List Addr := (List.range h.objs.size).filter fun a => (H a).isSome
def hidT (h : Heap) (H : Hp) : Heap := PySem.W.hideAll h (trk h H)
theorem hidT_size (h : Heap) (H : Hp) : (hidT h H).objs.size = h.objs.size := PySem.W.hideAll_size _ _
theorem hidT_get {h : Heap} {H : Hp} {b : Addr} {o : Obj} (e : h.get? b = some o) (n : H b = none) : (hidT h H).get? b = some o :=
  PySem.W.hideAll_get _ e fun hm => by
    have q : (H b).isSome = true := (List.mem_filter.mp hm).2
    rw [n] at q; simp at q
theorem of_hidT {h : Heap} {H : Hp} {b : Addr} {o : Obj} (e : (hidT h H).get? b = some o) : h.get? b = some o ∧ H b = none := by
  have e' : h.get? b = some o := PySem.W.of_hideAll (trk h H) e
  refine ⟨e', ?_⟩
  cases q : H b with
  | none => rfl
  | some x =>
    have hm : b ∈ trk h H := List.mem_filter.mpr ⟨List.mem_range.mpr (Heap.lt_size e'), by simp [q]⟩
    have z : (hidT h H).get? b = none := PySem.W.hideAll_none (trk h H) hm
    rw [z] at e; cases e

def allNews (g h : Heap) (L : Addr) : List (Addr × Obj) := (List.range h.objs.size).filterMap fun a => if a = L ∨ (g.get? a).isSome = true then none else (h.get? a).map fun o => (a, o)
def rest (g h : Heap) (L d : Addr) : List (Addr × Obj) := (allNews g h L).filter fun p => decide (p.1 ≠ d)
end L2

namespace L2
open PySem PySem.Spec PyProof.Rows

def Tabs (K : PySem.W.Frag) (mg : Str → Option Value) (H : Hp) : Prop := ∀ nm ∈ lamNames, ∀ (fa : Addr) (o : Obj) (fd : FuncData) (c P : Addr), mg nm = some (.ref fa) → K.lookup fa = some o → o.data = .func fd → fd.code = .ref c → PySem.W.codeHdIn K c P = true →
  H P = some (.tbl (nm ++ ".<locals>." ++ "<lambda>"))
structure Mod (K : PySem.W.Frag) (mg : Str → Option Value) (base : Heap) : Prop where
  kin : K.In base
  glob : base.Ns mainGlobals mg
  blt : ∃ mb, base.Ns builtinsNs mb ∧ ∀ x : Str, x ≠ "__name__" → mb x = bootBuiltins x
  nolimit : base.NoLimit
  bmain : ∃ bm ob, mg "__builtins__" = some (.ref bm) ∧ bm ≠ builtinsNs ∧ base.get? bm = some ob ∧ ob.cls = .type "module" ∧ ob.dict = some builtinsNs ∧ ob.data = .plain

structure Cx where
  prog : Program
  w : World
  K : PySem.W.Frag
  mg : Str → Option Value
  base : Heap
  A : Around
  N : List Str
  s_0 : Shared
  H_0 : Hp
  env : Env
  outer : List Env
  stack : List Env
  ex : List Addr
  fn : Str → Bool
  calm : Bool
  pn : List (Addr × Obj)
  xe : Value → Shared → Prop
def frs (l : List Env) : List Addr := l.filterMap (·.frame)
abbrev Cx.fs (X : Cx) : List Addr := frs X.outer

def Vis (sc : Scope) (x : Str) : Prop := sc.names.lookup x = some .local ∨ sc.names.lookup x = some .cell ∨ sc.names.lookup x = some .free
def Loc (sc : Scope) (x : Str) : Prop := sc.names.lookup x = some .local ∨ sc.names.lookup x = some .cell
def Look (env : Env) (h : Heap) (m : Str → Option Value) (x : Str) (u : Value) : Prop :=
  (env.kindOf x = some .local ∧ m x = some u) ∨ ((env.kindOf x = some .cell ∨ env.kindOf x = some .free) ∧ ∃ c, env.cells.lookup x = some c ∧ h.IsCell c (some u))

structure Cx.Ok (X : Cx) : Prop where
  mod : Mod X.K X.mg X.base
  kind : X.env.scope.kind = .function
  glob : X.env.globals = mainGlobals
  blt : X.env.builtins = builtinsNs
  above : X.s_0.heap.objs.size ≤ X.env.locals
  inj : ∀ x y c, X.env.cells.lookup x = some c → X.env.cells.lookup y = some c → x = y
  has : ∀ x, (X.env.kindOf x = some .cell ∨ X.env.kindOf x = some .free) → ∃ c, X.env.cells.lookup x = some c
  cab : ∀ x c, X.fn x = true → X.env.cells.lookup x = some c → X.s_0.heap.objs.size ≤ c
  hd : X.calm = true → X.A.handled = none
  frames : X.A.frames = some X.stack
  stk : X.stack = X.outer ∨ (X.stack = X.env :: X.outer ∧ X.env.frame = some X.env.locals)
  exf : ∀ b ∈ X.ex, b ≠ X.env.locals ∧ ∀ x c, X.env.cells.lookup x = some c → c ≠ b
  bs : ∀ b o, X.base.get? b = some o → X.s_0.heap.get? b = some o ∧ X.H_0 b = none
  bsz : X.base.objs.size ≤ X.s_0.heap.objs.size
  noex : ∀ b o, X.base.get? b = some o → b ∉ X.ex
  exfs : ∀ b ∈ X.ex, b ∉ X.fs
  funs : X.s_0.heap.FunFrames X.base X.outer
  frf : ∀ b ∈ X.fs, X.H_0 b = none
  tab : Tabs X.K X.mg X.H_0

structure Inv (X : Cx) (pins : List (Addr × Obj)) (σ : List (Option V)) (H : Hp) (s : Shared) : Prop where
  ok : X.Ok
  os : s.os = X.s_0.os
  bare : AllBare s.gens
  base : Un X.fs X.ex X.H_0 H X.s_0.heap s.heap
  loc : ∃ m, s.heap.Ns X.env.locals m ∧ ∀ (i : Nat) (x : Str) (v : V), X.N[i]? = some x → σ[i]? = some (some v) → Vis X.env.scope x → ∃ u, RelV v u ∧ Look X.env s.heap m x u
  cell : ∀ x c, X.env.cells.lookup x = some c → ∃ v, s.heap.IsCell c v
  free : H X.env.locals = none
  freeC : ∀ x c, X.env.cells.lookup x = some c → H c = none
  pin : ∀ p ∈ X.pn ++ pins, s.heap.get? p.1 = some p.2 ∧ H p.1 = none ∧ p.1 ≠ X.env.locals ∧ p.1 ∉ X.fs ∧ ∀ v, p.2.data ≠ .cell v
  hok : HOk X.prog X.w H s.heap
  len : σ.length = X.N.length

section
variable {X : Cx} {pins : List (Addr × Obj)} {σ : List (Option V)} {H H' : Hp} {s : Shared} {h' : Heap}

theorem Cx.Ok.nofr (ok : X.Ok) {b : Addr} {o : Obj} (e : X.base.get? b = some o) : b ∉ X.fs := fun hb => by
  have := (ok.funs.mem hb).1
  rw [e] at this; cases this
theorem Inv.bs (I : Inv X pins σ H s) : ∀ b o, X.base.get? b = some o → s.heap.get? b = some o ∧ H b = none := fun b o e =>
  ⟨I.base.keep b o (I.ok.bs b o e).1 (I.ok.bs b o e).2 (I.ok.nofr e) (I.ok.noex b o e), I.base.free b o (I.ok.bs b o e).1 (I.ok.bs b o e).2 (I.ok.noex b o e)⟩
theorem Inv.bk (I : Inv X pins σ H s) : ∀ b o, X.base.get? b = some o → s.heap.get? b = some o := fun b o e => (I.bs b o e).1
theorem Inv.mod (I : Inv X pins σ H s) : Mod X.K X.mg X.base := I.ok.mod
theorem Inv.tabs (I : Inv X pins σ H s) : Tabs X.K X.mg H := fun nm hn fa o fd c P a1 a2 a3 a4 a5 => I.base.tbls P _ (I.ok.tab nm hn fa o fd c P a1 a2 a3 a4 a5)
theorem Inv.kIn (I : Inv X pins σ H s) : X.K.In s.heap := I.ok.mod.kin.keeps I.bk
theorem Inv.nolimit (I : Inv X pins σ H s) : s.heap.NoLimit := I.ok.mod.nolimit.keeps I.bk
theorem Inv.fr (I : Inv X pins σ H s) : ∃ m, Fr X.base X.env.locals s.heap m :=
  let ⟨m, hn, _⟩ := I.loc
  ⟨m, hn, I.bk, Nat.le_trans I.ok.bsz I.ok.above⟩
theorem Inv.lt (I : Inv X pins σ H s) : X.env.locals < s.heap.objs.size := let ⟨_, hn, _⟩ := I.loc; hn.lt
theorem Inv.sz (I : Inv X pins σ H s) : X.s_0.heap.objs.size ≤ s.heap.objs.size := Nat.le_trans I.ok.above (Nat.le_of_lt I.lt)
theorem Inv.nofs (I : Inv X pins σ H s) {a : Addr} (h : s.heap.objs.size ≤ a) : a ∉ X.fs := fun hb => by
  obtain ⟨_, o, ho, _⟩ := I.ok.funs.mem hb
  exact absurd (Nat.lt_of_lt_of_le (Heap.lt_size ho) (Nat.le_trans I.sz h)) (Nat.lt_irrefl _)
theorem Inv.cne (I : Inv X pins σ H s) : ∀ x c, X.env.cells.lookup x = some c → c ≠ X.env.locals := fun x c e z => by
  obtain ⟨v, o, ho, hd⟩ := I.cell x c e
  obtain ⟨m, ⟨o', es, ep, ho', hd', _⟩, _⟩ := I.loc
  rw [z, ho'] at ho; cases ho; rw [hd'] at hd; cases hd
theorem Inv.funs (I : Inv X pins σ H s) : s.heap.FunFrames X.base X.outer := by
  have all : ∀ (l : List Env), (∀ b ∈ frs l, b ∈ X.fs) → X.s_0.heap.FunFrames X.base l → s.heap.FunFrames X.base l := by
    intro l
    induction l with
    | nil => intro _ _; trivial
    | cons env r ih =>
      intro hs hl
      obtain ⟨hk, ⟨L, o, hf, hn, ho, hd⟩, hr⟩ := hl
      have hL : L ∈ X.fs := hs L (by unfold frs; rw [List.filterMap_cons, hf]; exact List.mem_cons_self)
      obtain ⟨sl, e⟩ := I.base.slot L o ho (I.ok.frf L hL) hL fun z => I.ok.exfs L z hL
      exact ⟨hk, ⟨L, _, hf, hn, e, hd⟩, ih (fun b hb => hs b (by unfold frs; rw [List.filterMap_cons, hf]; exact List.mem_cons_of_mem _ hb)) hr⟩
  exact all X.outer (fun _ hb => hb) I.ok.funs

theorem Inv.stack (I : Inv X pins σ H s) : s.heap.FunFrames X.base X.stack := by
  rcases I.ok.stk with e | ⟨e, hf⟩
  · rw [e]; exact I.funs
  · rw [e]
    obtain ⟨m, hn, _⟩ := I.loc
    refine .cons (by rw [I.ok.kind]; decide) hf hn ?_ I.funs
    exact Heap.get?_none_of_le (Nat.le_trans I.ok.bsz I.ok.above)
theorem Inv.stkSub (I : Inv X pins σ H s) : ∀ b ∈ frs X.stack, b ∈ X.env.locals :: X.fs := fun b hb => by
  rcases I.ok.stk with e | ⟨e, hf⟩
  · rw [e] at hb; exact List.mem_cons_of_mem _ hb
  · rw [e] at hb
    unfold frs at hb
    rw [List.filterMap_cons, hf] at hb
    exact hb
theorem Inv.stkFree (I : Inv X pins σ H s) : ∀ b ∈ frs X.stack, H b = none := fun b hb => by
  rcases List.mem_cons.mp (I.stkSub b hb) with e | hb
  · rw [e]; exact I.free
  · obtain ⟨_, o, ho, _⟩ := I.ok.funs.mem hb
    exact I.base.free b o ho (I.ok.frf b hb) fun z => I.ok.exfs b z hb

theorem Inv.step {g' : Array GenState} {t' : Nat} {d' : Drawn} {ch : List Addr} (I : Inv X pins σ H s)
    (hch : ∀ b ∈ ch, (b ∈ X.ex ∨ X.s_0.heap.objs.size ≤ b) ∧ b ≠ X.env.locals ∧ (∀ x c, X.env.cells.lookup x = some c → c ≠ b) ∧ ∀ p ∈ X.pn ++ pins, p.1 ≠ b)
    (keep : ∀ b o, b ≠ X.env.locals → b ∉ X.fs → b ∉ ch → s.heap.get? b = some o → H b = none → h'.get? b = some o)
    (slot : ∀ b o, b ≠ X.env.locals → b ∈ X.fs → b ∉ ch → s.heap.get? b = some o → H b = none → ∃ sl, h'.get? b = some { o with slots := sl }) (free : ∀ b o, b ∉ ch → s.heap.get? b = some o → H b = none → H' b = none)
    (there : ∀ b o, b ∉ ch → s.heap.get? b = some o → ∃ o', h'.get? b = some o')
    (tups : ∀ b xs, H b = some (.tup xs) → H' b = some (.tup xs)) (frzs : ∀ b o u, H b = some (.frz o u) → H' b = some (.frz o u)) (tbls : ∀ b q, H b = some (.tbl q) → H' b = some (.tbl q))
    (ns : ∀ m, s.heap.Ns X.env.locals m → h'.Ns X.env.locals m) (hok : HOk X.prog X.w H' h') (hg : AllBare g') :
    Inv X pins σ H' { s with heap := h', gens := g', drawn := d', toks := t' } := by
  have neL : ∀ b o, X.s_0.heap.get? b = some o → b ≠ X.env.locals := fun b o e => Nat.ne_of_lt (Nat.lt_of_lt_of_le (Heap.lt_size e) I.ok.above)
  have neC : ∀ b o, X.s_0.heap.get? b = some o → b ∉ X.ex → b ∉ ch := fun b o e hx hb => by
    rcases (hch b hb).1 with z | z
    · exact hx z
    · exact absurd (Nat.lt_of_lt_of_le (Heap.lt_size e) z) (Nat.lt_irrefl _)
  have cellK : ∀ x c, X.env.cells.lookup x = some c → ∀ v, s.heap.IsCell c v → h'.IsCell c v := fun x c e v ⟨o, ho, hd⟩ => by
    have nch : c ∉ ch := fun z => (hch c z).2.2.1 x c e rfl
    by_cases hc : c ∈ X.fs
    · obtain ⟨sl, q⟩ := slot c o (I.cne x c e) hc nch ho (I.freeC x c e)
      exact ⟨_, q, hd⟩
    · exact ⟨o, keep c o (I.cne x c e) hc nch ho (I.freeC x c e), hd⟩
  refine ⟨I.ok, I.os, hg, ⟨fun b o e n hb hx => ?_, fun b o e n hb hx => ?_, fun b o e n hx => ?_, fun b o e hx => ?_, fun b xs e => tups b xs (I.base.tups b xs e), fun b o xs e => frzs b o xs (I.base.frzs b o xs e), fun b ps e => ?_⟩, ?_, fun x c e => ?_, ?_, fun x c e => ?_, fun p hp => ?_, hok, I.len⟩
  · exact keep b o (neL b o e) hb (neC b o e hx) (I.base.keep b o e n hb hx) (I.base.free b o e n hx)
  · obtain ⟨sl, e1⟩ := I.base.slot b o e n hb hx
    obtain ⟨sl', e2⟩ := slot b _ (neL b o e) hb (neC b o e hx) e1 (I.base.free b o e n hx)
    exact ⟨sl', e2⟩
  · obtain ⟨o', e1⟩ := I.base.there b o e hx
    exact free b o' (neC b o e hx) e1 (I.base.free b o e n hx)
  · obtain ⟨o', e1⟩ := I.base.there b o e hx
    exact there b o' (neC b o e hx) e1
  · exact tbls b _ (I.base.tbls b ps e)
  · obtain ⟨m, hn, hl⟩ := I.loc
    refine ⟨m, ns m hn, fun i x v e1 e2 e3 => ?_⟩
    obtain ⟨u, r, l⟩ := hl i x v e1 e2 e3
    refine ⟨u, r, ?_⟩
    rcases l with l | ⟨k, c, e, z⟩
    · exact .inl l
    · exact .inr ⟨k, c, e, cellK x c e _ z⟩
  · obtain ⟨v, z⟩ := I.cell x c e
    exact ⟨v, cellK x c e v z⟩
  · obtain ⟨m, ⟨o, _, _, ho, _⟩, _⟩ := I.loc
    exact free _ o (fun z => (hch _ z).2.1 rfl) ho I.free
  · obtain ⟨v, o, ho, hd⟩ := I.cell x c e
    exact free c o (fun z => (hch c z).2.2.1 x c e rfl) ho (I.freeC x c e)
  · obtain ⟨e, n, ne, nf, d⟩ := I.pin p hp
    have nch : p.1 ∉ ch := fun z => (hch p.1 z).2.2.2 p hp rfl
    exact ⟨keep p.1 p.2 ne nf nch e n, free p.1 p.2 nch e n, ne, nf, d⟩
theorem Inv.un {t' : Nat} (I : Inv X pins σ H s) (u : Un X.fs [] H H' s.heap h') (hok : HOk X.prog X.w H' h') : Inv X pins σ H' { s with heap := h', toks := t' } := by
  obtain ⟨m, ⟨o, es, ep, ho, r⟩, _⟩ := id I.loc
  obtain ⟨sl, hL⟩ := u.any ho I.free (by simp)
  exact I.step (g' := s.gens) (d' := s.drawn) (ch := []) (fun _ z => nomatch z) (fun b o _ hb _ e n => u.keep b o e n hb (by simp)) (fun b o _ hb _ e n => u.slot b o e n hb (by simp)) (fun b o _ e n => u.free b o e n (by simp)) (fun b o _ e => u.there b o e (by simp)) u.tups u.frzs u.tbls (fun m' hm => by
    obtain ⟨o', es', ep', ho', r'⟩ := hm
    rw [ho] at ho'; cases ho'
    exact ⟨_, es', ep', hL, r'⟩) hok I.bare
theorem Inv.call {g' : Array GenState} {t' : Nat} {d' : Drawn} {ch : List Addr} (I : Inv X pins σ H s) (u : Un (frs X.stack) ch H H' s.heap h') (hok : HOk X.prog X.w H' h') (hg : AllBare g')
    (hch : ∀ b ∈ ch, (b ∈ X.ex ∨ X.s_0.heap.objs.size ≤ b) ∧ b ≠ X.env.locals ∧ (∀ x c, X.env.cells.lookup x = some c → c ≠ b) ∧ ∀ p ∈ X.pn ++ pins, p.1 ≠ b) :
    Inv X pins σ H' { s with heap := h', gens := g', drawn := d', toks := t' } := by
  obtain ⟨m, ⟨o, es, ep, ho, r⟩, _⟩ := id I.loc
  obtain ⟨sl, hL⟩ := u.any ho I.free fun z => (hch _ z).2.1 rfl
  exact I.step (ch := ch) hch (fun b o hL hb hc e n => u.keep b o e n (fun z => (List.mem_cons.mp (I.stkSub b z)).elim hL hb) hc) (fun b o _ _ hc e n => u.any e n hc) (fun b o hc e n => u.free b o e n hc) (fun b o hc e => u.there b o e hc) u.tups u.frzs u.tbls (fun m' hm => by
    obtain ⟨o', es', ep', ho', r'⟩ := hm
    rw [ho] at ho'; cases ho'
    exact ⟨_, es', ep', hL, r'⟩) hok hg
theorem Inv.turned {t' : Nat} {it : Addr} (I : Inv X pins σ H s) (k : ∀ b o, b ≠ it → s.heap.get? b = some o → h'.get? b = some o) (hn : H it = none) (hL : it ≠ X.env.locals)
    (h1 : it ∈ X.ex ∨ X.s_0.heap.objs.size ≤ it) (h2 : ∀ x c, X.env.cells.lookup x = some c → c ≠ it) (h3 : ∀ p ∈ X.pn ++ pins, p.1 ≠ it) : Inv X pins σ H { s with heap := h', toks := t' } := by
  have nit : ∀ b u, H b = some u → b ≠ it := fun b u e z => by rw [z, hn] at e; cases e
  refine I.step (g' := s.gens) (d' := s.drawn) (ch := [it]) (fun b hb => ?_) (fun b o _ _ hc e _ => k b o (fun z => hc (by simp [z])) e) (fun b o _ _ hc e _ => ⟨o.slots, k b o (fun z => hc (by simp [z])) e⟩) (fun _ _ _ _ n => n)
    (fun b o hc e => ⟨o, k b o (fun z => hc (by simp [z])) e⟩) (fun _ _ e => e) (fun _ _ _ e => e) (fun _ _ e => e) (fun m hm => ?_) (fun b u e => ?_) I.bare
  · have e : b = it := by simpa using hb
    subst e
    exact ⟨h1, hL, h2, h3⟩
  · obtain ⟨o, es, ep, ho, r⟩ := hm
    exact ⟨o, es, ep, k _ o (Ne.symm hL) ho, r⟩
  · refine (I.hok b u e).stay (fun c v hc q => k c v ?_ q) (fun _ q => q) fun _ _ _ q => q
    rcases hc with z | z
    · rw [z]; exact nit b u e
    · exact nit c _ z
theorem Inv.tok (I : Inv X pins σ H s) (t : Nat) : Inv X pins σ H { s with toks := t } := I.un (h' := s.heap) (t' := t) Un.refl I.hok
theorem Inv.kept {t' : Nat} (I : Inv X pins σ H s) (k : ∀ b u, s.heap.get? b = some u → h'.get? b = some u) : Inv X pins σ H { s with heap := h', toks := t' } := I.un (Un.kept k) (I.hok.kept k)
theorem Inv.laid {a : Addr} {o : HO} {t' : Nat} (I : Inv X pins σ H s) (k : ∀ b u, s.heap.get? b = some u → h'.get? b = some u) (hp : s.heap.objs.size ≤ a) (new : ObjOk X.prog X.w (upd H a o) h' a o) :
    Inv X pins σ (upd H a o) { s with heap := h', toks := t' } := I.un (Un.laid k hp (I.hok.fresh hp)) (I.hok.laid k hp new)
theorem Inv.write {x e : Addr} {o : HO} {t' : Nat} (I : Inv X pins σ H s) (mu : Mut (H x)) (he : e = x ∨ H e = some (.own x)) (k : ∀ b u, b ≠ e → s.heap.get? b = some u → h'.get? b = some u) (heo : ∃ u, h'.get? e = some u)
    (new : ObjOk X.prog X.w (upd H x o) h' x o) : Inv X pins σ (upd H x o) { s with heap := h', toks := t' } := I.un (Un.write mu he k heo) (I.hok.write mu he k heo new)
theorem Inv.weak {σ' : List (Option V)} (I : Inv X pins σ H s) (hl : σ'.length = σ.length) (w : ∀ (i : Nat) v, σ'[i]? = some (some v) → σ[i]? = some (some v)) : Inv X pins σ' H s :=
  ⟨I.ok, I.os, I.bare, I.base, let ⟨m, hn, hl'⟩ := I.loc; ⟨m, hn, fun i x v e1 e2 e3 => hl' i x v e1 (w i v e2) e3⟩, I.cell, I.free, I.freeC, I.pin, I.hok, hl.trans I.len⟩
theorem Inv.pins_of {pins' : List (Addr × Obj)} (I : Inv X pins σ H s) (h : ∀ p ∈ pins', s.heap.get? p.1 = some p.2 ∧ H p.1 = none ∧ p.1 ≠ X.env.locals ∧ p.1 ∉ X.fs ∧ ∀ v, p.2.data ≠ .cell v) : Inv X pins' σ H s :=
  ⟨I.ok, I.os, I.bare, I.base, I.loc, I.cell, I.free, I.freeC, fun p hp => (List.mem_append.mp hp).elim (fun z => I.pin p (List.mem_append_left _ z)) (h p), I.hok, I.len⟩

theorem nodup_ix {N : List Str} (hN : N.Nodup) {i j : Nat} {x : Str} (a : N[i]? = some x) (b : N[j]? = some x) : i = j := by
  obtain ⟨h1, e1⟩ := List.getElem?_eq_some_iff.mp a
  obtain ⟨h2, e2⟩ := List.getElem?_eq_some_iff.mp b
  exact (List.getElem_inj hN).mp (e1.trans e2.symm)

theorem store_ok2 {M : Model} {A : Around} {E : Value → Shared → Prop} {i : Nat} {x : Str} {v : V} {u : Value} {Q : Unit → Shared → Prop} (I : Inv X pins σ H s) (hN : X.N.Nodup) (hi : X.N[i]? = some x) (hx : Loc X.env.scope x) (r : RelV v u)
    (h : ∀ s', Inv X pins (σ.set i (some v)) H s' → (∃ a, Heap.SameBut a s.heap s'.heap ∧ (a = X.env.locals ∨ X.env.cells.lookup x = some a)) → Q () s') (hf : X.fn x = true ∨ X.env.scope.names.lookup x = some .local := by first | exact .inl rfl | exact .inr rfl | assumption) : wpAny M A (storeName X.env x u) Q E s := by
  obtain ⟨m, hn, hl⟩ := id I.loc
  have hcls : (X.env.scope.kind == .class || (X.env.scope.kind == .module && X.env.locals != X.env.globals)) = false := by rw [I.ok.kind]; rfl
  have hiσ : i < σ.length := by rw [I.len]; exact (List.getElem?_eq_some_iff.mp hi).1
  have cne := I.cne
  have tracked : ∀ {a : Addr} {h' : Heap}, (∃ o, s.heap.get? a = some o ∧ H a = none) → Heap.SameBut a s.heap h' → HOk X.prog X.w H h' := fun {a h'} ha hs b ob e => by
    obtain ⟨_, _, hfree⟩ := ha
    refine (I.hok b ob e).stay (fun c w' hc q => (hs.2 c ?_).trans q) (fun _ q => q) fun _ _ _ q => q
    rintro rfl
    rcases hc with rfl | hc
    · rw [hfree] at e; cases e
    · rw [hfree] at hc; cases hc
  rcases hx with hk | hk
  · refine wpAny_storeName_local hk hn (fun h' hn' hs => ?_) hcls
    obtain ⟨oL, _, _, hoL, _⟩ := id hn
    refine h _ ⟨I.ok, I.os, I.bare, ⟨fun b o e n hb hx => ?_, fun b o e n hb hx => ?_, I.base.free, fun b o e hx => ?_, I.base.tups, I.base.frzs, I.base.tbls⟩, ⟨_, hn', fun j y v' e1 e2 e3 => ?_⟩, fun y c e => ?_, I.free, I.freeC, fun p hp => ?_, tracked ⟨oL, hoL, I.free⟩ hs, by simpa using I.len⟩ ⟨_, hs, .inl rfl⟩
    · exact (hs.2 b (Nat.ne_of_lt (Nat.lt_of_lt_of_le (Heap.lt_size e) I.ok.above))).trans (I.base.keep b o e n hb hx)
    · obtain ⟨sl, e1⟩ := I.base.slot b o e n hb hx
      exact ⟨sl, (hs.2 b (Nat.ne_of_lt (Nat.lt_of_lt_of_le (Heap.lt_size e) I.ok.above))).trans e1⟩
    · obtain ⟨o', e1⟩ := I.base.there b o e hx
      exact ⟨o', (hs.2 b (Nat.ne_of_lt (Nat.lt_of_lt_of_le (Heap.lt_size e) I.ok.above))).trans e1⟩
    · by_cases hj : j = i
      · subst hj
        rw [hi] at e1; cases e1
        rw [List.getElem?_set_self hiσ] at e2
        cases e2
        exact ⟨u, r, .inl ⟨hk, by simp⟩⟩
      · rw [List.getElem?_set_ne (Ne.symm hj)] at e2
        obtain ⟨u', r', q⟩ := hl j y v' e1 e2 e3
        refine ⟨u', r', ?_⟩
        rcases q with ⟨k, e⟩ | ⟨k, c, e, z⟩
        · refine .inl ⟨k, ?_⟩
          have : y ≠ x := fun e => hj (nodup_ix hN e1 (e ▸ hi))
          simp [this, e]
        · exact .inr ⟨k, c, e, z.sameBut hs (cne y c e)⟩
    · obtain ⟨w', z⟩ := I.cell y c e
      exact ⟨w', z.sameBut hs (cne y c e)⟩
    · obtain ⟨e, n, ne, nf, d⟩ := I.pin p hp
      exact ⟨(hs.2 p.1 ne).trans e, n, ne, nf, d⟩
  · have hfn : X.fn x = true := by
      rcases hf with z | z
      · exact z
      · rw [z] at hk; cases hk
    obtain ⟨c, hc⟩ := I.ok.has x (.inl hk)
    obtain ⟨w', z⟩ := I.cell x c hc
    refine wpAny_storeName_cell I.ok.kind hk hc z (fun h' hc' hs => ?_)
    obtain ⟨oc, hoc, hocd⟩ := id z
    refine h { s with heap := h' } ⟨I.ok, I.os, I.bare, ⟨fun b o e n hb hx => ?_, fun b o e n hb hx => ?_, I.base.free, fun b o e hx => ?_, I.base.tups, I.base.frzs, I.base.tbls⟩, ⟨m, hn.sameBut hs (Ne.symm (cne x c hc)), fun j y v' e1 e2 e3 => ?_⟩, fun y c' e => ?_, I.free, I.freeC, fun p hp => ?_, tracked ⟨oc, hoc, I.freeC x c hc⟩ hs, by simpa using I.len⟩ ⟨c, hs, .inr hc⟩
    · exact (hs.2 b (Nat.ne_of_lt (Nat.lt_of_lt_of_le (Heap.lt_size e) (I.ok.cab x c hfn hc)))).trans (I.base.keep b o e n hb hx)
    · obtain ⟨sl, e1⟩ := I.base.slot b o e n hb hx
      exact ⟨sl, (hs.2 b (Nat.ne_of_lt (Nat.lt_of_lt_of_le (Heap.lt_size e) (I.ok.cab x c hfn hc)))).trans e1⟩
    · obtain ⟨o', e1⟩ := I.base.there b o e hx
      exact ⟨o', (hs.2 b (Nat.ne_of_lt (Nat.lt_of_lt_of_le (Heap.lt_size e) (I.ok.cab x c hfn hc)))).trans e1⟩
    · by_cases hj : j = i
      · subst hj
        rw [hi] at e1; cases e1
        rw [List.getElem?_set_self hiσ] at e2
        cases e2
        exact ⟨u, r, .inr ⟨.inl hk, c, hc, hc'⟩⟩
      · rw [List.getElem?_set_ne (Ne.symm hj)] at e2
        obtain ⟨u', r', q⟩ := hl j y v' e1 e2 e3
        refine ⟨u', r', ?_⟩
        rcases q with q | ⟨k, c', e, z'⟩
        · exact .inl q
        · refine .inr ⟨k, c', e, z'.sameBut hs ?_⟩
          rintro rfl
          exact hj (nodup_ix hN e1 (I.ok.inj _ _ _ e hc ▸ hi))
    · by_cases hcc : c' = c
      · subst hcc; exact ⟨_, hc'⟩
      · obtain ⟨w2, z2⟩ := I.cell y c' e
        exact ⟨w2, z2.sameBut hs hcc⟩
    · obtain ⟨e, n, ne, nf, d⟩ := I.pin p hp
      refine ⟨(hs.2 p.1 ?_).trans e, n, ne, nf, d⟩
      intro q
      rw [q, hoc] at e
      have q' : oc = p.2 := Option.some.inj e
      exact d w' (by rw [← q']; exact hocd)
theorem store_ok {M : Model} {A : Around} {E : Value → Shared → Prop} {i : Nat} {x : Str} {v : V} {u : Value} {Q : Unit → Shared → Prop} (I : Inv X pins σ H s) (hN : X.N.Nodup) (hi : X.N[i]? = some x) (hx : Loc X.env.scope x) (r : RelV v u)
    (h : ∀ s', Inv X pins (σ.set i (some v)) H s' → Q () s') (hf : X.fn x = true ∨ X.env.scope.names.lookup x = some .local := by first | exact .inl rfl | exact .inr rfl | assumption) : wpAny M A (storeName X.env x u) Q E s :=
  store_ok2 I hN hi hx r (fun s' I' _ => h s' I') hf
theorem Inv.call' {s' : Shared} {ch : List Addr} (I : Inv X pins σ H s) (ho : s'.os = s.os) (u : Un (frs X.stack) ch H H' s.heap s'.heap) (hok : HOk X.prog X.w H' s'.heap) (hg : AllBare s'.gens)
    (hch : ∀ b ∈ ch, (b ∈ X.ex ∨ X.s_0.heap.objs.size ≤ b) ∧ b ≠ X.env.locals ∧ (∀ x c, X.env.cells.lookup x = some c → c ≠ b) ∧ ∀ p ∈ X.pn ++ pins, p.1 ≠ b) : Inv X pins σ H' s' := by
  obtain ⟨h', g', d', t', o'⟩ := s'
  have e : o' = s.os := ho
  subst e
  exact I.call (g' := g') (t' := t') (d' := d') u hok hg hch
end

abbrev XK := Value → Option Addr → Hp → Prop
abbrev St := List (Option V)
abbrev VK := V → Hp → Prop
abbrev TE := St → Hp → VK → Prop
abbrev TT := St → Hp → (Bool → Hp → Prop) → Prop
abbrev TA := St → Hp → (List V → Hp → Prop) → Prop
structure Ends where
  nx : St → Hp → Prop
  rt : VK
  bk : St → Hp → Prop := fun _ _ => False
  ct : St → Hp → Prop := fun _ _ => False
abbrev TS := Ends → St → Hp → Prop

def EP (X : Cx) (pins : List (Addr × Obj)) (σ : St) (Q : VK) (u : Value) (s' : Shared) : Prop := ∃ v H', Inv X pins σ H' s' ∧ RelV v u ∧ Q v H'
def TP (X : Cx) (pins : List (Addr × Obj)) (σ : St) (Q : Bool → Hp → Prop) (b : Bool) (s' : Shared) : Prop := ∃ H', Inv X pins σ H' s' ∧ Q b H'
def AP (X : Cx) (pins : List (Addr × Obj)) (σ : St) (Q : List V → Hp → Prop) (us : List Value) (s' : Shared) : Prop := ∃ vs H', Inv X pins σ H' s' ∧ Vals vs us ∧ Q vs H'
def SP (X : Cx) (pins : List (Addr × Obj)) (D : Ends) (f : Flow) (s' : Shared) : Prop :=
  match f with
  | .next => ∃ σ' H', Inv X pins σ' H' s' ∧ D.nx σ' H'
  | .brk => ∃ σ' H', Inv X pins σ' H' s' ∧ D.bk σ' H'
  | .cont => ∃ σ' H', Inv X pins σ' H' s' ∧ D.ct σ' H'
  | .ret u => ∃ v σ' H', Inv X pins σ' H' s' ∧ RelV v u ∧ D.rt v H'

def PE (X : Cx) (e : Expr) (t : TE) : Prop :=
  ∀ (pins : List (Addr × Obj)) (s : Shared) (σ : St) (H : Hp) (Q : VK), Inv X pins σ H s → t σ H Q → wpAny (model X.prog X.w) X.A (eval e X.env) (EP X pins σ Q) X.xe s
def PT (X : Cx) (e : Expr) (t : TT) : Prop :=
  ∀ (pins : List (Addr × Obj)) (s : Shared) (σ : St) (H : Hp) (Q : Bool → Hp → Prop), Inv X pins σ H s → t σ H Q → wpAny (model X.prog X.w) X.A (isTrue e X.env (eval e X.env)) (TP X pins σ Q) X.xe s
def PW (X : Cx) (e : Expr) (t : TT) : Prop :=
  ∀ (whole : Sem Value) (pins : List (Addr × Obj)) (s : Shared) (σ : St) (H : Hp) (Q : Bool → Hp → Prop), Inv X pins σ H s → t σ H Q → wpAny (model X.prog X.w) X.A (isTrue e X.env whole) (TP X pins σ Q) X.xe s
theorem PW.pt {X : Cx} {e : Expr} {t : TT} (h : PW X e t) : PT X e t := h _
def PA (X : Cx) (es : List Expr) (t : TA) : Prop :=
  ∀ (pos : Pos) (pins : List (Addr × Obj)) (s : Shared) (σ : St) (H : Hp) (Q : List V → Hp → Prop), Inv X pins σ H s → t σ H Q → wpAny (model X.prog X.w) X.A (spliced (backTo pos (starEach es X.env))) (AP X pins σ Q) X.xe s
def PS (X : Cx) (st : Stmt) (t : TS) : Prop :=
  ∀ (pins : List (Addr × Obj)) (s : Shared) (σ : St) (H : Hp) (D : Ends), Inv X pins σ H s → t D σ H → wpAny (model X.prog X.w) X.A (exec st X.env) (SP X pins D) X.xe s
def PSs (X : Cx) (st : List Stmt) (t : TS) : Prop :=
  ∀ (pins : List (Addr × Obj)) (s : Shared) (σ : St) (H : Hp) (D : Ends), Inv X pins σ H s → t D σ H → wpAny (model X.prog X.w) X.A (execs st X.env) (SP X pins D) X.xe s
theorem thn {α : Type} {t : Sem α} {Q Q' : α → Shared → Prop} {M : Model} {A : Around} {E : Value → Shared → Prop} {s : Shared} (h : wpAny M A t Q E s) (hQ : ∀ a s, Q a s → Q' a s) : wpAny M A t Q' E s := wpAny_mono h hQ fun _ _ x => x
end L2

namespace L2
open PySem PySem.Spec PyProof.Rows
section
variable {X : Cx}

def tVar (i : Nat) : TE := fun σ H Q => ∃ v, σ[i]? = some (some v) ∧ Q v H
def tC (v : V) : TE := fun _ H Q => Q v H
theorem pe_var {i : Nat} {x : Str} {pos : Pos} (hN : X.N[i]? = some x) (hv : Vis X.env.scope x) (hd : (x == ("__debug__" : Str)) = false := by decide) (hcd : (x == ("__classdict__" : Str)) = false := by decide) : PE X (.Name x pos) (tVar i) := by
  intro pins s σ H Q I h
  obtain ⟨v, e, h⟩ := h
  obtain ⟨m, hn, hl⟩ := I.loc
  obtain ⟨u, r, l⟩ := hl i x v hN e hv
  have fin : EP X pins σ Q u s := ⟨v, H, I, r, h⟩
  rcases l with ⟨hk, hm⟩ | ⟨hk, c, hc, hcell⟩
  · exact wpAny_Name (wpAny_loadName_local I.ok.kind hk hn hm fin) hd
  · rcases hk with hk | hk
    · exact wpAny_Name (wpAny_loadName_cell I.ok.kind hk hc hcell fin) hd
    · exact wpAny_Name (wpAny_loadName_free I.ok.kind hk hc hcell fin hcd) hd
theorem pe_int {i j pos} : PE X (.Constant (.int i) j pos) (tC (.int i)) := fun _ _ _ H _ I h => wpAny_Constant_int ⟨.int i, H, I.tok _, ⟨_, rfl⟩, h⟩
theorem pe_bl {b j pos} : PE X (.Constant (.bool b) j pos) (tC (.bl b)) := fun _ _ _ H _ I h => Constant_bool ⟨.bl b, H, I, rfl, h⟩
def Gl (X : Cx) (x : Str) : Prop := X.env.kindOf x = some .globalImplicit
theorem ld_glob {E : Value → Shared → Prop} {pins : List (Addr × Obj)} {s : Shared} {σ : St} {H : Hp} {x : Str} {u : Value} {pos : Pos} {Q : Value → Shared → Prop} (I : Inv X pins σ H s) (hg : Gl X x) (hm : X.mg x = some u) (h : Q u s)
    (hd : (x == ("__debug__" : Str)) = false := by decide) : wpAny (model X.prog X.w) X.A (eval (.Name x pos) X.env) Q E s :=
  Calls.Name_function_global I.ok.kind hg (Calls.loadGlobal_global (by rw [I.ok.glob]; exact I.mod.glob.keeps I.bk) hm h) hd
theorem ld_blt {E : Value → Shared → Prop} {pins : List (Addr × Obj)} {s : Shared} {σ : St} {H : Hp} {x : Str} {u : Value} {pos : Pos} {Q : Value → Shared → Prop} (I : Inv X pins σ H s) (hg : Gl X x) (hm : X.mg x = none) (hv : bootBuiltins x = some u) (h : Q u s)
    (hn : x ≠ "__name__" := by decide) (hd : (x == ("__debug__" : Str)) = false := by decide) : wpAny (model X.prog X.w) X.A (eval (.Name x pos) X.env) Q E s := by
  obtain ⟨mb, h1, h2⟩ := I.mod.blt
  exact Calls.Name_function_global I.ok.kind hg (Calls.loadGlobal_builtin (by rw [I.ok.glob]; exact I.mod.glob.keeps I.bk) hm (by rw [I.ok.blt]; exact h1.keeps I.bk) ((h2 x hn).trans hv) h) hd
theorem pe_glob {x : Str} {v : V} {u : Value} {pos : Pos} (hg : Gl X x) (hm : X.mg x = some u) (r : RelV v u) (hd : (x == ("__debug__" : Str)) = false := by decide) : PE X (.Name x pos) (tC v) :=
  fun _ _ _ H _ I h => ld_glob I hg hm ⟨v, H, I, r, h⟩ hd
theorem pe_bltn {x : Str} {v : V} {u : Value} {pos : Pos} (hg : Gl X x) (hm : X.mg x = none) (hv : bootBuiltins x = some u) (r : RelV v u) (hn : x ≠ "__name__" := by decide) (hd : (x == ("__debug__" : Str)) = false := by decide) : PE X (.Name x pos) (tC v) :=
  fun _ _ _ H _ I h => ld_blt I hg hm hv ⟨v, H, I, r, h⟩ hn hd

variable {a b : Expr} {ta tb : TE} {pos : Pos}
def tB (t : TE) : TT := fun σ H Q => t σ H fun x H1 => ∃ c, x = .bl c ∧ Q c H1
theorem pt_val {e : Expr} {t : TE} (h : PE X e t) (he : ∀ whole, isTrue e X.env whole = (do let v ← whole; standAt e.pos; holding [v] (truthy v)) := by intro _; rfl) : PT X e (tB t) := by
  intro pins s σ H Q I hw
  refine isTrue_plain (thn (h pins s σ H _ I hw) fun v s1 ⟨x, H1, I1, r1, q1⟩ => ?_) (he _)
  obtain ⟨d, rfl, q⟩ := q1
  cases r1
  exact wpAny_truthy_bool ⟨H1, I1, q⟩

variable {tA tB' : TT} {rest : List Expr}
def tOr (t u : TT) : TT := fun σ H Q => t σ H fun c H1 => if c = true then Q true H1 else u σ H1 Q
def tNot (t : TT) : TT := fun σ H Q => t σ H fun c H1 => Q (!c) H1
theorem pw_or1 (ha : PT X a tA) : PW X (.BoolOp .Or [a] pos) tA := by
  intro wh pins s σ H Q I h
  refine isTrue_or (thn (ha pins s σ H Q I h) fun c s1 e => ?_)
  cases c with
  | false => exact isTrue_or_nil e
  | true => exact e
theorem pw_or (ha : PT X a tA) (hb : PW X (.BoolOp .Or (b :: rest) pos) tB') : PW X (.BoolOp .Or (a :: b :: rest) pos) (tOr tA tB') := by
  intro wh pins s σ H Q I h
  refine isTrue_or (thn (ha pins s σ H _ I h) fun c s1 ⟨H1, I1, q1⟩ => ?_)
  cases c with
  | true => exact ⟨H1, I1, q1⟩
  | false => exact hb wh pins s1 σ H1 Q I1 q1
theorem pt_not (ha : PT X a tA) : PT X (.UnaryOp .Not a pos) (tNot tA) := by
  intro pins s σ H Q I h
  exact isTrue_not (ha pins s σ H (fun c H1 => Q (!c) H1) I h)
def tAndV (ta tb : TE) : TE := fun σ H Q => ta σ H fun x H1 => ∃ c, x = .bl c ∧ if c = true then tb σ H1 Q else Q (.bl false) H1
def tOrV (ta tb : TE) : TE := fun σ H Q => ta σ H fun x H1 => ∃ c, x = .bl c ∧ if c = true then Q (.bl true) H1 else tb σ H1 Q
def tNotV (ta : TE) : TE := fun σ H Q => ta σ H fun x H1 => ∃ c, x = .bl c ∧ Q (.bl (!c)) H1
theorem pe_one {op} {t : TE} (h : PE X a t) : PE X (.BoolOp op [a] pos) t := fun pins s σ H Q I hw => BoolOp_one (h pins s σ H Q I hw)
theorem pe_and (ha : PE X a ta) (hb : PE X (.BoolOp .And (b :: rest) pos) tb) : PE X (.BoolOp .And (a :: b :: rest) pos) (tAndV ta tb) := by
  intro pins s σ H Q I h
  refine BoolOp_and (thn (ha pins s σ H _ I h) fun v s1 ⟨x, H1, I1, r1, q1⟩ => ?_)
  obtain ⟨c, rfl, q1⟩ := q1
  cases r1
  refine wpAny_truthy_bool ?_
  cases c with
  | true => exact hb pins s1 σ H1 Q I1 q1
  | false => exact ⟨.bl false, H1, I1, rfl, q1⟩
theorem pe_or (ha : PE X a ta) (hb : PE X (.BoolOp .Or (b :: rest) pos) tb) : PE X (.BoolOp .Or (a :: b :: rest) pos) (tOrV ta tb) := by
  intro pins s σ H Q I h
  refine BoolOp_or (thn (ha pins s σ H _ I h) fun v s1 ⟨x, H1, I1, r1, q1⟩ => ?_)
  obtain ⟨c, rfl, q1⟩ := q1
  cases r1
  refine wpAny_truthy_bool ?_
  cases c with
  | false => exact hb pins s1 σ H1 Q I1 q1
  | true => exact ⟨.bl true, H1, I1, rfl, q1⟩
theorem pe_not (ha : PE X a ta) : PE X (.UnaryOp .Not a pos) (tNotV ta) := by
  intro pins s σ H Q I h
  refine UnaryOp_ (thn (ha pins s σ H _ I h) fun v s1 ⟨x, H1, I1, r1, q1⟩ => ?_)
  obtain ⟨c, rfl, q1⟩ := q1
  cases r1
  exact not_of (wpAny_truthy_bool ⟨.bl (!c), H1, I1, rfl, q1⟩)
def tIf (t : TT) (ta tb : TE) : TE := fun σ H Q => t σ H fun c H1 => if c = true then ta σ H1 Q else tb σ H1 Q
theorem pe_ifExp {c : Expr} (hc : PT X c tA) (ha : PE X a ta) (hb : PE X b tb) : PE X (.IfExp c a b pos) (tIf tA ta tb) := by
  intro pins s σ H Q I h
  refine wpAny_IfExp (thn (hc pins s σ H _ I h) fun d s1 ⟨H1, I1, q1⟩ => ?_)
  cases d with
  | true => exact ha pins s1 σ H1 Q I1 q1
  | false => exact hb pins s1 σ H1 Q I1 q1
end
end L2

namespace L2
open PySem PySem.Spec PyProof.Rows

def SqL (K : PySem.W.Frag) (H : Hp) (a : Addr) (xs : List V) : Prop :=
  Rd H a (.lst xs) ∨
    ∃ (o : Obj) (its : Array Value) (n : Nat), K.lookup a = some o ∧ o.cls = .type "list" ∧ o.dict = none ∧ o.data = .seq its n ∧ its.size ≤ sizeLine ∧ Vals xs its.toList
def SqT (K : PySem.W.Frag) (H : Hp) (a : Addr) (xs : List V) : Prop :=
  Rd H a (.tup xs) ∨
    ∃ (o : Obj) (its : Array Value) (n : Nat), K.lookup a = some o ∧ o.cls = .type "tuple" ∧ o.data = .seq its n ∧ its.size ≤ sizeLine ∧ Vals xs its.toList
def absV : Value → Option V
  | .none => some .non
  | .bool b => some (.bl b)
  | .int i _ => some (.int i)
  | .str x _ => some (.str x)
  | .bytes b _ => some (.byt b)
  | .float b _ => some (.flt b)
  | .ref a => some (.ref a)
  | .type n => some (.ty n)
  | _ => none
theorem RelV.abs {x : V} {u : Value} (r : RelV x u) : absV u = some x := by
  cases x with
  | non => cases r; rfl
  | bl _ => cases r; rfl
  | int _ => obtain ⟨t, rfl⟩ := r; rfl
  | str _ => obtain ⟨t, rfl⟩ := r; rfl
  | byt _ => obtain ⟨t, rfl⟩ := r; rfl
  | flt _ => obtain ⟨t, rfl⟩ := r; rfl
  | ref _ => cases r; rfl
  | ty _ => cases r; rfl
theorem RelV.inj {x y : V} {u : Value} (r : RelV x u) (q : RelV y u) : x = y := Option.some.inj (r.abs.symm.trans q.abs)
theorem Vals.inj : ∀ {xs ys : List V} {us : List Value}, Vals xs us → Vals ys us → xs = ys
  | _, _, _, .nil, .nil => rfl
  | _, _, _, .cons r t, .cons r' t' => by rw [r.inj r', Vals.inj t t']
section
variable {X : Cx} {pins : List (Addr × Obj)} {σ : St} {H : Hp} {s : Shared} {a : Addr} {xs ys : List V}
theorem SqL.of {K : PySem.W.Frag} (h : H a = some (.lst xs)) : SqL K H a xs := .inl (.inl h)
theorem SqT.of {K : PySem.W.Frag} (h : H a = some (.tup xs)) : SqT K H a xs := .inl (.inl h)
theorem Inv.list (I : Inv X pins σ H s) (h : SqL X.K H a xs) : ∃ its : List Value, Vals xs its ∧ PlainL s.heap a its.toArray ∧ xs.length ≤ sizeLine := by
  rcases h with h | ⟨o, its, n, hk, hc, hd, hs, hz, r⟩
  · obtain ⟨z, its, n, r, e⟩ := h.ok I.hok
    exact ⟨its, r, ⟨_, n, e, rfl, rfl, rfl⟩, z⟩
  · refine ⟨its.toList, r, ⟨o, n, I.kIn a o hk, hc, hd, by simpa using hs⟩, ?_⟩
    have e := r.length
    simp only [Array.length_toList] at e
    omega
theorem Inv.tuple (I : Inv X pins σ H s) (h : SqT X.K H a xs) : ∃ its : List Value, Vals xs its ∧ IsTup s.heap a its.toArray ∧ xs.length ≤ sizeLine := by
  rcases h with h | ⟨o, its, n, hk, hc, hs, hz, r⟩
  · obtain ⟨z, its, r, p⟩ := h.ok I.hok
    exact ⟨its, r, p, z⟩
  · refine ⟨its.toList, r, ⟨o, I.kIn a o hk, hc, n, by simpa using hs⟩, ?_⟩
    have e := r.length
    simp only [Array.length_toList] at e
    omega
theorem Inv.list_inj (I : Inv X pins σ H s) (h : SqL X.K H a xs) (h' : SqL X.K H a ys) : xs = ys := by
  obtain ⟨its, r, ⟨o, n, e, _, _, d⟩, _⟩ := I.list h
  obtain ⟨its', r', ⟨o', n', e', _, _, d'⟩, _⟩ := I.list h'
  rw [e] at e'; cases e'
  rw [d] at d'
  injection d' with d1 _
  have : its = its' := by simpa using congrArg Array.toList d1
  subst this
  exact r.inj r'
end

abbrev Cx.wish (X : Cx) (E : Value → Shared → Prop) : Cx := { X with xe := E }
abbrev Cx.nox (X : Cx) : Cx := X.wish fun _ _ => False
theorem Cx.Ok.wish {X : Cx} (ok : X.Ok) (E : Value → Shared → Prop) : (X.wish E).Ok :=
  ⟨ok.mod, ok.kind, ok.glob, ok.blt, ok.above, ok.inj, ok.has, ok.cab, ok.hd, ok.frames, ok.stk, ok.exf, ok.bs, ok.bsz, ok.noex, ok.exfs, ok.funs, ok.frf, ok.tab⟩
theorem Cx.Ok.unwish {X : Cx} {E : Value → Shared → Prop} (ok : (X.wish E).Ok) : X.Ok :=
  ⟨ok.mod, ok.kind, ok.glob, ok.blt, ok.above, ok.inj, ok.has, ok.cab, ok.hd, ok.frames, ok.stk, ok.exf, ok.bs, ok.bsz, ok.noex, ok.exfs, ok.funs, ok.frf, ok.tab⟩
section
variable {X : Cx} {pins : List (Addr × Obj)} {σ : St} {H : Hp} {s : Shared} {E : Value → Shared → Prop}
theorem Inv.wish (I : Inv X pins σ H s) (E : Value → Shared → Prop) : Inv (X.wish E) pins σ H s := ⟨I.ok.wish E, I.os, I.bare, I.base, I.loc, I.cell, I.free, I.freeC, I.pin, I.hok, I.len⟩
theorem Inv.unwish (I : Inv (X.wish E) pins σ H s) : Inv X pins σ H s := ⟨I.ok.unwish, I.os, I.bare, I.base, I.loc, I.cell, I.free, I.freeC, I.pin, I.hok, I.len⟩
theorem SP.unwish {D : Ends} {f : Flow} {s' : Shared} (h : SP (X.wish E) pins D f s') : SP X pins D f s' := by
  cases f with
  | next => obtain ⟨σ', H', I, q⟩ := h; exact ⟨σ', H', I.unwish, q⟩
  | brk => obtain ⟨σ', H', I, q⟩ := h; exact ⟨σ', H', I.unwish, q⟩
  | cont => obtain ⟨σ', H', I, q⟩ := h; exact ⟨σ', H', I.unwish, q⟩
  | ret u => obtain ⟨v, σ', H', I, r, q⟩ := h; exact ⟨v, σ', H', I.unwish, r, q⟩
theorem PE.nox {e : Expr} {t : TE} (h : PE X.nox e t) : PE X e t := fun pins s σ H Q I hw =>
  wpAny_mono (h pins s σ H Q (I.wish _) hw) (fun _ _ ⟨v, H', I', r, q⟩ => ⟨v, H', I'.unwish, r, q⟩) fun _ _ z => False.elim z
theorem PT.nox {e : Expr} {t : TT} (h : PT X.nox e t) : PT X e t := fun pins s σ H Q I hw =>
  wpAny_mono (h pins s σ H Q (I.wish _) hw) (fun _ _ ⟨H', I', q⟩ => ⟨H', I'.unwish, q⟩) fun _ _ z => False.elim z
theorem PSs.nox {st : List Stmt} {t : TS} (h : PSs X.nox st t) : PSs X st t := fun pins s σ H D I hw =>
  wpAny_mono (h pins s σ H D (I.wish _) hw) (fun _ _ q => q.unwish) fun _ _ z => False.elim z
end

section
variable {X : Cx} {st : Stmt} {rest : List Stmt} {t u : TS} {e : Expr} {te : TE} {pos : Pos}
def tNext : TS := fun D σ H => D.nx σ H
def tSeq (t u : TS) : TS := fun D σ H => t { D with nx := u D } σ H
theorem pss_nil : PSs X [] tNext := fun _ _ σ H _ I h => wpAny_execs_nil ⟨σ, H, I, h⟩
theorem pss_cons (h1 : PS X st t) (h2 : PSs X rest u) : PSs X (st :: rest) (tSeq t u) := by
  intro pins s σ H D I h
  refine wpAny_execs_cons (thn (h1 pins s σ H { D with nx := u D } I h) fun f s1 q => ?_)
  cases f with
  | next =>
    obtain ⟨σ', H', I', q⟩ := q
    exact h2 pins s1 σ' H' D I' q
  | ret v => exact q
  | brk => exact q
  | cont => exact q
theorem pss_one (h1 : PS X st t) : PSs X [st] t := by
  intro pins s σ H D I h
  refine wpAny_execs_cons (thn (h1 pins s σ H D I h) fun f s1 q => ?_)
  cases f with
  | next => exact wpAny_execs_nil q
  | ret v => exact q
  | brk => exact q
  | cont => exact q
theorem Inv.quiet {pins : List (Addr × Obj)} {σ : St} {H : Hp} {s : Shared} (I : Inv X pins σ H s) : interactive X.env = false := by simp [interactive, I.ok.kind]
def tDrop (te : TE) : TS := fun D σ H => te σ H fun _ H1 => D.nx σ H1
theorem ps_expr (he : PE X e te) (hs : swapsWith e none pos.line X.env = pure false := by rfl) : PS X (.Expr e pos) (tDrop te) := by
  intro pins s σ H D I h
  exact wpAny_Expr_any (thn (he pins s σ H _ I h) fun v s1 ⟨x, H1, I1, r1, q1⟩ => ⟨σ, H1, I1, q1⟩) I.quiet hs
def tRet (te : TE) : TS := fun D σ H => te σ H D.rt
theorem ps_ret (he : PE X e te) : PS X (.Return (some e) pos) (tRet te) := by
  intro pins s σ H D I h
  exact wpAny_Return_some (thn (he pins s σ H _ I h) fun v s1 ⟨x, H1, I1, r1, q1⟩ => ⟨x, σ, H1, I1, r1, q1⟩)
def tIfS (c : TT) (t u : TS) : TS := fun D σ H => c σ H fun b H1 => if b = true then t D σ H1 else u D σ H1
theorem ps_if {c : Expr} {a b : List Stmt} {tc : TT} (hc : PT X c tc) (ha : PSs X a t) (hb : PSs X b u) : PS X (.If c a b pos) (tIfS tc t u) := by
  intro pins s σ H D I h
  refine wpAny_If (thn (hc pins s σ H _ I h) fun d s1 ⟨H1, I1, q1⟩ => ?_)
  cases d with
  | true => exact ha pins s1 σ H1 D I1 q1
  | false => exact hb pins s1 σ H1 D I1 q1
def tNever : TS := fun _ _ _ => False
theorem ps_never : PS X st tNever := fun _ _ _ _ _ _ h => h.elim
end

abbrev TG := V → St → Hp → (St → Hp → Prop) → Prop
abbrev TGs := List V → St → Hp → (St → Hp → Prop) → Prop
def PG (X : Cx) (target : Expr) (t : TG) : Prop :=
  ∀ (pins : List (Addr × Obj)) (s : Shared) (σ : St) (H : Hp) (v : V) (u : Value) (Q : St → Hp → Prop), Inv X pins σ H s → RelV v u → t v σ H Q →
    wpAny (model X.prog X.w) X.A (assign target X.env u) (fun _ s' => ∃ σ' H', Inv X pins σ' H' s' ∧ Q σ' H') X.xe s
def PGs (X : Cx) (ts : List Expr) (t : TGs) : Prop :=
  ∀ (pins : List (Addr × Obj)) (s : Shared) (σ : St) (H : Hp) (vs : List V) (us : List Value) (Q : St → Hp → Prop), Inv X pins σ H s → Vals vs us → t vs σ H Q →
    wpAny (model X.prog X.w) X.A (assignInOrder ((assignEach ts X.env).map (·.2)) us) (fun _ s' => ∃ σ' H', Inv X pins σ' H' s' ∧ Q σ' H') X.xe s
abbrev TSet := V → V → V → Hp → (Hp → Prop) → Prop
abbrev TIp := V → V → Hp → VK → Prop
def PIp (X : Cx) (op : Operator) (t : TIp) : Prop :=
  ∀ (pins : List (Addr × Obj)) (s : Shared) (σ : St) (H : Hp) (x y : V) (v u : Value) (Q : VK), Inv X pins σ H s → RelV x v → RelV y u → t x y H Q →
    wpAny (model X.prog X.w) X.A (inplaceOp op v u) (EP X pins σ Q) X.xe s
section
variable {X : Cx} {pos : Pos}
def gName (i : Nat) : TG := fun v σ H Q => Q (σ.set i (some v)) H
theorem pg_name {i : Nat} {x : Str} (hN : X.N.Nodup) (hi : X.N[i]? = some x) (hx : Loc X.env.scope x) (hf : X.fn x = true ∨ X.env.scope.names.lookup x = some .local := by first | exact .inl rfl | exact .inr rfl | assumption) : PG X (.Name x pos) (gName i) := by
  intro pins s σ H v u Q I r h
  exact wpAny_assign_Name (store_ok I hN hi hx r (fun s' I' => ⟨_, H, I', h⟩) hf)
def gNil : TGs := fun vs σ H Q => vs = [] ∧ Q σ H
def gCons (t : TG) (u : TGs) : TGs := fun vs σ H Q => ∃ v r, vs = v :: r ∧ t v σ H fun σ' H' => u r σ' H' Q
theorem pgs_nil : PGs X [] gNil := by
  intro pins s σ H vs us Q I r h
  obtain ⟨e, h⟩ := h
  subst e
  cases r
  exact assignInOrder_nil ⟨σ, H, I, h⟩
theorem pgs_cons {e : Expr} {es : List Expr} {t : TG} {u : TGs} (h1 : PG X e t) (h2 : PGs X es u)
    (hs : (assignEach (e :: es) X.env).map (·.2) = assign e X.env :: (assignEach es X.env).map (·.2) := by rfl) : PGs X (e :: es) (gCons t u) := by
  intro pins s σ H vs us Q I r h
  obtain ⟨v, vr, e1, h⟩ := h
  subst e1
  cases r with
  | cons r rr =>
    rw [hs]
    refine assignInOrder_cons (thn (h1 pins s σ H _ _ _ I r h) fun _ s1 ⟨σ1, H1, I1, q1⟩ => ?_)
    exact h2 pins s1 σ1 H1 _ _ Q I1 rr q1
def gTup (K : PySem.W.Frag) (n : Nat) (t : TGs) : TG := fun v σ H Q => ∃ a xs, v = .ref a ∧ SqT K H a xs ∧ xs.length = n ∧ t xs σ H Q
theorem pg_tup {es : List Expr} {k : Nat} {t : TGs} {n : Nat} (hc : X.calm = true) (h : PGs X es t)
    (hn : (assignEach es X.env).length = n := by rfl) (hst : (assignEach es X.env).findIdx? (·.1) = none := by rfl) : PG X (.Tuple es k pos) (gTup X.K n t) := by
  intro pins s σ H v u Q I r hw
  obtain ⟨a, xs, e1, hq, hl, hw⟩ := hw
  subst e1
  cases r
  obtain ⟨its, rv, ht, hz⟩ := I.tuple hq
  refine assign_Tuple_tuple (I.ok.hd hc) ht (by simp [hn, ← hl, rv.length]) hst fun h' hx => ?_
  have I1 : Inv X pins σ H { s with heap := h' } := I.kept (t' := s.toks) fun b o e => hx b o (Nat.ne_of_lt (Heap.lt_size e)) e
  exact h pins _ σ H xs _ Q I1 (by simpa using rv) hw
def gSub (to ti : TE) (t : TSet) : TG := fun v σ H Q => to σ H fun o H1 => ti σ H1 fun i H2 => t o i v H2 fun H3 => Q σ H3
def tAsg (te : TE) (g : TG) : TS := fun D σ H => te σ H fun x H1 => g x σ H1 D.nx
theorem ps_set {i : Nat} {x : Str} {e : Expr} {te : TE} {pos' : Pos} (hN : X.N.Nodup) (hi : X.N[i]? = some x) (hx : Loc X.env.scope x) (he : PE X e te) (hs : swapsWith e (some (.Name x pos')) pos.line X.env = pure false := by rfl) (hf : X.fn x = true ∨ X.env.scope.names.lookup x = some .local := by first | exact .inl rfl | exact .inr rfl | assumption) :
    PS X (.Assign [.Name x pos'] e pos) (tAsg te (gName i)) := by
  intro pins s σ H D I h
  refine wpAny_Assign_Name (thn (he pins s σ H _ I h) fun v s1 ⟨y, H1, I1, r1, q1⟩ => ?_) hs
  exact store_ok I1 hN hi hx r1 (fun s2 I2 => ⟨_, H1, I2, q1⟩) hf
def tAug (i : Nat) (te : TE) (ti : TIp) : TS := fun D σ H => ∃ x, σ[i]? = some (some x) ∧ te σ H fun y H1 => ti x y H1 fun z H2 => D.nx (σ.set i (some z)) H2
theorem ps_aug {i : Nat} {x : Str} {e : Expr} {te : TE} {op : Operator} {ti : TIp} {pos' : Pos} (hN : X.N.Nodup) (hi : X.N[i]? = some x) (hx : Loc X.env.scope x) (he : PE X e te) (ho : PIp X op ti) (hf : X.fn x = true ∨ X.env.scope.names.lookup x = some .local := by first | exact .inl rfl | exact .inr rfl | assumption) :
    PS X (.AugAssign (.Name x pos') op e pos) (tAug i te ti) := by
  intro pins s σ H D I h
  obtain ⟨v, e1, h⟩ := h
  obtain ⟨m, hn, hl⟩ := I.loc
  have vis : Vis X.env.scope x := by rcases hx with k | k; exact .inl k; exact .inr (.inl k)
  obtain ⟨u, r, l⟩ := hl i x v hi e1 vis
  refine wpAny_AugAssign_Name ?_
  have go : wpAny (model X.prog X.w) X.A (eval e X.env) (fun w s₂ => wpAny (model X.prog X.w) X.A (inplaceOp op u w) (fun r s₃ => wpAny (model X.prog X.w) X.A (storeName X.env x r) (fun _ => SP X pins D .next) X.xe s₃) X.xe s₂) X.xe s := by
    refine thn (he pins s σ H _ I h) fun w s1 ⟨y, H1, I1, r1, q1⟩ => ?_
    refine thn (ho pins s1 σ H1 v y u w _ I1 r r1 q1) fun z s2 ⟨zv, H2, I2, r2, q2⟩ => ?_
    exact store_ok I2 hN hi hx r2 (fun s3 I3 => ⟨_, H2, I3, q2⟩) hf
  rcases l with ⟨hk, hm⟩ | ⟨hk, c, hc, hcell⟩
  · exact wpAny_loadName_local I.ok.kind hk hn hm go
  · rcases hk with hk | hk
    · exact wpAny_loadName_cell I.ok.kind hk hc hcell go
    · rcases hx with k | k
      · have : X.env.scope.names.lookup x = some .free := hk
        rw [k] at this; cases this
      · have : X.env.scope.names.lookup x = some .free := hk
        rw [k] at this; cases this
def ipI (f : Int → Int → Int) : TIp := fun x y H Q => ∃ i j, x = .int i ∧ y = .int j ∧ Q (.int (f i j)) H
theorem ip_add : PIp X .Add (ipI fun i j => i + j) := by
  intro pins s σ H x y v u Q I r1 r2 h
  obtain ⟨i, j, e1, e2, q⟩ := h
  subst e1; subst e2
  obtain ⟨t, rfl⟩ := r1
  obtain ⟨t', rfl⟩ := r2
  exact iadd_int ⟨.int _, H, I.tok _, ⟨_, rfl⟩, q⟩
theorem ip_sub : PIp X .Sub (ipI fun i j => i - j) := by
  intro pins s σ H x y v u Q I r1 r2 h
  obtain ⟨i, j, e1, e2, q⟩ := h
  subst e1; subst e2
  obtain ⟨t, rfl⟩ := r1
  obtain ⟨t', rfl⟩ := r2
  exact isub_int ⟨.int _, H, I.tok _, ⟨_, rfl⟩, q⟩
end

section
variable {X : Cx} {pos : Pos}
def tWhile (c : TT) (tb : TS) : TS := fun D σ H => ∃ W : Nat → St → Hp → Prop, (∃ m, W m σ H) ∧ ∀ m σ H, W m σ H →
  c σ H fun b H1 => if b = true then ∃ N : St → Hp → Prop, (∀ σ' H', N σ' H' → ∃ m', m' < m ∧ W m' σ' H') ∧ tb { D with nx := N, ct := N, bk := D.nx } σ H1 else D.nx σ H1
theorem ps_while {c : Expr} {body : List Stmt} {tc : TT} {tb : TS} (hp : PassesOwn (model X.prog X.w) X.A X.env X.xe) (hc : PT X c tc) (hb : PSs X body tb) : PS X (.While c body [] pos) (tWhile tc tb) := by
  intro pins s σ H D I h
  obtain ⟨W, ⟨m0, w0⟩, turn⟩ := h
  refine wpAny_While (codeAny_whileLoop (fun n s' => ∃ σ' H', Inv X pins σ' H' s' ∧ W n σ' H') ?_ m0 ⟨σ, H, I, w0⟩)
  rintro n s1 ⟨σ1, H1, I1, w1⟩
  refine wpAny_passesOwn hp (thn (hc pins s1 σ1 H1 _ I1 (turn n σ1 H1 w1)) fun b s2 ⟨H2, I2, q2⟩ => ?_)
  cases b with
  | true =>
    obtain ⟨N, hN, q2⟩ := q2
    rw [if_pos rfl]
    refine wpAny_passesOwn hp (thn (hb pins s2 σ1 H2 _ I2 q2) fun f s3 q3 => ?_)
    cases f with
    | next =>
      obtain ⟨σ3, H3, I3, n3⟩ := q3
      obtain ⟨m', hm, w3⟩ := hN σ3 H3 n3
      exact ⟨m', hm, σ3, H3, I3, w3⟩
    | cont =>
      obtain ⟨σ3, H3, I3, n3⟩ := q3
      obtain ⟨m', hm, w3⟩ := hN σ3 H3 n3
      exact ⟨m', hm, σ3, H3, I3, w3⟩
    | brk => exact q3
    | ret v => exact q3
  | false =>
    rw [if_neg Bool.false_ne_true]
    exact wpAny_execs_nil ⟨σ1, H2, I2, q2⟩
end

structure It where
  go : Nat → Hp → Prop
  yld : Nat → Hp → V → Hp → Prop
  stop : Nat → Hp → Prop
def FpOk (X : Cx) (pins : List (Addr × Obj)) (H : Hp) (b : Addr) : Prop :=
  H b = none ∧ b ≠ X.env.locals ∧ b ∉ X.fs ∧ (b ∈ X.ex ∨ X.s_0.heap.objs.size ≤ b) ∧ (∀ x c, X.env.cells.lookup x = some c → c ≠ b) ∧ ∀ p ∈ X.pn ++ pins, p.1 ≠ b
theorem Inv.fpOk {X : Cx} {pins : List (Addr × Obj)} {σ : St} {H H' : Hp} {s : Shared} {b : Addr} (I : Inv X pins σ H s) (hb : s.heap.objs.size ≤ b) (hn : H' b = none) : FpOk X pins H' b := by
  refine ⟨hn, Nat.ne_of_gt (Nat.lt_of_lt_of_le I.lt hb), I.nofs hb, .inr (Nat.le_trans I.sz hb), fun x c e z => ?_, fun p hp z => ?_⟩
  · obtain ⟨v, q⟩ := I.cell x c e
    exact absurd (Nat.lt_of_lt_of_le q.lt (by rw [z]; exact hb)) (Nat.lt_irrefl _)
  · exact absurd (Nat.lt_of_lt_of_le (Heap.lt_size (I.pin p hp).1) (by rw [z]; exact hb)) (Nat.lt_irrefl _)
structure Turn (P : Program) (w : World) (K : PySem.W.Frag) (tg : Expr) (J : It) (fp : List Addr) (it : Addr) (tn : Nat → Heap → Prop) : Prop where
  mem : it ∈ fp
  obj : ∀ i h, tn i h → ∀ b ∈ fp, ∃ o, h.get? b = some o ∧ ∀ v, o.data ≠ .cell v
  keep : ∀ i h h', tn i h → (∀ b ∈ fp, ∀ o, h.get? b = some o → h'.get? b = some o) → tn i h'
  item : ∀ (X : Cx), X.prog = P → X.w = w → X.K = K → X.calm = true → ∀ (i : Nat) (pins : List (Addr × Obj)) (s : Shared) (σ : St) (H : Hp) (E : Value → Shared → Prop), Inv X pins σ H s → (∀ b ∈ fp, FpOk X pins H b) → tn i s.heap → J.go i H →
    wpAny (model P w) X.A (pyNext (.ref it)) (fun r s1 => ∃ u, r = some u ∧
      wpAny (model P w) X.A (letOwnedTupleGo tg (.ref it) u) (fun _ s2 => ∃ x H', Inv X pins σ H' s2 ∧ RelV x u ∧ J.yld i H x H' ∧ tn (i + 1) s2.heap ∧ ∀ b ∈ fp, H' b = none) E s1) E s
  done : ∀ (X : Cx), X.prog = P → X.w = w → X.K = K → X.calm = true → ∀ (i : Nat) (pins : List (Addr × Obj)) (s : Shared) (σ : St) (H : Hp) (E : Value → Shared → Prop), Inv X pins σ H s → (∀ b ∈ fp, FpOk X pins H b) → tn i s.heap → J.stop i H →
    wpAny (model P w) X.A (pyNext (.ref it)) (fun r s1 => r = none ∧ Inv X pins σ H s1) E s
  self : ∀ (A : Around) (i : Nat) (s : Shared) (Q : Value → Shared → Prop) (E : Value → Shared → Prop), tn i s.heap → Q (.ref it) s → wpAny (model P w) A (pyIter (.ref it)) Q E s
abbrev TI := St → Hp → (It → Hp → Prop) → Prop
def PIE (X : Cx) (pins : List (Addr × Obj)) (σ : St) (tg : Expr) (R : It → Hp → Prop) (itv : Value) (s2 : Shared) : Prop :=
  ∃ (it : Addr) (fp : List Addr) (tn : Nat → Heap → Prop) (J : It) (H' : Hp), itv = .ref it ∧ Inv X pins σ H' s2 ∧ Turn X.prog X.w X.K tg J fp it tn ∧ tn 0 s2.heap ∧ (∀ b ∈ fp, FpOk X pins H' b) ∧ R J H'
def PI (X : Cx) (tg iter : Expr) (wi : TI) : Prop :=
  ∀ (pins : List (Addr × Obj)) (s : Shared) (σ : St) (H : Hp) (R : It → Hp → Prop), Inv X pins σ H s → wi σ H R →
    wpAny (model X.prog X.w) X.A (eval iter X.env) (fun v s1 => wpAny (model X.prog X.w) X.A (pyIter v) (PIE X pins σ tg R) X.xe s1) X.xe s

theorem go_of {M : Model} {A : Around} {E : Value → Shared → Prop} {s : Shared} {tg : Expr} {it : Addr} {u : Value} {o : Obj} {n : String} {vs : Array Value} {Q : Unit → Shared → Prop} (ho : s.heap.get? it = some o) (hc : o.cls = .type n) (hd : o.data = .fields vs)
    (hn : ["enumerate", "zip", "dict_itemiterator", "dict_reverseitemiterator", "odict_iterator", "itertools.zip_longest", "itertools.pairwise"].contains n = false) (hQ : Q () s) : wpAny M A (letOwnedTupleGo tg (.ref it) u) Q E s := by
  unfold letOwnedTupleGo
  cases tg <;> first
    | exact wpAny_pure hQ
    | (cases u <;> first
        | exact wpAny_pure hQ
        | (refine wpAny_bind (wpAny_load ho ?_)
           rw [hc, hd]
           show wpAny M A (if (["enumerate", "zip", "dict_itemiterator", "dict_reverseitemiterator", "odict_iterator", "itertools.zip_longest", "itertools.pairwise"].contains n && vs[0]? == some (rawInt _)) = true then _ else _) Q E s
           rw [if_neg (by intro h; rw [hn, Bool.false_and] at h; cases h)]
           exact wpAny_pure hQ))

def Itl (K : PySem.W.Frag) (a : Addr) : It :=
  ⟨fun i H => ∃ xs x, SqL K H a xs ∧ xs[i]? = some x, fun i H x H' => H' = H ∧ ∀ xs, SqL K H a xs → xs[i]? = some x, fun i H => ∃ xs, SqL K H a xs ∧ xs.length ≤ i⟩
def Itr (lo : Int) (n : Nat) : It := ⟨fun i _ => i < n, fun i H x H' => H' = H ∧ x = .int (lo + i), fun i _ => n ≤ i⟩
theorem turn_list {P : Program} {w : World} {K : PySem.W.Frag} {tg : Expr} (a it : Addr) : Turn P w K tg (Itl K a) [it] it (fun i h => h.IsListIter it a i) where
  mem := by simp
  obj := fun i h st b hb => by
    have e : b = it := by simpa using hb
    subst e
    obtain ⟨o, e, c, d⟩ := st
    exact ⟨o, e, fun v z => by rw [d] at z; cases z⟩
  keep := fun i h h' st k => st.at fun o e => k it (by simp) o e
  item := by
    intro X hP hw hK hc i pins s σ H E I hf st hg
    subst hP hw hK
    obtain ⟨xs, x, hq, hx⟩ := hg
    obtain ⟨its, rv, p, hz⟩ := I.list hq
    obtain ⟨u, hu, ru⟩ := rv.get hx
    obtain ⟨f0, f1, f2, f3, f4, f5⟩ := hf it (by simp)
    refine wpAny_pyNext_list_item st p.isList (x := u) (by simpa using hu) fun h' st' sb => ?_
    have I1 : Inv X pins σ H { s with heap := h' } := I.turned (t' := s.toks) (fun b o hb e => (sb.2 b hb).trans e) f0 f1 f3 f4 f5
    obtain ⟨o, e, c, d⟩ := id st'
    exact ⟨u, rfl, go_of (s := { s with heap := h' }) e c d (by decide) ⟨x, H, I1, ru, ⟨rfl, fun ys hy => by rw [I.list_inj hy hq]; exact hx⟩, st', fun b hb => (hf b hb).1⟩⟩
  done := by
    intro X hP hw hK hc i pins s σ H E I hf st hg
    subst hP hw hK
    obtain ⟨xs, hq, hx⟩ := hg
    obtain ⟨its, rv, p, hz⟩ := I.list hq
    obtain ⟨f0, f1, f2, f3, f4, f5⟩ := hf it (by simp)
    have hl := rv.length
    exact wpAny_pyNext_list_end (I.ok.hd hc) st p.isList (by simp; omega) fun h' eb => ⟨rfl, I.turned (t' := s.toks) (fun b o hb e => eb b o hb e) f0 f1 f3 f4 f5⟩
  self := fun _ _ _ _ _ st h => wpAny_pyIter_listiter st h
theorem turn_range {P : Program} {w : World} {K : PySem.W.Frag} {tg : Expr} (it : Addr) (lo : Int) (n : Nat) : Turn P w K tg (Itr lo n) [it] it (fun i h => IsRangeIter h it (lo + (i : Nat) * 1) ((n : Int) - (i : Nat)) 1) where
  mem := by simp
  obj := fun i h st b hb => by
    have e : b = it := by simpa using hb
    subst e
    exact ⟨_, st, fun v z => by
      have z' : Data.fields _ = Data.cell v := z
      cases z'⟩
  keep := fun i h h' st k => k it (by simp) _ st
  item := by
    intro X hP hw hK hc i pins s σ H E I hf st hg
    subst hP hw hK
    obtain ⟨f0, f1, f2, f3, f4, f5⟩ := hf it (by simp)
    have W := Walks.range (prog := X.prog) (w := X.w) (I.ok.hd hc) it lo 1 n
    refine W.item i s _ _ hg st fun v h' tk hv st' kk => ?_
    obtain ⟨t, rfl⟩ := hv
    have I1 : Inv X pins σ H { s with heap := h', toks := tk } := I.turned (fun b o hb e => kk b o (by simpa using hb) e) f0 f1 f3 f4 f5
    refine ⟨_, rfl, go_of (s := { s with heap := h', toks := tk }) (n := "range_iterator") st' rfl rfl (by decide) ⟨.int (lo + i), H, I1, ⟨t, ?_⟩, ⟨rfl, rfl⟩, st', fun b hb => (hf b hb).1⟩⟩
    rw [Int.mul_one]
  done := by
    intro X hP hw hK hc i pins s σ H E I hf st hg
    subst hP hw hK
    obtain ⟨f0, f1, f2, f3, f4, f5⟩ := hf it (by simp)
    exact wpAny_pyNext_range_end (I.ok.hd hc) st (by have : n ≤ i := hg; omega) fun h' eb => ⟨rfl, I.turned (t' := s.toks) (fun b o hb e => eb b o hb e) f0 f1 f3 f4 f5⟩
  self := fun _ _ _ _ _ st h => wpAny_pyIter_rangeiter st h
end L2

namespace L2
open PySem PySem.Spec PyProof.Rows
section
variable {X : Cx} {tg : Expr}
def iList (K : PySem.W.Frag) (tl : TE) : TI := fun σ H R => tl σ H fun x H1 => ∃ a, x = .ref a ∧ (∃ xs, SqL K H1 a xs) ∧ R (Itl K a) H1
theorem pi_list {l : Expr} {tl : TE} (hl : PE X l tl) : PI X tg l (iList X.K tl) := by
  intro pins s σ H R I h
  refine thn (hl pins s σ H _ I h) fun v s1 ⟨x, H1, I1, r1, q1⟩ => ?_
  obtain ⟨a, e, ⟨xs, hq⟩, q⟩ := q1
  subst e
  cases r1
  obtain ⟨its, rv, p, hz⟩ := I1.list hq
  refine wpAny_pyIter_list p.isList ?_
  refine ⟨s1.heap.objs.size, [s1.heap.objs.size], _, _, H1, rfl, I1.kept (t' := s1.toks) fun b o e => Heap.get?_push_of_some _ e, turn_list a _, ⟨_, Heap.get?_push_size _ rfl, rfl, rfl⟩, fun b hb => ?_, q⟩
  have e : b = s1.heap.objs.size := by simpa using hb
  subst e
  exact I1.fpOk (Nat.le_refl _) (I1.hok.fresh (Nat.le_refl _))
theorem range_it {pins : List (Addr × Obj)} {σ : St} {H : Hp} {s : Shared} {R : It → Hp → Prop} {E : Value → Shared → Prop} {lo hi : Int} {t u v : Tok} {tk : Nat} (I : Inv X pins σ H s) (h1 : -(2 ^ 62) ≤ lo) (h2 : lo < 2 ^ 62) (h3 : -(2 ^ 62) ≤ hi) (h4 : hi < 2 ^ 62)
    (q : R (Itr lo (hi - lo).toNat) H) : wpAny (model X.prog X.w) X.A (pyIter (.ref s.heap.objs.size)) (PIE X pins σ tg R) E { s with heap := s.heap.push { cls := .type "range", data := .fields #[.int lo t, .int hi u, .int 1 v] }, toks := tk } := by
  refine wpAny_pyIter_range (IsRange.new ..) (small_one h1 h2 h3 h4) ?_
  have I1 : Inv X pins σ H { s with heap := s.heap.push { cls := .type "range", data := .fields #[.int lo t, .int hi u, .int 1 v] }, toks := tk } := I.kept fun b o e => Heap.get?_push_of_some _ e
  refine ⟨(s.heap.push { cls := .type "range", data := .fields #[.int lo t, .int hi u, .int 1 v] }).objs.size, [(s.heap.push { cls := .type "range", data := .fields #[.int lo t, .int hi u, .int 1 v] }).objs.size], _, _, H, rfl,
    I1.kept (t' := tk) fun b o e => Heap.get?_push_of_some _ e, turn_range _ lo (hi - lo).toNat, ?_, fun b hb => ?_, q⟩
  · have e1 : lo + ((0 : Nat) : Int) * 1 = lo := by simp
    have e2 : (((hi - lo).toNat : Nat) : Int) - ((0 : Nat) : Int) = Builtin.Range.rangeSize lo hi 1 := by rw [rangeSize_one]; split <;> omega
    show IsRangeIter _ _ (lo + ((0 : Nat) : Int) * 1) ((((hi - lo).toNat : Nat) : Int) - ((0 : Nat) : Int)) 1
    rw [e1, e2]
    exact Heap.get?_push_size _ rfl
  · have e : b = (s.heap.push { cls := .type "range", data := .fields #[.int lo t, .int hi u, .int 1 v] }).objs.size := by simpa using hb
    subst e
    exact I1.fpOk (Nat.le_refl _) (I1.hok.fresh (Nat.le_refl _))
def iRng1 (ta : TA) : TI := fun σ H R => ta σ H fun vs H1 => ∃ j : Int, vs = [.int j] ∧ -(2 ^ 62) ≤ j ∧ j < 2 ^ 62 ∧ R (Itr 0 j.toNat) H1
def iRng2 (ta : TA) : TI := fun σ H R => ta σ H fun vs H1 => ∃ i j : Int, vs = [.int i, .int j] ∧ (-(2 ^ 62) ≤ i ∧ i < 2 ^ 62 ∧ -(2 ^ 62) ≤ j ∧ j < 2 ^ 62) ∧ R (Itr i (j - i).toNat) H1
theorem pi_range1 {a : Expr} {ta : TA} {p pos : Pos} (hg : Gl X "range") (hm : X.mg "range" = none) (ha : PA X [a] ta) (hs : starEach [a] X.env = [(false, eval a X.env)] := by rfl) : PI X tg (.Call (.Name "range" p) [a] [] pos) (iRng1 ta) := by
  intro pins s σ H R I h
  refine Call_ (ld_blt I hg hm boot_range (PyProof.Rows.callWith_type1 (thn (ha pos pins s σ H _ I h) fun us s1 ⟨vs, H1, I1, r1, q1⟩ => ?_) hs rfl))
  obtain ⟨j, e, q1, q2, q⟩ := q1
  subst e
  cases r1 with
  | cons r rr =>
    cases rr
    obtain ⟨t, rfl⟩ := r
    exact call_range_1 (range_it I1 (by omega) (by omega) q1 q2 (by simpa using q))
theorem pi_range2 {a b : Expr} {ta : TA} {p pos : Pos} (hg : Gl X "range") (hm : X.mg "range" = none) (ha : PA X [a, b] ta) (hs : starEach [a, b] X.env = [(false, eval a X.env), (false, eval b X.env)] := by rfl) (hs2 : starEach [b] X.env = [(false, eval b X.env)] := by rfl) :
    PI X tg (.Call (.Name "range" p) [a, b] [] pos) (iRng2 ta) := by
  intro pins s σ H R I h
  refine Call_ (ld_blt I hg hm boot_range (PyProof.Rows.callWith_type1 (thn (ha pos pins s σ H _ I h) fun us s1 ⟨vs, H1, I1, r1, q1⟩ => ?_) (by rw [hs, hs2]) (by rw [hs2]; rfl)))
  obtain ⟨i, j, e, ⟨q1, q2, q3, q4⟩, q⟩ := q1
  subst e
  cases r1 with
  | cons r rr =>
    cases rr with
    | cons r' rr =>
      cases rr
      obtain ⟨t, rfl⟩ := r
      obtain ⟨t', rfl⟩ := r'
      exact call_range_2 (range_it I1 q1 q2 q3 q4 q)

def tFor (wi : TI) (g : TG) (tb : TS) : TS := fun D σ H => wi σ H fun J H1 => ∃ W : Nat → Nat → St → Hp → Prop, (∃ m, W 0 m σ H1) ∧ ∀ i m σ H, W i m σ H →
  (J.stop i H ∧ D.nx σ H) ∨ (J.go i H ∧ ∃ N : St → Hp → Prop, (∀ σ' H', N σ' H' → ∃ m', m' < m ∧ W (i + 1) m' σ' H') ∧ ∀ x H', J.yld i H x H' → g x σ H' fun σ2 H2 => tb { D with nx := N, ct := N, bk := D.nx } σ2 H2)
def pinsAt (fp : List Addr) (h : Heap) : List (Addr × Obj) := fp.filterMap fun b => (h.get? b).map fun o => (b, o)
theorem mem_pinsAt {fp : List Addr} {h : Heap} {b : Addr} {o : Obj} (hb : b ∈ fp) (e : h.get? b = some o) : (b, o) ∈ pinsAt fp h := List.mem_filterMap.mpr ⟨b, hb, by rw [e]; rfl⟩
theorem of_pinsAt {fp : List Addr} {h : Heap} {p : Addr × Obj} (hp : p ∈ pinsAt fp h) : p.1 ∈ fp ∧ h.get? p.1 = some p.2 := by
  obtain ⟨b, hb, e⟩ := List.mem_filterMap.mp hp
  cases q : h.get? b with
  | none => rw [q] at e; cases e
  | some o =>
    rw [q] at e
    have e' : (b, o) = p := Option.some.inj e
    subst e'
    exact ⟨hb, q⟩
theorem Inv.pinned {pins : List (Addr × Obj)} {σ : St} {H : Hp} {s : Shared} {fp : List Addr} (I : Inv X pins σ H s) (hf : ∀ b ∈ fp, FpOk X pins H b) (ho : ∀ b ∈ fp, ∃ o, s.heap.get? b = some o ∧ ∀ v, o.data ≠ .cell v) : Inv X (pins ++ pinsAt fp s.heap) σ H s :=
  I.pins_of fun p hp => (List.mem_append.mp hp).elim (fun z => I.pin p (List.mem_append_right _ z)) fun z => by
    obtain ⟨hb, e⟩ := of_pinsAt z
    obtain ⟨f0, f1, f2, _⟩ := hf p.1 hb
    obtain ⟨o, e', d⟩ := ho p.1 hb
    rw [e] at e'; cases e'
    exact ⟨e, f0, f1, f2, d⟩
theorem Inv.unpinned {pins pl : List (Addr × Obj)} {σ : St} {H : Hp} {s : Shared} (I : Inv X (pins ++ pl) σ H s) : Inv X pins σ H s := I.pins_of fun p hp => I.pin p (List.mem_append_right _ (List.mem_append_left _ hp))
theorem ps_for {iter : Expr} {body : List Stmt} {wi : TI} {g : TG} {tb : TS} {pos : Pos} (hp : PassesOwn (model X.prog X.w) X.A X.env X.xe) (hc : X.calm = true) (hi : PI X tg iter wi) (hg : PG X tg g) (hb : PSs X body tb)
    (hs : ∀ x, foldedSetIterable iter X.env x = pure x := by intro _; rfl) : PS X (.For tg iter body [] pos) (tFor wi g tb) := by
  intro pins s σ H D I h
  refine wpAny_For (thn (hi pins s σ H _ I h) fun v s1 h1 => thn h1 fun itv s2 h2 => ?_) hs
  obtain ⟨it, fp, tn, J, H2, e, I2, T, st2, f2, W, ⟨m0, w0⟩, turn⟩ := h2
  subst e
  -- what stays true of the iterator's objects through the loop
  have stat : ∀ {H' : Hp}, (∀ b ∈ fp, H' b = none) → ∀ b ∈ fp, FpOk X pins H' b := fun hn b hb => ⟨hn b hb, (f2 b hb).2⟩
  refine codeAny_forLoop_any (fun n s' => ∃ i σ' H', Inv X pins σ' H' s' ∧ tn i s'.heap ∧ (∀ b ∈ fp, H' b = none) ∧ W i n σ' H') ?_ m0 ⟨0, σ, H2, I2, st2, fun b hb => (f2 b hb).1, w0⟩
  rintro n s3 ⟨i, σ3, H3, I3, st3, fr3, w3⟩
  rcases turn i n σ3 H3 w3 with ⟨stop, qn⟩ | ⟨go, N, hN, step⟩
  · refine wpAny_passesOwn hp (thn (T.done X rfl rfl rfl hc i pins s3 σ3 H3 X.xe I3 (stat fr3) st3 stop) fun r s4 ⟨hr, I4⟩ => ?_)
    subst hr
    exact wpAny_execs_nil ⟨σ3, H3, I4, qn⟩
  · refine wpAny_passesOwn hp (thn (T.item X rfl rfl rfl hc i pins s3 σ3 H3 X.xe I3 (stat fr3) st3 go) fun r s4 ⟨u, hr, h4⟩ => ?_)
    subst hr
    refine wpAny_passesOwn hp (thn h4 fun _ s5 ⟨x, H5, I5, r5, y5, st5, fr5⟩ => ?_)
    have I5' := I5.pinned (stat fr5) (T.obj _ _ st5)
    refine wpAny_passesOwn hp (thn (hg _ s5 σ3 H5 x u _ I5' r5 (step x H5 y5)) fun _ s6 ⟨σ6, H6, I6, q6⟩ => ?_)
    refine wpAny_passesOwn hp (thn (hb _ s6 σ6 H6 _ I6 q6) fun f s7 q7 => ?_)
    have again : ∀ {σ7 : St} {H7 : Hp}, Inv X (pins ++ pinsAt fp s5.heap) σ7 H7 s7 → N σ7 H7 → ∃ m, m < n ∧ ∃ i σ' H', Inv X pins σ' H' s7 ∧ tn i s7.heap ∧ (∀ b ∈ fp, H' b = none) ∧ W i m σ' H' := fun {σ7 H7} I7 n7 => by
      obtain ⟨m', hm, w7⟩ := hN σ7 H7 n7
      refine ⟨m', hm, i + 1, σ7, H7, I7.unpinned, T.keep _ _ _ st5 fun b hb o e => (I7.pin (b, o) (List.mem_append_right _ (List.mem_append_right _ (mem_pinsAt hb e)))).1, fun b hb => ?_, w7⟩
      obtain ⟨o, e, d⟩ := T.obj _ _ st5 b hb
      exact (I7.pin (b, o) (List.mem_append_right _ (List.mem_append_right _ (mem_pinsAt hb e)))).2.1
    cases f with
    | next => obtain ⟨σ7, H7, I7, n7⟩ := q7; exact again I7 n7
    | cont => obtain ⟨σ7, H7, I7, n7⟩ := q7; exact again I7 n7
    | brk => obtain ⟨σ7, H7, I7, q7⟩ := q7; exact ⟨σ7, H7, I7.unpinned, q7⟩
    | ret v => obtain ⟨x7, σ7, H7, I7, r7, q7⟩ := q7; exact ⟨x7, σ7, H7, I7.unpinned, r7, q7⟩
end

end L2

namespace L2
open PySem PySem.Spec PyProof.Rows

abbrev R2 := V → V → Hp → VK → Prop
def OpR (X : Cx) (f : Value → Value → Sem Value) (r : R2) : Prop :=
  ∀ (pins : List (Addr × Obj)) (s : Shared) (σ : St) (H : Hp) (x y : V) (v u : Value) (Q : VK), Inv X pins σ H s → RelV x v → RelV y u → r x y H Q →
    wpAny (model X.prog X.w) X.A (f v u) (EP X pins σ Q) X.xe s
def CallR (X : Cx) (f : Value) (r : List V → Hp → VK → Prop) : Prop :=
  ∀ (pins : List (Addr × Obj)) (s : Shared) (σ : St) (H : Hp) (xs : List V) (us : List Value) (Q : VK), Inv X pins σ H s → Vals xs us → r xs H Q →
    wpAny (model X.prog X.w) X.A (call f us) (EP X pins σ Q) X.xe s
def tOp (r : R2) (ta tb : TE) : TE := fun σ H Q => ta σ H fun x H1 => tb σ H1 fun y H2 => r x y H2 Q
def rI (C : Int → Int → Prop) (g : Int → Int → V) : R2 := fun x y H Q => ∃ i j, x = .int i ∧ y = .int j ∧ C i j ∧ Q (g i j) H
def rI0 (g : Int → Int → V) : R2 := fun x y H Q => ∃ i j, x = .int i ∧ y = .int j ∧ Q (g i j) H
section
variable {X : Cx} {a b c : Expr} {ta tb tc : TE} {pos : Pos}

theorem binT (ha : PE X a ta) (hb : PE X b tb) {pins : List (Addr × Obj)} {s : Shared} {σ : St} {H : Hp} {R : V → V → Hp → Prop} (I : Inv X pins σ H s)
    (h : ta σ H fun x H1 => tb σ H1 fun y H2 => R x y H2) {Q : Value → Shared → Prop} {f : Value → Value → Sem Value}
    (hf : ∀ v u s2 x y H2, Inv X pins σ H2 s2 → RelV x v → RelV y u → R x y H2 → wpAny (model X.prog X.w) X.A (f v u) Q X.xe s2) :
    wpAny (model X.prog X.w) X.A (eval a X.env) (fun v s₁ => wpAny (model X.prog X.w) X.A (eval b X.env) (fun u s₂ => wpAny (model X.prog X.w) X.A (f v u) Q X.xe s₂) X.xe s₁) X.xe s := by
  refine thn (ha pins s σ H _ I h) fun v s1 ⟨x, H1, I1, r1, q1⟩ => ?_
  refine thn (hb pins s1 σ H1 _ I1 q1) fun u s2 ⟨y, H2, I2, r2, q2⟩ => ?_
  exact hf v u s2 x y H2 I2 r1 r2 q2

theorem pe_op {op : Operator} {r : R2} (ho : OpR X (binaryOp op) r) (ha : PE X a ta) (hb : PE X b tb) : PE X (.BinOp a op b pos) (tOp r ta tb) := by
  intro pins s σ H Q I h
  exact wpAny_BinOp (binT ha hb I h fun v u s2 x y H2 I2 rx ry q => ho pins s2 σ H2 x y v u Q I2 rx ry q)
theorem opI {f : Value → Value → Sem Value} {C : Int → Int → Prop} {g : Int → Int → Int}
    (rule : ∀ (i j : Int) (t u : Tok) (s : Shared) (Q : Value → Shared → Prop) (E : Value → Shared → Prop), C i j → Q (.int (g i j) s.toks) { s with toks := s.toks + 1 } → wpAny (model X.prog X.w) X.A (f (.int i t) (.int j u)) Q E s) :
    OpR X f (rI C fun i j => .int (g i j)) := by
  intro pins s σ H x y v u Q I rx ry h
  obtain ⟨i, j, rfl, rfl, hc, q⟩ := h
  obtain ⟨t, rfl⟩ := rx
  obtain ⟨t', rfl⟩ := ry
  exact rule i j t t' s _ _ hc ⟨.int (g i j), H, I.tok _, ⟨_, rfl⟩, q⟩
theorem opI0 {f : Value → Value → Sem Value} {g : Int → Int → Int}
    (rule : ∀ (i j : Int) (t u : Tok) (s : Shared) (Q : Value → Shared → Prop) (E : Value → Shared → Prop), Q (.int (g i j) s.toks) { s with toks := s.toks + 1 } → wpAny (model X.prog X.w) X.A (f (.int i t) (.int j u)) Q E s) :
    OpR X f (rI0 fun i j => .int (g i j)) := by
  intro pins s σ H x y v u Q I rx ry h
  obtain ⟨i, j, rfl, rfl, q⟩ := h
  obtain ⟨t, rfl⟩ := rx
  obtain ⟨t', rfl⟩ := ry
  exact rule i j t t' s _ _ ⟨.int (g i j), H, I.tok _, ⟨_, rfl⟩, q⟩
theorem opB0 {f : Value → Value → Sem Value} {g : Int → Int → Bool}
    (rule : ∀ (i j : Int) (t u : Tok) (s : Shared) (Q : Value → Shared → Prop) (E : Value → Shared → Prop), Q (.bool (g i j)) s → wpAny (model X.prog X.w) X.A (f (.int i t) (.int j u)) Q E s) :
    OpR X f (rI0 fun i j => .bl (g i j)) := by
  intro pins s σ H x y v u Q I rx ry h
  obtain ⟨i, j, rfl, rfl, q⟩ := h
  obtain ⟨t, rfl⟩ := rx
  obtain ⟨t', rfl⟩ := ry
  exact rule i j t t' s _ _ ⟨.bl (g i j), H, I, rfl, q⟩

def CDiv (i j : Int) : Prop := 0 < j ∧ j < 1073741824
def CPow (i j : Int) : Prop := 0 ≤ j ∧ j ≤ 1000000 ∧ i.natAbs < 2 ^ 64
def CMul (i j : Int) : Prop := (-(2 ^ 64) < i ∧ i < 2 ^ 64) ∨ (-(2 ^ 64) < j ∧ j < 2 ^ 64)
theorem CMul.ok {i j : Int} (h : CMul i j) : IntMulOk i j := by
  rcases h with ⟨h1, h2⟩ | ⟨h1, h2⟩
  · exact .of_left (intBits_le_64 h1 h2)
  · exact .of_right (intBits_le_64 h1 h2)
theorem op_add : OpR X (binaryOp .Add) (rI0 fun i j => .int (i + j)) := opI0 fun _ _ _ _ _ _ _ q => add_int q
theorem op_sub : OpR X (binaryOp .Sub) (rI0 fun i j => .int (i - j)) := opI0 fun _ _ _ _ _ _ _ q => sub_int q
theorem op_fdiv : OpR X (binaryOp .FloorDiv) (rI CDiv fun i j => .int (i / j)) := opI fun i j _ _ _ _ _ hc q => by
  have h1 : (0 : Int) < j := hc.1
  have h2 : j < 1073741824 := hc.2
  exact floordiv_int (by omega) (by rw [Int.fdiv_eq_ediv_of_nonneg i (by omega)]; exact q) (.inl (PyProof.noPylong_small (by omega)))
theorem op_mod : OpR X (binaryOp .Mod) (rI (fun _ j => 0 < j) fun i j => .int (i % j)) := opI fun i j _ _ _ _ _ hc q => by
  have h1 : (0 : Int) < j := hc
  exact mod_int' (by omega) (by rw [Int.fmod_eq_emod_of_nonneg i (by omega)]; exact q)
theorem op_pow : OpR X (binaryOp .Pow) (rI CPow fun i j => .int (i ^ j.toNat)) := opI fun _ _ _ _ _ _ _ hc q => pow_int_small hc.1 hc.2.1 hc.2.2 q
end

section
variable {X : Cx} {a b c : Expr} {ta tb tc : TE} {pos : Pos}
theorem op_lt : OpR X (compareOp .Lt) (rI0 fun i j => .bl (decide (i < j))) := opB0 fun _ _ _ _ _ _ _ q => lt_int q
theorem op_le : OpR X (compareOp .LtE) (rI0 fun i j => .bl (decide (i ≤ j))) := opB0 fun _ _ _ _ _ _ _ q => le_int q
theorem op_gt : OpR X (compareOp .Gt) (rI0 fun i j => .bl (decide (j < i))) := opB0 fun _ _ _ _ _ _ _ q => gt_int q
theorem op_ge : OpR X (compareOp .GtE) (rI0 fun i j => .bl (decide (j ≤ i))) := opB0 fun _ _ _ _ _ _ _ q => ge_int q
theorem OpR.or {f : Value → Value → Sem Value} {r r' : R2} (h : OpR X f r) (h' : OpR X f r') : OpR X f (fun x y H Q => r x y H Q ∨ r' x y H Q) := by
  intro pins s σ H x y v u Q I rx ry q
  rcases q with q | q
  · exact h pins s σ H x y v u Q I rx ry q
  · exact h' pins s σ H x y v u Q I rx ry q

theorem nomark (b : Expr) {op : CmpOp} (h : op ≠ .In := by decide) (h2 : op ≠ .NotIn := by decide) : behindInMarks op b = false := by
  have e1 : (op == CmpOp.In) = false := by cases op <;> first | rfl | exact absurd rfl h
  have e2 : (op == CmpOp.NotIn) = false := by cases op <;> first | rfl | exact absurd rfl h2
  cases b <;> simp [behindInMarks, e1, e2]
theorem pe_cmpR {op : CmpOp} {r : R2} (ho : OpR X (compareOp op) r) (ha : PE X a ta) (hb : PE X b tb) (hm : behindInMarks op b = false) : PE X (.Compare a [op] [b] pos) (tOp r ta tb) := by
  intro pins s σ H Q I h
  exact wpAny_Compare1 (binT ha hb I h fun v u s2 x y H2 I2 rx ry q => ho pins s2 σ H2 x y v u Q I2 rx ry q) hm
def tTest (t : TE) : TT := fun σ H Q => t σ H fun x H' => ∃ k, x = .bl k ∧ Q k H'
theorem pt_cmpR {op : CmpOp} {r : R2} (ho : OpR X (compareOp op) r) (ha : PE X a ta) (hb : PE X b tb) (hm : behindInMarks op b = false) : PT X (.Compare a [op] [b] pos) (tTest (tOp r ta tb)) := by
  intro pins s σ H Q I h
  refine wpAny_isTrue_Compare1 (thn (ha pins s σ H _ I h) fun v s1 ⟨x, H1, I1, r1, q1⟩ => thn (hb pins s1 σ H1 _ I1 q1) fun u s2 ⟨y, H2, I2, r2, q2⟩ =>
    thn (ho pins s2 σ H2 x y v u _ I2 r1 r2 q2) fun c s3 ⟨z, H3, I3, r3, k, e, q3⟩ => ?_) hm
  subst e
  cases r3
  exact wpAny_truthy_bool ⟨H3, I3, q3⟩
def tChain (r r' : R2) (ta tb tc : TE) : TE := fun σ H Q => ta σ H fun x H1 => tb σ H1 fun y H2 => r x y H2 fun z H3 => ∃ k, z = .bl k ∧
  (if k = true then tc σ H3 fun w' H4 => r' y w' H4 Q else Q (.bl false) H3)
theorem pe_chain {op op' : CmpOp} {r r' : R2} (ho : OpR X (compareOp op) r) (ho' : OpR X (compareOp op') r') (ha : PE X a ta) (hb : PE X b tb) (hc : PE X c tc)
    (hm : lastMarks [op, op'] [b, c] = false := by with_unfolding_all rfl) : PE X (.Compare a [op, op'] [b, c] pos) (tChain r r' ta tb tc) := by
  intro pins s σ H Q I h
  refine Compare_chain (thn (ha pins s σ H _ I h) fun v s1 ⟨x, H1, I1, r1, q1⟩ => chain_link (thn (hb pins s1 σ H1 _ I1 q1) fun u s2 ⟨y, H2, I2, r2, q2⟩ =>
    thn (ho pins s2 σ H2 x y v u _ I2 r1 r2 q2) fun d s3 ⟨z, H3, I3, r3, k, e, q3⟩ => ?_)) hm
  subst e
  cases r3
  refine wpAny_truthy_bool ?_
  cases k with
  | false => exact ite_ff ⟨.bl false, H3, I3, rfl, q3⟩
  | true => exact ite_tt (chain_last (thn (hc pins s3 σ H3 _ I3 q3) fun w' s4 ⟨z', H4, I4, r4, q4⟩ => ho' pins s4 σ H4 y z' u w' Q I4 r2 r4 q4))
theorem pt_chain {op op' : CmpOp} {r r' : R2} (ho : OpR X (compareOp op) r) (ho' : OpR X (compareOp op') r') (ha : PE X a ta) (hb : PE X b tb) (hc : PE X c tc)
    (hm : lastMarks [op, op'] [b, c] = false := by with_unfolding_all rfl) : PT X (.Compare a [op, op'] [b, c] pos) (tTest (tChain r r' ta tb tc)) := by
  intro pins s σ H Q I h
  refine isTrue_chain (thn (ha pins s σ H _ I h) fun v s1 ⟨x, H1, I1, r1, q1⟩ => test_link (thn (hb pins s1 σ H1 _ I1 q1) fun u s2 ⟨y, H2, I2, r2, q2⟩ =>
    thn (ho pins s2 σ H2 x y v u _ I2 r1 r2 q2) fun d s3 ⟨z, H3, I3, r3, k, e, q3⟩ => ?_)) hm
  subst e
  cases r3
  refine wpAny_truthy_bool ?_
  cases k with
  | false =>
    obtain ⟨k', e', q'⟩ := q3
    cases e'
    exact ite_ff ⟨H3, I3, q'⟩
  | true =>
    refine ite_tt (test_last (thn (hc pins s3 σ H3 _ I3 q3) fun w' s4 ⟨z', H4, I4, r4, q4⟩ => thn (ho' pins s4 σ H4 y z' u w' _ I4 r2 r4 q4) fun d' s5 ⟨z2, H5, I5, r5, k2, e2, q5⟩ => ?_))
    subst e2
    cases r5
    exact wpAny_truthy_bool ⟨H5, I5, q5⟩

theorem line63 : (sizeLine : Nat) < 2 ^ 63 := by rw [sizeLine_eq]; decide
theorem vals1 {x : V} {us : List Value} (r : Vals [x] us) : ∃ u, us = [u] ∧ RelV x u := by
  cases r with
  | cons r1 r2 => cases r2; exact ⟨_, rfl, r1⟩
theorem vals2 {x y : V} {us : List Value} (r : Vals [x, y] us) : ∃ u w', us = [u, w'] ∧ RelV x u ∧ RelV y w' := by
  cases r with
  | cons r1 r2 =>
    cases r2 with
    | cons r3 r4 => cases r4; exact ⟨_, _, rfl, r1, r3⟩
theorem call_abs : CallR X (.builtin "abs") (fun xs H Q => ∃ i, xs = [.int i] ∧ Q (.int (if i < 0 then -i else i)) H) := by
  intro pins s σ H xs us Q I r h
  obtain ⟨i, rfl, q⟩ := h
  obtain ⟨u, rfl, t, rfl⟩ := vals1 r
  exact call_abs_int fun u tk => ⟨.int (if i < 0 then -i else i), H, I.tok _, ⟨_, rfl⟩, q⟩
theorem call_max2 (hc : X.calm = true) : CallR X (.builtin "max") (fun xs H Q => ∃ i j, xs = [.int i, .int j] ∧ Q (.int (if j > i then j else i)) H) := by
  intro pins s σ H xs us Q I r h
  obtain ⟨i, j, rfl, q⟩ := h
  obtain ⟨u, w', rfl, ⟨t, rfl⟩, ⟨t', rfl⟩⟩ := vals2 r
  refine max_two_ints (I.ok.hd hc) fun h' tk k => ⟨_, H, I.kept k, ?_, q⟩
  by_cases hj : j > i
  · rw [if_pos hj, if_pos hj]; exact ⟨_, rfl⟩
  · rw [if_neg hj, if_neg hj]; exact ⟨_, rfl⟩
end
end L2

namespace L2
open PySem PySem.Spec PyProof.Rows

structure ObjM (h : Heap) (x dx C : Addr) (mA : Str → Option Value) : Prop where
  obj : h.get? x = some (PySem.W.instObj C dx)
  ns : h.Ns1 dx mA
  ne : dx ≠ x

theorem lookIn_ns {h : Heap} {dx : Addr} {mA : Str → Option Value} (n : h.Ns1 dx mA) : ∃ od, h.get? dx = some od ∧ ∀ name, PySem.W.lookIn name od = some (mA name) := by
  obtain ⟨o, es, ep, ho, hd, hk, _, hm⟩ := n
  refine ⟨o, ho, fun name => ?_⟩
  have e := hm name
  unfold nsFind findBy at e
  rw [← Array.find?_toList] at e
  unfold PySem.W.lookIn
  rw [hd]
  dsimp only
  split
  · rename_i y q
    rw [q] at e
    exact congrArg some e
  · rename_i q
    rw [q] at e
    have a : es.toList.any (·.refKey) = false := by
      rw [List.any_eq_false]
      intro y hy
      obtain ⟨z, t, hkey⟩ := hk y (Array.mem_toList_iff.mp hy)
      simp [DictEntry.refKey, hkey]
    have a' : ¬ es.toList.any (·.refKey) = true := by rw [a]; exact Bool.false_ne_true
    rw [if_neg a']
    exact congrArg some e

theorem ObjM.look {h : Heap} {x dx C : Addr} {mA : Str → Option Value} (I : ObjM h x dx C mA) : ∃ od, PySem.W.InstAt h x (PySem.W.instObj C dx) C (some od) ∧ ∀ name, PySem.W.lookIn name od = some (mA name) :=
  let ⟨od, ho, hl⟩ := lookIn_ns I.ns
  ⟨od, ⟨I.obj, rfl, rfl, ho⟩, hl⟩

section
variable {prog : Program} {w : World} {A : Around} {E : Value → Shared → Prop} {s : Shared} {K : PySem.W.Frag} {x dx C f : Addr} {mA : Str → Option Value} {name : Str} {v : Value}

end

section
variable {P : Program} {w : World} {H H' : Hp} {h h' : Heap} {a C dx : Addr} {fs fs' : List (Str × V)}
theorem ins_get (hok : HOk P w H h) (e : H a = some (.ins C dx fs)) : ∃ mA, ObjM h a dx C mA ∧ (∀ f, RelO (fs.lookup f) (mA f)) ∧ PySem.Within mA (fs.map (·.1)) ∧ fs.length ≤ 1000 ∧ H dx = some (.own a) := by
  obtain ⟨d, z, ne, ob, mA, n, r, q⟩ := (show ObjOk P w H h a (.ins C dx fs) from hok a _ e)
  exact ⟨mA, ⟨ob, n, ne⟩, r, q, z, d⟩
end

structure Cls (K : PySem.W.Frag) (C : Addr) : Prop where
  pg : PySem.W.plainGet K C Str.empty = true
  hd : PySem.W.hasDictIn K C = true
  po : PySem.W.plainOver K C = true
  sa : PySem.W.findIn K (.ref C) "__setattr__" = some (some (.builtin "object.__setattr__"))
theorem Cls.get {K : PySem.W.Frag} {C : Addr} (c : Cls K C) (f : Str) : PySem.W.plainGet K C f = true := c.pg
structure Con (K : PySem.W.Frag) (C : Addr) (f : Str) (v : V) (u : Value) : Prop where
  at_ : PySem.W.findIn K (.ref C) f = some (some u)
  rel : RelV v u
  get : PySem.W.specialIn K u "__get__" = some none
  cp : PySem.W.copiedNames.contains f = false
structure Meth (K : PySem.W.Frag) (C : Addr) (m : Str) (f : Addr) : Prop where
  at_ : PySem.W.findIn K (.ref C) m = some (some (.ref f))
  fn : PySem.W.isFn K (.ref f) = true
  kp : PySem.W.keepIn K (.ref f) = true

section
variable {X : Cx} {pins : List (Addr × Obj)} {σ : St} {H : Hp} {s : Shared} {a C dx : Addr} {fs : List (Str × V)} {f : Str} {v : V} {A : Around} {E : Value → Shared → Prop}

theorem Inv.made (I : Inv X pins σ H s) : Inv X pins σ (upd (upd H s.heap.objs.size (.own (s.heap.objs.size + 1))) (s.heap.objs.size + 1) (.ins C s.heap.objs.size []))
    { s with heap := (s.heap.push PySem.W.emptyDict).push (PySem.W.instObj C s.heap.objs.size) } := by
  have e1 : (s.heap.push PySem.W.emptyDict).get? s.heap.objs.size = some PySem.W.emptyDict := Heap.get?_push_size s.heap rfl
  have e2 : ((s.heap.push PySem.W.emptyDict).push (PySem.W.instObj C s.heap.objs.size)).get? (s.heap.objs.size + 1) = some (PySem.W.instObj C s.heap.objs.size) := by
    have := Heap.get?_push_size (s.heap.push PySem.W.emptyDict) (o := PySem.W.instObj C s.heap.objs.size) rfl
    rwa [Heap.size_push] at this
  have e3 : (s.heap.push PySem.W.emptyDict).Ns s.heap.objs.size (fun _ => none) := ⟨PySem.W.emptyDict, #[], _, e1, rfl, (fun e he => absurd he (by simp)), fun _ => rfl⟩
  have I1 := I.laid (a := s.heap.objs.size) (o := .own (s.heap.objs.size + 1)) (h' := s.heap.push PySem.W.emptyDict) (t' := s.toks) (fun b u q => Heap.get?_push_of_some _ q) (Nat.le_refl _) ⟨_, e1⟩
  refine I1.laid (a := s.heap.objs.size + 1) (o := .ins C s.heap.objs.size []) (t' := s.toks) (fun b u q => Heap.get?_push_of_some _ q) (Nat.le_of_eq (Heap.size_push _ _)) ?_
  have ne : s.heap.objs.size ≠ s.heap.objs.size + 1 := Nat.ne_of_lt (Nat.lt_succ_self _)
  refine ⟨by rw [upd_ne ne, upd_same], Nat.zero_le _, ne, e2, fun _ => none, (Heap.Ns1.of_empty e3).at fun o q => Heap.get?_push_of_some _ q, fun _ => True.intro, fun y hy => absurd rfl hy⟩

end

section
variable {X : Cx} {o e value : Expr} {f : Str} {pos pos' tpos : Pos} {ta tv : TE}
end

section
variable {X : Cx} {pins : List (Addr × Obj)} {σ : St} {H : Hp} {s : Shared} {A : Around} {E : Value → Shared → Prop} {Q : Value → Shared → Prop} {c : Value} {b : Bool}
inductive TyOf (K : PySem.W.Frag) (H : Hp) : V → Value → Prop where
  | non : TyOf K H .non (.type "NoneType")
  | bl (x : Bool) : TyOf K H (.bl x) (.type "bool")
  | int (i : Int) : TyOf K H (.int i) (.type "int")
  | str (x : Str) : TyOf K H (.str x) (.type "str")
  | flt (x : UInt64) : TyOf K H (.flt x) (.type "float")
  | lst {a : Addr} {xs : List V} (e : H a = some (.lst xs)) : TyOf K H (.ref a) (.type "list")
  | frz {a : Addr} {o : Obj} {xs : List V} (e : H a = some (.frz o (.lst xs))) : TyOf K H (.ref a) (.type "list")
  | tup {a : Addr} {xs : List V} (e : H a = some (.tup xs)) : TyOf K H (.ref a) (.type "tuple")
  | dK {a : Addr} {kvs : List (Key × V)} (e : H a = some (.dK kvs)) : TyOf K H (.ref a) (.type "dict")
  | dT {a : Addr} {kvs : List (List Key × V)} (e : H a = some (.dT kvs)) : TyOf K H (.ref a) (.type "dict")
  | ins {a C dx : Addr} {fs : List (Str × V)} (e : H a = some (.ins C dx fs)) (cl : Cls K C) (ha : PySem.W.findIn K (.ref C) "__class__" = some (some (.builtin "object.__class__")))
      (hn : PySem.W.specialIn K (.builtin "object.__class__") "__get__" = some (some (.builtin "getset_descriptor.__get__"))) (htk : PySem.W.takesIn K (.builtin "object.__class__") = some true)
      (hm : PySem.W.mroIn K C (.type "object") = some true) : TyOf K H (.ref a) (.ref C)
theorem isinst_ok {x : V} {u t : Value} (I : Inv X pins σ H s) (rx : RelV x u) (ty : TyOf X.K H x t) (e : PySem.W.kitOne X.K t c = some b) (h : ∀ tk, Q (.bool b) { s with toks := tk }) :
    wpAny (model X.prog X.w) A (call (.builtin "isinstance") [u, c]) Q E s := by
  cases ty with
  | non => cases (show u = Value.none from rx); exact PySem.W.kia_one PySem.W.kitx_none I.kIn True.intro e (fun z => nomatch z) h
  | bl y => cases (show u = Value.bool y from rx); exact PySem.W.kia_one PySem.W.kitx_bool I.kIn True.intro e (fun z => nomatch z) h
  | int i => obtain ⟨t, q⟩ := (show ∃ t, u = Value.int i t from rx); cases q; exact PySem.W.kia_one PySem.W.kitx_int I.kIn True.intro e (fun z => nomatch z) h
  | str y => obtain ⟨t, q⟩ := (show ∃ t, u = Value.str y t from rx); cases q; exact PySem.W.kia_one PySem.W.kitx_str I.kIn True.intro e (fun z => nomatch z) h
  | flt y => obtain ⟨t, q⟩ := (show ∃ t, u = Value.float y t from rx); cases q; exact PySem.W.kia_one PySem.W.kitx_float I.kIn True.intro e (fun z => nomatch z) h
  | @lst a xs ea =>
    cases (show u = Value.ref a from rx)
    obtain ⟨_, _, n, _, h1⟩ := (show ObjOk X.prog X.w H s.heap a (.lst xs) from I.hok a _ ea)
    exact PySem.W.kia_one PySem.W.kitx_list I.kIn ⟨_, h1, rfl⟩ e (fun z => nomatch z) h
  | @frz a ob xs ea =>
    cases (show u = Value.ref a from rx)
    obtain ⟨_, _, _, n, _, h1⟩ := (show ObjOk X.prog X.w H s.heap a (.frz ob (.lst xs)) from I.hok a _ ea)
    exact PySem.W.kia_one PySem.W.kitx_list I.kIn ⟨_, h1, rfl⟩ e (fun z => nomatch z) h
  | @tup a xs ea =>
    cases (show u = Value.ref a from rx)
    obtain ⟨_, _, _, p⟩ := (show ObjOk X.prog X.w H s.heap a (.tup xs) from I.hok a _ ea)
    obtain ⟨o, h1, h2, _⟩ := p
    exact PySem.W.kia_one PySem.W.kitx_tuple I.kIn ⟨o, h1, h2⟩ e (fun z => nomatch z) h
  | @dK a kvs ea =>
    cases (show u = Value.ref a from rx)
    obtain ⟨_, _, vs, _, p⟩ := (show ObjOk X.prog X.w H s.heap a (.dK kvs) from I.hok a _ ea)
    obtain ⟨o, es, ep, h1, h2, _⟩ := p
    exact PySem.W.kia_one PySem.W.kitx_dict I.kIn ⟨o, h1, h2.1⟩ e (fun z => nomatch z) h
  | @dT a kvs ea =>
    cases (show u = Value.ref a from rx)
    obtain ⟨_, _, xs, _, o, es, ep, h1, h2, _⟩ := (show ObjOk X.prog X.w H s.heap a (.dT kvs) from I.hok a _ ea)
    exact PySem.W.kia_one PySem.W.kitx_dict I.kIn ⟨o, h1, h2.1⟩ e (fun z => nomatch z) h
  | @ins a C dx fs ea cl ha hn htk hm =>
    cases (show u = Value.ref a from rx)
    obtain ⟨mA, O, _⟩ := ins_get I.hok ea
    obtain ⟨od, J, _⟩ := O.look
    exact PySem.W.kia_one (PySem.W.kitx_own (cl.get _) cl.hd ha hn htk hm) I.kIn J e (fun z => nomatch z) h
end
end L2

namespace L2
open PySem PySem.Spec PyProof.Rows

structure Room (k : Nat) (A : Around) : Prop where
  hd : A.handled = none
  dp : A.depth + 3 * k + 5 < recursionLimit
  un : A.units + 16 * k + 200 < cLine
theorem Room.mono {j k : Nat} {A : Around} (r : Room k A) (h : j ≤ k) : Room j A := ⟨r.hd, by have := r.dp; omega, by have := r.un; omega⟩
theorem Room.deeper {k : Nat} {A : Around} (r : Room (k + 1) A) (env : Env) : Room k (A.deeper env) :=
  ⟨r.hd, by have := r.dp; show A.depth + 1 + 3 * k + 5 < _; omega, by have := r.un; show A.units + 3 + 16 * k + 200 < _; omega⟩
theorem Room.in1 {k : Nat} {A : Around} (r : Room (k + 1) A) : Room k A.in1 :=
  ⟨r.hd, by have := r.dp; show A.depth + 3 * k + 5 < _; omega, by have := r.un; show A.units + 1 + 16 * k + 200 < _; omega⟩
theorem Room.depth {k : Nat} {A : Around} (r : Room k A) : A.depth < recursionLimit := by have := r.dp; omega
theorem Room.units {k : Nat} {A : Around} (r : Room k A) : A.units + 64 < cLine := by have := r.un; omega
def tNil : TA := fun _ H Q => Q [] H
def tCons (ta : TE) (tr : TA) : TA := fun σ H Q => ta σ H fun x H1 => tr σ H1 fun xs H2 => Q (x :: xs) H2
section
variable {X : Cx} {e : Expr} {es : List Expr} {te : TE} {t : TA} {pos : Pos}
theorem pa_nil : PA X [] tNil := fun _ _ _ _ H Q I h => Calls.spliced_nil ⟨[], H, I, .nil, h⟩
theorem pa_cons (ha : PE X e te) (hr : PA X es t) (hs : starEach (e :: es) X.env = (false, eval e X.env) :: starEach es X.env := by rfl) : PA X (e :: es) (tCons te t) := by
  intro pos pins s σ H Q I h
  rw [hs]
  show wpAny _ _ (spliced ((false, eval e X.env) :: backTo pos (starEach es X.env))) _ _ s
  refine Calls.spliced_cons (thn (ha pins s σ H _ I h) fun u s1 ⟨x, H1, I1, r1, q1⟩ => ?_)
  exact thn (hr pos pins s1 σ H1 _ I1 q1) fun us s2 ⟨xs, H2, I2, r2, q2⟩ => ⟨x :: xs, H2, I2, .cons r1 r2, q2⟩

def tTup (t : TA) : TE := fun σ H Q => t σ H fun xs H1 => xs.length ≤ sizeLine ∧ ∀ p, H1 p = none → Q (.ref p) (upd H1 p (.tup xs))
def tLst (t : TA) : TE := fun σ H Q => t σ H fun xs H1 => xs.length ≤ sizeLine ∧ ∀ p, H1 p = none → Q (.ref p) (upd H1 p (.lst xs))
theorem pe_tup {x1} (h : PA X es t) : PE X (.Tuple es x1 pos) (tTup t) := by
  intro pins s σ H Q I hq
  refine wpAny_Tuple_spliced (thn (h pos pins s σ H _ I hq) fun us s1 ⟨xs, H1, I1, r, z, q⟩ => ⟨by rw [← r.length]; exact z, ?_⟩)
  have hf : H1 s1.heap.objs.size = none := I1.hok.fresh (Nat.le_refl _)
  refine ⟨.ref s1.heap.objs.size, upd H1 s1.heap.objs.size (.tup xs), I1.laid (t' := s1.toks) (fun b u e => Heap.get?_push_of_some _ e) (Nat.le_refl _) ?_, rfl, q _ hf⟩
  exact ⟨z, us, r, ⟨_, Heap.get?_push_size _ rfl, rfl, _, rfl⟩⟩
theorem pe_lst (h : PA X es t) : PE X (.List es pos) (tLst t) := by
  intro pins s σ H Q I hq
  refine wpAny_List_spliced (thn (h pos pins s σ H _ I hq) fun us s1 ⟨xs, H1, I1, r, z, q⟩ => ⟨by rw [← r.length]; exact z, ?_⟩)
  have hf : H1 s1.heap.objs.size = none := I1.hok.fresh (Nat.le_refl _)
  refine ⟨.ref s1.heap.objs.size, upd H1 s1.heap.objs.size (.lst xs), I1.laid (t' := s1.toks) (fun b u e => Heap.get?_push_of_some _ e) (Nat.le_refl _) ?_, rfl, q _ hf⟩
  exact ⟨z, us, 0, r, Heap.get?_push_size _ rfl⟩
end

abbrev Sp := List V → Hp → VK → XK → Prop
abbrev CXT := List Env → Hp → Shared → XK → Value → Shared → Prop

structure Env0 (P : Program) (w : World) (K : PySem.W.Frag) (mg : Str → Option Value) (base : Heap) (A : Around) (outer : List Env) (s : Shared) (H : Hp) : Prop where
  frames : A.frames = some outer
  mod : Mod K mg base
  bs : ∀ b o, base.get? b = some o → s.heap.get? b = some o ∧ H b = none
  bsz : base.objs.size ≤ s.heap.objs.size
  funs : s.heap.FunFrames base outer
  frf : ∀ b ∈ frs outer, H b = none
  hok : HOk P w H s.heap
  bare : AllBare s.gens
  tab : Tabs K mg H
def CE (outer : List Env) (P : Program) (w : World) (H : Hp) (s : Shared) (Q : VK) (u : Value) (s' : Shared) : Prop :=
  ∃ v H', s'.os = s.os ∧ AllBare s'.gens ∧ Un (frs outer) [] H H' s.heap s'.heap ∧ HOk P w H' s'.heap ∧ RelV v u ∧ Q v H'
def CR (CX : CXT) (outer : List Env) (P : Program) (w : World) (H : Hp) (s : Shared) (Q : VK) (E : XK) (r : Result) (s' : Shared) : Prop :=
  match r with
  | .ok (.ret u) => CE outer P w H s Q u s'
  | .ok _ => False
  | .error e => CX outer H s E e s'
structure FnOk (P : Program) (w : World) (K : PySem.W.Frag) (mg : Str → Option Value) (base : Heap) (CX : CXT) (k : Nat) (f : Addr) (fd : FuncData) (ps : List Str) (sp : Sp) : Prop where
  len : ∀ vs H Q E, sp vs H Q E → vs.length = ps.length
  run : ∀ (A : Around) (outer : List Env) (s : Shared) (H : Hp) (args : Args) (us : List Value) (vs : List V) (Q : VK) (E : XK), Room k A → Env0 P w K mg base A outer s H → BindsTo s fd args (ps.zip us) → Vals vs us → sp vs H Q E →
    codeAny (model P w) A (.call (.ref f) args) (CR CX outer P w H s Q E) s
theorem FnOk.mono {P : Program} {w : World} {K : PySem.W.Frag} {mg : Str → Option Value} {base : Heap} {CX : CXT} {j k : Nat} {f : Addr} {fd : FuncData} {ps : List Str} {sp : Sp} (F : FnOk P w K mg base CX j f fd ps sp) (h : j ≤ k) :
    FnOk P w K mg base CX k f fd ps sp := ⟨F.len, fun A outer s H args us vs Q E hr => F.run A outer s H args us vs Q E (hr.mono h)⟩
theorem FnOk.imp {P : Program} {w : World} {K : PySem.W.Frag} {mg : Str → Option Value} {base : Heap} {CX : CXT} {k : Nat} {f : Addr} {fd : FuncData} {ps : List Str} {sp sp' : Sp} (F : FnOk P w K mg base CX k f fd ps sp)
    (h : ∀ vs H Q E, sp' vs H Q E → sp vs H Q E) : FnOk P w K mg base CX k f fd ps sp' :=
  ⟨fun vs H Q E q => F.len vs H Q E (h _ _ _ _ q), fun A outer s H args us vs Q E hr he hb hv hs => F.run A outer s H args us vs Q E hr he hb hv (h _ _ _ _ hs)⟩

theorem Env0.in1 {P : Program} {w : World} {K : PySem.W.Frag} {mg : Str → Option Value} {base : Heap} {A : Around} {outer : List Env} {s : Shared} {H : Hp} (e : Env0 P w K mg base A outer s H) :
    Env0 P w K mg base A.in1 outer s H := ⟨e.frames, e.mod, e.bs, e.bsz, e.funs, e.frf, e.hok, e.bare, e.tab⟩

section
variable {X : Cx} {pins : List (Addr × Obj)} {σ : St} {H : Hp} {s s' : Shared}
theorem Inv.env0 (I : Inv X pins σ H s) : Env0 X.prog X.w X.K X.mg X.base X.A X.stack s H :=
  ⟨I.ok.frames, I.ok.mod, I.bs, Nat.le_trans I.ok.bsz I.sz, I.stack, I.stkFree, I.hok, I.bare, I.tabs⟩
theorem Inv.after {Q : VK} {u : Value} (I : Inv X pins σ H s) (h : CE X.stack X.prog X.w H s Q u s') : EP X pins σ Q u s' := by
  obtain ⟨v, H', os, bare, un, hok, r, q⟩ := h
  obtain ⟨hh, g, d, t, os'⟩ := s'
  obtain rfl : os' = s.os := os
  exact ⟨v, H', I.call (h' := hh) (g' := g) (d' := d) (t' := t) (ch := []) un hok bare (fun b z => absurd z (by simp)), r, q⟩
end

def tCall (sp : Sp) (dvs : List V) (E : XK) (t : TA) : TE := fun σ H Q => t σ H fun vs H1 => sp (vs ++ dvs) H1 Q E
def Binds (K : PySem.W.Frag) (fd : FuncData) (ps : List Str) (ds : List Value) : Prop :=
  ∀ (s : Shared) (us : List Value), K.In s.heap → (us ++ ds).length = ps.length → BindsTo s fd ⟨us, []⟩ (ps.zip (us ++ ds))
theorem Binds.all {K : PySem.W.Frag} {fd : FuncData} {ps : List Str} (h : ∀ us : List Value, us.length = ps.length → bindArgs fd ⟨us, []⟩ = pure (ps.zip us)) : Binds K fd ps [] := fun s us _ hl => by
  rw [List.append_nil] at hl ⊢
  exact .of_eq (h us hl)

def Passes (CX : CXT) (X : Cx) (E : XK) : Prop := ∀ (pins : List (Addr × Obj)) (σ : St) (H : Hp) (s : Shared) (e : Value) (s' : Shared), Inv X pins σ H s → CX X.stack H s E e s' → X.xe e s'

section
variable {X : Cx} {CX : CXT} {k : Nat} {f C : Addr} {fd : FuncData} {ps : List Str} {sp : Sp} {dvs : List V} {ds : List Value} {E : XK} {x m : Str} {p pos apos : Pos} {e o : Expr} {es : List Expr} {ta : TE} {t : TA}

theorem run_fn {pins : List (Addr × Obj)} {σ : St} {H : Hp} {s : Shared} {Q : VK} {us : List Value} {vs : List V} (F : FnOk X.prog X.w X.K X.mg X.base CX k f fd ps sp) (hr : Room k X.A) (hb : Binds X.K fd ps ds) (hd : Vals dvs ds) (hx : Passes CX X E)
    (I : Inv X pins σ H s) (r : Vals vs us) (h : sp (vs ++ dvs) H Q E) : wpAny (model X.prog X.w) X.A (call (.ref f) us) (EP X pins σ Q) X.xe s := by
  have r2 : Vals (vs ++ dvs) (us ++ ds) := r.append hd
  have hl : (us ++ ds).length = ps.length := by rw [← r2.length]; exact F.len _ _ _ _ h
  refine wpAny_call (codeAny_mono (F.run X.A X.stack s H ⟨us, []⟩ (us ++ ds) (vs ++ dvs) Q E hr I.env0 (hb s us I.kIn hl) r2 h) fun r s' hq => ?_)
  cases r with
  | error e => exact hx pins σ H s e s' I hq
  | ok fl =>
    cases fl with
    | ret u => exact I.after hq
    | next => exact False.elim hq
    | brk => exact False.elim hq
    | cont => exact False.elim hq

theorem pe_call (F : FnOk X.prog X.w X.K X.mg X.base CX k f fd ps sp) (hr : Room k X.A) (hg : Gl X x) (hm : X.mg x = some (.ref f)) (hk : PySem.W.keepIn X.K (.ref f) = true) (hb : Binds X.K fd ps ds) (hd : Vals dvs ds) (hx : Passes CX X E)
    (ha : PA X (e :: es) t) (hdb : (x == ("__debug__" : Str)) = false := by decide) (he : starEach (e :: es) X.env = (false, eval e X.env) :: starEach es X.env := by rfl) (hpl : (backTo pos (starEach es X.env)).any (·.1) = false := by rfl) :
    PE X (.Call (.Name x p) (e :: es) [] pos) (tCall sp dvs E t) := by
  intro pins s σ H Q I h
  refine wpAny_Call_Name_kw (ld_glob I hg hm ?_ hdb)
  refine PySem.W.callWith_K (h₀ := X.base) I.ok.mod.kin hk (thn (ha pos pins s σ H _ I h) fun us s1 ⟨vs, H1, I1, r, q⟩ => ⟨I1.kIn, ?_⟩) he hpl
  exact run_fn F hr hb hd hx I1 r q
structure Mk (K : PySem.W.Frag) (C f : Addr) : Prop where
  makes : PySem.W.makesIn K C = true
  init : PySem.W.findIn K (.ref C) "__init__" = some (some (.ref f))
  fn : PySem.W.isFn K (.ref f) = true
  kp : PySem.W.keepIn K (.ref C) = true

end

section
variable {X : Cx} {CX : CXT} {k : Nat} {f C : Addr} {fd : FuncData} {ps ks : List Str} {sp : Sp} {E : XK} {x m : Str} {p pos apos kpos : Pos} {e o : Expr} {es : List Expr} {kws : List Keyword} {te ta : TE} {t tk : TA} {nm : Option Str}
structure KBinds (K : PySem.W.Frag) (fd : FuncData) (ps ks : List Str) (g : List Value → List Value → List Value) (gV : List V → List V → List V) : Prop where
  to : ∀ (s : Shared) (us ws : List Value), K.In s.heap → (g us ws).length = ps.length → BindsTo s fd ⟨us, ks.zip ws⟩ (ps.zip (g us ws))
  rel : ∀ {vs : List V} {us : List Value} {zs : List V} {ws : List Value}, Vals vs us → Vals zs ws → Vals (gV vs zs) (g us ws)
variable {g : List Value → List Value → List Value} {gV : List V → List V → List V}
end

structure FnScope (N P : List Str) (sc : Scope) : Prop where
  kind : sc.kind = .function
  co : sc.isCoroutine = false
  gen : sc.isGenerator = false
  nd : N.Nodup
  pre : N.take P.length = P
  par : ∀ x ∈ P, sc.names.lookup x = some .local ∨ sc.names.lookup x = some .cell
  nofree : ∀ y ∈ sc.names, y.2 ≠ .free

theorem bindL_out {kindOf : Str → Option NameKind} {x : Str} : ∀ {binds : List (Str × Value)} {m : Str → Option Value}, (∀ v, (x, v) ∉ binds) → bindL kindOf binds m x = m x
  | [], _, _ => rfl
  | (n, v) :: r, m, h => by
    unfold bindL
    rw [bindL_out fun w hw => h w (List.mem_cons_of_mem _ hw)]
    split
    · have : x ≠ n := by rintro rfl; exact h v List.mem_cons_self
      simp [this]
    · rfl
theorem bindC_out {kindOf : Str → Option NameKind} {x : Str} : ∀ {binds : List (Str × Value)} {m : Str → Option Value}, (∀ v, (x, v) ∉ binds) → bindC kindOf binds m x = m x
  | [], _, _ => rfl
  | (n, v) :: r, m, h => by
    unfold bindC
    rw [bindC_out fun w hw => h w (List.mem_cons_of_mem _ hw)]
    split
    · rfl
    · have : x ≠ n := by rintro rfl; exact h v List.mem_cons_self
      simp [this]
theorem bindL_get {kindOf : Str → Option NameKind} {x : Str} {v : Value} : ∀ {P : List Str} {vs : List Value} {i : Nat} {m : Str → Option Value}, P.Nodup → P[i]? = some x → vs[i]? = some v → kindOf x = some .local →
    bindL kindOf (P.zip vs) m x = some v
  | [], _, _, _, _, h, _, _ => by simp at h
  | _ :: _, [], _, _, _, _, h, _ => by simp at h
  | p :: P, w :: vs, 0, m, nd, h1, h2, hk => by
    simp at h1 h2; subst h1; subst h2
    show bindL kindOf ((p, w) :: P.zip vs) m p = _
    unfold bindL
    rw [bindL_out fun v hv => (List.nodup_cons.mp nd).1 (List.of_mem_zip hv).1, if_pos hk]
    simp
  | p :: P, w :: vs, i + 1, m, nd, h1, h2, hk => by
    show bindL kindOf ((p, w) :: P.zip vs) m x = _
    unfold bindL
    exact bindL_get (i := i) (List.nodup_cons.mp nd).2 (by simpa using h1) (by simpa using h2) hk
theorem bindC_get {kindOf : Str → Option NameKind} {x : Str} {v : Value} : ∀ {P : List Str} {vs : List Value} {i : Nat} {m : Str → Option Value}, P.Nodup → P[i]? = some x → vs[i]? = some v → kindOf x ≠ some .local →
    bindC kindOf (P.zip vs) m x = some v
  | [], _, _, _, _, h, _, _ => by simp at h
  | _ :: _, [], _, _, _, _, h, _ => by simp at h
  | p :: P, w :: vs, 0, m, nd, h1, h2, hk => by
    simp at h1 h2; subst h1; subst h2
    show bindC kindOf ((p, w) :: P.zip vs) m p = _
    unfold bindC
    rw [bindC_out fun v hv => (List.nodup_cons.mp nd).1 (List.of_mem_zip hv).1, if_neg hk]
    simp
  | p :: P, w :: vs, i + 1, m, nd, h1, h2, hk => by
    show bindC kindOf ((p, w) :: P.zip vs) m x = _
    unfold bindC
    exact bindC_get (i := i) (List.nodup_cons.mp nd).2 (by simpa using h1) (by simpa using h2) hk

def start (N : List Str) (vs : List V) : St := vs.map some ++ List.replicate (N.length - vs.length) none

def cxOf (CX : CXT) (P : Program) (w : World) (K : PySem.W.Frag) (mg : Str → Option Value) (base : Heap) (N : List Str) (qual : Str) (scope : Scope) (f : Addr) (cd : Value) (A : Around) (outer : List Env) (s : Shared) (H : Hp) (E : XK) : Cx where
  prog := P
  w := w
  K := K
  mg := mg
  base := base
  A := A.deeper (envOfC qual scope s.heap.objs.size f cd)
  N := N
  s_0 := s
  H_0 := H
  env := envOfC qual scope s.heap.objs.size f cd
  outer := outer
  stack := envOfC qual scope s.heap.objs.size f cd :: outer
  ex := []
  calm := true
  fn := fun _ => true
  pn := []
  xe := fun e s' => wpAny (model P w) (A.deeper (envOfC qual scope s.heap.objs.size f cd)) (leaving (envOfC qual scope s.heap.objs.size f cd) e) (fun _ s'' => CX outer H s E e s'') (fun e' s'' => CX outer H s E e' s'') s'

theorem cell_has {sc : Scope} {n : Nat} {x : Str} (h : sc.names.lookup x = some .cell) : ∃ c, (cellsFrom n sc.names []).lookup x = some c := by
  have q := PySem.W.cellsFrom_some sc.names n [] (.inl h)
  exact Option.isSome_iff_exists.mp q

theorem inv_start {CX : CXT} {P : Program} {w : World} {K : PySem.W.Frag} {mg : Str → Option Value} {base : Heap} {N ps : List Str} {qual : Str} {scope : Scope} {f : Addr} {cd : Value} {A : Around} {outer : List Env} {s s1 : Shared} {H : Hp} {E : XK} {us : List Value} {vs : List V}
    (S : FnScope N ps scope) (hd : A.handled = none) (e0 : Env0 P w K mg base A outer s H) (hl : vs.length = ps.length) (r : Vals vs us)
    (x : InCallC s s.heap.objs.size (bindL (envOfC qual scope s.heap.objs.size f cd).kindOf (ps.zip us) fun _ => none) (cellsFrom (s.heap.objs.size + 1) scope.names []) (bindC (envOfC qual scope s.heap.objs.size f cd).kindOf (ps.zip us) fun _ => none) s1) :
    Inv (cxOf CX P w K mg base N qual scope f cd A outer s H E) [] (start N vs) H s1 := by
  have hpl : ps.length ≤ N.length := by have := congrArg List.length S.pre; rw [List.length_take] at this; omega
  obtain ⟨h1, tk, rfl, hk⟩ := x.done
  have noA : ∀ b : Addr, b ∉ (cxOf CX P w K mg base N qual scope f cd A outer s H E).ex := fun b z => absurd (show b ∈ ([] : List Addr) from z) (by simp)
  refine ⟨⟨e0.mod, S.kind, rfl, rfl, Nat.le_refl _, fun y z c h1 h2 => ?_, fun y hy => ?_, fun y c _ h => ?_, fun _ => hd, Around.frames_deeper e0.frames, .inr ⟨rfl, rfl⟩, fun b z => absurd z (noA b), e0.bs, e0.bsz, fun b _ _ => noA b, fun b z => absurd z (noA b), e0.funs, e0.frf, e0.tab⟩,
    rfl, e0.bare, Un.kept hk, ⟨_, x.toInCall.ns, fun i y v h1 h2 h3 => ?_⟩, fun y c h => ⟨_, x.cell y c h⟩, e0.hok.fresh (Nat.le_refl _), fun y c h => ?_, fun p hp => absurd (show p ∈ ([] : List (Addr × Obj)) from hp) (by simp), e0.hok.kept hk, ?_⟩
  · exact name_of_addr x.apart (PySem.mem_of_lookup h1) (PySem.mem_of_lookup h2)
  · have hy : scope.names.lookup y = some .cell ∨ scope.names.lookup y = some .free := hy
    rcases hy with hy | hy
    · exact cell_has hy
    · exact absurd rfl (S.nofree _ (PySem.mem_of_lookup hy))
  · exact Nat.le_of_lt (x.above y c (PySem.mem_of_lookup h))
  · have hi : i < vs.length := by
      unfold start at h2
      by_cases hi : i < vs.length
      · exact hi
      · rw [List.getElem?_append_right (by simpa using hi)] at h2
        rw [List.getElem?_replicate] at h2
        split at h2 <;> cases h2
    have ha : vs[i]? = some v := by
      unfold start at h2
      rw [List.getElem?_append_left (by simpa using hi), List.getElem?_map] at h2
      cases e : vs[i]? with
      | none => rw [e] at h2; cases h2
      | some a => rw [e] at h2; cases h2; rfl
    obtain ⟨u, hu, rv⟩ := r.get ha
    have hp : ps[i]? = some y := by
      rw [← S.pre, List.getElem?_take_of_lt (by omega)]; exact h1
    have ndP : ps.Nodup := by rw [← S.pre]; exact S.nd.sublist (List.take_sublist _ _)
    refine ⟨u, rv, ?_⟩
    rcases S.par y (List.mem_of_getElem? hp) with k | k
    · exact .inl ⟨k, bindL_get ndP hp hu k⟩
    · obtain ⟨c, e⟩ := cell_has (n := s.heap.objs.size + 1) k
      refine .inr ⟨.inl k, c, e, ?_⟩
      have q := x.cell y c e
      rw [bindC_get ndP hp hu (by show scope.names.lookup y ≠ _; rw [k]; decide)] at q
      exact q
  · exact e0.hok.fresh (Nat.le_of_lt (x.above y c (PySem.mem_of_lookup h)))
  · unfold start
    show _ = N.length
    rw [List.length_append, List.length_map, List.length_replicate]
    omega

theorem fn_of {CX : CXT} {P : Program} {w : World} {K : PySem.W.Frag} {mg : Str → Option Value} {base : Heap} {k : Nat} {f : Addr} {name qual : Str} {params : Arguments} {body : List Stmt} {scope : Scope} {dV kV doc pm cdv ct oc : Value} {an od : Option Addr}
    {osl : Array (Option Value)} {N ps : List Str} {sp : Sp} (lk : K.lookup f = some ⟨oc, od, .func (PySem.W.fnOf name qual params body scope dV kV doc pm an cdv ct), osl⟩) (hcd : PySem.W.codeIn K cdv qual = true) (S : FnScope N ps scope)
    (len : ∀ vs H Q E, sp vs H Q E → vs.length = ps.length)
    (hbody : ∀ (A : Around) (outer : List Env) (s : Shared) (H : Hp) (vs : List V) (Q : VK) (E : XK), Room k (A.deeper (envOfC qual scope s.heap.objs.size f cdv)) → sp vs H Q E →
      ∃ t, PSs (cxOf CX P w K mg base N qual scope f cdv A outer s H E) body t ∧ t { nx := fun _ H' => Q .non H', rt := Q } (start N vs) H) :
    FnOk P w K mg base CX (k + 1) f (PySem.W.fnOf name qual params body scope dV kV doc pm an cdv ct) ps sp := by
  refine ⟨len, fun A outer s H args us vs Q E hr e0 hb r hsp => ?_⟩
  have hl := len _ _ _ _ hsp
  have KX : K.In s.heap := e0.mod.kin.keeps fun b o e => (e0.bs b o e).1
  have lim : s.heap.NoLimit := e0.mod.nolimit.keeps fun b o e => (e0.bs b o e).1
  have hkind : ∀ y ∈ ps.zip us, scope.names.lookup y.1 = some .local ∨ (scope.names.lookup y.1 = some .cell ∧ ((cellsFrom (s.heap.objs.size + 1) scope.names []).lookup y.1).isSome = true) := fun ⟨n, v⟩ hy => by
    rcases S.par n (List.of_mem_zip hy).1 with q | q
    · exact .inl q
    · exact .inr ⟨q, PySem.W.cellsFrom_some _ _ _ (.inl q)⟩
  refine codeAny_call_function hr.depth (KX _ _ lk) rfl S.co S.gen rfl (PySem.W.codeRec_of KX hcd) (hb _ _ _ _ ?_)
  refine wpAny_newFunctionEnv_cells S.kind hkind fun env he s1 x => ?_
  subst he
  refine ⟨lim.keeps x.toInCall.keep, codeAny_func ?_⟩
  obtain ⟨t, ht, hq⟩ := hbody A outer s H vs Q E (hr.deeper _) hsp
  have I : Inv (cxOf CX P w K mg base N qual scope f cdv A outer s H E) [] (start N vs) H s1 := inv_start S hr.hd e0 hl r x
  refine wpAny_mono (ht [] s1 (start N vs) H _ I hq) (fun fl s' hs => ?_) fun e s' hs => hs
  have fin : ∀ {σ' : St} {H' : Hp} {v : V} {u : Value}, Inv (cxOf CX P w K mg base N qual scope f cdv A outer s H E) [] σ' H' s' → RelV v u → Q v H' → CE outer P w H s Q u s' :=
    fun {σ' H' v u} J rv q => ⟨v, H', J.os, J.bare, J.base, J.hok, rv, q⟩
  cases fl with
  | ret u =>
    obtain ⟨v, σ', H', J, rv, q⟩ := hs
    exact fin J rv q
  | next =>
    obtain ⟨σ', H', J, q⟩ := hs
    exact fin (v := V.non) (u := Value.none) J rfl q
  | brk =>
    obtain ⟨_, _, _, q⟩ := hs
    exact False.elim q
  | cont =>
    obtain ⟨_, _, _, q⟩ := hs
    exact False.elim q
end L2

namespace L2
open PySem PySem.Spec PyProof.Rows
section
variable {X : Cx} {x : Str} {p pos : Pos} {e : Expr} {es : List Expr} {t : TA} {id T : String} {r : List V → Hp → VK → Prop}

def tCB (r : List V → Hp → VK → Prop) (t : TA) : TE := fun σ H Q => t σ H fun vs H1 => r vs H1 Q
theorem pe_callB (hc : CallR X (.builtin id) r) (hg : Gl X x) (hm : X.mg x = none) (hv : bootBuiltins x = some (.builtin id)) (ha : PA X (e :: es) t) (hn : x ≠ "__name__" := by decide) (hdb : (x == ("__debug__" : Str)) = false := by decide)
    (he : starEach (e :: es) X.env = (false, eval e X.env) :: starEach es X.env := by rfl) (hpl : (backTo pos (starEach es X.env)).any (·.1) = false := by rfl) : PE X (.Call (.Name x p) (e :: es) [] pos) (tCB r t) := by
  intro pins s σ H Q I h
  refine wpAny_Call_Name_kw (ld_blt I hg hm hv ?_ hn hdb)
  exact PyProof.Rows.callWith_builtin1 (thn (ha pos pins s σ H _ I h) fun us s1 ⟨vs, H1, I1, r1, q1⟩ => hc pins s1 σ H1 vs us Q I1 r1 q1) he hpl
theorem pe_callTy (hc : CallR X (.type T) r) (hg : Gl X x) (hm : X.mg x = none) (hv : bootBuiltins x = some (.type T)) (ha : PA X (e :: es) t) (hn : x ≠ "__name__" := by decide) (hdb : (x == ("__debug__" : Str)) = false := by decide)
    (he : starEach (e :: es) X.env = (false, eval e X.env) :: starEach es X.env := by rfl) (hpl : (backTo pos (starEach es X.env)).any (·.1) = false := by rfl) : PE X (.Call (.Name x p) (e :: es) [] pos) (tCB r t) := by
  intro pins s σ H Q I h
  refine wpAny_Call_Name_kw (ld_blt I hg hm hv ?_ hn hdb)
  exact PyProof.Rows.callWith_type1 (thn (ha pos pins s σ H _ I h) fun us s1 ⟨vs, H1, I1, r1, q1⟩ => hc pins s1 σ H1 vs us Q I1 r1 q1) he hpl
end
end L2

namespace HT
open PySem PyProof.Rows

def lexLt : List Int → List Int → Bool
  | [], [] => false
  | [], _ :: _ => true
  | _ :: _, [] => false
  | x :: xs, y :: ys => if x = y then lexLt xs ys else decide (x < y)
theorem lexLt_cons (x y : Int) (xs ys : List Int) : lexLt (x :: xs) (y :: ys) = if x = y then lexLt xs ys else decide (x < y) := rfl
theorem lexLt_nil_nil : lexLt [] [] = false := rfl
theorem lexLt_nil_cons (y : Int) (ys : List Int) : lexLt [] (y :: ys) = true := rfl
theorem lexLt_cons_nil (x : Int) (xs : List Int) : lexLt (x :: xs) [] = false := rfl

theorem eqAt_int (A : Around) (s : Shared) (a : Int) (t : Tok) (c : Int) (u : Tok) : ∃ e, SeqAt.EqAt A s (.int a t) (.int c u) e ∧ (e = true ↔ a = c) :=
  ⟨(a == c), SeqAt.EqAt.int_int a t c u, by simp⟩
section
open PySem.SeqAt
open PySem.AutoSeq1 (wpAny_loadPart')
open PySem.MeetsSeq PySem.MeetsSeq2 PySem.MeetsSeq3

end

section
variable {prog : Program} {w : World} {A : Around} {E : Value → Shared → Prop} {s : Shared}

def sIx (n d : Nat) : Option Int → Nat
  | none => d
  | some v => if v < 0 then (v + (n : Int)).toNat else min v.toNat n
end
end HT

namespace L2
open PySem PySem.Spec PyProof.Rows

abbrev TO := St → Hp → (Option Int → Hp → Prop) → Prop
def PO (X : Cx) (e : Option Expr) (t : TO) : Prop :=
  ∀ (pins : List (Addr × Obj)) (s : Shared) (σ : St) (H : Hp) (Q : Option Int → Hp → Prop), Inv X pins σ H s → t σ H Q →
    wpAny (model X.prog X.w) X.A (evalPart e X.env) (fun u s' => ∃ o H', Inv X pins σ H' s' ∧ IsPart u o ∧ Q o H') X.xe s
def tNoPart : TO := fun _ H Q => Q none H
def tPart (t : TE) : TO := fun σ H Q => t σ H fun x H1 => ∃ i, x = .int i ∧ Q (some i) H1

theorem intsAre_of {ns : List Int} : ∀ {us : List Value}, Vals (ns.map V.int) us → IntsAre us ns := by
  induction ns with
  | nil => intro us r; rw [List.map_nil] at r; cases r; exact .nil
  | cons n ns ih =>
    intro us r
    rw [List.map_cons] at r
    cases r with
    | cons r1 r2 =>
      obtain ⟨t, e⟩ := r1
      subst e
      exact .cons n t (ih r2)

section
variable {X : Cx} {e : Expr} {te : TE} {lo hi : Option Expr} {tl th : TO} {pos p2 : Pos}

theorem po_none : PO X none tNoPart := by
  intro pins s σ H Q I h
  rw [evalPart_none]
  exact wpAny_pure ⟨none, H, I, .none, h⟩
theorem po_some (h : PE X e te) : PO X (some e) (tPart te) := by
  intro pins s σ H Q I hw
  rw [evalPart_some]
  refine thn (h pins s σ H _ I hw) fun u s1 ⟨x, H1, I1, r1, q1⟩ => ?_
  obtain ⟨i, rfl, q⟩ := q1
  obtain ⟨t, rfl⟩ := r1
  exact ⟨some i, H1, I1, .int i t, q⟩

def SlR (X : Cx) (r : V → Option Int → Option Int → Hp → VK → Prop) : Prop :=
  ∀ (pins : List (Addr × Obj)) (s : Shared) (σ : St) (H : Hp) (x : V) (v vl vu : Value) (lo hi : Option Int) (sl : Addr) (Q : VK), Inv X pins σ H s → RelV x v → s.heap.IsSliceOf sl vl vu .none → IsPart vl lo → IsPart vu hi → r x lo hi H Q →
    ∃ T id, typeLookup (.type T) "__getitem__" = pure (some (.builtin id)) ∧ s.TypeIs v T ∧ wpAny (model X.prog X.w) X.A (getItem v (.ref sl)) (EP X pins σ Q) X.xe s
theorem SlR.or {r r' : V → Option Int → Option Int → Hp → VK → Prop} (h : SlR X r) (h' : SlR X r') : SlR X (fun x lo hi H Q => r x lo hi H Q ∨ r' x lo hi H Q) := by
  intro pins s σ H x v vl vu lo hi sl Q I rx hs pl pu q
  rcases q with q | q
  · exact h pins s σ H x v vl vu lo hi sl Q I rx hs pl pu q
  · exact h' pins s σ H x v vl vu lo hi sl Q I rx hs pl pu q
def tSl (r : V → Option Int → Option Int → Hp → VK → Prop) (te : TE) (tl th : TO) : TE := fun σ H Q => te σ H fun x H1 => tl σ H1 fun l H2 => th σ H2 fun u H3 => r x l u H3 Q
theorem pe_slice {r : V → Option Int → Option Int → Hp → VK → Prop} (hr : SlR X r) (he : PE X e te) (hl : PO X lo tl) (hu : PO X hi th) : PE X (.Subscript e (.Slice lo hi none p2) pos) (tSl r te tl th) := by
  intro pins s σ H Q I h
  refine Subscript_ (thn (he pins s σ H _ I h) fun v s1 ⟨x, H1, I1, r1, q1⟩ => ?_)
  refine wpAny_Slice (thn (hl pins s1 σ H1 _ I1 q1) fun vl s2 ⟨l, H2, I2, pl, q2⟩ => thn (hu pins s2 σ H2 _ I2 q2) fun vu s3 ⟨u, H3, I3, pu, q3⟩ => ?_)
  rw [evalPart_none]
  refine wpAny_pure ?_
  have I4 : Inv X pins σ H3 { s3 with heap := s3.heap.push { cls := .type "slice", data := .fields #[vl, vu, .none] } } := I3.kept (t' := s3.toks) fun b ob q => Heap.get?_push_of_some _ q
  obtain ⟨T, id, hT, ht, hg⟩ := hr pins { s3 with heap := s3.heap.push { cls := .type "slice", data := .fields #[vl, vu, .none] } } σ H3 x v vl vu l u s3.heap.objs.size Q I4 r1 (Heap.IsSliceOf.new ..) pl pu q3
  show wpAny (model X.prog X.w) X.A (subscriptTail e (.Slice lo hi none p2) v (.ref s3.heap.objs.size)) (EP X pins σ Q) X.xe { s3 with heap := s3.heap.push { cls := .type "slice", data := .fields #[vl, vu, .none] } }
  exact tail_any (ops := [.ref s3.heap.objs.size, v]) ht hT hg (by with_unfolding_all rfl)

def cutV (xs : List V) (lo hi : Option Int) : List V := (xs.drop (HT.sIx xs.length 0 lo)).take (HT.sIx xs.length xs.length hi - HT.sIx xs.length 0 lo)
theorem cutV_length (xs : List V) (lo hi : Option Int) : (cutV xs lo hi).length ≤ xs.length := by
  unfold cutV
  rw [List.length_take, List.length_drop]
  omega
end
end L2

namespace L2
open PySem PySem.Spec PyProof.Rows

def ixN (n : Nat) (i : Int) : Option Nat := if 0 ≤ i then (if i < n then some i.toNat else none) else if -(n : Int) ≤ i then some (i + n).toNat else none
def atI {α : Type} (xs : List α) (i : Int) : Option α := (ixN xs.length i).bind fun j => xs[j]?
theorem ixN_seq {n : Nat} {i : Int} {j : Nat} (h : ixN n i = some j) : seqIndex? i n = some j ∧ j < n ∧ -(n : Int) ≤ i ∧ i < n := by
  unfold ixN at h
  by_cases h0 : 0 ≤ i
  · rw [if_pos h0] at h
    by_cases h1 : i < n
    · rw [if_pos h1] at h
      have e : i.toNat = j := Option.some.inj h
      exact ⟨by rw [seqIndex_of h0 h1, e], by omega, by omega, h1⟩
    · rw [if_neg h1] at h; cases h
  · rw [if_neg h0] at h
    by_cases h1 : -(n : Int) ≤ i
    · rw [if_pos h1] at h
      have e : (i + n).toNat = j := Option.some.inj h
      exact ⟨by rw [seqIndex_neg (by omega) h1, e], by omega, h1, by omega⟩
    · rw [if_neg h1] at h; cases h
theorem atI_get {α : Type} {xs : List α} {i : Int} {v : α} (h : atI xs i = some v) : ∃ j, seqIndex? i xs.length = some j ∧ xs[j]? = some v ∧ j < xs.length ∧ -(xs.length : Int) ≤ i ∧ i < xs.length := by
  unfold atI at h
  cases e : ixN xs.length i with
  | none => rw [e] at h; cases h
  | some j =>
    rw [e] at h
    obtain ⟨h1, h2, h3, h4⟩ := ixN_seq e
    exact ⟨j, h1, h, h2, h3, h4⟩
def PlainIx (b : Expr) : Prop := ∀ o i, subscripted b false o i = operate [o, i] (getItem o i)
def IxR (X : Cx) (r : R2) : Prop :=
  ∀ (value slice : Expr) (pins : List (Addr × Obj)) (s : Shared) (σ : St) (H : Hp) (x y : V) (v u : Value) (Q : VK), Inv X pins σ H s → RelV x v → RelV y u → r x y H Q →
    subscripted slice false v u = operate [v, u] (getItem v u) → wpAny (model X.prog X.w) X.A (subscriptTail value slice v u) (EP X pins σ Q) X.xe s
def MtR (X : Cx) (id : String) (r : V → List V → Hp → VK → Prop) : Prop :=
  ∀ (pins : List (Addr × Obj)) (s : Shared) (σ : St) (H : Hp) (x : V) (xs : List V) (v : Value) (us : List Value) (Q : VK), Inv X pins σ H s → RelV x v → Vals xs us → r x xs H Q →
    wpAny (model X.prog X.w) X.A (call (.builtin id) (v :: us)) (EP X pins σ Q) X.xe s
section
variable {X : Cx} {a b : Expr} {ta tb : TE} {pos : Pos}
theorem IxR.or {r r' : R2} (h : IxR X r) (h' : IxR X r') : IxR X (fun x y H Q => r x y H Q ∨ r' x y H Q) := by
  intro value slice pins s σ H x y v u Q I rx ry q hs
  rcases q with q | q
  · exact h value slice pins s σ H x y v u Q I rx ry q hs
  · exact h' value slice pins s σ H x y v u Q I rx ry q hs
theorem MtR.or {id : String} {r r' : V → List V → Hp → VK → Prop} (h : MtR X id r) (h' : MtR X id r') : MtR X id (fun x xs H Q => r x xs H Q ∨ r' x xs H Q) := by
  intro pins s σ H x xs v us Q I rx rs q
  rcases q with q | q
  · exact h pins s σ H x xs v us Q I rx rs q
  · exact h' pins s σ H x xs v us Q I rx rs q
theorem pe_ix {r : R2} (hr : IxR X r) (ha : PE X a ta) (hb : PE X b tb) (hs : PlainIx b) : PE X (.Subscript a b pos) (tOp r ta tb) := by
  intro pins s σ H Q I h
  exact Subscript_ (binT ha hb I h fun v u s2 x y H2 I2 rx ry q => hr a b pins s2 σ H2 x y v u Q I2 rx ry q (hs _ _))

def rIxL (K : PySem.W.Frag) : R2 := fun x y H Q => ∃ p xs i v, x = .ref p ∧ y = .int i ∧ SqL K H p xs ∧ atI xs i = some v ∧ Q v H
def rIxT (K : PySem.W.Frag) : R2 := fun x y H Q => ∃ p xs i v, x = .ref p ∧ y = .int i ∧ SqT K H p xs ∧ atI xs i = some v ∧ Q v H
def rIxS : R2 := fun x y H Q => ∃ z i c, x = .str z ∧ y = .int i ∧ z.length ≤ sizeLine ∧ atI z.cps.toList i = some c ∧ Q (.str ⟨#[c]⟩) H
theorem ix_list : IxR X (rIxL X.K) := by
  intro value slice pins s σ H x y v u Q I rx ry h hs
  obtain ⟨p, xs, i, z, rfl, rfl, hq, he, q⟩ := h
  cases rx
  obtain ⟨t, rfl⟩ := ry
  obtain ⟨its, r, pl, hz⟩ := I.list hq
  obtain ⟨j, h1, h2, h3, h4, h5⟩ := atI_get he
  obtain ⟨w, ew, rw'⟩ := r.get h2
  have hl := r.length
  have hn := line63
  have fin : EP X pins σ Q w s := ⟨z, H, I, rw', q⟩
  by_cases h0 : 0 ≤ i
  · have hj : i.toNat = j := by
      rw [seqIndex_of h0 h5] at h1
      exact Option.some.inj h1
    exact item_listR pl.isList h0 (by omega) (by rw [hj]; simpa using ew) fin hs
  · have hj : (i + (its.toArray.size : Int)).toNat = j := by
      rw [seqIndex_neg (by omega) h4] at h1
      rw [List.size_toArray, ← hl]
      exact Option.some.inj h1
    exact subscriptTail_builtinR (x := w) pl.isList.typeIs slot_list_getitem.lookup
      (wpAny_getItem_list_neg (Q := fun r s' => r = w ∧ EP X pins σ Q r s') pl.isList (by omega) (by rw [List.size_toArray] <;> omega) (by omega) (by rw [hj]; simpa using ew) ⟨rfl, fin⟩) hs
theorem ix_tup : IxR X (rIxT X.K) := by
  intro value slice pins s σ H x y v u Q I rx ry h hs
  obtain ⟨p, xs, i, z, rfl, rfl, hq, he, q⟩ := h
  cases rx
  obtain ⟨t, rfl⟩ := ry
  obtain ⟨its, r, pl, hz⟩ := I.tuple hq
  obtain ⟨j, h1, h2, h3, h4, h5⟩ := atI_get he
  obtain ⟨w, ew, rw'⟩ := r.get h2
  have hl := r.length
  have hn := line63
  have fin : EP X pins σ Q w s := ⟨z, H, I, rw', q⟩
  exact subscriptTail_builtinR (x := w) pl.typeIs slot_tuple_getitem.lookup
    (getItem_tuple (j := j) (Q := fun r s' => r = w ∧ EP X pins σ Q r s') pl (by omega) (by omega) (by rw [List.size_toArray, ← hl]; exact h1) (by simpa using ew) ⟨rfl, fin⟩) hs
theorem ix_str : IxR X rIxS := by
  intro value slice pins s σ H x y v u Q I rx ry h hs
  obtain ⟨z, i, c, rfl, rfl, hz, he, q⟩ := h
  obtain ⟨t, rfl⟩ := rx
  obtain ⟨t', rfl⟩ := ry
  obtain ⟨j, h1, h2, h3, h4, h5⟩ := atI_get he
  have hl : z.cps.toList.length = z.length := by simp [Str.length]
  rw [hl] at h1 h4 h5
  have hn := line63
  exact tail_any (typeIs_str s z t) slot_str_getitem.lookup (getItem_str (c := c) (by
    have e1 : decide (i < -(2 ^ 63 : Int)) = false := decide_eq_false (by omega)
    have e2 : decide (i ≥ 2 ^ 63) = false := decide_eq_false (by omega)
    rw [e1, e2, Bool.or_false]) (by rw [h1]; simpa using h2) ⟨.str ⟨#[c]⟩, H, I.tok _, ⟨_, rfl⟩, q⟩) hs
def rIx (K : PySem.W.Frag) : R2 := fun x y H Q => rIxL K x y H Q ∨ rIxT K x y H Q ∨ rIxS x y H Q
theorem ix_seq : IxR X (rIx X.K) := ix_list.or (ix_tup.or ix_str)

theorem Inv.lst {pins : List (Addr × Obj)} {σ : St} {H : Hp} {s : Shared} {p : Addr} {xs : List V} (I : Inv X pins σ H s) (h : H p = some (.lst xs)) :
    ∃ (its : List Value) (n : Nat), Vals xs its ∧ s.heap.get? p = some { cls := .type "list", data := .seq its.toArray n } ∧ xs.length ≤ sizeLine := by
  obtain ⟨z, its, n, r, e⟩ := I.hok p _ h
  exact ⟨its, n, r, e, z⟩
theorem slice_bounds (lo hi : Option Int) (n : Nat) : (sliceBounds lo hi none n).1 = ((HT.sIx n 0 lo : Nat) : Int) ∧ (sliceBounds lo hi none n).2.1 = ((HT.sIx n n hi : Nat) : Int) ∧ (sliceBounds lo hi none n).2.2 = 1 := by
  refine ⟨?_, ?_, rfl⟩
  · cases lo with
    | none => simp [sliceBounds, HT.sIx]
    | some i =>
      simp only [sliceBounds, HT.sIx, Option.getD_none, show (1 : Int) > 0 by decide, if_true]
      by_cases h : i < 0
      · simp only [h, if_true] <;> omega
      · simp only [h, if_false] <;> omega
  · cases hi with
    | none => simp [sliceBounds, HT.sIx]
    | some i =>
      simp only [sliceBounds, HT.sIx, Option.getD_none, show (1 : Int) > 0 by decide, if_true]
      by_cases h : i < 0
      · simp only [h, if_true] <;> omega
      · simp only [h, if_false] <;> omega
theorem slicePick_cut (its : List Value) (lo hi : Option Int) : slicePick its.toArray lo hi none = ((its.drop (HT.sIx its.length 0 lo)).take (HT.sIx its.length its.length hi - HT.sIx its.length 0 lo)).toArray := by
  obtain ⟨h1, h2, h3⟩ := slice_bounds lo hi its.toArray.size
  unfold slicePick
  rw [h1, h2, h3]
  simp only [sliceRange_one, pick_run, List.size_toArray] <;> rfl
def rSlL (K : PySem.W.Frag) : V → Option Int → Option Int → Hp → VK → Prop := fun x lo hi H Q => ∃ a xs, x = .ref a ∧ SqL K H a xs ∧ ∀ p, H p = none → Q (.ref p) (upd H p (.lst (cutV xs lo hi)))
theorem sl_list : SlR X (rSlL X.K) := by
  intro pins s σ H x v vl vu lo hi sl Q I rx hs pl pu h
  obtain ⟨a, xs, rfl, hx, q⟩ := h
  cases rx
  obtain ⟨its, r, ht, hz⟩ := I.list hx
  have hlen := r.length
  refine ⟨"list", _, slot_list_getitem.lookup, ht.isList.typeIs, ?_⟩
  refine wpAny_getItem_list_slice ht.isList hs pl pu .none (by simp) ?_ (by rw [List.size_toArray] <;> omega)
  rw [slicePick_cut, ← hlen]
  refine ⟨.ref s.heap.objs.size, _, I.laid (t' := s.toks) (o := .lst (cutV xs lo hi)) (fun b ob q => Heap.get?_push_of_some _ q) (Nat.le_refl _) ?_, rfl, q _ (I.hok.fresh (Nat.le_refl _))⟩
  exact ⟨Nat.le_trans (cutV_length xs lo hi) hz, _, 0, (r.drop (HT.sIx xs.length 0 lo)).take (HT.sIx xs.length xs.length hi - HT.sIx xs.length 0 lo), Heap.get?_push_size _ rfl⟩

theorem call_len_seq : CallR X (.builtin "len") (fun xs H Q => ∃ p ys, xs = [.ref p] ∧ (SqL X.K H p ys ∨ SqT X.K H p ys) ∧ Q (.int ys.length) H) := by
  intro pins s σ H xs us Q I r h
  obtain ⟨p, ys, rfl, hq, q⟩ := h
  obtain ⟨u, rfl, rx⟩ := vals1 r
  cases rx
  have hn := line63
  rcases hq with hq | hq
  · obtain ⟨its, r', pl, hz⟩ := I.list hq
    have hlen := r'.length
    exact Calls.call_len_list pl.isList (by simp only [List.size_toArray] <;> omega) ⟨.int ys.length, H, I.tok _, ⟨s.toks + 1, by rw [List.size_toArray, hlen]⟩, q⟩
  · obtain ⟨its, r', pl, hz⟩ := I.tuple hq
    have hlen := r'.length
    exact len_tuple pl (by simp only [List.size_toArray] <;> omega) ⟨.int ys.length, H, I.tok _, ⟨s.toks + 1, by rw [List.size_toArray, hlen]⟩, q⟩
theorem CallR.or {f : Value} {r r' : List V → Hp → VK → Prop} (h : CallR X f r) (h' : CallR X f r') : CallR X f (fun xs H Q => r xs H Q ∨ r' xs H Q) := by
  intro pins s σ H xs us Q I rs q
  rcases q with q | q
  · exact h pins s σ H xs us Q I rs q
  · exact h' pins s σ H xs us Q I rs q
theorem call_list_of : CallR X (.type "list") (fun xs H Q => ∃ p ys, xs = [.ref p] ∧ (SqL X.K H p ys ∨ SqT X.K H p ys) ∧ ∀ l, H l = none → Q (.ref l) (upd H l (.lst ys))) := by
  intro pins s σ H xs us Q I r h
  obtain ⟨p, ys, rfl, hq, q⟩ := h
  obtain ⟨u, rfl, rx⟩ := vals1 r
  cases rx
  have fin : ∀ (its : List Value), Vals ys its → ys.length ≤ sizeLine → ∀ (h' : Heap) (c' : Nat), (∀ b o', s.heap.get? b = some o' → h'.get? b = some o') →
      h'.get? s.heap.objs.size = some { cls := .type "list", dict := none, data := .seq its.toArray c', slots := #[] } → EP X pins σ Q (.ref s.heap.objs.size) { s with heap := h' } := fun its r' hz h' c' kp e =>
    ⟨.ref s.heap.objs.size, _, I.laid (t' := s.toks) kp (Nat.le_refl _) (show ObjOk X.prog X.w _ h' _ (.lst ys) from ⟨hz, its, c', r', e⟩), rfl, q _ (I.hok.fresh (Nat.le_refl _))⟩
  rcases hq with hq | hq
  · obtain ⟨its, r', pl, hz⟩ := I.list hq
    have hlen := r'.length
    obtain ⟨o, ho, hc, n, hd⟩ := pl.isList
    exact call_list_seq p (.inl rfl) ho hc hd (fun h' c' kp e => fin its r' hz h' c' kp e) (by simp only [List.size_toArray] <;> omega)
  · obtain ⟨its, r', pl, hz⟩ := I.tuple hq
    have hlen := r'.length
    obtain ⟨o, ho, hc, n, hd⟩ := pl
    exact call_list_seq p (.inr rfl) ho hc hd (fun h' c' kp e => fin its r' hz h' c' kp e) (by simp only [List.size_toArray] <;> omega)
def tyV (K : PySem.W.Frag) (T : String) (x : V) (H : Hp) : Prop := match x with
  | .str _ => T = "str"
  | .int _ => T = "int"
  | .ref p => (T = "list" ∧ ∃ xs, SqL K H p xs) ∨ (T = "tuple" ∧ ∃ o, K.lookup p = some o ∧ o.cls = .type "tuple" ∧ o.dict = none) ∨
      (T = "dict" ∧ ((∃ kvs, H p = some (.dK kvs)) ∨ ∃ kvs, H p = some (.dT kvs))) ∨ (T = "set" ∧ ∃ S n, H p = some (.set S n))
  | _ => False
theorem tyV_is {pins : List (Addr × Obj)} {σ : St} {H : Hp} {s : Shared} {T : String} {x : V} {v : Value} (I : Inv X pins σ H s) (r : RelV x v) (ty : tyV X.K T x H) :
    s.TypeIs v T ∧ ∀ a, v = .ref a → ∃ ob, s.heap.get? a = some ob ∧ ob.dict = none := by
  cases x with
  | str z =>
    obtain ⟨t, rfl⟩ := r
    cases (show T = "str" from ty)
    exact ⟨typeIs_str s z t, fun _ e => nomatch e⟩
  | int i =>
    obtain ⟨t, rfl⟩ := r
    cases (show T = "int" from ty)
    exact ⟨typeIs_int s i t, fun _ e => nomatch e⟩
  | ref p =>
    cases r
    rcases ty with ⟨rfl, xs, hq⟩ | ⟨rfl, o, hk, hc, hd⟩ | ⟨rfl, hk⟩ | ⟨rfl, S, n, hk⟩
    · obtain ⟨its, _, pl, _⟩ := I.list hq
      refine ⟨pl.isList.typeIs, fun a e => ?_⟩
      cases e
      obtain ⟨o, n, e, c, hd, _⟩ := pl
      exact ⟨o, e, hd⟩
    · refine ⟨⟨o, I.kIn p o hk, hc⟩, fun a e => ?_⟩
      cases e
      exact ⟨o, I.kIn _ o hk, hd⟩
    · have z : ∃ o, s.heap.get? p = some o ∧ o.ExactDict := by
        rcases hk with ⟨kvs, hk⟩ | ⟨kvs, hk⟩
        · obtain ⟨_, _, _, _, o, _, _, e, ex, _⟩ := I.hok p _ hk
          exact ⟨o, e, ex⟩
        · obtain ⟨_, _, _, _, o, _, _, e, ex, _⟩ := I.hok p _ hk
          exact ⟨o, e, ex⟩
      obtain ⟨o, e, ex⟩ := z
      refine ⟨⟨o, e, ex.1⟩, fun a e2 => ?_⟩
      cases e2
      exact ⟨o, e, ex.2.1⟩
    · obtain ⟨o, _, _, _, e, ex, _⟩ := I.hok p _ hk
      refine ⟨⟨o, e, ex.1⟩, fun a e2 => ?_⟩
      cases e2
      exact ⟨o, e, ex.2.1⟩
  | _ => exact False.elim ty
def tBM (K : PySem.W.Frag) (T : String) (r : V → List V → Hp → VK → Prop) (to : TE) (t : TA) : TE := fun σ H Q => to σ H fun x H1 => tyV K T x H1 ∧ t σ H1 fun xs H2 => r x xs H2 Q
variable {o e : Expr} {es : List Expr} {to : TE} {t : TA} {name : Str} {apos cpos : Pos} {T id : String} {r : V → List V → Hp → VK → Prop}
theorem pe_bm (pa : PlainAttrs T) (slot : Slot T name id) (hty : typeOf (.builtin id) = pure (.type "method_descriptor")) (hm : MtR X id r) (ho : PE X o to) (ha : PA X (e :: es) t)
    (hbase : attributeBase o name X.env (eval o X.env) = eval o X.env := by rfl)
    (hfew : ((backTo cpos (starEach (e :: es) X.env)).all (fun x => !x.1) && (backToKw cpos (keywordEach [] X.env)).all (fun x => x.1.isSome)
      && decide ((e :: es).length + ([] : List Keyword).length + (if ([] : List Keyword).isEmpty then 0 else 1) < 30)) = true := by rfl)
    (hline : (apos.endLine == cpos.line) = true := by rfl) (hs : starEach (e :: es) X.env = (false, eval e X.env) :: starEach es X.env := by rfl) (hplain : (backTo cpos (starEach es X.env)).any (·.1) = false := by rfl) :
    PE X (.Call (.Attribute o name apos) (e :: es) [] cpos) (tBM X.K T r to t) := by
  intro pins s σ H Q I h
  refine wpAny_Call_method_late hbase hfew hline rfl (thn (ho pins s σ H _ I h) fun v s1 ⟨x, H1, I1, r1, ty, q1⟩ => ?_)
  obtain ⟨h1, h2⟩ := tyV_is I1 r1 ty
  refine ⟨T, id, pa, slot, hty, h1, h2, ?_⟩
  have hA := ha cpos pins s1 σ H1 _ I1 q1
  rw [hs] at hA ⊢
  refine Calls.callWith_builtin (by show (false || (backTo cpos (starEach es X.env)).any (·.1)) = false; rw [hplain] <;> rfl) (Calls.evalArgs_plain ?_)
  exact thn hA fun us s2 ⟨vs, H2, I2, r2, q2⟩ => hm pins s2 σ H2 x vs v us Q I2 r1 r2 q2
end
end L2

namespace L2
open PySem PySem.Spec PyProof.Rows

def MtM (X : Cx) (id : String) (r : V → List V → Hp → VK → Prop) : Prop :=
  ∀ (pins : List (Addr × Obj)) (s : Shared) (σ : St) (H : Hp) (x : V) (xs : List V) (v : Value) (us : List Value) (Q : VK), Inv X pins σ H s → RelV x v → Vals xs us → r x xs H Q →
    wpAny (model X.prog X.w) X.A (call (.builtin id) (v :: us)) (EP X pins σ Q) X.xe s

theorem Vals.one : ∀ {x : V} {us : List Value}, Vals [x] us → ∃ u, us = [u] ∧ RelV x u
  | _, _, .cons r .nil => ⟨_, rfl, r⟩
theorem Vals.zero : ∀ {us : List Value}, Vals [] us → us = []
  | _, .nil => rfl
theorem Vals.eraseIdx : ∀ {xs : List V} {us : List Value} (i : Nat), Vals xs us → Vals (xs.eraseIdx i) (us.eraseIdx i)
  | _, _, _, .nil => .nil
  | _, _, 0, .cons _ t => t
  | _, _, i + 1, .cons r t => .cons r (Vals.eraseIdx i t)
theorem Vals.reverse {xs : List V} {us : List Value} (h : Vals xs us) : Vals xs.reverse us.reverse := by
  induction h with
  | nil => exact .nil
  | cons r t ih => rw [List.reverse_cons, List.reverse_cons]; exact Vals.append ih (.cons r .nil)
theorem Vals.rep {xs : List V} {us : List Value} (h : Vals xs us) : ∀ k : Nat, Vals (List.replicate k xs).flatten (List.replicate k us).flatten
  | 0 => .nil
  | k + 1 => by
    rw [List.replicate_succ, List.replicate_succ, List.flatten_cons, List.flatten_cons]
    exact Vals.append h (Vals.rep h k)
section
variable {X : Cx} {pins : List (Addr × Obj)} {σ : St} {H : Hp} {s : Shared} {l b : Addr} {xs ys zs : List V}

theorem Inv.lset {its its' : List Value} {n : Nat} {f : Array Value → Array Value} {t' : Nat} (I : Inv X pins σ H s) (hH : H l = some (.lst xs))
    (e : s.heap.get? l = some { cls := .type "list", data := .seq its.toArray n }) (hf : f its.toArray = its'.toArray) (hv : Vals ys its') (hz : ys.length ≤ sizeLine) :
    Inv X pins σ (upd H l (.lst ys)) { s with heap := s.heap.update l (Obj.mapSeq f), toks := t' } := by
  have q := PySem.IsL.update e f
  rw [hf] at q
  refine I.write (x := l) (e := l) (by rw [hH]; exact trivial) (.inl rfl) (fun b' u hb hu => (Heap.get?_update_other s.heap (Obj.mapSeq f) (Ne.symm hb)).trans hu) ⟨_, q⟩ ?_
  exact ⟨hz, its', _, hv, q⟩
theorem Inv.fresh (I : Inv X pins σ H s) : H s.heap.objs.size = none := I.hok.fresh (Nat.le_refl _)
theorem Inv.lstM (I : Inv X pins σ H s) (hH : H l = some (.lst xs)) : xs.length ≤ sizeLine ∧ ∃ (its : List Value) (n : Nat), Vals xs its ∧ xs.length = its.length ∧ s.heap.get? l = some { cls := .type "list", data := .seq its.toArray n } := by
  obtain ⟨z, its, n, r, e⟩ := I.hok l _ hH
  exact ⟨z, its, n, r, r.length, e⟩

end

section
variable {X : Cx}

def rAppend : V → List V → Hp → VK → Prop := fun x vs H Q => ∃ l xs y, x = .ref l ∧ vs = [y] ∧ H l = some (.lst xs) ∧ xs.length < sizeLine ∧ Q .non (upd H l (.lst (xs ++ [y])))
theorem mt_append : MtM X "list.append" rAppend := by
  intro pins s σ H x vs v us Q I rx rv h
  obtain ⟨l, xs, y, rfl, rfl, hH, hz, q⟩ := h
  cases rx
  obtain ⟨u, rfl, ru⟩ := rv.one
  obtain ⟨z, its, n, r, hl, e⟩ := I.lstM hH
  refine call_meets F.slot_list_append ⟨_, e, rfl⟩ F.entry_list_append (F.args_list_append_2 _ _) (PySem.list_append l its.toArray n u (by rw [List.size_toArray]; omega)) ⟨e, ?_⟩
  refine ⟨.non, _, I.lset (its' := its ++ [u]) hH e (by simp) (r.append (.cons ru .nil)) ?_, rfl, q⟩
  rw [List.length_append, List.length_singleton]
  omega

end

section
variable {prog : Program} {w : World} {A : Around} {E : Value → Shared → Prop} {s : Shared}
end

section
variable {X : Cx}
end
end L2

namespace L2
open PySem PySem.Spec PyProof.Rows

theorem Vals.ints : ∀ {ns : List Int} {us : List Value}, Vals (ns.map V.int) us → IntsAre us ns
  | [], us, h => by
    rw [List.map_nil] at h
    cases h
    exact IntsAre.nil
  | n :: ns, us, h => by
    rw [List.map_cons] at h
    cases h with
    | cons r t =>
      obtain ⟨k, rfl⟩ := r
      exact IntsAre.cons n k (Vals.ints t)
theorem vals_of_ints : ∀ {us : List Value} {ns : List Int}, IntsAre us ns → Vals (ns.map V.int) us
  | _, _, .nil => by rw [List.map_nil]; exact Paired.nil
  | _, _, .cons n t h => by rw [List.map_cons]; exact Paired.cons (show RelV (V.int n) (Value.int n t) from ⟨t, rfl⟩) (vals_of_ints h)
theorem Vals.strs : ∀ {xs : List Str} {us : List Value}, Vals (xs.map V.str) us → StrsAre us xs
  | [], us, h => by
    rw [List.map_nil] at h
    cases h
    exact StrsAre.nil
  | x :: xs, us, h => by
    rw [List.map_cons] at h
    cases h with
    | cons r t =>
      obtain ⟨k, rfl⟩ := r
      exact StrsAre.cons x k (Vals.strs t)
theorem Vals.bls : ∀ {bs : List Bool} {us : List Value}, Vals (bs.map V.bl) us → us = bs.map Value.bool
  | [], us, h => by
    rw [List.map_nil] at h
    cases h
    rfl
  | b :: bs, us, h => by
    rw [List.map_cons] at h
    cases h with
    | cons r t =>
      cases r
      rw [Vals.bls t, List.map_cons]
theorem Vals.ref1 {a : Addr} {us : List Value} (r : Vals [V.ref a] us) : us = [Value.ref a] := by
  cases r with
  | cons r t =>
    cases t
    cases r
    rfl
section
variable {prog : Program} {w : World} {A : Around} {E : Value → Shared → Prop} {s : Shared} {l : Addr} {its : List Value} {ns : List Int} {Q : Value → Shared → Prop}
theorem sum_raw (hh : A.handled = none) (hl : s.heap.IsList l its.toArray) (hi : IntsAre its ns)
    (h : ∀ h' tk t', (∀ b o, s.heap.get? b = some o → h'.get? b = some o) → Q (.int ns.sum t') { s with heap := h', toks := tk }) : wpAny (model prog w) A (call (.builtin "sum") [.ref l]) Q E s := by
  obtain ⟨xs, e⟩ := hi.allInts.items
  have hn : numsOf (intItems xs).toList = ns := by rw [← e]; exact hi.numsOf
  rw [nums_intItems] at hn
  rw [e] at hl
  refine PySem.sum_intListG hh hl fun h' tk t' hk => ?_
  have := h h' tk t' hk
  rw [preSum_eq, List.take_of_length_le (by simp), hn]; exact this
end

section
variable {X : Cx}
def rSum (K : PySem.W.Frag) : List V → Hp → VK → Prop := fun vs H Q => ∃ (a : Addr) (ns : List Int), vs = [V.ref a] ∧ SqL K H a (ns.map V.int) ∧ Q (.int ns.sum) H
theorem cr_sum (hc : X.calm = true) : CallR X (.builtin "sum") (rSum X.K) := by
  intro pins s σ H vs us Q I r h
  obtain ⟨a, ns, rfl, hs, q⟩ := h
  obtain ⟨its, rv, hl, _⟩ := I.list hs
  rw [Vals.ref1 r]
  exact sum_raw (I.ok.hd hc) hl.isList rv.ints fun h' tk t' hk => ⟨.int _, H, I.kept hk, ⟨_, rfl⟩, q⟩
theorem small64 {n : Nat} (h : n < 64) : n ≤ sizeLine := by rw [sizeLine_eq]; omega
end

section
variable {X : Cx}
end

section
variable {X : Cx}
end

theorem iter_any {prog : Program} {w : World} {A : Around} {E : Value → Shared → Prop} {s : Shared} {l : Addr} {items : Array Value} {Q : Value → Shared → Prop} (hl : s.heap.IsList l items)
    (h : ∀ s₂ : Shared, s₂ = { s with heap := s.heap.push { cls := .type "list_iterator", data := .fields #[.ref l, .int 0 0] } } →
      (s₂.heap.IsListIter s.heap.objs.size l 0 ∧ s₂.heap.IsList l items) → l ≠ s.heap.objs.size → Q (.ref s.heap.objs.size) s₂) : wpAny (model prog w) A (pyIter (.ref l)) Q E s := by
  have hlt : l < s.heap.objs.size := by obtain ⟨_, e, _⟩ := hl; exact Heap.lt_size e
  exact wpAny_pyIter_list hl (h _ rfl ⟨⟨_, Heap.get?_push_size _ rfl, rfl, rfl⟩, hl.push _⟩ (Nat.ne_of_lt hlt))
theorem truth_bools {prog : Program} {w : World} {A : Around} {bs : List Bool} {its : List Value} (e : its = bs.map Value.bool) :
    TruthOf prog w A (fun i v => its.toArray[i]? = some v) (fun i => bs.getD i false) := fun i v s Q E hv hq => by
  have hv' : its[i]? = some v := by simpa using hv
  rw [e, List.getElem?_map] at hv'
  obtain ⟨b, hb, rfl⟩ := Option.map_eq_some_iff.mp hv'
  have hg : bs.getD i false = b := by rw [List.getD_eq_getElem?_getD, hb] <;> rfl
  have hq' : Q (bs.getD i false) s := hq
  rw [hg] at hq'
  exact wpAny_truthy_bool hq'
theorem any_range : ∀ bs : List Bool, (List.range bs.length).any (fun i => bs.getD i false) = bs.any id
  | [] => rfl
  | b :: bs => by
    rw [List.length_cons, List.range_succ_eq_map, List.any_cons, List.any_map, List.any_cons, ← any_range bs]
    all_goals rfl
theorem all_range : ∀ bs : List Bool, (List.range bs.length).all (fun i => bs.getD i false) = bs.all id
  | [] => rfl
  | b :: bs => by
    rw [List.length_cons, List.range_succ_eq_map, List.all_cons, List.all_map, List.all_cons, ← all_range bs]
    all_goals rfl
section
variable {X : Cx}
def rAny (K : PySem.W.Frag) : List V → Hp → VK → Prop := fun vs H Q => ∃ (a : Addr) (bs : List Bool), vs = [V.ref a] ∧ SqL K H a (bs.map V.bl) ∧ Q (.bl (bs.any id)) H
def rAll (K : PySem.W.Frag) : List V → Hp → VK → Prop := fun vs H Q => ∃ (a : Addr) (bs : List Bool), vs = [V.ref a] ∧ SqL K H a (bs.map V.bl) ∧ Q (.bl (bs.all id)) H
theorem cr_any (hc : X.calm = true) : CallR X (.builtin "any") (rAny X.K) := by
  intro pins s σ H vs us Q I r h
  obtain ⟨a, bs, rfl, hs, q⟩ := h
  obtain ⟨its, rv, hl, _⟩ := I.list hs
  rw [Vals.ref1 r]
  have hb := rv.bls
  refine call_any_walk (iter_any hl.isList fun s₂ e2 st hne => ?_)
  subst e2
  refine ⟨_, _, _, _, _, _, _, rfl, Walks.list (A := X.A.in1) (I.ok.hd hc) _ a hne its.toArray, st, truth_bools hb, fun h' tk hk => ?_⟩
  refine ⟨.bl _, H, I.kept fun b o eo => hk b o (fun hmem => ?_) (Heap.get?_push_of_some _ eo), ?_, q⟩
  · rcases List.mem_cons.mp hmem with e1 | hmem
    · exact absurd (e1 ▸ Heap.lt_size eo) (Nat.lt_irrefl _)
    · cases hmem
  · show Value.bool _ = Value.bool _
    rw [← any_range, hb, List.size_toArray, List.length_map]
theorem cr_all (hc : X.calm = true) : CallR X (.builtin "all") (rAll X.K) := by
  intro pins s σ H vs us Q I r h
  obtain ⟨a, bs, rfl, hs, q⟩ := h
  obtain ⟨its, rv, hl, _⟩ := I.list hs
  rw [Vals.ref1 r]
  have hb := rv.bls
  refine call_all_walk (iter_any hl.isList fun s₂ e2 st hne => ?_)
  subst e2
  refine ⟨_, _, _, _, _, _, _, rfl, Walks.list (A := X.A.in1) (I.ok.hd hc) _ a hne its.toArray, st, truth_bools hb, fun h' tk hk => ?_⟩
  refine ⟨.bl _, H, I.kept fun b o eo => hk b o (fun hmem => ?_) (Heap.get?_push_of_some _ eo), ?_, q⟩
  · rcases List.mem_cons.mp hmem with e1 | hmem
    · exact absurd (e1 ▸ Heap.lt_size eo) (Nat.lt_irrefl _)
    · cases hmem
  · show Value.bool _ = Value.bool _
    rw [← all_range, hb, List.size_toArray, List.length_map]
end

mutual
inductive Dp (K : PySem.W.Frag) (H : Hp) : V → PyData → Prop
  | non : Dp K H .non .none
  | bl (b : Bool) : Dp K H (.bl b) (.bool b)
  | int (i : Int) : Dp K H (.int i) (.int i)
  | str (x : Str) : Dp K H (.str x) (.str x)
  | lst {a : Addr} {xs : List V} {ds : List PyData} : SqL K H a xs → DpAll K H xs ds → Dp K H (.ref a) (.list ds)
  | tup {a : Addr} {xs : List V} {ds : List PyData} : SqT K H a xs → DpAll K H xs ds → Dp K H (.ref a) (.tuple ds)
inductive DpAll (K : PySem.W.Frag) (H : Hp) : List V → List PyData → Prop
  | nil : DpAll K H [] []
  | cons {v : V} {vs : List V} {d : PyData} {ds : List PyData} : Dp K H v d → DpAll K H vs ds → DpAll K H (v :: vs) (d :: ds)
end
section
variable {X : Cx} {pins : List (Addr × Obj)} {σ : St} {H : Hp} {s : Shared}
mutual
theorem Dp.reads (I : Inv X pins σ H s) : ∀ (d : PyData) (v : V) (u : Value), Dp X.K H v d → RelV v u → ∃ as, Reads s.heap u d as
  | .none, _, _, h, r => by
    cases h
    cases r
    exact ⟨_, Reads.none⟩
  | .bool b, _, _, h, r => by
    cases h
    cases r
    exact ⟨_, Reads.bool b⟩
  | .int i, _, _, h, r => by
    cases h
    obtain ⟨t, rfl⟩ := r
    exact ⟨_, Reads.int i t⟩
  | .str x, _, _, h, r => by
    cases h
    obtain ⟨t, rfl⟩ := r
    exact ⟨_, Reads.str x t⟩
  | .list ds, _, _, h, r => by
    cases h with
    | lst hs ha =>
      cases r
      obtain ⟨its, rv, ⟨o, n, ho, hc, _, hd⟩, _⟩ := I.list hs
      obtain ⟨as, hr⟩ := Dp.readsAll I ds _ its ha rv
      exact ⟨_, Reads.list ho hc hd hr⟩
  | .tuple ds, _, _, h, r => by
    cases h with
    | tup hs ha =>
      cases r
      obtain ⟨its, rv, ⟨o, ho, hc, n, hd⟩, _⟩ := I.tuple hs
      obtain ⟨as, hr⟩ := Dp.readsAll I ds _ its ha rv
      exact ⟨_, Reads.tuple ho hc hd hr⟩
  | .dict _, _, _, h, _ => by cases h
theorem Dp.readsAll (I : Inv X pins σ H s) : ∀ (ds : List PyData) (vs : List V) (us : List Value), DpAll X.K H vs ds → Vals vs us → ∃ as, ReadsAll s.heap us ds as
  | [], _, _, h, r => by
    cases h
    cases r
    exact ⟨_, ReadsAll.nil⟩
  | d :: ds, _, _, h, r => by
    cases h with
    | cons h1 h2 =>
      cases r with
      | cons r1 r2 =>
        obtain ⟨as, q1⟩ := Dp.reads I d _ _ h1 r1
        obtain ⟨bs, q2⟩ := Dp.readsAll I ds _ _ h2 r2
        exact ⟨_, ReadsAll.cons q1 q2⟩
end
end
section
variable {X : Cx}
def rEqD (K : PySem.W.Frag) : R2 := fun x y H Q => ∃ d e, Dp K H x d ∧ Dp K H y e ∧ SeqAt.shaped d = true ∧ SeqAt.shaped e = true ∧ Q (.bl (PyData.eqv d e)) H
def rNeD (K : PySem.W.Frag) : R2 := fun x y H Q => ∃ d e, Dp K H x d ∧ Dp K H y e ∧ SeqAt.shaped d = true ∧ SeqAt.shaped e = true ∧ Q (.bl (!PyData.eqv d e)) H
theorem op_eqD (hu : X.A.units + 64 < cLine) : OpR X (compareOp .Eq) (rEqD X.K) := by
  intro pins s σ H x y v u Q I rx ry h
  obtain ⟨d, e, hd, he, sd, se, q⟩ := h
  obtain ⟨as, r1⟩ := Dp.reads I d x v hd rx
  obtain ⟨bs, r2⟩ := Dp.reads I e y u he ry
  exact SeqAt.compareEq_shaped r1 r2 sd se hu ⟨.bl _, H, I, rfl, q⟩
theorem op_neD (hu : X.A.units + 64 < cLine) : OpR X (compareOp .NotEq) (rNeD X.K) := by
  intro pins s σ H x y v u Q I rx ry h
  obtain ⟨d, e, hd, he, sd, se, q⟩ := h
  obtain ⟨as, r1⟩ := Dp.reads I d x v hd rx
  obtain ⟨bs, r2⟩ := Dp.reads I e y u he ry
  exact SeqAt.compareNe_shaped r1 r2 sd se hu ⟨.bl _, H, I, rfl, q⟩
end
end L2

namespace L2
open PySem PySem.Spec PyProof.Rows
abbrev CellAt (h : Heap) (c : Addr) (v : Option Value) : Prop := h.IsCell c v
def relS (scope sc : Scope) : Scope :=
  { scope with names := scope.names.map fun (n, k) => if (k == .free && sc.kind == .function && sc.names.lookup n == some .cell) then (n, .cell) else (n, k) }

def cloFrom (cells : List (Str × Addr)) : List (Str × NameKind) → List (Str × Addr) → List (Str × Addr)
  | [], acc => acc
  | (n, k) :: r, acc => if k == .free then cloFrom cells r ((n, (cells.lookup n).getD 0) :: acc) else cloFrom cells r acc

theorem closure_loop (env : Env) (f : Str × NameKind → List (Str × Addr) → Sem (ForInStep (List (Str × Addr))))
    (hf : ∀ n k c, f (n, k) c = if k == .free then (do let a ← cellOf env n; pure (.yield ((n, a) :: c))) else pure (.yield c)) :
    ∀ (names : List (Str × NameKind)) (acc : List (Str × Addr)), (∀ y ∈ names, y.2 = .free → ∃ c, env.cells.lookup y.1 = some c) → forIn names acc f = pure (cloFrom env.cells names acc)
  | [], acc, _ => by rw [List.forIn_nil]; rfl
  | (n, k) :: r, acc, h => by
    rw [List.forIn_cons, hf]
    have ih := fun acc => closure_loop env f hf r acc fun y hy => h y (List.mem_cons_of_mem _ hy)
    unfold cloFrom
    by_cases hk : (k == NameKind.free) = true
    · rw [if_pos hk, if_pos hk]
      obtain ⟨c, hc⟩ := h (n, k) List.mem_cons_self (by simpa using hk)
      have e : cellOf env n = pure c := by unfold cellOf; rw [hc]
      rw [e]
      have e2 : (env.cells.lookup n).getD 0 = c := by rw [hc]; rfl
      rw [e2]
      exact ih _
    · rw [if_neg hk, if_neg hk]
      exact ih _
theorem closure_ok {scope : Scope} {env : Env} (h : ∀ y ∈ scope.names, y.2 = .free → ∃ c, env.cells.lookup y.1 = some c) : closureFor scope env = pure (cloFrom env.cells scope.names []) := by
  simp only [closureFor]
  rw [closure_loop env _ (fun n k c => rfl) scope.names [] h]
  rfl

theorem mem_lookup {α : Type} : ∀ {l : List (Str × α)} {n : Str} {c : α}, (n, c) ∈ l → ∃ c', l.lookup n = some c'
  | (k, v) :: r, n, c, h => by
    rw [List.lookup_cons]
    cases hb : n == k with
    | true => exact ⟨_, rfl⟩
    | false =>
      rcases List.mem_cons.mp h with e | h
      · cases e; simp at hb
      · exact mem_lookup h

theorem cloFrom_mem {cells : List (Str × Addr)} : ∀ {names : List (Str × NameKind)} {acc : List (Str × Addr)} {n : Str} {c : Addr}, (n, c) ∈ cloFrom cells names acc → (n, c) ∈ acc ∨ ((n, .free) ∈ names ∧ c = (cells.lookup n).getD 0)
  | [], _, _, _, h => .inl h
  | (m, k) :: r, acc, n, c, h => by
    unfold cloFrom at h
    split at h
    · rename_i hk
      have hk : k = .free := by simpa using hk
      rcases cloFrom_mem h with h | ⟨h1, h2⟩
      · rcases List.mem_cons.mp h with e | h
        · cases e; exact .inr ⟨hk ▸ List.mem_cons_self, rfl⟩
        · exact .inl h
      · exact .inr ⟨List.mem_cons_of_mem _ h1, h2⟩
    · rcases cloFrom_mem h with h | ⟨h1, h2⟩
      · exact .inl h
      · exact .inr ⟨List.mem_cons_of_mem _ h1, h2⟩
theorem cloFrom_acc {cells : List (Str × Addr)} : ∀ {names : List (Str × NameKind)} {acc : List (Str × Addr)} {p : Str × Addr}, p ∈ acc → p ∈ cloFrom cells names acc
  | [], _, _, h => h
  | (m, k) :: r, acc, p, h => by
    unfold cloFrom
    split
    · exact cloFrom_acc (List.mem_cons_of_mem _ h)
    · exact cloFrom_acc h
theorem cloFrom_has {cells : List (Str × Addr)} : ∀ {names : List (Str × NameKind)} {acc : List (Str × Addr)} {n : Str}, (n, .free) ∈ names → (n, (cells.lookup n).getD 0) ∈ cloFrom cells names acc
  | (m, k) :: r, acc, n, h => by
    unfold cloFrom
    rcases List.mem_cons.mp h with e | h
    · cases e
      exact cloFrom_acc List.mem_cons_self
    · split
      · exact cloFrom_has h
      · exact cloFrom_has h

theorem cells_mem : ∀ {names : List (Str × NameKind)} {h : Heap} {acc : List (Str × Addr)} {x : Str} {c : Addr}, (x, c) ∈ cellsFrom h.objs.size names acc →
    (x, c) ∈ acc ∨ ((x, .cell) ∈ names ∧ h.objs.size ≤ c ∧ CellAt (pushCells h names) c none)
  | [], _, _, _, _, h => .inl h
  | (n, k) :: r, h, acc, x, c, hm => by
    unfold cellsFrom at hm
    unfold pushCells
    split at hm
    · rename_i hk
      rw [if_pos hk]
      have hk : k = .cell := by simpa using hk
      rw [← Heap.size_push h { cls := .type "cell", data := .cell none }] at hm
      rcases cells_mem hm with hm | ⟨h1, h2, h3⟩
      · rcases List.mem_cons.mp hm with e | hm
        · cases e
          exact .inr ⟨hk ▸ List.mem_cons_self, Nat.le_refl _, _, pushCells_keeps r _ _ _ (Heap.get?_push_size _ rfl), rfl⟩
        · exact .inl hm
      · rw [Heap.size_push] at h2
        exact .inr ⟨List.mem_cons_of_mem _ h1, Nat.le_of_succ_le h2, h3⟩
    · rename_i hk
      rw [if_neg hk]
      rcases cells_mem hm with hm | ⟨h1, h2, h3⟩
      · exact .inl hm
      · exact .inr ⟨List.mem_cons_of_mem _ h1, h2, h3⟩
theorem cells_acc : ∀ {names : List (Str × NameKind)} {n : Nat} {acc : List (Str × Addr)} {p : Str × Addr}, p ∈ acc → p ∈ cellsFrom n names acc
  | [], _, _, _, h => h
  | (m, k) :: r, n, acc, p, h => by
    unfold cellsFrom
    split
    · exact cells_acc (List.mem_cons_of_mem _ h)
    · exact cells_acc h
theorem cells_has : ∀ {names : List (Str × NameKind)} {n : Nat} {acc : List (Str × Addr)} {x : Str}, (x, .cell) ∈ names → ∃ c, (x, c) ∈ cellsFrom n names acc
  | (m, k) :: r, n, acc, x, h => by
    unfold cellsFrom
    rcases List.mem_cons.mp h with e | h
    · cases e
      exact ⟨n, cells_acc List.mem_cons_self⟩
    · split
      · exact cells_has h
      · exact cells_has h
theorem cells_inj : ∀ {names : List (Str × NameKind)} {h : Heap} {acc : List (Str × Addr)} {x y : Str} {c : Addr}, (∀ p ∈ acc, p.2 < h.objs.size) → (∀ x y c, (x, c) ∈ acc → (y, c) ∈ acc → x = y) →
    (x, c) ∈ cellsFrom h.objs.size names acc → (y, c) ∈ cellsFrom h.objs.size names acc → x = y
  | [], _, _, _, _, _, _, hi, h1, h2 => hi _ _ _ h1 h2
  | (n, k) :: r, h, acc, x, y, c, hl, hi, h1, h2 => by
    unfold cellsFrom at h1 h2
    split at h1
    · rename_i hk
      rw [if_pos hk] at h2
      rw [← Heap.size_push h { cls := .type "cell", data := .cell none }] at h1 h2
      refine cells_inj (h := h.push _) (fun p hp => ?_) (fun x y c a b => ?_) h1 h2
      · rw [Heap.size_push]
        rcases List.mem_cons.mp hp with rfl | hp
        · exact Nat.lt_succ_self _
        · exact Nat.lt_succ_of_lt (hl p hp)
      · rcases List.mem_cons.mp a with e | a <;> rcases List.mem_cons.mp b with e' | b
        · cases e; cases e'; rfl
        · cases e; exact absurd (hl _ b) (Nat.lt_irrefl _)
        · cases e'; exact absurd (hl _ a) (Nat.lt_irrefl _)
        · exact hi _ _ _ a b
    · rename_i hk
      rw [if_neg hk] at h2
      exact cells_inj hl hi h1 h2

theorem newEnv_comp {M : Model} {A : Around} {E : Value → Shared → Prop} {s : Shared} {scope : Scope} {globals : Addr} {closure : List (Str × Addr)} {qual : Str} {func : Option Addr} {code : Value} {around : Env} {builtins : Addr} {Q : Env → Shared → Prop}
    (h : Q (newEnv scope s.heap.objs.size globals (cellsFrom (s.heap.objs.size + 1) scope.names closure) qual func code (some around) builtins)
      { s with heap := pushCells (s.heap.push { cls := .type "dict", data := .dict #[] }) scope.names }) :
    wpAny M A (newFunctionEnv scope globals closure [] qual func code (some around) builtins) Q E s := by
  simp only [newFunctionEnv, Option.isSome_some, if_true]
  refine wpAny_bind (wpAny_alloc ?_)
  refine wpAny_bind (wpAny_layCells _ (fun n k c => rfl) scope.names closure _ _ ?_)
  rw [show ({ s with heap := s.heap.push { cls := .type "dict", data := .dict #[] } } : Shared).heap.objs.size = s.heap.objs.size + 1 from Heap.size_push ..]
  rw [List.forIn_nil]
  exact wpAny_bind (wpAny_pure (wpAny_pure h))

theorem lookup_relS {sc : Scope} : ∀ {names : List (Str × NameKind)} {x : Str} {k : NameKind},
    (names.map fun (n, k) => if (k == NameKind.free && sc.kind == .function && sc.names.lookup n == some .cell) then (n, NameKind.cell) else (n, k)).lookup x = some k →
    ∃ k', names.lookup x = some k' ∧ (k = k' ∨ (k' = .free ∧ k = .cell))
  | [], _, _, h => by simp at h
  | (n, k₀) :: r, x, k, h => by
    have ih := @lookup_relS sc r x k
    have h' : List.lookup x ((if (k₀ == NameKind.free && sc.kind == .function && sc.names.lookup n == some .cell) = true then (n, NameKind.cell) else (n, k₀)) :: (r.map _)) = some k := h
    cases hx : x == n with
    | true =>
      simp only [List.lookup_cons, hx]
      by_cases hc : (k₀ == NameKind.free && sc.kind == .function && sc.names.lookup n == some .cell) = true
      · rw [if_pos hc] at h'
        simp only [List.lookup_cons, hx] at h'
        cases h'
        simp only [Bool.and_eq_true, beq_iff_eq] at hc
        exact ⟨k₀, rfl, .inr ⟨hc.1.1, rfl⟩⟩
      · rw [if_neg hc] at h'
        simp only [List.lookup_cons, hx] at h'
        cases h'
        exact ⟨_, rfl, .inl rfl⟩
    | false =>
      simp only [List.lookup_cons, hx]
      by_cases hc : (k₀ == NameKind.free && sc.kind == .function && sc.names.lookup n == some .cell) = true
      · rw [if_pos hc] at h'
        simp only [List.lookup_cons, hx] at h'
        exact ih h'
      · rw [if_neg hc] at h'
        simp only [List.lookup_cons, hx] at h'
        exact ih h'
structure BlkOk (N : List Str) (sc scope : Scope) (own : List (Str × Nat)) : Prop where
  kind : scope.kind = .function
  uniq : ∀ y ∈ scope.names, scope.names.lookup y.1 = some y.2
  ix : ∀ p ∈ own, N[p.2]? = some p.1
  free : ∀ y ∈ scope.names, y.2 = .free → sc.names.lookup y.1 = some .cell ∨ sc.names.lookup y.1 = some .free
  own : ∀ y ∈ scope.names, y.2 = .local ∨ y.2 = .cell → y.1 ∈ own.map (·.1) ∨ y.1 ∉ N
def wipe (σ : St) : List Nat → St
  | [] => σ
  | v :: vs => (wipe σ vs).set v none
theorem wipe_length (σ : St) : ∀ vs : List Nat, (wipe σ vs).length = σ.length
  | [] => rfl
  | v :: vs => by unfold wipe; rw [List.length_set, wipe_length σ vs]
theorem wipe_some {σ : St} {i : Nat} {x : V} : ∀ {vs : List Nat}, (wipe σ vs)[i]? = some (some x) → σ[i]? = some (some x) ∧ i ∉ vs
  | [], h => ⟨h, by simp⟩
  | v :: vs, h => by
    unfold wipe at h
    by_cases hi : v = i
    · subst hi
      by_cases hv : v < (wipe σ vs).length
      · rw [List.getElem?_set_self hv] at h; cases h
      · rw [List.getElem?_eq_none (by simpa using hv)] at h; cases h
    · rw [List.getElem?_set_ne hi] at h
      obtain ⟨h1, h2⟩ := wipe_some h
      exact ⟨h1, by simp only [List.mem_cons, not_or]; exact ⟨fun e => hi e.symm, h2⟩⟩

abbrev Cx.blk (X : Cx) (s : Shared) (H : Hp) (scope : Scope) (cenv : Env) (fp : List Addr) : Cx := { X with s_0 := s, H_0 := H, env := cenv, outer := X.stack, ex := fp, fn := fun x => scope.names.lookup x == some .cell, pn := [], xe := fun _ _ => False }
section
variable {X : Cx} {pins : List (Addr × Obj)} {σ : St} {H : Hp} {s : Shared}
theorem block_start {scope : Scope} {own : List (Str × Nat)} {fp : List Addr} (I : Inv X pins σ H s) (ok : BlkOk X.N X.env.scope scope own) (hN : X.N.Nodup) (hfp : ∀ b ∈ fp, FpOk X pins H b ∧ b < s.heap.objs.size) :
    Inv (X.blk s H scope (compEnvC scope (cellsFrom (s.heap.objs.size + 1) scope.names (cloFrom X.env.cells scope.names [])) s.heap.objs.size X.env) fp) [] (wipe σ (own.map (·.2))) H { s with heap := pushCells (s.heap.push { cls := .type "dict", data := .dict #[] }) scope.names } := by
  have hfree : ∀ y ∈ scope.names, y.2 = .free → ∃ c, X.env.cells.lookup y.1 = some c := fun y hy e => by
    rcases ok.free y hy e with k | k
    · exact I.ok.has _ (.inl k)
    · exact I.ok.has _ (.inr k)
  generalize hcenv : compEnvC scope (cellsFrom (s.heap.objs.size + 1) scope.names (cloFrom X.env.cells scope.names [])) s.heap.objs.size X.env = cenv
  have kp : ∀ b o, s.heap.get? b = some o → (pushCells (s.heap.push { cls := .type "dict", data := .dict #[] }) scope.names).get? b = some o := fun b o e => pushCells_keeps _ _ _ _ (Heap.get?_push_of_some _ e)
  have hL : cenv.locals = s.heap.objs.size := by rw [← hcenv]; rfl
  have hcl : cenv.cells = cellsFrom (s.heap.objs.size + 1) scope.names (cloFrom X.env.cells scope.names []) := by rw [← hcenv]; rfl
  have hsc : cenv.scope = relS scope X.env.scope := by rw [← hcenv]; rfl
  rw [← Heap.size_push s.heap { cls := .type "dict", data := .dict #[] }] at hcl
  have cm : ∀ {y c}, (y, c) ∈ cloFrom X.env.cells scope.names [] → X.env.cells.lookup y = some c ∧ c < s.heap.objs.size := fun {y c} hm => by
    rcases cloFrom_mem hm with hm | ⟨h1, rfl⟩
    · cases hm
    · obtain ⟨c, hc⟩ := hfree _ h1 rfl
      rw [hc]
      obtain ⟨w, z⟩ := I.cell _ _ hc
      exact ⟨rfl, z.lt⟩
  have mem : ∀ {y c}, cenv.cells.lookup y = some c → (X.env.cells.lookup y = some c ∧ c < s.heap.objs.size) ∨ (s.heap.objs.size + 1 ≤ c ∧ CellAt (pushCells (s.heap.push { cls := .type "dict", data := .dict #[] }) scope.names) c none) := fun {y c} e => by
    rw [hcl] at e
    rcases cells_mem (PySem.mem_of_lookup e) with hm | ⟨_, h2, h3⟩
    · exact .inl (cm hm)
    · rw [Heap.size_push] at h2; exact .inr ⟨h2, h3⟩
  have look : ∀ {y}, scope.names.lookup y = some .free → ∃ c, cenv.cells.lookup y = some c ∧ X.env.cells.lookup y = some c := fun {y} hl => by
    have hy : (y, NameKind.free) ∈ scope.names := PySem.mem_of_lookup hl
    obtain ⟨c', e'⟩ := mem_lookup (cells_acc (names := scope.names) (n := (s.heap.push { cls := .type "dict", data := .dict #[] }).objs.size) (cloFrom_has (cells := X.env.cells) (acc := []) hy))
    rw [← hcl] at e'
    refine ⟨c', e', ?_⟩
    rw [hcl] at e'
    rcases cells_mem (PySem.mem_of_lookup e') with hm | ⟨h1, _, _⟩
    · exact (cm hm).1
    · have := ok.uniq _ h1
      rw [hl] at this; cases this
  have okB : (X.blk s H scope cenv fp).Ok := by
    refine ⟨I.ok.mod, by show cenv.scope.kind = _; rw [hsc]; exact ok.kind, by show cenv.globals = _; rw [← hcenv]; exact I.ok.glob, by show cenv.builtins = _; rw [← hcenv]; exact I.ok.blt, by show s.heap.objs.size ≤ cenv.locals; rw [hL]; exact Nat.le_refl _,
      fun y z c e1 e2 => ?_, fun y hy => ?_, fun y c z e => ?_, I.ok.hd, I.ok.frames, .inl rfl, fun b hb => ⟨?_, fun y c e z => ?_⟩, I.bs, Nat.le_trans I.ok.bsz I.sz, fun b o e hb => ?_, fun b hb z => ?_, I.stack, I.stkFree, I.tabs⟩
    · have e1 : cenv.cells.lookup y = some c := e1
      have e2 : cenv.cells.lookup z = some c := e2
      rw [hcl] at e1 e2
      refine cells_inj (fun p hp => ?_) (fun y z c a b => I.ok.inj y z c (cm a).1 (cm b).1) (PySem.mem_of_lookup e1) (PySem.mem_of_lookup e2)
      rw [Heap.size_push]
      exact Nat.lt_succ_of_lt (cm (y := p.1) (c := p.2) hp).2
    · show ∃ c, cenv.cells.lookup y = some c
      have key : ∀ k, cenv.kindOf y = some k → (k = .cell ∨ k = .free) → ∃ c, cenv.cells.lookup y = some c := fun k hk hk' => by
        unfold Env.kindOf at hk
        rw [hsc] at hk
        obtain ⟨k', e, r⟩ := lookup_relS hk
        have : k' = .cell ∨ k' = .free := by
          rcases r with rfl | ⟨rfl, _⟩
          · exact hk'
          · exact .inr rfl
        rcases this with rfl | rfl
        · obtain ⟨c, hm⟩ := cells_has (n := (s.heap.push { cls := .type "dict", data := .dict #[] }).objs.size) (acc := cloFrom X.env.cells scope.names []) (PySem.mem_of_lookup e)
          obtain ⟨c', e'⟩ := mem_lookup hm
          exact ⟨c', by rw [hcl]; exact e'⟩
        · obtain ⟨c, h1, _⟩ := look e
          exact ⟨c, h1⟩
      rcases hy with hy | hy
      · exact key _ hy (.inl rfl)
      · exact key _ hy (.inr rfl)
    · have z : (scope.names.lookup y == some NameKind.cell) = true := z
      have z : scope.names.lookup y = some .cell := by simpa using z
      have e : cenv.cells.lookup y = some c := e
      rw [hcl] at e
      rcases cells_mem (PySem.mem_of_lookup e) with hm | ⟨_, h2, _⟩
      · rcases cloFrom_mem hm with hm | ⟨h1, _⟩
        · cases hm
        · have q := ok.uniq _ h1
          rw [z] at q; cases q
      · rw [Heap.size_push] at h2
        exact Nat.le_of_succ_le h2
    · show b ≠ cenv.locals
      rw [hL]; exact Nat.ne_of_lt (hfp b hb).2
    · have e : cenv.cells.lookup y = some c := e
      rcases mem e with ⟨h1, _⟩ | ⟨h1, _⟩
      · exact (hfp b hb).1.2.2.2.2.1 y c h1 z
      · have h2 : s.heap.objs.size + 1 ≤ b := by rw [← z]; exact h1
        exact absurd (Nat.lt_of_lt_of_le (hfp b hb).2 (Nat.le_of_succ_le h2)) (Nat.lt_irrefl _)
    · rcases (hfp b hb).1.2.2.2.1 with z | z
      · exact I.ok.noex b o e z
      · exact absurd (Nat.lt_of_lt_of_le (Heap.lt_size e) (Nat.le_trans I.ok.bsz z)) (Nat.lt_irrefl _)
    · rcases List.mem_cons.mp (I.stkSub b z) with z | z
      · exact (hfp b hb).1.2.1 z
      · exact (hfp b hb).1.2.2.1 z
  refine ⟨okB, rfl, I.bare, Un.kept kp, ⟨fun _ => none, ?_, fun i y av e1 e2 e3 => ?_⟩, fun y c e => ?_, ?_, fun y c e => ?_, fun p hp => ?_, I.hok.kept kp, by rw [wipe_length]; exact I.len⟩
  · show Heap.Ns _ cenv.locals _
    rw [hL]
    exact Heap.Ns.keeps (Heap.Ns.new ..) fun b o e => pushCells_keeps _ _ _ _ e
  · obtain ⟨e2, hne⟩ := wipe_some e2
    have hfr : scope.names.lookup y = some .free ∧ (cenv.kindOf y = some .cell ∨ cenv.kindOf y = some .free) := by
      have key : ∀ k, cenv.scope.names.lookup y = some k → k = .local ∨ k = .cell ∨ k = .free → scope.names.lookup y = some .free ∧ (cenv.kindOf y = some .cell ∨ cenv.kindOf y = some .free) := fun k hk hk' => by
        have hk0 := hk
        rw [hsc] at hk
        obtain ⟨k', e, r⟩ := lookup_relS hk
        have no : ¬ (k' = .local ∨ k' = .cell) := fun hh => by
          rcases ok.own _ (PySem.mem_of_lookup e) hh with e' | e'
          · obtain ⟨p, hp, hpy⟩ := List.mem_map.mp e'
            have e3 := ok.ix p hp
            have : p.1 = y := hpy
            rw [this] at e3
            exact hne (List.mem_map.mpr ⟨p, hp, nodup_ix hN e3 e1⟩)
          · exact e' (List.mem_of_getElem? e1)
        rcases r with rfl | ⟨rfl, rfl⟩
        · rcases hk' with rfl | rfl | rfl
          · exact absurd (.inl rfl) no
          · exact absurd (.inr rfl) no
          · exact ⟨e, .inr hk0⟩
        · exact ⟨e, .inl hk0⟩
      have e3 : Vis cenv.scope y := e3
      rcases e3 with e3 | e3 | e3
      · exact key _ e3 (.inl rfl)
      · exact key _ e3 (.inr (.inl rfl))
      · exact key _ e3 (.inr (.inr rfl))
    obtain ⟨m, hn, hl⟩ := I.loc
    have hvis : Vis X.env.scope y := (ok.free _ (PySem.mem_of_lookup hfr.1) rfl).elim (fun k => .inr (.inl k)) (fun k => .inr (.inr k))
    obtain ⟨w, r, q⟩ := hl i y av e1 e2 hvis
    refine ⟨w, r, .inr ⟨hfr.2, ?_⟩⟩
    obtain ⟨c, h1, h2⟩ := look hfr.1
    rcases q with ⟨k, _⟩ | ⟨_, c', e', z⟩
    · have k : X.env.scope.names.lookup y = some .local := k
      rcases ok.free _ (PySem.mem_of_lookup hfr.1) rfl with k' | k' <;> rw [show X.env.scope.names.lookup y = _ from k'] at k <;> cases k
    · rw [h2] at e'; cases e'
      exact ⟨c, h1, z.keeps kp⟩
  · have e : cenv.cells.lookup y = some c := e
    rcases mem e with ⟨h1, _⟩ | ⟨_, z⟩
    · obtain ⟨w, z⟩ := I.cell y c h1
      exact ⟨w, z.keeps kp⟩
    · exact ⟨_, z⟩
  · show H cenv.locals = none
    rw [hL]; exact I.hok.fresh (Nat.le_refl _)
  · have e : cenv.cells.lookup y = some c := e
    rcases mem e with ⟨h1, _⟩ | ⟨h1, _⟩
    · exact I.freeC y c h1
    · exact I.hok.fresh (Nat.le_of_succ_le h1)
  · exact absurd (show p ∈ ([] : List (Addr × Obj)) ++ [] from hp) (by simp)

theorem app_ok {E : Value → Shared → Prop} {D : Addr} {xs : List V} {y : V} {v : Value} {Q : Value → Shared → Prop} (I : Inv X pins σ H s) (hD : H D = some (.lst xs)) (hz : xs.length < sizeLine) (r : RelV y v)
    (h : ∀ s', Inv X pins σ (upd H D (.lst (xs ++ [y]))) s' → Q .none s') : wpAny (model X.prog X.w) X.A (call (.builtin "list.append") [.ref D, v]) Q E s := by
  obtain ⟨hz', its, n, ri, e⟩ := I.hok D _ hD
  have hl := ri.length
  refine append_at (hsz := by rw [List.size_toArray]; omega) e fun h' sb ho' => ?_
  refine h { s with heap := h' } (I.write (t' := s.toks) (by rw [hD]; trivial) (.inl rfl) (fun b u hb q => (sb.2 b hb).trans q) ⟨_, ho'⟩ ⟨by rw [List.length_append]; exact hz, its ++ [v], n + 1, ri.append (.cons r .nil), ?_⟩)
  rw [ho']
  simp

def PTs (X : Cx) (ifs : List Expr) (t : TT) : Prop :=
  ∀ (pins : List (Addr × Obj)) (s : Shared) (σ : St) (H : Hp) (Q : Bool → Hp → Prop), Inv X pins σ H s → t σ H Q →
    wpAny (model X.prog X.w) X.A (forIn ifs true fun c r => if r = true then do let ok ← isTrue c X.env (eval c X.env); pure (ForInStep.yield ok) else pure (ForInStep.yield r)) (TP X pins σ Q) X.xe s
def tYes : TT := fun _ H Q => Q true H
theorem pts_nil : PTs X [] tYes := fun _ _ _ H _ I h => wpAny_tests_nil ⟨H, I, h⟩
theorem pts_one {c : Expr} {t : TT} (h : PT X c t) : PTs X [c] t := fun pins s σ H Q I hw => wpAny_tests_one (h pins s σ H Q I hw)
end

theorem thnF {α : Type} {t : Sem α} {Q Q' : α → Shared → Prop} {M : Model} {A : Around} {E : Value → Shared → Prop} {s : Shared} (h : wpAny M A t Q (fun _ _ => False) s) (hQ : ∀ a s, Q a s → Q' a s) : wpAny M A t Q' E s := wpAny_mono h hQ fun _ _ z => False.elim z

theorem compLoop_any {prog : Program} {w : World} {A : Around} {R : Result → Shared → Prop} {s : Shared} {elt target iter : Expr} {ifs : List Expr} {scope : Scope} {pos : Pos} {it acc : Value} {env : Env} (I : Nat → Shared → Prop)
    (turn : ∀ n s, I n s → wpAny (model prog w) A (pyNext it) (fun r s₁ => match r with
      | none => R (.ok .next) s₁
      | some v => wpAny (model prog w) A (letOwnedTupleGo target it v) (fun _ s₁' => wpAny (model prog w) A (assign target env v) (fun _ s₂ =>
          wpAny (model prog w) A (forIn ifs true fun c r => if r = true then do let ok ← isTrue c env (eval c env); pure (ForInStep.yield ok) else pure (ForInStep.yield r)) (fun ok s₃ =>
            if ok = true then wpAny (model prog w) A (eval elt env) (fun x s₄ =>
              wpAny (model prog w) A (call (.builtin "list.append") [acc, x]) (fun _ s₅ => ∃ m, m < n ∧ I m s₅) (notedBy (model prog w) A env fun e s' => R (.error e) s') s₄) (notedBy (model prog w) A env fun e s' => R (.error e) s') s₃
            else ∃ m, m < n ∧ I m s₃) (notedBy (model prog w) A env fun e s' => R (.error e) s') s₂) (notedBy (model prog w) A env fun e s' => R (.error e) s') s₁') (notedBy (model prog w) A env fun e s' => R (.error e) s') s₁) (notedBy (model prog w) A env fun e s' => R (.error e) s') s)
    (n : Nat) (h : I n s) :
    codeAny (model prog w) A (.compLoop (.ListComp elt [⟨target, iter, ifs, 0⟩] scope pos) 0 it acc env) R s := by
  refine codeAny_loop rfl I (fun n s hI => ?_) n h
  show wpAny _ A ((compTurn (.ListComp elt [⟨target, iter, ifs, 0⟩] scope pos) 0 it acc env).onRaise (fun x => do noteFrame x env; theTreesLotGoes x)) _ _ s
  refine wpAny_noted ?_
  rw [compTurn_list]
  refine wpAny_bind (wpAny_standAt (wpAny_bind (wpAny_mono (turn n s hI) (fun r s₁ h₁ => ?_) fun _ _ h' => h')))
  cases r with
  | none => exact wpAny_pure h₁
  | some v =>
    refine wpAny_bind (wpAny_mono h₁ (fun _ s₁' h₁' => ?_) fun _ _ h' => h')
    refine wpAny_bind (wpAny_mono h₁' (fun _ s₂ h₂ => wpAny_bind (wpAny_mono h₂ (fun ok s₃ h₃ => ?_) fun _ _ h' => h')) fun _ _ h' => h')
    cases ok with
    | false => exact wpAny_pure ⟨rfl, h₃⟩
    | true =>
      exact wpAny_bind (wpAny_bind (wpAny_mono h₃ (fun x s₄ h₄ => wpAny_bind (wpAny_mono h₄ (fun _ s₅ h₅ => wpAny_pure (wpAny_pure ⟨rfl, h₅⟩)) fun _ _ h' => h')) fun _ _ h' => h'))

section
variable {X : Cx}
def tLc (wi : TI) (g : TG) (tt : TT) (te : TE) (vs : List Nat) : TE := fun σ H Q => wi σ H fun J H1 => ∀ D, H1 D = none → ∃ W : Nat → Nat → Hp → Prop, (∃ m, W 0 m (upd H1 D (.lst []))) ∧ ∀ i m H, W i m H →
  (J.stop i H ∧ Q (.ref D) H) ∨ (J.go i H ∧ ∃ Nx : Hp → Prop, (∀ H', Nx H' → ∃ m', m' < m ∧ W (i + 1) m' H') ∧ ∀ x H', J.yld i H x H' → g x (wipe σ vs) H' fun σ2 H2 => wipe σ2 vs = wipe σ vs ∧ tt σ2 H2 fun b H3 =>
    if b = true then te σ2 H3 fun y H4 => ∃ acc, H4 D = some (.lst acc) ∧ acc.length < sizeLine ∧ Nx (upd H4 D (.lst (acc ++ [y]))) else Nx H3)
theorem lc_core {pins : List (Addr × Obj)} {s : Shared} {σ : St} {H : Hp} {Q : VK} {elt tg iter : Expr} {ifs : List Expr} {scope : Scope} {own : List (Str × Nat)} {pos pos' : Pos} {wi : TI} {g : TG} {tt : TT} {te : TE} {use : Option (Value → Sem Unit)} {Qf : Value → Shared → Prop}
    (hc : X.calm = true) (hN : X.N.Nodup) (I : Inv X pins σ H s) (hi : PI X tg iter wi) (ok : BlkOk X.N X.env.scope scope own)
    (hg : ∀ (s : Shared) (H : Hp) (C : Addr) (cl : List (Str × Addr)) (fp : List Addr), PG (X.blk s H scope (compEnvC scope cl C X.env) fp) tg g) (ht : ∀ (s : Shared) (H : Hp) (C : Addr) (cl : List (Str × Addr)) (fp : List Addr), PTs (X.blk s H scope (compEnvC scope cl C X.env) fp) ifs tt)
    (he : ∀ (s : Shared) (H : Hp) (C : Addr) (cl : List (Str × Addr)) (fp : List Addr), PE (X.blk s H scope (compEnvC scope cl C X.env) fp) elt te) (hs : ∀ x, foldedSetIterable iter X.env x = pure x)
    (h : tLc wi g tt te (own.map (·.2)) σ H Q)
    (hRR : ∀ D C s' m H', Inv X pins σ H' s' → Q (.ref D) H' → s'.heap.Ns C m → FpOk X pins H' C → compPost (model X.prog X.w) X.A X.xe use Qf (.ref D) C (.ok .next) s') :
    wpAny (model X.prog X.w) X.A (comprehension (.ListComp elt [⟨tg, iter, ifs, 0⟩] scope pos) scope X.env pos' (newList []) false (eval iter X.env) use) Qf X.xe s := by
  have hfree : ∀ y ∈ scope.names, y.2 = .free → ∃ c, X.env.cells.lookup y.1 = some c := fun y hy e => by
    rcases ok.free y hy e with k | k
    · exact I.ok.has _ (.inl k)
    · exact I.ok.has _ (.inr k)
  refine wpAny_comprehension_free (use := use) rfl hs (closure_ok hfree) ok.kind (fun y hy e => by rw [ok.uniq y hy, e])
    (thn (hi pins s σ H _ I h) fun xv s1 hx => thn hx fun itv s2 h2 => ?_)
  obtain ⟨it, fp, tn, J, H2, e, I2, T, st2, f2, q⟩ := h2
  subst e
  refine wpAny_newObj_type (newEnv_comp ?_) (by show 0 ≤ sizeLine; decide)
  generalize hD : s2.heap.objs.size = D
  have hDn : H2 D = none := I2.hok.fresh (Nat.le_of_eq hD)
  obtain ⟨W, ⟨m0, w0⟩, turn⟩ := q D hDn
  -- the new list
  generalize hs3 : ({ s2 with heap := s2.heap.push { cls := .type "list", data := .seq ([] : List Value).toArray } } : Shared) = s3
  have I3 : Inv X pins σ (upd H2 D (.lst [])) s3 := by
    rw [← hs3]
    refine I2.laid (t' := s2.toks) (fun b o e => Heap.get?_push_of_some _ e) (Nat.le_of_eq hD) ⟨Nat.zero_le _, [], 0, .nil, ?_⟩
    rw [← hD]
    exact Heap.get?_push_size _ rfl
  have h3 : s3.heap = s2.heap.push { cls := .type "list", data := .seq ([] : List Value).toArray } := by rw [← hs3]
  have sz : ∀ b ∈ fp, b < s2.heap.objs.size := fun b hb => by
    obtain ⟨o, e, _⟩ := T.obj _ _ st2 b hb
    exact Heap.lt_size e
  have f3 : ∀ b ∈ fp, FpOk X pins (upd H2 D (.lst [])) b ∧ b < s3.heap.objs.size := fun b hb => by
    have hlt := sz b hb
    refine ⟨⟨?_, (f2 b hb).2⟩, by rw [h3, Heap.size_push]; exact Nat.lt_succ_of_lt hlt⟩
    rw [upd_ne (by rw [← hD]; exact Nat.ne_of_lt hlt)]
    exact (f2 b hb).1
  have st3 : tn 0 s3.heap := T.keep _ _ _ st2 fun b _ o e => by rw [h3]; exact Heap.get?_push_of_some _ e
  have I4 := block_start I3 ok hN f3
  have pg := hg s3 (upd H2 D (.lst [])) s3.heap.objs.size (cellsFrom (s3.heap.objs.size + 1) scope.names (cloFrom X.env.cells scope.names [])) fp
  have pt := ht s3 (upd H2 D (.lst [])) s3.heap.objs.size (cellsFrom (s3.heap.objs.size + 1) scope.names (cloFrom X.env.cells scope.names [])) fp
  have pe := he s3 (upd H2 D (.lst [])) s3.heap.objs.size (cellsFrom (s3.heap.objs.size + 1) scope.names (cloFrom X.env.cells scope.names [])) fp
  show codeAny _ _ (.compStart (.ListComp elt [⟨tg, iter, ifs, 0⟩] scope pos) 0 (.ref it) (.ref D) (compEnvC scope (cellsFrom (s3.heap.objs.size + 1) scope.names (cloFrom X.env.cells scope.names [])) s3.heap.objs.size X.env)) (compPost (model X.prog X.w) X.A X.xe use Qf (.ref D) s3.heap.objs.size) { s3 with heap := pushCells (s3.heap.push { cls := .type "dict", data := .dict #[] }) scope.names }
  have nfp : ∀ b ∈ fp, (upd H2 D (.lst [])) b = none := fun b hb => (f3 b hb).1.1
  generalize hce : compEnvC scope (cellsFrom (s3.heap.objs.size + 1) scope.names (cloFrom X.env.cells scope.names [])) s3.heap.objs.size X.env = ce at I4 pg pt pe ⊢
  have cL : ce.locals = s3.heap.objs.size := by subst hce; rfl
  generalize hH3 : upd H2 D (.lst []) = H3 at I3 I4 pg pt pe w0 nfp f3
  generalize hs4 : ({ s3 with heap := pushCells (s3.heap.push { cls := .type "dict", data := .dict #[] }) scope.names } : Shared) = s4 at I4 ⊢
  have st4 : tn 0 s4.heap := T.keep _ _ _ st3 fun b _ o e => by rw [← hs4]; exact pushCells_keeps _ _ _ _ (Heap.get?_push_of_some _ e)
  have stat : ∀ {σ' : St} {H' : Hp} {s' : Shared}, Inv (X.blk s3 H3 scope ce fp) [] σ' H' s' → (∀ b ∈ fp, H' b = none) → ∀ b ∈ fp, FpOk (X.blk s3 H3 scope ce fp) [] H' b := fun {σ' H' s'} I' hn b hb =>
    ⟨hn b hb, (I'.ok.exf b hb).1, I'.ok.exfs b hb, .inl hb, fun x c e => (I'.ok.exf b hb).2 x c e, fun p hp => absurd (show p ∈ ([] : List (Addr × Obj)) ++ [] from hp) (by simp)⟩
  have loop : codeAny (model X.prog X.w) X.A (.compLoop (.ListComp elt [⟨tg, iter, ifs, 0⟩] scope pos) 0 (.ref it) (.ref D) ce) (compPost (model X.prog X.w) X.A X.xe use Qf (.ref D) s3.heap.objs.size) s4 := by
    refine compLoop_any (fun n s' => ∃ i H', Inv (X.blk s3 H3 scope ce fp) [] (wipe σ (own.map (·.2))) H' s' ∧ tn i s'.heap ∧ (∀ b ∈ fp, H' b = none) ∧ W i n H') ?_ m0 ⟨0, H3, I4, st4, nfp, w0⟩
    rintro n s5 ⟨i, H5, I5, st5, n5, w5⟩
    rcases turn i n H5 w5 with ⟨stop, qq⟩ | ⟨go, Nx, hNx, step⟩
    · have td := T.done (X.blk s3 H3 scope ce fp) rfl rfl rfl hc i [] s5 _ H5 (fun _ _ => False) I5 (stat I5 n5) st5 stop
      refine thnF td fun r s6 ⟨hr, I6⟩ => ?_
      subst hr
      -- back in the def's context
      have I7 : Inv X pins σ H5 s6 := I3.call' (ch := fp) I6.os I6.base I6.hok I6.bare fun b hb => ⟨(f3 b hb).1.2.2.2.1, (f3 b hb).1.2.1, (f3 b hb).1.2.2.2.2.1, (f3 b hb).1.2.2.2.2.2⟩
      have nC : H5 s3.heap.objs.size = none := by
        have z : H5 ce.locals = none := I6.free
        rw [cL] at z
        exact z
      obtain ⟨m, hn, _⟩ := I6.loc
      have hn : s6.heap.Ns ce.locals m := hn
      rw [cL] at hn
      exact hRR D s3.heap.objs.size s6 m H5 I7 qq hn (I3.fpOk (Nat.le_refl _) nC)
    · have ti := T.item (X.blk s3 H3 scope ce fp) rfl rfl rfl hc i [] s5 _ H5 (fun _ _ => False) I5 (stat I5 n5) st5 go
      refine thnF ti fun r s6 ⟨u, hr, h6⟩ => ?_
      subst hr
      refine thnF h6 fun _ s7 ⟨x, H7, I7, r7, y7, st7, n7⟩ => ?_
      have I7' := I7.pinned (stat I7 n7) (T.obj _ _ st7)
      refine thnF (pg _ s7 _ H7 x u _ I7' r7 (step x H7 y7)) fun _ s8 ⟨σ8, H8, I8, hw8, q8⟩ => ?_
      refine thnF (pt _ s8 σ8 H8 _ I8 q8) fun b s9 ⟨H9, I9, q9⟩ => ?_
      -- the turn's end
      have fin : ∀ {s' : Shared} {H' : Hp}, Inv (X.blk s3 H3 scope ce fp) ([] ++ pinsAt fp s7.heap) σ8 H' s' → Nx H' → ∃ m, m < n ∧ ∃ i H', Inv (X.blk s3 H3 scope ce fp) [] (wipe σ (own.map (·.2))) H' s' ∧ tn i s'.heap ∧ (∀ b ∈ fp, H' b = none) ∧ W i m H' := fun {s' H'} I' nx => by
        obtain ⟨m', hm, w'⟩ := hNx H' nx
        have pin' : ∀ b ∈ fp, ∀ o, s7.heap.get? b = some o → s'.heap.get? b = some o ∧ H' b = none := fun b hb o e =>
          let z := I'.pin (b, o) (List.mem_append_right _ (List.mem_append_right _ (mem_pinsAt hb e)))
          ⟨z.1, z.2.1⟩
        have hl : (wipe σ (own.map (·.2))).length = σ8.length := by rw [← hw8, wipe_length]
        refine ⟨m', hm, i + 1, H', (I'.unpinned (pins := [])).weak hl (fun j v e => ?_), T.keep _ _ _ st7 fun b hb o e => (pin' b hb o e).1, fun b hb => ?_, w'⟩
        · rw [← hw8] at e
          exact (wipe_some e).1
        · obtain ⟨o, e, _⟩ := T.obj _ _ st7 b hb
          exact (pin' b hb o e).2
      cases b with
      | false =>
        simp only [Bool.false_eq_true, if_false] at q9 ⊢
        exact fin I9 q9
      | true =>
        simp only [if_true] at q9 ⊢
        refine thnF (pe _ s9 σ8 H9 _ I9 q9) fun z s10 ⟨yv, H10, I10, r10, acc, hD10, hz10, nx⟩ => ?_
        exact app_ok (X := X.blk s3 H3 scope ce fp) I10 hD10 hz10 r10 fun s11 I11 => fin I11 nx
  exact codeAny_compStart_list loop (T.self X.A 0 _ _ _ st4 loop)
theorem pe_lc {elt tg iter : Expr} {ifs : List Expr} {scope : Scope} {own : List (Str × Nat)} {pos : Pos} {wi : TI} {g : TG} {tt : TT} {te : TE} (hc : X.calm = true) (hN : X.N.Nodup) (hi : PI X tg iter wi) (ok : BlkOk X.N X.env.scope scope own)
    (hg : ∀ (s : Shared) (H : Hp) (C : Addr) (cl : List (Str × Addr)) (fp : List Addr), PG (X.blk s H scope (compEnvC scope cl C X.env) fp) tg g) (ht : ∀ (s : Shared) (H : Hp) (C : Addr) (cl : List (Str × Addr)) (fp : List Addr), PTs (X.blk s H scope (compEnvC scope cl C X.env) fp) ifs tt)
    (he : ∀ (s : Shared) (H : Hp) (C : Addr) (cl : List (Str × Addr)) (fp : List Addr), PE (X.blk s H scope (compEnvC scope cl C X.env) fp) elt te) (hs : ∀ x, foldedSetIterable iter X.env x = pure x := by intro _; rfl) :
    PE X (.ListComp elt [⟨tg, iter, ifs, 0⟩] scope pos) (tLc wi g tt te (own.map (·.2))) := by
  intro pins s σ H Q I h
  rw [eval_ListComp]
  refine lc_core hc hN I hi ok hg ht he hs h fun D C s' m H' I' q hn f => ⟨m, hn, fun h'' sb => ?_⟩
  obtain ⟨f0, f1, f2, f3, f4, f5⟩ := f
  exact ⟨.ref D, H', I'.turned (t' := s'.toks) (fun b o hb e => (sb.2 b hb).trans e) f0 f1 f3 f4 f5, rfl, q⟩
theorem ps_setLc {i : Nat} {y : Str} {py : Pos} {elt tg iter : Expr} {ifs : List Expr} {scope : Scope} {own : List (Str × Nat)} {pos spos : Pos} {wi : TI} {g : TG} {tt : TT} {te : TE} (hc : X.calm = true) (hN : X.N.Nodup) (hy : X.N[i]? = some y) (hyl : X.env.scope.names.lookup y = some .local)
    (hsw : swapsWith (.ListComp elt [⟨tg, iter, ifs, 0⟩] scope pos) (some (.Name y py)) spos.line X.env = pure true) (hi : PI X tg iter wi) (ok : BlkOk X.N X.env.scope scope own)
    (hg : ∀ (s : Shared) (H : Hp) (C : Addr) (cl : List (Str × Addr)) (fp : List Addr), PG (X.blk s H scope (compEnvC scope cl C X.env) fp) tg g) (ht : ∀ (s : Shared) (H : Hp) (C : Addr) (cl : List (Str × Addr)) (fp : List Addr), PTs (X.blk s H scope (compEnvC scope cl C X.env) fp) ifs tt)
    (he : ∀ (s : Shared) (H : Hp) (C : Addr) (cl : List (Str × Addr)) (fp : List Addr), PE (X.blk s H scope (compEnvC scope cl C X.env) fp) elt te) (hs : ∀ x, foldedSetIterable iter X.env x = pure x := by intro _; rfl) :
    PS X (.Assign [.Name y py] (.ListComp elt [⟨tg, iter, ifs, 0⟩] scope pos) spos) (tAsg (tLc wi g tt te (own.map (·.2))) (gName i)) := by
  intro pins s σ H D I h
  rw [exec_Assign_Name_used _ _ _ _ hsw]
  refine wpAny_bind (wpAny_standAt (wpAny_bind ?_))
  show wpAny _ X.A (do let _ ← comprehension (.ListComp elt [⟨tg, iter, ifs, 0⟩] scope pos) scope X.env (firstIterPos [⟨tg, iter, ifs, 0⟩] pos) (newList []) false (eval iter X.env) (some (assign (.Name y py) X.env))) _ _ s
  have h : tLc wi g tt te (own.map (·.2)) σ H (fun x H1 => gName i x σ H1 D.nx) := h
  refine wpAny_bind (thn (lc_core (Qf := fun _ s' => SP X pins D .next s') hc hN I hi ok hg ht he hs h fun L C s' m H' I' q hn f => ?_) fun _ s' hq => wpAny_pure (wpAny_pure hq))
  show wpAny _ _ (assign (.Name y py) X.env (.ref L)) _ _ _
  refine wpAny_assign_Name (store_ok2 (v := V.ref L) I' hN hy (.inl hyl) rfl (fun s2 I2 ⟨a, sb, ha⟩ => ?_) (.inr hyl))
  obtain ⟨f0, f1, f2, f3, f4, f5⟩ := f
  have haC : C ≠ a := by
    rcases ha with z | z
    · rw [z]; exact f1
    · exact fun e => f4 y a z e.symm
  refine ⟨m, hn.sameBut sb haC, fun h3 sb3 => ?_⟩
  exact ⟨_, H', I2.turned (t' := s2.toks) (fun b o hb e => (sb3.2 b hb).trans e) f0 f1 f3 f4 f5, q⟩
theorem sw_true {elt : Expr} {gs : List Comprehension} {scope : Scope} {pos py : Pos} {y : Str} {l : Nat} {env : Env} (hk : env.scope.kind = .function) (hy : env.scope.names.lookup y = some .local) (hl : (py.line == pos.line) = true)
    (ha : (scope.names.any fun (n, k) => n == y && (k == .local || k == .cell)) = false) : swapsWith (.ListComp elt gs scope pos) (some (.Name y py)) l env = pure true := by
  have ky : env.kindOf y = some .local := hy
  have hb : env.blockKind = .function := by unfold Env.blockKind; rw [hk]; rfl
  unfold swapsWith
  simp only [hb, ky, ha, Expr.pos, hl]
  rfl
end

def blkC (N : List Str) (sc scope : Scope) (own : List (Str × Nat)) : Bool :=
  (match scope.kind with | .function => true | _ => false) && (scope.names.all fun y => decide (scope.names.lookup y.1 = some y.2)) && (own.all fun p => decide (N[p.2]? = some p.1)) &&
    (scope.names.all fun y => match y.2 with
      | .free => (match sc.names.lookup y.1 with | some .cell => true | some .free => true | _ => false)
      | .local => decide (y.1 ∈ own.map (·.1)) || decide (y.1 ∉ N)
      | .cell => decide (y.1 ∈ own.map (·.1)) || decide (y.1 ∉ N)
      | _ => true)
theorem blkOk_by {N : List Str} {sc scope : Scope} {own : List (Str × Nat)} (h : blkC N sc scope own = true) : BlkOk N sc scope own := by
  unfold blkC at h
  simp only [Bool.and_eq_true, List.all_eq_true, decide_eq_true_eq] at h
  obtain ⟨⟨⟨h1, h2⟩, h3⟩, h4⟩ := h
  refine ⟨?_, h2, h3, fun y hy e => ?_, fun y hy e => ?_⟩
  · split at h1
    · assumption
    · cases h1
  · have q := h4 y hy
    simp only [e] at q
    split at q <;> first | exact .inl (by assumption) | exact .inr (by assumption) | cases q
  · have q := h4 y hy
    rcases e with e | e <;> (simp only [e, Bool.or_eq_true, decide_eq_true_eq] at q; exact q)
end L2

namespace L2
open PySem PySem.Spec PyProof.Rows

section
variable {prog : Program} {w : World} {A : Around} {R : Result → Shared → Prop} {s : Shared} {elt t0 i0 t1 i1 : Expr} {ifs0 ifs1 : List Expr} {scope : Scope} {pos : Pos} {it acc : Value} {env : Env}
end

section
variable {X : Cx}
end
end L2

namespace L2
open PySem PySem.Spec PyProof.Rows

section
variable {κ : Type} [DecidableEq κ]
def valV (kvs : List (κ × V)) (k : κ) : Option V := (kvs.find? fun kv => decide (kv.1 = k)).map (·.2)
def putK (kvs : List (κ × V)) (k : κ) (v : V) : List (κ × V) :=
  if (kvs.any fun kv => decide (kv.1 = k)) = true then kvs.map (fun kv => if kv.1 = k then (kv.1, v) else kv) else kvs ++ [(k, v)]
def dropK (kvs : List (κ × V)) (k : κ) : List (κ × V) := kvs.filter fun kv => decide (kv.1 ≠ k)

theorem valV_pos {p : κ × V} {r : List (κ × V)} {k : κ} (e : p.1 = k) : valV (p :: r) k = some p.2 := by simp [valV, List.find?_cons, e]
theorem valV_neg {p : κ × V} {r : List (κ × V)} {k : κ} (e : ¬ p.1 = k) : valV (p :: r) k = valV r k := by simp [valV, List.find?_cons, e]
theorem valV_any (k : κ) : ∀ kvs : List (κ × V), (kvs.any fun kv => decide (kv.1 = k)) = (valV kvs k).isSome
  | [] => rfl
  | p :: r => by
    rw [List.any_cons]
    by_cases e : p.1 = k
    · simp only [valV_pos e, decide_eq_true e, Bool.true_or, Option.isSome_some]
    · rw [valV_neg e, decide_eq_false e, Bool.false_or]; exact valV_any k r
theorem RelO.isSome_eq {o : Option V} {u : Option Value} (r : RelO o u) : o.isSome = u.isSome := by
  cases o with
  | none => cases u with
    | none => rfl
    | some _ => exact (show False from r).elim
  | some _ => cases u with
    | none => exact (show False from r).elim
    | some _ => rfl
theorem RelO.getD {o : Option V} {u : Option Value} {d : V} {d' : Value} (r : RelO o u) (rd : RelV d d') : RelV (o.getD d) (u.getD d') := by
  cases o with
  | none => cases u with
    | none => exact rd
    | some _ => exact (show False from r).elim
  | some _ => cases u with
    | none => exact (show False from r).elim
    | some _ => exact r

theorem KV.val {kvs : List (κ × V)} {vs : List (κ × Value)} (r : KV kvs vs) (k : κ) : RelO (valV kvs k) (valueAt vs k) := by
  unfold KV at r
  induction r with
  | nil => exact True.intro
  | @cons p q ps qs h t ih =>
    obtain ⟨h1, h2⟩ := h
    by_cases e : p.1 = k
    · have e' : q.1 = k := h1.symm.trans e
      have b : valueAt (q :: qs) k = some q.2 := by simp [valueAt, List.find?_cons, e']
      rw [valV_pos e, b]; exact h2
    · have e' : ¬ q.1 = k := fun z => e (h1.trans z)
      have b : valueAt (q :: qs) k = valueAt qs k := by simp [valueAt, List.find?_cons, e']
      rw [valV_neg e, b]; exact ih
theorem KV.any {kvs : List (κ × V)} {vs : List (κ × Value)} (r : KV kvs vs) (k : κ) : (kvs.any fun kv => decide (kv.1 = k)) = vs.any fun kv => decide (kv.1 = k) := by
  unfold KV at r
  induction r with
  | nil => rfl
  | cons h t ih => rw [List.any_cons, List.any_cons, ih, h.1]
theorem KV.repl {kvs : List (κ × V)} {vs : List (κ × Value)} (r : KV kvs vs) (k : κ) {y : V} {u : Value} (ry : RelV y u) :
    KV (kvs.map fun kv => if kv.1 = k then (kv.1, y) else kv) (vs.map fun kv => if kv.1 = k then (kv.1, u) else kv) := by
  unfold KV at r ⊢
  induction r with
  | nil => exact .nil
  | @cons p q ps qs h t ih =>
    rw [List.map_cons, List.map_cons]
    refine .cons ?_ ih
    obtain ⟨h1, h2⟩ := h
    by_cases e : p.1 = k
    · rw [if_pos e, if_pos (h1.symm.trans e)]; exact ⟨h1, ry⟩
    · rw [if_neg e, if_neg (fun z => e (h1.trans z))]; exact ⟨h1, h2⟩
theorem KV.put {kvs : List (κ × V)} {vs : List (κ × Value)} (r : KV kvs vs) (k : κ) {y : V} {u : Value} (ry : RelV y u) : KV (putK kvs k y) (stored vs k u) := by
  unfold putK stored
  rw [r.any k]
  by_cases e : (vs.any fun kv => decide (kv.1 = k)) = true
  · rw [if_pos e, if_pos e]; exact r.repl k ry
  · rw [if_neg e, if_neg e]; exact Paired.snoc r ⟨rfl, ry⟩
theorem KV.drop {kvs : List (κ × V)} {vs : List (κ × Value)} (r : KV kvs vs) (k : κ) : KV (dropK kvs k) (without vs k) := by
  unfold KV at r ⊢
  unfold dropK without
  induction r with
  | nil => exact .nil
  | @cons p q ps qs h t ih =>
    obtain ⟨h1, h2⟩ := h
    rw [List.filter_cons, List.filter_cons]
    by_cases e : p.1 = k
    · have a : ¬ decide (p.1 ≠ k) = true := by simp [e]
      have b : ¬ decide (q.1 ≠ k) = true := by simp [h1.symm.trans e]
      rw [if_neg a, if_neg b]; exact ih
    · have e' : ¬ q.1 = k := fun z => e (h1.trans z)
      have a : decide (p.1 ≠ k) = true := by simp [e]
      have b : decide (q.1 ≠ k) = true := by simp [e']
      rw [if_pos a, if_pos b]; exact .cons ⟨h1, h2⟩ ih
theorem KV.keys {kvs : List (κ × V)} {vs : List (κ × Value)} (r : KV kvs vs) : kvs.map (·.1) = vs.map (·.1) := by
  unfold KV at r
  induction r with
  | nil => rfl
  | cons h t ih => rw [List.map_cons, List.map_cons, ih, h.1]
theorem KV.length {kvs : List (κ × V)} {vs : List (κ × Value)} (r : KV kvs vs) : kvs.length = vs.length := Paired.length r
end


abbrev KT (H : Hp) : List (List Key × V) → List (List Key × Addr × Value) → Prop := Paired fun p q => p.1 = q.1 ∧ H q.2.1 = some (.tup (p.1.map kV)) ∧ RelV p.2 q.2.2
theorem KT.val {H : Hp} {kvs : List (List Key × V)} {xs : List (List Key × Addr × Value)} (r : KT H kvs xs) (k : List Key) : RelO (valV kvs k) ((atKey xs k).map (·.2)) := by
  induction r with
  | nil => exact True.intro
  | @cons p q ps qs h t ih =>
    obtain ⟨h1, _, h2⟩ := h
    by_cases e : p.1 = k
    · have e' : q.1 = k := h1.symm.trans e
      have b : atKey (q :: qs) k = some q.2 := by simp [atKey, List.find?_cons, e']
      rw [valV_pos e, b]; exact h2
    · have e' : ¬ q.1 = k := fun z => e (h1.trans z)
      have b : atKey (q :: qs) k = atKey qs k := by simp [atKey, List.find?_cons, e']
      rw [valV_neg e, b]; exact ih
theorem KT.repl {H : Hp} {kvs : List (List Key × V)} {xs : List (List Key × Addr × Value)} (r : KT H kvs xs) (k : List Key) {y : V} {u : Value} (ry : RelV y u) :
    KT H (kvs.map fun kv => if kv.1 = k then (kv.1, y) else kv) (xs.map (putAt k u)) := by
  induction r with
  | nil => exact .nil
  | @cons p q ps qs h t ih =>
    rw [List.map_cons, List.map_cons]
    refine .cons ?_ ih
    obtain ⟨h1, h2, h3⟩ := h
    unfold putAt
    by_cases e : p.1 = k
    · rw [if_pos e, if_pos (h1.symm.trans e)]; exact ⟨h1, h2, ry⟩
    · rw [if_neg e, if_neg (fun z => e (h1.trans z))]; exact ⟨h1, h2, h3⟩
theorem KT.put {H : Hp} {kvs : List (List Key × V)} {xs : List (List Key × Addr × Value)} (r : KT H kvs xs) (k : List Key) {b : Addr} {y : V} {u : Value} (hb : H b = some (.tup (k.map kV))) (ry : RelV y u) :
    KT H (putK kvs k y) (storedH xs k b u) := by
  have e : (kvs.any fun kv => decide (kv.1 = k)) = (atKey xs k).isSome := by
    rw [valV_any, (r.val k).isSome_eq, Option.isSome_map]
  unfold putK storedH
  rw [e]
  by_cases q : (atKey xs k).isSome = true
  · rw [if_pos q, if_pos q]; exact r.repl k ry
  · rw [if_neg q, if_neg q]; exact Paired.snoc r ⟨rfl, hb, ry⟩
theorem KT.keeps {H H' : Hp} {kvs : List (List Key × V)} {xs : List (List Key × Addr × Value)} (r : KT H kvs xs) (ht : ∀ b ys, H b = some (.tup ys) → H' b = some (.tup ys)) : KT H' kvs xs :=
  Paired.mapP r fun _ _ z => ⟨z.1, ht _ _ z.2.1, z.2.2⟩

section
variable {P : Program} {w : World} {H : Hp} {h : Heap} {a : Addr}
end

def DGet (H : Hp) (a : Addr) (y : V) (r : Option V) : Prop :=
  (∃ kvs k, Rd H a (.dK kvs) ∧ y = kV k ∧ r = valV kvs k) ∨ ∃ kvs k b, Rd H a (.dT kvs) ∧ y = .ref b ∧ H b = some (.tup (k.map kV)) ∧ r = valV kvs k
def DPut (H : Hp) (a : Addr) (y v : V) (H' : Hp) : Prop :=
  (∃ kvs k, H a = some (.dK kvs) ∧ y = kV k ∧ kvs.length < sizeLine ∧ H' = upd H a (.dK (putK kvs k v))) ∨
  ∃ kvs k b, H a = some (.dT kvs) ∧ y = .ref b ∧ H b = some (.tup (k.map kV)) ∧ kvs.length < sizeLine ∧ H' = upd H a (.dT (putK kvs k v))
theorem DGet.k {H : Hp} {a : Addr} {kvs : List (Key × V)} {k : Key} (e : H a = some (.dK kvs)) : DGet H a (kV k) (valV kvs k) := .inl ⟨kvs, k, .inl e, rfl, rfl⟩
theorem DGet.t {H : Hp} {a b : Addr} {kvs : List (List Key × V)} {k : List Key} (e : H a = some (.dT kvs)) (eb : H b = some (.tup (k.map kV))) : DGet H a (.ref b) (valV kvs k) := .inr ⟨kvs, k, b, .inl e, rfl, eb, rfl⟩
theorem DPut.k {H : Hp} {a : Addr} {kvs : List (Key × V)} {k : Key} {v : V} (e : H a = some (.dK kvs)) (hl : kvs.length < sizeLine) : DPut H a (kV k) v (upd H a (.dK (putK kvs k v))) := .inl ⟨kvs, k, e, rfl, hl, rfl⟩
theorem DPut.t {H : Hp} {a b : Addr} {kvs : List (List Key × V)} {k : List Key} {v : V} (e : H a = some (.dT kvs)) (eb : H b = some (.tup (k.map kV))) (hl : kvs.length < sizeLine) :
    DPut H a (.ref b) v (upd H a (.dT (putK kvs k v))) := .inr ⟨kvs, k, b, e, rfl, eb, hl, rfl⟩


section
variable {X : Cx} {pins : List (Addr × Obj)} {σ : St} {H : Hp} {s : Shared} {a : Addr} {y v : V} {u r : Value} {o : Option V} {A : Around} {E : Value → Shared → Prop}

end

section
variable {X : Cx} {pins : List (Addr × Obj)} {σ : St} {H : Hp} {s : Shared} {a : Addr} {kvs : List (Key × V)} {k : Key} {u : Value} {A : Around} {E : Value → Shared → Prop}
end


section
variable {X : Cx} {o i e value : Expr} {pos pos' tpos : Pos} {td ty tv : TE}
end


section
variable {X : Cx} {pos : Pos}
end

structure M1 (X : Cx) (o : Expr) (m : Str) (apos : Pos) (e : Expr) (cpos : Pos) : Prop where
  base : attributeBase o m X.env (eval o X.env) = eval o X.env
  few : ((backTo cpos (starEach [e] X.env)).all (fun x => !x.1) && (backToKw cpos (keywordEach [] X.env)).all (fun x => x.1.isSome)
    && decide (([e] : List Expr).length + ([] : List Keyword).length + (if ([] : List Keyword).isEmpty then 0 else 1) < 30)) = true
  line : (apos.endLine == cpos.line) = true
  trees : backTo cpos (starEach [e] X.env) = [(false, eval e X.env)]
structure M2 (X : Cx) (o : Expr) (m : Str) (apos : Pos) (e f : Expr) (cpos : Pos) : Prop where
  base : attributeBase o m X.env (eval o X.env) = eval o X.env
  few : ((backTo cpos (starEach [e, f] X.env)).all (fun x => !x.1) && (backToKw cpos (keywordEach [] X.env)).all (fun x => x.1.isSome)
    && decide (([e, f] : List Expr).length + ([] : List Keyword).length + (if ([] : List Keyword).isEmpty then 0 else 1) < 30)) = true
  line : (apos.endLine == cpos.line) = true
  trees : backTo cpos (starEach [e, f] X.env) = [(false, eval e X.env), (false, eval f X.env)]

section
variable {X : Cx} {pins : List (Addr × Obj)} {σ : St} {H : Hp} {s : Shared} {a : Addr} {y d : V} {u r : Value} {o : Option V} {A : Around} {E : Value → Shared → Prop}
end

section
variable {X : Cx} {o e f : Expr} {apos cpos : Pos} {td ty tx : TE}
end

section
variable {X : Cx} {pins : List (Addr × Obj)} {σ : St} {H : Hp} {s : Shared} {a : Addr} {kvs : List (Key × V)} {A : Around} {E : Value → Shared → Prop}
end


section
variable {X : Cx} {pins : List (Addr × Obj)} {σ : St} {H : Hp} {s : Shared} {a : Addr} {y : V} {u : Value} {A : Around} {E : Value → Shared → Prop}
end
end L2

namespace L2
open PySem PySem.Spec PyProof.Rows

section
variable {prog : Program} {w : World} {A : Around} {E : Value → Shared → Prop}
end

section
variable {X : Cx}
end
end L2

namespace L2
open PySem PySem.Spec PyProof.Rows

section
variable {X : Cx} {pins : List (Addr × Obj)} {σ : St} {H : Hp} {s : Shared} {h' : Heap}
theorem Inv.turnedL {t' : Nat} {ch : List Addr} (I : Inv X pins σ H s) (k : ∀ b o, b ∉ ch → s.heap.get? b = some o → h'.get? b = some o) (hf : ∀ b ∈ ch, FpOk X pins H b) : Inv X pins σ H { s with heap := h', toks := t' } := by
  have nit : ∀ b u, H b = some u → b ∉ ch := fun b u e z => by
    have q := (hf b z).1
    rw [q] at e; cases e
  refine I.step (g' := s.gens) (d' := s.drawn) (ch := ch) (fun b hb => ⟨(hf b hb).2.2.2.1, (hf b hb).2.1, (hf b hb).2.2.2.2.1, (hf b hb).2.2.2.2.2⟩) (fun b o _ _ hc e _ => k b o hc e) (fun b o _ _ hc e _ => ⟨o.slots, k b o hc e⟩)
    (fun _ _ _ _ n => n) (fun b o hc e => ⟨o, k b o hc e⟩) (fun _ _ e => e) (fun _ _ _ e => e) (fun _ _ e => e) (fun m hm => ?_) (fun b u e => ?_) I.bare
  · obtain ⟨o, es, ep, ho, r⟩ := hm
    exact ⟨o, es, ep, k _ o (fun z => (hf _ z).2.1 rfl) ho, r⟩
  · refine (I.hok b u e).stay (fun c v hc q => k c v ?_ q) (fun _ q => q) fun _ _ _ q => q
    rcases hc with z | z
    · rw [z]; exact nit b u e
    · exact nit c _ z
theorem Inv.turnedNew {t' : Nat} {ch : List Addr} {T : Addr} {ob : HO} (I : Inv X pins σ H s) (k : ∀ b o, b ∉ ch → s.heap.get? b = some o → h'.get? b = some o) (hf : ∀ b ∈ ch, FpOk X pins H b) (hT : s.heap.objs.size ≤ T)
    (new : ObjOk X.prog X.w (upd H T ob) h' T ob) : Inv X pins σ (upd H T ob) { s with heap := h', toks := t' } := by
  have hn : H T = none := I.hok.fresh hT
  have nit : ∀ b u, H b = some u → b ∉ ch := fun b u e z => by
    have q := (hf b z).1
    rw [q] at e; cases e
  refine I.step (g' := s.gens) (d' := s.drawn) (ch := ch) (fun b hb => ⟨(hf b hb).2.2.2.1, (hf b hb).2.1, (hf b hb).2.2.2.2.1, (hf b hb).2.2.2.2.2⟩) (fun b o _ _ hc e _ => k b o hc e) (fun b o _ _ hc e _ => ⟨o.slots, k b o hc e⟩)
    (fun b o _ e n => ?_) (fun b o hc e => ⟨o, k b o hc e⟩) (fun b xs e => ?_) (fun b o u e => ?_) (fun b ps e => ?_) (fun m hm => ?_) (fun b u e => ?_) I.bare
  · rw [upd_ne (Nat.ne_of_lt (Nat.lt_of_lt_of_le (Heap.lt_size e) hT))]; exact n
  · rw [upd_ne (ne_of_none e hn)]; exact e
  · rw [upd_ne (ne_of_none e hn)]; exact e
  · rw [upd_ne (ne_of_none e hn)]; exact e
  · obtain ⟨o, es, ep, ho, r⟩ := hm
    exact ⟨o, es, ep, k _ o (fun z => (hf _ z).2.1 rfl) ho, r⟩
  · by_cases hb : b = T
    · subst hb
      rw [upd_same] at e
      cases e
      exact new
    · rw [upd_ne hb] at e
      refine (I.hok b u e).stay (fun c v hc q => k c v ?_ q) (fun c q => by rw [upd_ne (ne_of_none q hn)]; exact q) fun c xs _ q => by rw [upd_ne (ne_of_none q hn)]; exact q
      rcases hc with z | z
      · rw [z]; exact nit b u e
      · exact nit c _ z

end
section
variable {X : Cx}
end

section
variable {X : Cx} {tg : Expr}
end
section
variable {X : Cx} {tg : Expr}
end

section
variable {prog : Program} {w : World} {A : Around} {E : Value → Shared → Prop} {s : Shared}
end

section
variable {X : Cx} {pins : List (Addr × Obj)} {σ : St} {H : Hp} {s : Shared} {d : Addr} {o : Obj}
end

section
variable {P : Program} {w : World} {K : PySem.W.Frag} {tg : Expr} {d : Addr} {o : Obj} {es : Array DictEntry} {ep : Nat}
end

section
variable {X : Cx} {tg e : Expr} {td : TE} {apos cpos : Pos}
end

def Ite (K : PySem.W.Frag) (a : Addr) : It :=
  ⟨fun i H => ∃ (xs : List V) (x : V), SqL K H a xs ∧ xs[i]? = some x, fun i H v H' => ∃ T x, v = .ref T ∧ H T = none ∧ H' = upd H T (.tup [.int (i : Nat), x]) ∧ ∀ xs, SqL K H a xs → xs[i]? = some x, fun i H => ∃ xs : List V, SqL K H a xs ∧ xs.length ≤ i⟩
theorem turn_enum {P : Program} {w : World} {K : PySem.W.Frag} {elts : List Expr} {kk : Nat} {tpos : Pos} (a e it : Addr) :
    Turn P w K (.Tuple elts kk tpos) (Ite K a) [e, it] e (fun i h => (∃ old, IsEnum h e it ((i : Nat) : Int) old) ∧ h.IsListIter it a i ∧ e ≠ it) where
  mem := by simp
  obj := fun i h st b hb => by
    obtain ⟨⟨old, he⟩, ⟨o, ho, hc, hd⟩, _⟩ := st
    have e' : b = e ∨ b = it := by simpa using hb
    rcases e' with z | z
    · rw [z]; exact ⟨_, he, fun v q => nomatch q⟩
    · rw [z]; exact ⟨o, ho, fun v q => by rw [hd] at q; cases q⟩
  keep := fun i h h' st k => let ⟨⟨old, he⟩, hi, hne⟩ := st; ⟨⟨old, k e (by simp) _ he⟩, hi.at fun o q => k it (by simp) o q, hne⟩
  item := by
    intro X hP hw hK hc i pins s σ H E I hf st hg
    subst hP hw hK
    obtain ⟨⟨old, he⟩, hit, hne⟩ := st
    obtain ⟨xs, x, hq, hx⟩ := hg
    obtain ⟨its, rv, p, hz⟩ := I.list hq
    obtain ⟨u, hu, ru⟩ := rv.get hx
    have hel : e < s.heap.objs.size := Heap.lt_size he
    have hil : it < s.heap.objs.size := by obtain ⟨_, q, _⟩ := hit; exact Heap.lt_size q
    refine wpAny_pyNext_enum_item he hit p.isList (x := u) (by simpa using hu) hne fun h' ho hit' hT hsz hk => ?_
    refine ⟨_, rfl, wpAny_letOwnedTupleGo_enum (s := { s with heap := h', toks := s.toks + 1 }) ho fun h'' he' sb => ?_⟩
    have hT2 : h''.get? s.heap.objs.size = some { cls := .type "tuple", data := .seq #[.int i s.toks, u] } := (sb.2 _ (Nat.ne_of_gt hel)).trans hT
    have new : ObjOk X.prog X.w (upd H s.heap.objs.size (.tup [.int (i : Nat), x])) h'' s.heap.objs.size (.tup [.int (i : Nat), x]) :=
      ⟨by show 2 ≤ sizeLine; decide, [.int i s.toks, u], .cons ⟨_, rfl⟩ (.cons ru .nil), ⟨_, hT2, rfl, _, rfl⟩⟩
    have I1 : Inv X pins σ (upd H s.heap.objs.size (.tup [.int (i : Nat), x])) { s with heap := h'', toks := s.toks + 1 } :=
      I.turnedNew (ch := [e, it]) (fun b ob hb q => (sb.2 b (fun z => hb (by simp [z]))).trans (hk b ob (fun z => hb (by simp [z])) (fun z => hb (by simp [z])) q)) hf (Nat.le_refl _) new
    refine ⟨.ref s.heap.objs.size, _, I1, rfl, ⟨_, x, rfl, I.hok.fresh (Nat.le_refl _), rfl, fun ys hy => by rw [I.list_inj hy hq]; exact hx⟩, ⟨⟨u, ?_⟩, hit'.at fun o q => (sb.2 it (Ne.symm hne)).trans q, hne⟩, fun b hb => ?_⟩
    · have e1 : ((i + 1 : Nat) : Int) = (i : Int) + 1 := by omega
      rw [e1]; exact he'
    · have hb' : b < s.heap.objs.size := by
        have e' : b = e ∨ b = it := by simpa using hb
        rcases e' with z | z
        · rw [z]; exact hel
        · rw [z]; exact hil
      rw [upd_ne (Nat.ne_of_lt hb')]
      exact (hf b hb).1
  done := by
    intro X hP hw hK hc i pins s σ H E I hf st hg
    subst hP hw hK
    obtain ⟨⟨old, he⟩, hit, hne⟩ := st
    obtain ⟨xs, hq, hx⟩ := hg
    obtain ⟨its, rv, p, hz⟩ := I.list hq
    obtain ⟨f0, f1, f2, f3, f4, f5⟩ := hf it (by simp)
    have hl := rv.length
    exact wpAny_pyNext_enum_end (I.ok.hd hc) he hit p.isList (by simp; omega) fun h' eb => ⟨rfl, I.turned (t' := s.toks) (fun b o hb q => eb b o hb q) f0 f1 f3 f4 f5⟩
  self := fun A i s Q E st h => let ⟨⟨_, he⟩, _⟩ := st; wpAny_pyIter_enum he h
def iEnum (K : PySem.W.Frag) (ta : TA) : TI := fun σ H R => ta σ H fun vs H1 => ∃ a xs, vs = [.ref a] ∧ SqL K H1 a xs ∧ R (Ite K a) H1
theorem pi_enum {X : Cx} {e : Expr} {ta : TA} {p pos tpos : Pos} {elts : List Expr} {kk : Nat} (hg : Gl X "enumerate") (hm : X.mg "enumerate" = none) (ha : PA X [e] ta) (hs : starEach [e] X.env = [(false, eval e X.env)] := by rfl) :
    PI X (.Tuple elts kk tpos) (.Call (.Name "enumerate" p) [e] [] pos) (iEnum X.K ta) := by
  intro pins s σ H R I h
  refine Call_ (ld_blt I hg hm boot_enumerate (PyProof.Rows.callWith_type1 (thn (ha pos pins s σ H _ I h) fun us s1 ⟨vs, H1, I1, r1, q1⟩ => ?_) hs rfl))
  obtain ⟨a, xs, ex, hq, q⟩ := q1
  subst ex
  cases r1 with
  | cons r rr =>
    cases rr
    cases r
    obtain ⟨its, rv, p', hz⟩ := I1.list hq
    refine call_enumerate_list p'.isList fun h' he hit hsz hk => wpAny_pyIter_enum he ?_
    have I2 : Inv X pins σ H1 { s1 with heap := h' } := I1.kept (t' := s1.toks) hk
    refine ⟨s1.heap.objs.size + 1, [s1.heap.objs.size + 1, s1.heap.objs.size], _, _, H1, rfl, I2, turn_enum a (s1.heap.objs.size + 1) s1.heap.objs.size, ⟨⟨.none, he⟩, hit, Nat.succ_ne_self _⟩, fun b hb => ?_, q⟩
    have e' : b = s1.heap.objs.size + 1 ∨ b = s1.heap.objs.size := by simpa using hb
    have hle : s1.heap.objs.size ≤ b := by
      rcases e' with z | z
      · rw [z]; exact Nat.le_add_right _ _
      · rw [z]; exact Nat.le_refl _
    exact I1.fpOk hle (I1.hok.fresh hle)
theorem boot_zip5 : bootBuiltins "zip" = some (.type "zip") := by decide +kernel
def Itz (K : PySem.W.Frag) (a b : Addr) : It :=
  ⟨fun i H => ∃ (xs ys : List V) (x y : V), SqL K H a xs ∧ SqL K H b ys ∧ xs[i]? = some x ∧ ys[i]? = some y,
    fun i H v H' => ∃ T x y, v = .ref T ∧ H T = none ∧ H' = upd H T (.tup [x, y]) ∧ (∀ xs, SqL K H a xs → xs[i]? = some x) ∧ ∀ ys, SqL K H b ys → ys[i]? = some y,
    fun i H => ∃ xs ys : List V, SqL K H a xs ∧ SqL K H b ys ∧ (xs.length ≤ i ∨ ys.length ≤ i)⟩
theorem turn_zip {P : Program} {w : World} {K : PySem.W.Frag} {elts : List Expr} {kk : Nat} {tpos : Pos} {a b z TI TO i1 i2 : Addr} (D : ZipApart z TI TO i1 i2 a b) :
    Turn P w K (.Tuple elts kk tpos) (Itz K a b) [z, TI, TO, i1, i2] z (fun i h => IsZip h z TI TO .none ∧ IsPair h TI (.ref i1) (.ref i2) ∧ (∃ x y, IsPair h TO x y) ∧ h.IsListIter i1 a i ∧ h.IsListIter i2 b i) where
  mem := by simp
  obj := fun i h st c hc => by
    obtain ⟨hz, hTI, ⟨x, y, hTO⟩, ⟨o1, e1, _, d1⟩, ⟨o2, e2, _, d2⟩⟩ := st
    have e' : c = z ∨ c = TI ∨ c = TO ∨ c = i1 ∨ c = i2 := by simpa using hc
    rcases e' with q | q | q | q | q
    · rw [q]; exact ⟨_, hz, fun v q => nomatch q⟩
    · rw [q]; exact ⟨_, hTI, fun v q => nomatch q⟩
    · rw [q]; exact ⟨_, hTO, fun v q => nomatch q⟩
    · rw [q]; exact ⟨o1, e1, fun v q => by rw [d1] at q; cases q⟩
    · rw [q]; exact ⟨o2, e2, fun v q => by rw [d2] at q; cases q⟩
  keep := fun i h h' st k => by
    obtain ⟨hz, hTI, ⟨x, y, hTO⟩, h1, h2⟩ := st
    exact ⟨k z (by simp) _ hz, k TI (by simp) _ hTI, ⟨x, y, k TO (by simp) _ hTO⟩, h1.at fun o q => k i1 (by simp) o q, h2.at fun o q => k i2 (by simp) o q⟩
  item := by
    intro X hP hw hK hc i pins s σ H E I hf st hg
    subst hP hw hK
    obtain ⟨hz, hTI, ⟨x0, y0, hTO⟩, h1, h2⟩ := st
    obtain ⟨xs, ys, x, y, hqx, hqy, hx, hy⟩ := hg
    obtain ⟨its, rv, p, _⟩ := I.list hqx
    obtain ⟨its2, rv2, p2, _⟩ := I.list hqy
    obtain ⟨u, hu, ru⟩ := rv.get hx
    obtain ⟨u2, hu2, ru2⟩ := rv2.get hy
    have hzl : z < s.heap.objs.size := Heap.lt_size hz
    refine wpAny_pyNext_zip_item D hz hTI hTO h1 h2 p.isList p2.isList (x := u) (y := u2) (by simpa using hu) (by simpa using hu2) fun h' z' TO' h1' h2' hT hsz hk => ?_
    refine ⟨_, rfl, wpAny_letOwnedTupleGo_zip (s := { s with heap := h' }) z' fun h'' z'' sb => ?_⟩
    have hT2 : h''.get? s.heap.objs.size = some { cls := .type "tuple", data := .seq #[u, u2] } := (sb.2 _ (Nat.ne_of_gt hzl)).trans hT
    have new : ObjOk X.prog X.w (upd H s.heap.objs.size (.tup [x, y])) h'' s.heap.objs.size (.tup [x, y]) :=
      ⟨by show 2 ≤ sizeLine; decide, [u, u2], .cons ru (.cons ru2 .nil), ⟨_, hT2, rfl, _, rfl⟩⟩
    have I1 : Inv X pins σ (upd H s.heap.objs.size (.tup [x, y])) { s with heap := h'' } :=
      I.turnedNew (t' := s.toks) (ch := [z, TI, TO, i1, i2]) (fun c o hb q => (sb.2 c (fun q' => hb (by simp [q']))).trans (hk c o (fun q' => hb (by simp [q'])) (fun q' => hb (by simp [q'])) (fun q' => hb (by simp [q'])) (fun q' => hb (by simp [q'])) q)) hf (Nat.le_refl _) new
    refine ⟨.ref s.heap.objs.size, _, I1, rfl, ⟨_, x, y, rfl, I.hok.fresh (Nat.le_refl _), rfl, fun l hl => by rw [I.list_inj hl hqx]; exact hx, fun l hl => by rw [I.list_inj hl hqy]; exact hy⟩, ⟨z'', ?_, ⟨u, u2, ?_⟩, ?_, ?_⟩, fun c hcm => ?_⟩
    · exact (sb.2 _ D.TIz).trans (hk _ _ D.TIz D.TITO D.TIi1 D.TIi2 hTI)
    · exact (sb.2 _ D.TOz).trans TO'
    · exact h1'.at fun o q => (sb.2 _ D.i1z).trans q
    · exact h2'.at fun o q => (sb.2 _ D.i2z).trans q
    · have hlt : c < s.heap.objs.size := by
        have e' : c = z ∨ c = TI ∨ c = TO ∨ c = i1 ∨ c = i2 := by simpa using hcm
        rcases e' with q | q | q | q | q
        · rw [q]; exact hzl
        · rw [q]; exact Heap.lt_size hTI
        · rw [q]; exact Heap.lt_size hTO
        · rw [q]; obtain ⟨_, e1, _⟩ := h1; exact Heap.lt_size e1
        · rw [q]; obtain ⟨_, e2, _⟩ := h2; exact Heap.lt_size e2
      rw [upd_ne (Nat.ne_of_lt hlt)]
      exact (hf c hcm).1
  done := by
    intro X hP hw hK hc i pins s σ H E I hf st hg
    subst hP hw hK
    obtain ⟨hz, hTI, ⟨x0, y0, hTO⟩, h1, h2⟩ := st
    obtain ⟨xs, ys, hqx, hqy, hend⟩ := hg
    obtain ⟨its, rv, p, _⟩ := I.list hqx
    obtain ⟨its2, rv2, p2, _⟩ := I.list hqy
    have l1 := rv.length
    have l2 := rv2.length
    have he : its.toArray[i]? = none ∨ its2.toArray[i]? = none := by
      rcases hend with q | q
      · exact .inl (by simp; omega)
      · exact .inr (by simp; omega)
    exact wpAny_pyNext_zip_end (I.ok.hd hc) D hz hTI hTO h1 h2 p.isList p2.isList he fun h' hk => ⟨rfl, I.turnedL (t' := s.toks) (ch := [z, TI, TO, i1, i2]) (fun c o hb q =>
      hk c o (fun q' => hb (by simp [q'])) (fun q' => hb (by simp [q'])) (fun q' => hb (by simp [q'])) (fun q' => hb (by simp [q'])) q) hf⟩
  self := fun A i s Q E st h => wpAny_pyIter_zip st.1 h
def iZip (K : PySem.W.Frag) (ta : TA) : TI := fun σ H R => ta σ H fun vs H1 => ∃ a b xs ys, vs = [.ref a, .ref b] ∧ SqL K H1 a xs ∧ SqL K H1 b ys ∧ R (Itz K a b) H1
theorem pi_zip {X : Cx} {e e2 : Expr} {ta : TA} {p pos tpos : Pos} {elts : List Expr} {kk : Nat} (hg : Gl X "zip") (hm : X.mg "zip" = none) (ha : PA X [e, e2] ta)
    (hs : starEach [e, e2] X.env = (false, eval e X.env) :: starEach [e2] X.env := by rfl) (hpl : (backTo pos (starEach [e2] X.env)).any (·.1) = false := by rfl) :
    PI X (.Tuple elts kk tpos) (.Call (.Name "zip" p) [e, e2] [] pos) (iZip X.K ta) := by
  intro pins s σ H R I h
  refine Call_ (ld_blt I hg hm boot_zip5 (PyProof.Rows.callWith_type1 (thn (ha pos pins s σ H _ I h) fun us s1 ⟨vs, H1, I1, r1, q1⟩ => ?_) hs hpl))
  obtain ⟨a, b, xs, ys, ex, hqx, hqy, q⟩ := q1
  subst ex
  cases r1 with
  | cons r rr =>
    cases rr with
    | cons r' rr =>
      cases rr
      cases r
      cases r'
      obtain ⟨its, rv, p1, _⟩ := I1.list hqx
      obtain ⟨its2, rv2, p2, _⟩ := I1.list hqy
      have la : a < s1.heap.objs.size := p1.lt
      have lb : b < s1.heap.objs.size := p2.lt
      refine call_zip_2 p1.isList p2.isList fun h' hz hTI hTO h1 h2 hsz hk => wpAny_pyIter_zip hz ?_
      have I2 : Inv X pins σ H1 { s1 with heap := h' } := I1.kept (t' := s1.toks) hk
      refine ⟨s1.heap.objs.size + 4, [s1.heap.objs.size + 4, s1.heap.objs.size + 2, s1.heap.objs.size + 3, s1.heap.objs.size, s1.heap.objs.size + 1], _, _, H1, rfl, I2, turn_zip (PySem.W.ktu_apart s1.heap.objs.size a b la lb), ⟨hz, hTI, ⟨_, _, hTO⟩, h1, h2⟩, fun c hcm => ?_, q⟩
      have e' : c = s1.heap.objs.size + 4 ∨ c = s1.heap.objs.size + 2 ∨ c = s1.heap.objs.size + 3 ∨ c = s1.heap.objs.size ∨ c = s1.heap.objs.size + 1 := by simpa using hcm
      have hle : s1.heap.objs.size ≤ c := by
        rcases e' with z | z | z | z | z
        · rw [z]; exact Nat.le_add_right _ _
        · rw [z]; exact Nat.le_add_right _ _
        · rw [z]; exact Nat.le_add_right _ _
        · rw [z]; exact Nat.le_refl _
        · rw [z]; exact Nat.le_add_right _ _
      exact I1.fpOk hle (I1.hok.fresh hle)
end L2

section 
namespace Bits
open PySem PyProof.Rows

end Bits
end 

section 
namespace TL
open PySem PySem.Builtin PySem.Builtin.Str PySem.StrLaws

abbrev tl (x : Str) : List Nat := x.cps.toList
def pre (S l : List Nat) : Bool := l.take S.length == S
def par (S : List Nat) : List Nat → List Nat → Option (List Nat × List Nat)
  | _, [] => none
  | acc, c :: r => if pre S (c :: r) = true then some (acc, (c :: r).drop S.length) else par S (acc ++ [c]) r

end TL
end 

namespace L2
open PySem PySem.Spec PyProof.Rows

section
variable {X : Cx} {pins : List (Addr × Obj)} {σ : St} {H : Hp} {s : Shared} {Q : VK}
end

section
variable {X : Cx}

end

section
variable {X : Cx} {o e : Expr} {to te : TE}
end
end L2

namespace L2
open PySem PySem.Spec PyProof.Rows

section
variable {X : Cx}
end

end L2

namespace Att
open PySem PySem.W PySem.Calls PyProof.Rows

theorem ints_of_wellAll {P : Params} {h : Heap} : ∀ (ns : List Int) (vs : List Value), WellAll P h vs (ns.map WData.int) → IntsAre vs ns := by
  intro ns
  induction ns with
  | nil =>
    intro vs w
    rw [List.map_nil] at w
    cases w
    exact .nil
  | cons n ns ih =>
    intro vs w
    rw [List.map_cons] at w
    cases w with
    | cons a b =>
      cases a
      exact .cons _ _ (ih _ b)

theorem script_of {l : OpenLaw} {n : Nat} (hn : l.most = some n) {P : Params} {h : Heap} {args : List WData} {vals : List Value}
    (hpre : l.row.toRowW.claim.pre args = true) (hwl : WellAll P h vals args) :
    ∃ a vs ns, vals = [Value.ref a] ∧ args = [WData.list (ns.map WData.int)] ∧ h.get? a = some { cls := .type "list", data := .seq vs.toArray } ∧ IntsAre vs ns ∧ ns.length ≤ n := by
  have hsh : WShape.hasAll [] args [.list .int] = true := (pre_splitW hpre).1
  have hc : l.pre.holds [] { args := args } = true := (pre_splitW hpre).2
  obtain ⟨d, r, rfl, h1, h2⟩ := hasAllW_cons hsh
  obtain rfl := hasAllW_nil h2
  obtain ⟨xs, rfl, h3⟩ := hasW_list h1
  obtain ⟨ns, rfl⟩ := items_int h3
  have hlen : ns.length ≤ n := by
    unfold OpenLaw.pre at hc
    have h4 : (WTm.not (.lt (.lit (.int (n : Int))) (.len (.arg 0)))).holds [] { args := [.list (ns.map .int)] } = true := by
      have h4 := (holds_andW hc).1
      rw [hn] at h4
      exact h4
    have h5 := condW_of h4 (w_not (w_lt w_lit (w_len_list (w_arg rfl))))
    rw [List.length_map] at h5
    refine Nat.le_of_not_lt fun q => ?_
    have q' : (n : Int) < ((ns.length : Nat) : Int) := by omega
    first
      | (rw [decide_eq_true q'] at h5; exact absurd h5 (by decide))
      | (simp at h5; omega)
  cases hwl with
  | cons w1 w2 =>
    cases w2
    cases w1 with
    | list ho hall => exact ⟨_, _, ns, rfl, rfl, ho, ints_of_wellAll ns _ hall, hlen⟩

theorem post_true (l : OpenLaw) (args : List WData) : l.row.toRowW.claim.post args (.bool true) args = true :=
  postW_of (r := l.row.toRowW) (X := (true == true))
    (show WShape.has [] (.bool true) .bool = true by first | rfl | decide | simp [WShape.has, WShape.arms, WShape.armsAll])
    (show (WTm.eq .res (.lit (.bool true))).value [] { args := args, res := some (.bool true), after := args } = some (.bool (true == true)) from w_eq_bool (w_res rfl) w_lit) rfl

section
variable {prog : Program} {w : World} {A : Around} {E : Value → Shared → Prop} {s : Shared} {K : Frag}

end
end Att

namespace L2
open PySem PySem.Spec PyProof.Rows

theorem vals_ints : ∀ {vs : List Value} {ns : List Int}, IntsAre vs ns → Vals (ns.map V.int) vs
  | _, _, .nil => .nil
  | _, _, .cons n t h => .cons ⟨t, rfl⟩ (vals_ints h)

def Only (H : Hp) : Prop := ∀ b, H b = none ∨ (∃ o xs, H b = some (.frz o (.lst xs))) ∨ ∃ q, H b = some (.tbl q)
def tabH (ts : List (Addr × Str)) : Hp := fun b => (ts.find? fun q => decide (q.1 = b)).map fun q => .tbl q.2
theorem tabH_some {ts : List (Addr × Str)} {b : Addr} {o : HO} (h : tabH ts b = some o) : ∃ q ∈ ts, b = q.1 ∧ o = .tbl q.2 := by
  unfold tabH at h
  obtain ⟨q, e, rfl⟩ := Option.map_eq_some_iff.mp h
  exact ⟨q, List.mem_of_find?_eq_some e, (of_decide_eq_true (List.find?_some (p := fun q : Addr × Str => decide (q.1 = b)) e)).symm, rfl⟩
theorem tabH_mem {ts : List (Addr × Str)} (hnd : ∀ q ∈ ts, ∀ q' ∈ ts, q.1 = q'.1 → q = q') {q : Addr × Str} (h : q ∈ ts) : tabH ts q.1 = some (.tbl q.2) := by
  unfold tabH
  cases e : ts.find? (fun q' => decide (q'.1 = q.1)) with
  | none => exact absurd (List.find?_eq_none.mp e q h) (by simp)
  | some q' =>
    have h1 := of_decide_eq_true (List.find?_some (p := fun q' : Addr × Str => decide (q'.1 = q.1)) e)
    rw [hnd q' (List.mem_of_find?_eq_some e) q h h1]
    rfl

theorem law_call {P : Program} {w : World} {K : PySem.W.Frag} {mg mb : Str → Option Value} {CX : CXT} {k : Nat} {fa a : Addr} {fd : FuncData} {x : Str} {sp : Sp} {s₁ : Shared} {vs : List Value} {ns : List Int}
    (KX : K.In s₁.heap) (hns : s₁.heap.Ns mainGlobals mg) (hb : s₁.heap.Ns builtinsNs mb) (hbb : ∀ x : Str, x ≠ "__name__" → mb x = bootBuiltins x) (hlim : s₁.heap.NoLimit) (hbm : ∃ bm ob, mg "__builtins__" = some (.ref bm) ∧ bm ≠ builtinsNs ∧ s₁.heap.get? bm = some ob ∧ ob.cls = .type "module" ∧ ob.dict = some builtinsNs ∧ ob.data = .plain)
    {ts : List (Addr × Str)} (hts : ∀ q ∈ ts, s₁.heap.get? q.1 = some { cls := .none, data := .fields #[] } ∧ K.lookup q.1 = none ∧ ∃ c, PySem.W.codeHdIn K c q.1 = true) (hnd : ∀ q ∈ ts, ∀ q' ∈ ts, q.1 = q'.1 → q = q') (hTab : ∀ H : Hp, (∀ q ∈ ts, H q.1 = some (.tbl q.2)) → Tabs K mg H)
    (hg : s₁.gens = #[])
    (ha : s₁.heap.get? a = some { cls := .type "list", data := .seq vs.toArray }) (hi : IntsAre vs ns) (hl : ns.length ≤ sizeLine) (hr : Room k callerA)
    (F : ∀ base : Heap, K.In base → base.Ns mainGlobals mg → FnOk P w K mg base CX k fa fd [x] sp) (hbind : ∀ (s : Shared) (u : Value), BindsTo s fd ⟨[u], []⟩ [(x, u)])
    (hsp : ∀ H : Hp, Only H → SqL K H a (ns.map V.int) → sp [.ref a] H (fun v _ => v = .bl true) fun _ _ _ => False)
    (hCX : ∀ H e s', CX [] H s₁ (fun _ _ _ => False) e s' → False) :
    codeAny (model P w) callerA (.call (.ref fa) ⟨[.ref a], []⟩) (fun r s' => r = .ok (.ret (.bool true)) ∧ OldK s₁.heap s'.heap ∧ s'.os = s₁.os ∧ AllBare s'.gens) s₁ := by
  have rv := vals_ints hi
  have lenV := hi.length
  -- from an abstract heap in which nothing but the script may be tracked
  have core : ∀ H : Hp, Only H → SqL K H a (ns.map V.int) → HOk P w H s₁.heap → (∀ b, H b ≠ none → b = a ∨ ∃ q ∈ ts, b = q.1 ∧ H b = some (.tbl q.2)) → (H a ≠ none → K.lookup a = none) → (∀ q ∈ ts, H q.1 = some (.tbl q.2)) →
      codeAny (model P w) callerA (.call (.ref fa) ⟨[.ref a], []⟩) (fun r s' => r = .ok (.ret (.bool true)) ∧ OldK s₁.heap s'.heap ∧ s'.os = s₁.os ∧ AllBare s'.gens) s₁ := by
    intro H hO hS hok hA hK hT
    have base_of : ∀ {b : Addr} {o : Obj}, s₁.heap.get? b = some o → H b = none → (hidT s₁.heap H).get? b = some o := fun e n => hidT_get e n
    have noA : ∀ {b : Addr} {o : Obj} {es : Array DictEntry} {ep : Nat}, s₁.heap.get? b = some o → o.data = .dict es ep → H b = none := fun {b o es ep} e d => by
      cases q : H b with
      | none => rfl
      | some u =>
        rcases hA b (by rw [q]; simp) with e' | ⟨z, hz, e', _⟩
        · subst e'
          rw [ha] at e; cases e
          have d' : Data.seq vs.toArray _ = Data.dict es ep := d
          cases d'
        · subst e'
          rw [(hts z hz).1] at e; cases e
          have d' : Data.fields #[] = Data.dict es ep := d
          cases d'
    have nsK : ∀ {b : Addr} {m : Str → Option Value}, s₁.heap.Ns b m → (hidT s₁.heap H).Ns b m := fun {b m} ⟨o, es, ep, e, d, r⟩ => ⟨o, es, ep, base_of e (noA e d), d, r⟩
    have hKb : K.In (hidT s₁.heap H) := fun b o e => base_of (KX b o e) (by
      cases q : H b with
      | none => rfl
      | some u =>
        rcases hA b (by rw [q]; simp) with e' | ⟨z, hz, e', _⟩
        · subst e'
          rw [hK (by rw [q]; simp)] at e; cases e
        · subst e'
          rw [(hts z hz).2.1] at e; cases e)
    have hBm : ∃ bm ob, mg "__builtins__" = some (.ref bm) ∧ bm ≠ builtinsNs ∧ (hidT s₁.heap H).get? bm = some ob ∧ ob.cls = .type "module" ∧ ob.dict = some builtinsNs ∧ ob.data = .plain := by
      obtain ⟨bm, ob, m1, m2, m3, m4, m5, m6⟩ := hbm
      refine ⟨bm, ob, m1, m2, base_of m3 ?_, m4, m5, m6⟩
      cases q : H bm with
      | none => rfl
      | some u =>
        rcases hA bm (by rw [q]; simp) with e' | ⟨z, hz, e', _⟩
        · subst e'
          rw [ha] at m3; cases m3; cases m6
        · subst e'
          rw [(hts z hz).1] at m3; cases m3; cases m6
    have hM : Mod K mg (hidT s₁.heap H) := ⟨hKb, nsK hns, ⟨mb, nsK hb, hbb⟩, (let ⟨mc, h1, h2⟩ := hlim; ⟨mc, nsK h1, h2⟩), hBm⟩
    have e0 : Env0 P w K mg (hidT s₁.heap H) callerA [] s₁ H := ⟨rfl, hM, fun b o e => of_hidT e, Nat.le_of_eq (hidT_size _ _), trivial, fun b hb => absurd (show b ∈ ([] : List Addr) from hb) (by simp), hok, .of_eq hg, hTab H hT⟩
    refine codeAny_mono ((F _ hKb (nsK hns)).run callerA [] s₁ H ⟨[.ref a], []⟩ [.ref a] [.ref a] _ _ hr e0 (hbind s₁ (.ref a)) (.cons rfl .nil) (hsp H hO hS)) fun r s' h => ?_
    cases r with
    | error e => exact (hCX H e s' h).elim
    | ok fl =>
      cases fl with
      | next => exact False.elim h
      | brk => exact False.elim h
      | cont => exact False.elim h
      | ret u =>
        obtain ⟨v, H', os, bare, un, hok', r', q⟩ := h
        have q' : v = .bl true := q
        subst q'
        obtain rfl : u = Value.bool true := r'
        refine ⟨rfl, ⟨fun b o e => ?_, fun b o e => un.there b o e (by simp)⟩, os, bare⟩
        cases q : H b with
        | none => exact .inl (un.keep b o e q (by intro z; exact absurd (show b ∈ ([] : List Addr) from z) (by simp)) (by simp))
        | some u =>
          rcases hO b with z | ⟨ob, xs, z⟩ | ⟨tq, z⟩
          · rw [q] at z; cases z
          · have z2 := un.frzs b ob _ z
            obtain ⟨e1, _⟩ := hok b _ z
            obtain ⟨e2, _⟩ := hok' b _ z2
            rw [e] at e1; cases e1
            exact .inl e2
          · rcases hA b (by rw [z]; simp) with e' | ⟨zz, hz, e', _⟩
            · subst e'
              obtain ⟨ps0, e0', _⟩ := hok b _ z
              rw [ha] at e0'; cases e0'
            · subst e'
              have z2 := un.tbls _ _ z
              obtain ⟨ps, e2, _⟩ := hok' _ _ z2
              obtain ⟨h1, h2, c, h3⟩ := hts zz hz
              rw [h1] at e; cases e
              exact .inr (.inl ⟨((PySem.W.codeHd_of_K KX h3).tab h1).isCodeTable, rfl, #[], ps, rfl, by rw [e2]; simp⟩)
  have hna : ∀ q ∈ ts, q.1 ≠ a := fun q hq e => by
    have := (hts q hq).1
    rw [e, ha] at this
    cases this
  have tok : ∀ (H : Hp) (b : Addr) (u : HO), tabH ts b = some u → ObjOk P w H s₁.heap b u := fun H b u z => by
    obtain ⟨q, hq, rfl, rfl⟩ := tabH_some z
    exact ⟨#[], (hts q hq).1, True.intro, fun pos cv hc => by cases hc⟩
  have hta : tabH ts a = none := by
    cases z : tabH ts a with
    | none => rfl
    | some u =>
      obtain ⟨q, hq, e, _⟩ := tabH_some z
      exact absurd e.symm (hna q hq)
  cases hk : K.lookup a with
  | some o =>
    have e := KX a o hk
    rw [ha] at e
    cases e
    refine core (tabH ts) (fun b => ?_) (.inr ⟨_, vs.toArray, _, hk, rfl, rfl, rfl, by rw [List.size_toArray, lenV]; exact hl, by simpa using rv⟩) (fun b u z => tok _ b u z) (fun b z => ?_) (fun z => absurd hta z) (fun q hq => tabH_mem hnd hq)
    · cases z : tabH ts b with
      | none => exact .inl rfl
      | some u => obtain ⟨q, hq, _, rfl⟩ := tabH_some z; exact .inr (.inr ⟨_, rfl⟩)
    · cases z' : tabH ts b with
      | none => exact absurd z' z
      | some u => obtain ⟨q, hq, rfl, rfl⟩ := tabH_some z'; exact .inr ⟨q, hq, rfl, rfl⟩
  | none =>
    refine core (fun b => if b = a then some (.frz { cls := .type "list", data := .seq vs.toArray } (.lst (ns.map V.int))) else tabH ts b) (fun b => ?_) (.inl (.inr ⟨{ cls := .type "list", data := .seq vs.toArray }, if_pos rfl⟩)) (fun b u z => ?_) (fun b z => ?_) (fun _ => hk) fun q hq => ?_
    · by_cases hb : b = a
      · exact .inr (.inl ⟨_, _, if_pos hb⟩)
      · dsimp only
        rw [if_neg hb]
        cases z : tabH ts b with
        | none => exact .inl rfl
        | some u => obtain ⟨q, hq, _, rfl⟩ := tabH_some z; exact .inr (.inr ⟨_, rfl⟩)
    · by_cases hb : b = a
      · have z' := (if_pos hb).symm.trans z
        cases z'
        subst hb
        exact ⟨ha, by rw [List.length_map]; exact hl, vs, _, rv, ha⟩
      · have z' := (if_neg hb).symm.trans z
        exact tok _ b u z'
    · by_cases hb : b = a
      · exact .inl hb
      · rw [if_neg hb] at z ⊢
        cases z' : tabH ts b with
        | none => exact absurd z' z
        | some u => obtain ⟨q, hq, rfl, rfl⟩ := tabH_some z'; exact .inr ⟨q, hq, rfl, rfl⟩
    · rw [if_neg (hna q hq)]
      exact tabH_mem hnd hq
end L2

namespace L2
open PySem PySem.Spec PyProof.Rows

end L2


namespace L2
open PySem PySem.Spec PyProof.Rows

def defArgs (s : Stmt) : Arguments := match s with
  | .FunctionDef _ a _ _ _ _ _ _ _ _ => a
  | _ => { posonlyargs := [], args := [], vararg := none, kwonlyargs := [], kw_defaults := [], kwarg := none, defaults := [] }
def defBody (s : Stmt) : List Stmt := match s with
  | .FunctionDef _ _ b _ _ _ _ _ _ _ => b
  | _ => []
def defScope (s : Stmt) : Scope := match s with
  | .FunctionDef _ _ _ _ _ _ sc _ _ _ => sc
  | _ => { kind := .function, names := [], isGenerator := false, isCoroutine := false }

abbrev CX0 : CXT := fun _ _ _ _ _ _ => False
structure Fun (K : PySem.W.Frag) (x qual : Str) (st : Stmt) (f : Addr) (fd : FuncData) : Prop where
  ex : ∃ (oc : Value) (od : Option Addr) (kV doc pm : Value) (an : Option Addr) (cdv ct : Value) (osl : Array (Option Value)),
    fd = PySem.W.fnOf x qual (defArgs st) (defBody st) (defScope st) .none kV doc pm an cdv ct ∧ K.lookup f = some ⟨oc, od, .func fd, osl⟩ ∧ PySem.W.codeIn K cdv qual = true
  kp : PySem.W.keepIn K (.ref f) = true
section
variable {P : Program} {w : World} {K : PySem.W.Frag} {mg : Str → Option Value} {base : Heap}
theorem Fun.ok {x qual : Str} {st : Stmt} {f : Addr} {fd : FuncData} {N ps : List Str} {k : Nat} {sp : Sp} (F : Fun K x qual st f fd) (S : FnScope N ps (defScope st)) (len : ∀ vs H Q E, sp vs H Q E → vs.length = ps.length)
    (hbody : ∀ (cdv : Value) (A : Around) (outer : List Env) (s : Shared) (H : Hp) (vs : List V) (Q : VK) (E : XK), Room k (A.deeper (envOfC qual (defScope st) s.heap.objs.size f cdv)) → sp vs H Q E →
      ∃ t, PSs (cxOf CX0 P w K mg base N qual (defScope st) f cdv A outer s H E).nox (defBody st) t ∧ t { nx := fun _ H' => Q .non H', rt := Q } (start N vs) H) : FnOk P w K mg base CX0 (k + 1) f fd ps sp := by
  obtain ⟨oc, od, kV, doc, pm, an, cdv, ct, osl, rfl, lk, hcd⟩ := F.ex
  refine fn_of lk hcd S len fun A outer s H vs Q E hr hsp => ?_
  obtain ⟨t, h, q⟩ := hbody cdv A outer s H vs Q E hr hsp
  exact ⟨t, h.nox, q⟩
theorem Fun.binds {x qual : Str} {st : Stmt} {f : Addr} {fd : FuncData} {ps : List Str} (F : Fun K x qual st f fd)
    (h : ∀ (kV doc pm : Value) (an : Option Addr) (cdv ct : Value) (us : List Value), us.length = ps.length → bindArgs (PySem.W.fnOf x qual (defArgs st) (defBody st) (defScope st) .none kV doc pm an cdv ct) ⟨us, []⟩ = pure (ps.zip us)) : Binds K fd ps [] := by
  obtain ⟨oc, od, kV, doc, pm, an, cdv, ct, osl, rfl, lk, hcd⟩ := F.ex
  exact .all (h kV doc pm an cdv ct)
theorem fun_mk {x qual : Str} {st : Stmt} {f : Addr} {oc : Value} {od an : Option Addr} {osl : Array (Option Value)} {kV doc pm cdv ct : Value} (l : K.lookup f = some ⟨oc, od, .func (PySem.W.fnOf x qual (defArgs st) (defBody st) (defScope st) .none kV doc pm an cdv ct), osl⟩)
    (c : PySem.W.codeIn K cdv qual = true) (k : PySem.W.keepIn K (.ref f) = true) : Fun K x qual st f (PySem.W.fnOf x qual (defArgs st) (defBody st) (defScope st) .none kV doc pm an cdv ct) := ⟨⟨oc, od, kV, doc, pm, an, cdv, ct, osl, rfl, l, c⟩, k⟩
end
section
variable {X : Cx}
end

def Same (H H' : Hp) : Prop := ∀ b o, H b = some o → H' b = some o
theorem Same.refl (H : Hp) : Same H H := fun _ _ h => h
theorem Same.trans {H H1 H2 : Hp} (a : Same H H1) (b : Same H1 H2) : Same H H2 := fun c o h => b c o (a c o h)
theorem Same.free {H H' : Hp} (e : Same H H') {l : Addr} (h : H' l = Option.none) : H l = Option.none := by
  cases q : H l with
  | none => rfl
  | some o =>
    rw [e l o q] at h
    cases h
theorem Same.seq {K : PySem.W.Frag} {H H' : Hp} {a : Addr} {xs : List V} (e : Same H H') (h : SqL K H a xs) : SqL K H' a xs := by
  rcases h with (h | ⟨o, h⟩) | h
  · exact .inl (.inl (e _ _ h))
  · exact .inl (.inr ⟨o, e _ _ h⟩)
  · exact .inr h

section
variable {κ : Type} [DecidableEq κ]
end
theorem Same.made {H H1 : Hp} {x dx C : Addr} (nx : H x = Option.none) (nd : H dx = Option.none) (k : ∀ b o, (upd (upd H dx (.own x)) x (.ins C dx [])) b = some o → b ≠ x → H1 b = some o) : Same H H1 := fun b o e =>
  k b o (by rw [upd_ne (ne_of_none e nx), upd_ne (ne_of_none e nd)]; exact e) (ne_of_none e nx)
end L2

namespace Vs
open PySem PySem.Spec PyProof.Rows L2

theorem rd_mono {F G : Hp} (s : Same F G) {a : Addr} {u : HO} (h : Rd F a u) : Rd G a u := by
  rcases h with h | ⟨o, h⟩
  · exact .inl (s _ _ h)
  · exact .inr ⟨o, s _ _ h⟩
theorem sql_mono {K : PySem.W.Frag} {F G : Hp} (s : Same F G) {a : Addr} {xs : List V} (h : SqL K F a xs) : SqL K G a xs := h.imp (rd_mono s) id
theorem sqt_mono {K : PySem.W.Frag} {F G : Hp} (s : Same F G) {a : Addr} {xs : List V} (h : SqT K F a xs) : SqT K G a xs := h.imp (rd_mono s) id
mutual
inductive Dp (K : PySem.W.Frag) (H : Hp) : V → PyData → Prop
  | non : Dp K H .non .none
  | bl (b : Bool) : Dp K H (.bl b) (.bool b)
  | int (i : Int) : Dp K H (.int i) (.int i)
  | str (x : Str) : Dp K H (.str x) (.str x)
  | lst {a : Addr} {xs : List V} {ds : List PyData} : SqL K H a xs → DpAll K H xs ds → Dp K H (.ref a) (.list ds)
  | tup {a : Addr} {xs : List V} {ds : List PyData} : SqT K H a xs → DpAll K H xs ds → Dp K H (.ref a) (.tuple ds)
  | ob {a dx C : Addr} {fs : List (Str × V)} {ds : List (PyData × PyData)} : H a = some (.ins C dx fs) → DpF K H fs ds → Dp K H (.ref a) (.dict ((.int (C : Int), .none) :: ds))
inductive DpAll (K : PySem.W.Frag) (H : Hp) : List V → List PyData → Prop
  | nil : DpAll K H [] []
  | cons {v : V} {vs : List V} {d : PyData} {ds : List PyData} : Dp K H v d → DpAll K H vs ds → DpAll K H (v :: vs) (d :: ds)
inductive DpF (K : PySem.W.Frag) (H : Hp) : List (Str × V) → List (PyData × PyData) → Prop
  | nil : DpF K H [] []
  | cons {x : Str} {v : V} {fs : List (Str × V)} {d : PyData} {ds : List (PyData × PyData)} : Dp K H v d → DpF K H fs ds → DpF K H ((x, v) :: fs) ((.str x, d) :: ds)
end
mutual
theorem dp_mono {K : PySem.W.Frag} {F G : Hp} (s : Same F G) : ∀ (d : PyData) (v : V), Dp K F v d → Dp K G v d
  | _, _, .non => .non
  | _, _, .bl b => .bl b
  | _, _, .int i => .int i
  | _, _, .str x => .str x
  | .list ds, _, .lst h t => .lst (sql_mono s h) (dps_mono s ds _ t)
  | .tuple ds, _, .tup h t => .tup (sqt_mono s h) (dps_mono s ds _ t)
  | .dict (_ :: ds), _, .ob h t => .ob (s _ _ h) (dpf_mono s ds _ t)
theorem dps_mono {K : PySem.W.Frag} {F G : Hp} (s : Same F G) : ∀ (ds : List PyData) (vs : List V), DpAll K F vs ds → DpAll K G vs ds
  | [], _, .nil => .nil
  | d :: ds, _, .cons h t => .cons (dp_mono s d _ h) (dps_mono s ds _ t)
theorem dpf_mono {K : PySem.W.Frag} {F G : Hp} (s : Same F G) : ∀ (ds : List (PyData × PyData)) (fs : List (Str × V)), DpF K F fs ds → DpF K G fs ds
  | [], _, .nil => .nil
  | (_, d) :: ds, _, .cons h t => .cons (dp_mono s d _ h) (dpf_mono s ds _ t)
end
mutual
theorem dp_lay {K : PySem.W.Frag} {F : Hp} : ∀ (d : PyData) (v : V), PyData.canLay0 d = true → Dp K F v d → L2.Dp K F v d
  | _, _, _, .non => .non
  | _, _, _, .bl b => .bl b
  | _, _, _, .int i => .int i
  | _, _, _, .str x => .str x
  | .list ds, _, c, .lst h t => .lst h (dps_lay ds _ (by simpa only [PyData.canLay0] using c) t)
  | .tuple ds, _, c, .tup h t => .tup h (dps_lay ds _ (by simpa only [PyData.canLay0] using c) t)
theorem dps_lay {K : PySem.W.Frag} {F : Hp} : ∀ (ds : List PyData) (vs : List V), PyData.canLayAll0 ds = true → DpAll K F vs ds → L2.DpAll K F vs ds
  | [], _, _, .nil => .nil
  | d :: ds, _, c, .cons h t => by
    simp only [PyData.canLayAll0, Bool.and_eq_true] at c
    exact .cons (dp_lay d _ c.1 h) (dps_lay ds _ c.2 t)
end
theorem Dp.lay {K : PySem.W.Frag} {F : Hp} {d : PyData} {v : V} (h : Dp K F v d) (c : SeqAt.shaped d = true) : L2.Dp K F v d := dp_lay d v (Bool.and_eq_true_iff.mp c).1 h
mutual
theorem dp_of {K : PySem.W.Frag} {F : Hp} : ∀ (d : PyData) (v : V), L2.Dp K F v d → Dp K F v d
  | _, _, .non => .non
  | _, _, .bl b => .bl b
  | _, _, .int i => .int i
  | _, _, .str x => .str x
  | .list ds, _, .lst h t => .lst h (dps_of ds _ t)
  | .tuple ds, _, .tup h t => .tup h (dps_of ds _ t)
theorem dps_of {K : PySem.W.Frag} {F : Hp} : ∀ (ds : List PyData) (vs : List V), L2.DpAll K F vs ds → DpAll K F vs ds
  | [], _, .nil => .nil
  | d :: ds, _, .cons h t => .cons (dp_of d _ h) (dps_of ds _ t)
end
theorem Dp.up {K : PySem.W.Frag} {F G : Hp} {d : PyData} {v : V} (h : Dp K F v d) (s : Same F G) : Dp K G v d := dp_mono s d v h
theorem DpAll.up {K : PySem.W.Frag} {F G : Hp} {ds : List PyData} {vs : List V} (h : DpAll K F vs ds) (s : Same F G) : DpAll K G vs ds := dps_mono s ds vs h
theorem DpAll.len {K : PySem.W.Frag} {F : Hp} : ∀ {vs : List V} {ds : List PyData}, DpAll K F vs ds → vs.length = ds.length
  | _, _, .nil => rfl
  | _, _, .cons _ t => congrArg (· + 1) (DpAll.len t)
theorem DpAll.app {K : PySem.W.Frag} {F : Hp} : ∀ {vs us : List V} {ds es : List PyData}, DpAll K F vs ds → DpAll K F us es → DpAll K F (vs ++ us) (ds ++ es)
  | _, _, _, _, .nil, h => h
  | _, _, _, _, .cons h t, k => .cons h (DpAll.app t k)
theorem DpAll.get {K : PySem.W.Frag} {F : Hp} : ∀ {vs : List V} {ds : List PyData} {i : Nat} {d : PyData}, DpAll K F vs ds → ds[i]? = some d → ∃ v, vs[i]? = some v ∧ Dp K F v d
  | _, _, _, _, .nil, e => by simp at e
  | _, _, 0, _, .cons h _, e => by simp at e; subst e; exact ⟨_, rfl, h⟩
  | _, _, i + 1, d, .cons _ t, e => by
    obtain ⟨v, h1, h2⟩ := DpAll.get (i := i) (d := d) t (by simpa using e)
    exact ⟨v, by simpa using h1, h2⟩
theorem DpAll.take {K : PySem.W.Frag} {F : Hp} : ∀ {vs : List V} {ds : List PyData} (n : Nat), DpAll K F vs ds → DpAll K F (vs.take n) (ds.take n)
  | _, _, 0, _ => by simp; exact .nil
  | _, _, _ + 1, .nil => .nil
  | _, _, n + 1, .cons h t => .cons h (DpAll.take n t)
theorem DpAll.drop {K : PySem.W.Frag} {F : Hp} : ∀ {vs : List V} {ds : List PyData} (n : Nat), DpAll K F vs ds → DpAll K F (vs.drop n) (ds.drop n)
  | _, _, 0, h => h
  | _, _, _ + 1, .nil => .nil
  | _, _, n + 1, .cons _ t => DpAll.drop n t

inductive Sc where
  | non | bl (b : Bool) | int (i : Int) | str (x : Str)
def Sc.d : Sc → PyData
  | .non => .none
  | .bl b => .bool b
  | .int i => .int i
  | .str x => .str x
def Sc.v : Sc → V
  | .non => .non
  | .bl b => .bl b
  | .int i => .int i
  | .str x => .str x
theorem Sc.dp {K : PySem.W.Frag} {F : Hp} : ∀ c : Sc, Dp K F c.v c.d
  | .non => .non
  | .bl b => .bl b
  | .int i => .int i
  | .str x => .str x
def sc? : PyData → Option Sc
  | .none => some .non
  | .bool b => some (.bl b)
  | .int i => some (.int i)
  | .str x => some (.str x)
  | _ => none
theorem sc?_v {K : PySem.W.Frag} {F : Hp} {d : PyData} {c : Sc} {v : V} (h : Dp K F v d) (e : sc? d = some c) : v = c.v ∧ d = c.d := by
  cases h <;> simp only [sc?] at e <;> cases e <;> exact ⟨rfl, rfl⟩

inductive R where
  /-- frozen data -/
  | f (d : PyData)
  /-- a list of one's own, its items frozen -/
  | ol (ds : List PyData)
  /-- a tuple just made, of frozen things and of lists of one's own -/
  | ot (cs : List (Bool × PyData))
  /-- a dict of one's own -/
  | od (kvs : List (Key × PyData))
  /-- data just made, one's own at every depth -/
  | dn (d : PyData)
def R.d? : R → Option PyData
  | .f d => some d
  | .ol ds => some (.list ds)
  | .ot cs => some (.tuple (cs.map (·.2)))
  | .od _ => none
  | .dn d => some d
mutual
inductive Do (K : PySem.W.Frag) (H : Hp) : V → PyData → List Addr → Prop
  | non : Do K H .non .none []
  | bl (b : Bool) : Do K H (.bl b) (.bool b) []
  | int (i : Int) : Do K H (.int i) (.int i) []
  | str (x : Str) : Do K H (.str x) (.str x) []
  | lst {a : Addr} {xs : List V} {ds : List PyData} {fp : List Addr} : H a = some (.lst xs) → DoAll K H xs ds fp → Do K H (.ref a) (.list ds) (a :: fp)
  | tup {a : Addr} {xs : List V} {ds : List PyData} {fp : List Addr} : H a = some (.tup xs) → DoAll K H xs ds fp → Do K H (.ref a) (.tuple ds) (a :: fp)
  | ob {a dx C : Addr} {fs : List (Str × V)} {ds : List (PyData × PyData)} {fp : List Addr} : H a = some (.ins C dx fs) → DoF K H fs ds fp → Do K H (.ref a) (.dict ((.int (C : Int), .none) :: ds)) (a :: fp)
inductive DoAll (K : PySem.W.Frag) (H : Hp) : List V → List PyData → List Addr → Prop
  | nil : DoAll K H [] [] []
  | cons {v : V} {vs : List V} {d : PyData} {ds : List PyData} {fp fq : List Addr} : Do K H v d fp → DoAll K H vs ds fq → DoAll K H (v :: vs) (d :: ds) (fp ++ fq)
inductive DoF (K : PySem.W.Frag) (H : Hp) : List (Str × V) → List (PyData × PyData) → List Addr → Prop
  | nil : DoF K H [] [] []
  | cons {x : Str} {v : V} {fs : List (Str × V)} {d : PyData} {ds : List (PyData × PyData)} {fp fq : List Addr} : Do K H v d fp → DoF K H fs ds fq → DoF K H ((x, v) :: fs) ((.str x, d) :: ds) (fp ++ fq)
end
mutual
theorem do_up {K : PySem.W.Frag} {H H' : Hp} : ∀ (d : PyData) (v : V) (fp : List Addr), Do K H v d fp → (∀ p ∈ fp, ∀ o, H p = some o → H' p = some o) → Do K H' v d fp
  | _, _, _, .non, _ => .non
  | _, _, _, .bl b, _ => .bl b
  | _, _, _, .int i, _ => .int i
  | _, _, _, .str x, _ => .str x
  | .list ds, _, _, .lst h t, k => .lst (k _ List.mem_cons_self _ h) (dos_up ds _ _ t fun p hp => k p (List.mem_cons_of_mem _ hp))
  | .tuple ds, _, _, .tup h t, k => .tup (k _ List.mem_cons_self _ h) (dos_up ds _ _ t fun p hp => k p (List.mem_cons_of_mem _ hp))
  | .dict (_ :: ds), _, _, .ob h t, k => .ob (k _ List.mem_cons_self _ h) (dof_up ds _ _ t fun p hp => k p (List.mem_cons_of_mem _ hp))
theorem dos_up {K : PySem.W.Frag} {H H' : Hp} : ∀ (ds : List PyData) (vs : List V) (fp : List Addr), DoAll K H vs ds fp → (∀ p ∈ fp, ∀ o, H p = some o → H' p = some o) → DoAll K H' vs ds fp
  | [], _, _, .nil, _ => .nil
  | d :: ds, _, _, .cons h t, k => .cons (do_up d _ _ h fun p hp => k p (List.mem_append_left _ hp)) (dos_up ds _ _ t fun p hp => k p (List.mem_append_right _ hp))
theorem dof_up {K : PySem.W.Frag} {H H' : Hp} : ∀ (ds : List (PyData × PyData)) (fs : List (Str × V)) (fp : List Addr), DoF K H fs ds fp → (∀ p ∈ fp, ∀ o, H p = some o → H' p = some o) → DoF K H' fs ds fp
  | [], _, _, .nil, _ => .nil
  | (_, d) :: ds, _, _, .cons h t, k => .cons (do_up d _ _ h fun p hp => k p (List.mem_append_left _ hp)) (dof_up ds _ _ t fun p hp => k p (List.mem_append_right _ hp))
end
mutual
theorem do_live {K : PySem.W.Frag} {H : Hp} : ∀ (d : PyData) (v : V) (fp : List Addr), Do K H v d fp → ∀ p ∈ fp, H p ≠ none
  | _, _, _, .non, p, hp => by simp at hp
  | _, _, _, .bl b, p, hp => by simp at hp
  | _, _, _, .int i, p, hp => by simp at hp
  | _, _, _, .str x, p, hp => by simp at hp
  | .list ds, _, _, .lst h t, p, hp => by
    rcases List.mem_cons.mp hp with rfl | hp
    · rw [h]; simp
    · exact dos_live ds _ _ t p hp
  | .tuple ds, _, _, .tup h t, p, hp => by
    rcases List.mem_cons.mp hp with rfl | hp
    · rw [h]; simp
    · exact dos_live ds _ _ t p hp
  | .dict (_ :: ds), _, _, .ob h t, p, hp => by
    rcases List.mem_cons.mp hp with rfl | hp
    · rw [h]; simp
    · exact dof_live ds _ _ t p hp
theorem dos_live {K : PySem.W.Frag} {H : Hp} : ∀ (ds : List PyData) (vs : List V) (fp : List Addr), DoAll K H vs ds fp → ∀ p ∈ fp, H p ≠ none
  | [], _, _, .nil, p, hp => by simp at hp
  | d :: ds, _, _, .cons h t, p, hp => by
    rcases List.mem_append.mp hp with hp | hp
    · exact do_live d _ _ h p hp
    · exact dos_live ds _ _ t p hp
theorem dof_live {K : PySem.W.Frag} {H : Hp} : ∀ (ds : List (PyData × PyData)) (fs : List (Str × V)) (fp : List Addr), DoF K H fs ds fp → ∀ p ∈ fp, H p ≠ none
  | [], _, _, .nil, p, hp => by simp at hp
  | (_, d) :: ds, _, _, .cons h t, p, hp => by
    rcases List.mem_append.mp hp with hp | hp
    · exact do_live d _ _ h p hp
    · exact dof_live ds _ _ t p hp
end
mutual
theorem do_view {K : PySem.W.Frag} {H G : Hp} : ∀ (d : PyData) (v : V) (fp : List Addr), Do K H v d fp → (∀ p ∈ fp, ∀ o, H p = some o → G p = some o) → Dp K G v d
  | _, _, _, .non, _ => .non
  | _, _, _, .bl b, _ => .bl b
  | _, _, _, .int i, _ => .int i
  | _, _, _, .str x, _ => .str x
  | .list ds, _, _, .lst h t, k => .lst (.inl (.inl (k _ List.mem_cons_self _ h))) (dos_view ds _ _ t fun p hp => k p (List.mem_cons_of_mem _ hp))
  | .tuple ds, _, _, .tup h t, k => .tup (.inl (.inl (k _ List.mem_cons_self _ h))) (dos_view ds _ _ t fun p hp => k p (List.mem_cons_of_mem _ hp))
  | .dict (_ :: ds), _, _, .ob h t, k => .ob (k _ List.mem_cons_self _ h) (dof_view ds _ _ t fun p hp => k p (List.mem_cons_of_mem _ hp))
theorem dos_view {K : PySem.W.Frag} {H G : Hp} : ∀ (ds : List PyData) (vs : List V) (fp : List Addr), DoAll K H vs ds fp → (∀ p ∈ fp, ∀ o, H p = some o → G p = some o) → DpAll K G vs ds
  | [], _, _, .nil, _ => .nil
  | d :: ds, _, _, .cons h t, k => .cons (do_view d _ _ h fun p hp => k p (List.mem_append_left _ hp)) (dos_view ds _ _ t fun p hp => k p (List.mem_append_right _ hp))
theorem dof_view {K : PySem.W.Frag} {H G : Hp} : ∀ (ds : List (PyData × PyData)) (fs : List (Str × V)) (fp : List Addr), DoF K H fs ds fp → (∀ p ∈ fp, ∀ o, H p = some o → G p = some o) → DpF K G fs ds
  | [], _, _, .nil, _ => .nil
  | (_, d) :: ds, _, _, .cons h t, k => .cons (do_view d _ _ h fun p hp => k p (List.mem_append_left _ hp)) (dof_view ds _ _ t fun p hp => k p (List.mem_append_right _ hp))
end
inductive OwnC (K : PySem.W.Frag) (F H : Hp) : List (Bool × PyData) → List V → List Addr → Prop
  | nil : OwnC K F H [] [] []
  | fz {v : V} {d : PyData} {cs : List (Bool × PyData)} {vs : List V} {fp : List Addr} : Dp K F v d → OwnC K F H cs vs fp → OwnC K F H ((false, d) :: cs) (v :: vs) fp
  | ow {p : Addr} {xs : List V} {ds : List PyData} {cs : List (Bool × PyData)} {vs : List V} {fp : List Addr} : H p = some (.lst xs) → DpAll K F xs ds → OwnC K F H cs vs fp → OwnC K F H ((true, .list ds) :: cs) (.ref p :: vs) (p :: fp)
inductive KvD (K : PySem.W.Frag) (F : Hp) : List (Key × V) → List (Key × PyData) → Prop
  | nil : KvD K F [] []
  | cons {k : Key} {v : V} {d : PyData} {vs : List (Key × V)} {ds : List (Key × PyData)} : Dp K F v d → KvD K F vs ds → KvD K F ((k, v) :: vs) ((k, d) :: ds)
inductive Own (K : PySem.W.Frag) (F H : Hp) : R → V → List Addr → Prop
  | f {v : V} {d : PyData} : Dp K F v d → Own K F H (.f d) v []
  | ol {p : Addr} {xs : List V} {ds : List PyData} : H p = some (.lst xs) → DpAll K F xs ds → Own K F H (.ol ds) (.ref p) [p]
  | ot {p : Addr} {xs : List V} {cs : List (Bool × PyData)} {fp : List Addr} : H p = some (.tup xs) → OwnC K F H cs xs fp → Own K F H (.ot cs) (.ref p) (p :: fp)
  | od {p : Addr} {ks : List (Key × V)} {kvs : List (Key × PyData)} : H p = some (.dK ks) → KvD K F ks kvs → Own K F H (.od kvs) (.ref p) [p]
  | dn {v : V} {d : PyData} {fp : List Addr} : Do K H v d fp → Own K F H (.dn d) v fp
theorem KvD.up {K : PySem.W.Frag} {F G : Hp} (s : Same F G) : ∀ {vs : List (Key × V)} {ds : List (Key × PyData)}, KvD K F vs ds → KvD K G vs ds
  | _, _, .nil => .nil
  | _, _, .cons h t => .cons (Dp.up h s) (KvD.up s t)
theorem OwnC.up {K : PySem.W.Frag} {F G H H' : Hp} (s : Same F G) : ∀ {cs : List (Bool × PyData)} {vs : List V} {fp : List Addr}, OwnC K F H cs vs fp → (∀ p ∈ fp, ∀ o, H p = some o → H' p = some o) → OwnC K G H' cs vs fp
  | _, _, _, .nil, _ => .nil
  | _, _, _, .fz h t, k => .fz (Dp.up h s) (OwnC.up s t k)
  | _, _, _, .ow h a t, k => .ow (k _ List.mem_cons_self _ h) (DpAll.up a s) (OwnC.up s t fun p hp => k p (List.mem_cons_of_mem _ hp))
theorem Own.up {K : PySem.W.Frag} {F G H H' : Hp} {r : R} {v : V} {fp : List Addr} (o : Own K F H r v fp) (s : Same F G) (k : ∀ p ∈ fp, ∀ o, H p = some o → H' p = some o) : Own K G H' r v fp := by
  cases o with
  | f h => exact .f (Dp.up h s)
  | ol h a => exact .ol (k _ List.mem_cons_self _ h) (DpAll.up a s)
  | ot h c => exact .ot (k _ List.mem_cons_self _ h) (c.up s fun p hp => k p (List.mem_cons_of_mem _ hp))
  | od h a => exact .od (k _ List.mem_cons_self _ h) (KvD.up s a)
  | dn h => exact .dn (do_up _ _ _ h k)
theorem OwnC.live {K : PySem.W.Frag} {F H : Hp} : ∀ {cs : List (Bool × PyData)} {vs : List V} {fp : List Addr}, OwnC K F H cs vs fp → ∀ p ∈ fp, H p ≠ none
  | _, _, _, .nil, p, hp => by simp at hp
  | _, _, _, .fz _ t, p, hp => OwnC.live t p hp
  | _, _, _, .ow h _ t, p, hp => by
    rcases List.mem_cons.mp hp with rfl | hp
    · rw [h]; simp
    · exact OwnC.live t p hp
theorem Own.live {K : PySem.W.Frag} {F H : Hp} {r : R} {v : V} {fp : List Addr} (o : Own K F H r v fp) : ∀ p ∈ fp, H p ≠ none := by
  intro p hp
  cases o with
  | f h => simp at hp
  | ol h a => rw [List.mem_singleton.mp hp, h]; simp
  | ot h c =>
    rcases List.mem_cons.mp hp with rfl | hp
    · rw [h]; simp
    · exact c.live p hp
  | od h a => rw [List.mem_singleton.mp hp, h]; simp
  | dn h => exact do_live _ _ _ h p hp
theorem sql_of {K : PySem.W.Frag} {H : Hp} {p : Addr} {xs : List V} (h : H p = some (.lst xs)) : SqL K H p xs := .inl (.inl h)
theorem sqt_of {K : PySem.W.Frag} {H : Hp} {p : Addr} {xs : List V} (h : H p = some (.tup xs)) : SqT K H p xs := .inl (.inl h)
theorem OwnC.view {K : PySem.W.Frag} {F H G : Hp} (s : Same F G) : ∀ {cs : List (Bool × PyData)} {vs : List V} {fp : List Addr}, OwnC K F H cs vs fp → (∀ p ∈ fp, ∀ o, H p = some o → G p = some o) → DpAll K G vs (cs.map (·.2))
  | _, _, _, .nil, _ => .nil
  | _, _, _, .fz h t, k => .cons (Dp.up h s) (OwnC.view s t k)
  | _, _, _, .ow h a t, k => .cons (.lst (sql_of (k _ List.mem_cons_self _ h)) (DpAll.up a s)) (OwnC.view s t fun p hp => k p (List.mem_cons_of_mem _ hp))
theorem Own.view {K : PySem.W.Frag} {F H G : Hp} {r : R} {v : V} {fp : List Addr} {d : PyData} (o : Own K F H r v fp) (e : r.d? = some d) (s : Same F G) (k : ∀ p ∈ fp, ∀ o, H p = some o → G p = some o) : Dp K G v d := by
  cases o with
  | f h => cases e; exact Dp.up h s
  | ol h a => cases e; exact .lst (sql_of (k _ List.mem_cons_self _ h)) (DpAll.up a s)
  | ot h c => cases e; exact .tup (sqt_of (k _ List.mem_cons_self _ h)) (c.view s fun p hp => k p (List.mem_cons_of_mem _ hp))
  | od h a => cases e
  | dn h => cases e; exact do_view _ _ _ h k

abbrev En := List (Option R)
structure Stt (K : PySem.W.Frag) (F H : Hp) (ρ : En) (σ : L2.St) (fps : Nat → List Addr) : Prop where
  len : ρ.length = σ.length
  own : ∀ i r, ρ[i]? = some (some r) → ∃ v, σ[i]? = some (some v) ∧ Own K F H r v (fps i)
  dis : ∀ i j p, p ∈ fps i → p ∈ fps j → i = j
  nd : ∀ i, (fps i).Nodup
  fre : ∀ i, ∀ p ∈ fps i, F p = none ∧ H p ≠ none
  fh : Same F H
structure Ex (F H F' H' : Hp) : Prop where
  ff : Same F F'
  hh : Same H H'
  fh : Same F' H'
  nw : ∀ b, F b = none → H b ≠ none → F' b = none
theorem Ex.refl {F H : Hp} (h : Same F H) : Ex F H F H := ⟨.refl _, .refl _, h, fun _ h _ => h⟩
theorem same_live {H H' : Hp} (s : Same H H') {b : Addr} (h : H b ≠ none) : H' b ≠ none := by
  cases e : H b with
  | none => exact absurd e h
  | some o => rw [s b o e]; simp
theorem Ex.trans {F H F1 H1 F2 H2 : Hp} (a : Ex F H F1 H1) (b : Ex F1 H1 F2 H2) : Ex F H F2 H2 :=
  ⟨a.ff.trans b.ff, a.hh.trans b.hh, b.fh, fun c h1 h2 => b.nw c (a.nw c h1 h2) (same_live a.hh h2)⟩
theorem Stt.ex {K : PySem.W.Frag} {F H F' H' : Hp} {ρ : En} {σ : L2.St} {fps : Nat → List Addr} (S : Stt K F H ρ σ fps) (x : Ex F H F' H') : Stt K F' H' ρ σ fps :=
  ⟨S.len, fun i r e => let ⟨v, h1, h2⟩ := S.own i r e; ⟨v, h1, h2.up x.ff fun p _ o h => x.hh p o h⟩, S.dis, S.nd, fun i p hp => ⟨x.nw p (S.fre i p hp).1 (S.fre i p hp).2, same_live x.hh (S.fre i p hp).2⟩, x.fh⟩
theorem Ex.back {F H F0 F1 H1 : Hp} (h : Same F H) (x : Ex F0 H F1 H1) : Ex F H F H1 := ⟨.refl _, x.hh, h.trans x.hh, fun _ h _ => h⟩

abbrev M (α : Type) := En → Option α
def VB (K : PySem.W.Frag) (te : TE) (m : M PyData) : Prop := ∀ ρ σ F H fps d Q, m ρ = some d → Stt K F H ρ σ fps → (∀ v F' H', Dp K H' v d → Ex F H F' H' → Q v H') → te σ H Q
def VF (K : PySem.W.Frag) (te : TE) (m : M PyData) : Prop := ∀ ρ σ F H fps d Q, m ρ = some d → Stt K F H ρ σ fps → (∀ v F' H', Dp K F' v d → Ex F H F' H' → Q v H') → te σ H Q
structure New (K : PySem.W.Frag) (H F' H' : Hp) (r : R) (v : V) (fp : List Addr) : Prop where
  own : Own K F' H' r v fp
  nd : fp.Nodup
  nw : ∀ p ∈ fp, H p = none ∧ F' p = none
def VE (K : PySem.W.Frag) (te : TE) (m : M R) : Prop := ∀ ρ σ F H fps r Q, m ρ = some r → Stt K F H ρ σ fps → (∀ v F' H' fp, New K H F' H' r v fp → Ex F H F' H' → Q v H') → te σ H Q
def VT (K : PySem.W.Frag) (tt : TT) (m : M Bool) : Prop := ∀ ρ σ F H fps b Q, m ρ = some b → Stt K F H ρ σ fps → (∀ F' H', Ex F H F' H' → Q b H') → tt σ H Q
def VBA (K : PySem.W.Frag) (ta : TA) (m : M (List PyData)) : Prop := ∀ ρ σ F H fps ds Q, m ρ = some ds → Stt K F H ρ σ fps → (∀ vs F' H', DpAll K H' vs ds → Ex F H F' H' → Q vs H') → ta σ H Q
def VFA (K : PySem.W.Frag) (ta : TA) (m : M (List PyData)) : Prop := ∀ ρ σ F H fps ds Q, m ρ = some ds → Stt K F H ρ σ fps → (∀ vs F' H', DpAll K F' vs ds → Ex F H F' H' → Q vs H') → ta σ H Q

def frz (F H : Hp) (fp : List Addr) : Hp := fun b => if b ∈ fp then H b else F b
theorem frz_same {F H : Hp} {fp : List Addr} (h : Same F H) : Same F (frz F H fp) := fun b o e => by
  unfold frz
  split
  · exact h b o e
  · exact e
theorem frz_le {F H : Hp} {fp : List Addr} (h : Same F H) : Same (frz F H fp) H := fun b o e => by
  unfold frz at e
  split at e
  · exact e
  · exact h b o e
theorem frz_in {F H : Hp} {fp : List Addr} {b : Addr} (hb : b ∈ fp) : frz F H fp b = H b := by unfold frz; rw [if_pos hb]
theorem frz_out {F H : Hp} {fp : List Addr} {b : Addr} (hb : b ∉ fp) : frz F H fp b = F b := by unfold frz; rw [if_neg hb]

theorem VF.vb {K : PySem.W.Frag} {te : TE} {m : M PyData} (h : VF K te m) : VB K te m := fun ρ σ F H fps d Q e S k => h ρ σ F H fps d Q e S fun v F' H' hd x => k v F' H' (Dp.up hd x.fh) x
theorem bind2 {α β : Type} {a : Option α} {f : α → Option β} {c : β} (e : a.bind f = some c) : ∃ x, a = some x ∧ f x = some c := by
  cases a with
  | none => cases e
  | some x => exact ⟨x, rfl, e⟩
theorem map2 {α β : Type} {a : Option α} {f : α → β} {c : β} (e : a.map f = some c) : ∃ x, a = some x ∧ f x = c := by
  cases a with
  | none => cases e
  | some x => exact ⟨x, rfl, Option.some.inj e⟩
def mF (m : M PyData) : M R := fun ρ => (m ρ).map R.f
def mD (m : M R) : M PyData := fun ρ => (m ρ).bind R.d?
theorem VF.ve {K : PySem.W.Frag} {te : TE} {m : M PyData} (h : VF K te m) : VE K te (mF m) := fun ρ σ F H fps r Q e S k => by
  obtain ⟨d, em, rfl⟩ := map2 e
  exact h ρ σ F H fps d Q em S fun v F' H' hd x => k v F' H' [] ⟨.f hd, .nil, fun p hp => by simp at hp⟩ x
theorem VE.vf {K : PySem.W.Frag} {te : TE} {m : M R} (h : VE K te m) : VF K te (mD m) := fun ρ σ F H fps d Q e S k => by
  obtain ⟨r, em, e⟩ := bind2 e
  refine h ρ σ F H fps r Q em S fun v F' H' fp n x => k v (frz F' H' fp) H' (n.own.view e (frz_same x.fh) fun p hp o h => by rw [frz_in hp]; exact h) ?_
  refine ⟨x.ff.trans (frz_same x.fh), x.hh, frz_le x.fh, fun b h1 h2 => ?_⟩
  have hb : b ∉ fp := fun hb => h2 (n.nw b hb).1
  rw [frz_out hb]
  exact x.nw b h1 h2
theorem VE.vb {K : PySem.W.Frag} {te : TE} {m : M R} (h : VE K te m) : VB K te (mD m) := h.vf.vb
theorem own_f {K : PySem.W.Frag} {F H : Hp} {d : PyData} {v : V} {fp : List Addr} (o : Own K F H (.f d) v fp) : Dp K F v d := by
  cases o
  assumption
def mSc (m : M PyData) : M PyData := fun ρ => (m ρ).bind fun d => (sc? d).map Sc.d
theorem VB.vf {K : PySem.W.Frag} {te : TE} {m : M PyData} (h : VB K te m) : VF K te (mSc m) := fun ρ σ F H fps d Q e S k => by
  unfold mSc at e
  cases em : m ρ with
  | none => rw [em] at e; cases e
  | some d0 =>
    rw [em] at e
    have e : (sc? d0).map Sc.d = some d := e
    cases ec : sc? d0 with
    | none => rw [ec] at e; cases e
    | some c =>
      rw [ec] at e
      have e : c.d = d := Option.some.inj e
      subst e
      refine h ρ σ F H fps d0 Q em S fun v F' H' hd x => ?_
      obtain ⟨rfl, rfl⟩ := sc?_v hd ec
      exact k _ F' H' (Sc.dp c) x

def at' (ρ : En) (i : Nat) : Option R := (ρ[i]?).bind id
theorem at'_some {ρ : En} {i : Nat} {r : R} (h : at' ρ i = some r) : ρ[i]? = some (some r) := by
  unfold at' at h
  cases e : ρ[i]? with
  | none => rw [e] at h; cases h
  | some o => rw [e] at h; exact congrArg some h
def mV (i : Nat) : M PyData := fun ρ => (at' ρ i).bind R.d?
def R.fz? : R → Option PyData
  | .f d => some d
  | _ => none
def mN (i : Nat) : M PyData := fun ρ => (at' ρ i).bind R.fz?
theorem vb_name {K : PySem.W.Frag} {i : Nat} : VB K (tVar i) (mV i) := fun ρ σ F H fps d Q e S k => by
  unfold mV at e
  cases er : at' ρ i with
  | none => rw [er] at e; cases e
  | some r =>
    rw [er] at e
    obtain ⟨v, hv, o⟩ := S.own i r (at'_some er)
    exact ⟨v, hv, k v F H (o.view e S.fh fun _ _ _ h => h) (Ex.refl S.fh)⟩
theorem vf_name {K : PySem.W.Frag} {i : Nat} : VF K (tVar i) (mN i) := fun ρ σ F H fps d Q e S k => by
  unfold mN at e
  cases er : at' ρ i with
  | none => rw [er] at e; cases e
  | some r =>
    rw [er] at e
    cases r with
    | f d' =>
      cases e
      obtain ⟨v, hv, o⟩ := S.own i _ (at'_some er)
      exact ⟨v, hv, k v F H (own_f o) (Ex.refl S.fh)⟩
    | ol _ => cases e
    | ot _ => cases e
    | od _ => cases e
    | dn _ => cases e
def mC (c : Sc) : M PyData := fun _ => some c.d
theorem vf_const {K : PySem.W.Frag} {c : Sc} : VF K (tC c.v) (mC c) := fun ρ σ F H fps d Q e S k => by
  cases e
  exact k _ F H (Sc.dp c) (Ex.refl S.fh)

def aN : M (List PyData) := fun _ => some []
def aC (a : M PyData) (t : M (List PyData)) : M (List PyData) := fun ρ => (a ρ).bind fun x => (t ρ).bind fun xs => some (x :: xs)
theorem vfa_nil {K : PySem.W.Frag} : VFA K tNil aN := fun ρ σ F H fps ds Q e S k => by
  cases e
  exact k [] F H .nil (Ex.refl S.fh)
theorem vba_nil {K : PySem.W.Frag} : VBA K tNil aN := fun ρ σ F H fps ds Q e S k => by
  cases e
  exact k [] F H .nil (Ex.refl S.fh)
theorem vfa_cons {K : PySem.W.Frag} {te : TE} {ta : TA} {m : M PyData} {n : M (List PyData)} (a : VF K te m) (b : VFA K ta n) : VFA K (tCons te ta) (aC m n) := fun ρ σ F H fps ds Q e S k => by
  obtain ⟨x, e1, e⟩ := bind2 e
  obtain ⟨xs, e2, e⟩ := bind2 e
  cases e
  refine a ρ σ F H fps x _ e1 S fun v F1 H1 h1 x1 => ?_
  refine b ρ σ F1 H1 fps xs _ e2 (S.ex x1) fun vs F2 H2 h2 x2 => ?_
  exact k _ F2 H2 (.cons (Dp.up h1 x2.ff) h2) (x1.trans x2)
theorem vba_cons {K : PySem.W.Frag} {te : TE} {ta : TA} {m : M PyData} {n : M (List PyData)} (a : VB K te m) (b : VBA K ta n) : VBA K (tCons te ta) (aC m n) := fun ρ σ F H fps ds Q e S k => by
  obtain ⟨x, e1, e⟩ := bind2 e
  obtain ⟨xs, e2, e⟩ := bind2 e
  cases e
  refine a ρ σ F H fps x _ e1 S fun v F1 H1 h1 x1 => ?_
  refine b ρ σ F1 H1 fps xs _ e2 (S.ex x1) fun vs F2 H2 h2 x2 => ?_
  exact k _ F2 H2 (.cons (Dp.up h1 x2.hh) h2) (x1.trans x2)

def m1 (g : PyData → Option PyData) (a : M PyData) : M PyData := fun ρ => (a ρ).bind g
def m2 (g : PyData → PyData → Option PyData) (a b : M PyData) : M PyData := fun ρ => (a ρ).bind fun x => (b ρ).bind fun y => g x y
theorem vf_op2 {K : PySem.W.Frag} {ta tb : TE} {ma mb : M PyData} {r : R2} {g : PyData → PyData → Option Sc} (a : VB K ta ma) (b : VB K tb mb)
    (hr : ∀ H x y d e c Q, Dp K H x d → Dp K H y e → g d e = some c → Q c.v H → r x y H Q) : VF K (tOp r ta tb) (m2 (fun x y => (g x y).map Sc.d) ma mb) := fun ρ σ F H fps d Q e S k => by
  obtain ⟨x, e1, e⟩ := bind2 e
  obtain ⟨y, e2, e⟩ := bind2 e
  cases eg : g x y with
  | none => simp only [eg] at e; cases e
  | some c =>
    simp only [eg] at e
    cases e
    refine a ρ σ F H fps x _ e1 S fun v F1 H1 h1 x1 => ?_
    refine b ρ σ F1 H1 fps y _ e2 (S.ex x1) fun u F2 H2 h2 x2 => ?_
    exact hr H2 v u x y c _ (Dp.up h1 x2.hh) h2 eg (k _ F2 H2 (Sc.dp c) (x1.trans x2))
def mA (g : List PyData → Option PyData) (a : M (List PyData)) : M PyData := fun ρ => (a ρ).bind g
theorem vf_cb {K : PySem.W.Frag} {ta : TA} {ma : M (List PyData)} {r : List V → Hp → VK → Prop} {g : List PyData → Option Sc} (a : VBA K ta ma)
    (hr : ∀ H xs ds c Q, DpAll K H xs ds → g ds = some c → Q c.v H → r xs H Q) : VF K (tCB r ta) (mA (fun x => (g x).map Sc.d) ma) := fun ρ σ F H fps d Q e S k => by
  obtain ⟨x, e1, e⟩ := bind2 e
  cases eg : g x with
  | none => simp only [eg] at e; cases e
  | some c =>
    simp only [eg] at e
    cases e
    refine a ρ σ F H fps x _ e1 S fun v F1 H1 h1 x1 => ?_
    exact hr H1 v x c _ h1 eg (k _ F1 H1 (Sc.dp c) x1)
theorem upd_same_of {H : Hp} {p : Addr} {o : HO} (h : H p = none) : Same H (upd H p o) := fun b u e => by
  rw [upd_ne (ne_of_none e h)]
  exact e
theorem Ex.alloc {F H F1 H1 : Hp} {p : Addr} {o : HO} (x : Ex F H F1 H1) (h : H1 p = none) : Ex F H F1 (upd H1 p o) :=
  ⟨x.ff, x.hh.trans (upd_same_of h), x.fh.trans (upd_same_of h), x.nw⟩
theorem same_free {H H' : Hp} (s : Same H H') {b : Addr} (h : H' b = none) : H b = none := by
  cases e : H b with
  | none => rfl
  | some o => rw [s b o e] at h; cases h
theorem new_ol {K : PySem.W.Frag} {F H F1 H1 : Hp} {p : Addr} {xs : List V} {ds : List PyData} (x : Ex F H F1 H1) (h : H1 p = none) (a : DpAll K F1 xs ds) : New K H F1 (upd H1 p (.lst xs)) (.ol ds) (.ref p) [p] := by
  refine ⟨.ol upd_same a, by simp, fun q hq => ?_⟩
  rw [List.mem_singleton.mp hq]
  exact ⟨same_free x.hh h, same_free x.fh h⟩
end Vs

namespace Vs
open PySem PySem.Spec PyProof.Rows L2

structure Ct where
  P : Program
  w : World
  K : PySem.W.Frag
  mg : Str → Option Value
  base : Heap
  N : List Str
  sc : Scope
  k : Nat
  fn : Str → Bool
structure Ct.Has (C : Ct) (X : Cx) : Prop where
  p : X.prog = C.P
  w : X.w = C.w
  K : X.K = C.K
  mg : X.mg = C.mg
  base : X.base = C.base
  N : X.N = C.N
  sc : X.env.scope = C.sc
  room : Room C.k X.A
  calm : X.calm = true
  xe : X.xe = fun _ _ => False
  fn : X.fn = C.fn
abbrev Ct.blk (C : Ct) (scope : Scope) : Ct := { C with sc := relS scope C.sc, fn := fun x => scope.names.lookup x == some .cell }
def Ct.Lc (C : Ct) (x : Str) : Prop := C.sc.names.lookup x = some .local ∨ (C.sc.names.lookup x = some .cell ∧ C.fn x = true)
theorem Ct.Lc.loc {C : Ct} {x : Str} (h : C.Lc x) : Loc C.sc x := h.imp id fun h => h.1
theorem Ct.Lc.fn {C : Ct} {x : Str} (h : C.Lc x) : C.fn x = true ∨ C.sc.names.lookup x = some .local := by
  rcases h with h | h
  · exact .inr h
  · exact .inl h.2
theorem Ct.Has.blk {C : Ct} {X : Cx} (h : C.Has X) (s : Shared) (H : Hp) (scope : Scope) (cl : List (Str × Addr)) (A : Addr) (fp : List Addr) : (C.blk scope).Has (X.blk s H scope (compEnvC scope cl A X.env) fp) :=
  ⟨h.p, h.w, h.K, h.mg, h.base, h.N, by show relS scope X.env.scope = relS scope C.sc; rw [h.sc], h.room, h.calm, rfl, rfl⟩

def EB (C : Ct) (e : Expr) (m : M PyData) : Prop := ∃ te, (∀ X, C.Has X → PE X e te) ∧ VB C.K te m
def EF (C : Ct) (e : Expr) (m : M PyData) : Prop := ∃ te, (∀ X, C.Has X → PE X e te) ∧ VF C.K te m
def EE (C : Ct) (e : Expr) (m : M R) : Prop := ∃ te, (∀ X, C.Has X → PE X e te) ∧ VE C.K te m
def ET (C : Ct) (e : Expr) (m : M Bool) : Prop := ∃ tt, (∀ X, C.Has X → PT X e tt) ∧ VT C.K tt m
def EW (C : Ct) (e : Expr) (m : M Bool) : Prop := ∃ tt, (∀ X, C.Has X → PW X e tt) ∧ VT C.K tt m
def EC (C : Ct) (e : Expr) (m : M PyData) : Prop := ∃ te, (∀ X, C.Has X → PE X e te ∧ PT X e (tTest te)) ∧ VF C.K te m
def EBA (C : Ct) (es : List Expr) (m : M (List PyData)) : Prop := ∃ ta, (∀ X, C.Has X → PA X es ta) ∧ VBA C.K ta m
def EFA (C : Ct) (es : List Expr) (m : M (List PyData)) : Prop := ∃ ta, (∀ X, C.Has X → PA X es ta) ∧ VFA C.K ta m
variable {C : Ct} {pos p p2 apos cpos : Pos} {e a b c : Expr} {es : List Expr} {x : Str} {ma mb mc : M PyData} {mt ms : M Bool}

theorem EF.eb (h : EF C e ma) : EB C e ma := let ⟨t, p, v⟩ := h; ⟨t, p, v.vb⟩
theorem EF.ee (h : EF C e ma) : EE C e (mF ma) := let ⟨t, p, v⟩ := h; ⟨t, p, v.ve⟩
theorem EE.ef {m : M R} (h : EE C e m) : EF C e (mD m) := let ⟨t, p, v⟩ := h; ⟨t, p, v.vf⟩
theorem EE.eb {m : M R} (h : EE C e m) : EB C e (mD m) := h.ef.eb
theorem EB.sc (h : EB C e ma) : EF C e (mSc ma) := let ⟨t, p, v⟩ := h; ⟨t, p, v.vf⟩
theorem EC.ef (h : EC C e ma) : EF C e ma := let ⟨t, p, v⟩ := h; ⟨t, fun X z => (p X z).1, v⟩
theorem EC.eb (h : EC C e ma) : EB C e ma := h.ef.eb
def b? : PyData → Option Bool
  | .bool b => some b
  | _ => none
def mB (m : M PyData) : M Bool := fun ρ => (m ρ).bind b?
theorem b?_v {K : PySem.W.Frag} {F : Hp} {d : PyData} {k : Bool} {v : V} (h : Dp K F v d) (e : b? d = some k) : v = .bl k := by
  cases h <;> simp only [b?] at e <;> cases e
  rfl
theorem EC.et (h : EC C e ma) : ET C e (mB ma) := by
  obtain ⟨t, p, v⟩ := h
  refine ⟨tTest t, fun X z => (p X z).2, fun ρ σ F H fps k Q e S q => ?_⟩
  obtain ⟨d, e1, e2⟩ := bind2 e
  exact v ρ σ F H fps d _ e1 S fun u F' H' hd xx => ⟨k, b?_v hd e2, q F' H' xx⟩
theorem EB.et (h : EB C e ma) (he : ∀ (env : Env) (whole : Sem Value), isTrue e env whole = (do let v ← whole; standAt e.pos; holding [v] (truthy v)) := by intro _ _; rfl) : ET C e (mB ma) := by
  obtain ⟨t, p, v⟩ := h
  refine ⟨tB t, fun X z => pt_val (p X z) (he X.env), fun ρ σ F H fps k Q e S q => ?_⟩
  obtain ⟨d, e1, e2⟩ := bind2 e
  exact v ρ σ F H fps d _ e1 S fun u F' H' hd xx => ⟨k, b?_v hd e2, q F' H' xx⟩
theorem EW.et (h : EW C e mt) : ET C e mt := let ⟨t, p, v⟩ := h; ⟨t, fun X z => (p X z).pt, v⟩

theorem eb_name (i : Nat) (hN : C.N[i]? = some x := by rfl) (hv : Vis C.sc x := by first | exact Or.inl rfl | exact Or.inr (Or.inl rfl) | exact Or.inr (Or.inr rfl)) (hd : (x == ("__debug__" : Str)) = false := by decide) (hcd : (x == ("__classdict__" : Str)) = false := by decide) : EB C (.Name x pos) (mV i) :=
  ⟨_, fun X h => pe_var (by rw [h.N]; exact hN) (by rw [h.sc]; exact hv) hd hcd, vb_name⟩
theorem ef_name (i : Nat) (hN : C.N[i]? = some x := by rfl) (hv : Vis C.sc x := by first | exact Or.inl rfl | exact Or.inr (Or.inl rfl) | exact Or.inr (Or.inr rfl)) (hd : (x == ("__debug__" : Str)) = false := by decide) (hcd : (x == ("__classdict__" : Str)) = false := by decide) : EF C (.Name x pos) (mN i) :=
  ⟨_, fun X h => pe_var (by rw [h.N]; exact hN) (by rw [h.sc]; exact hv) hd hcd, vf_name⟩
theorem ef_int {i : Int} {j : Nat} : EF C (.Constant (.int i) j pos) (mC (.int i)) := ⟨_, fun _ _ => pe_int, vf_const (c := .int i)⟩
theorem ef_bl {i : Bool} {j : Nat} : EF C (.Constant (.bool i) j pos) (mC (.bl i)) := ⟨_, fun _ _ => pe_bl, vf_const (c := .bl i)⟩
theorem ef_glob {z : Sc} {u : Value} (hg : C.sc.names.lookup x = some .globalImplicit) (hm : C.mg x = some u) (r : RelV z.v u) (hd : (x == ("__debug__" : Str)) = false := by decide) : EF C (.Name x pos) (mC z) :=
  ⟨_, fun X h => pe_glob (by unfold Gl Env.kindOf; rw [h.sc]; exact hg) (by rw [h.mg]; exact hm) r hd, vf_const⟩

theorem ef_globI {i : Int} (hg : C.sc.names.lookup x = some .globalImplicit) (hm : ∃ t, C.mg x = some (.int i t)) (hd : (x == ("__debug__" : Str)) = false := by decide) : EF C (.Name x pos) (mC (.int i)) :=
  let ⟨t, h⟩ := hm; ef_glob (z := .int i) hg h ⟨t, rfl⟩ hd
def i2 (g : Int → Int → Option Sc) : PyData → PyData → Option Sc
  | .int a, .int b => g a b
  | _, _ => none
theorem i2_inv {K : PySem.W.Frag} {H : Hp} {g : Int → Int → Option Sc} {u v : V} {d e : PyData} {z : Sc} (h1 : Dp K H u d) (h2 : Dp K H v e) (h : i2 g d e = some z) : ∃ i j, u = .int i ∧ v = .int j ∧ g i j = some z := by
  cases h1 <;> cases h2 <;> simp only [i2] at h <;> try cases h
  exact ⟨_, _, rfl, rfl, h⟩
theorem ri_ok {K : PySem.W.Frag} {Cn : Int → Int → Prop} {gv : Int → Int → Sc} {g : Int → Int → Option Sc} (hg : ∀ i j z, g i j = some z → Cn i j ∧ z = gv i j) (H : Hp) (u v : V) (d e : PyData) (z : Sc) (Q : VK) (h1 : Dp K H u d) (h2 : Dp K H v e) (h : i2 g d e = some z) (q : Q z.v H) :
    rI Cn (fun i j => (gv i j).v) u v H Q := by
  obtain ⟨i, j, rfl, rfl, h⟩ := i2_inv h1 h2 h
  obtain ⟨hc, rfl⟩ := hg i j z h
  exact ⟨i, j, rfl, rfl, hc, q⟩
theorem ri0_ok {K : PySem.W.Frag} {gv : Int → Int → Sc} {g : Int → Int → Option Sc} (hg : ∀ i j z, g i j = some z → z = gv i j) (H : Hp) (u v : V) (d e : PyData) (z : Sc) (Q : VK) (h1 : Dp K H u d) (h2 : Dp K H v e) (h : i2 g d e = some z) (q : Q z.v H) :
    rI0 (fun i j => (gv i j).v) u v H Q := by
  obtain ⟨i, j, rfl, rfl, h⟩ := i2_inv h1 h2 h
  obtain rfl := hg i j z h
  exact ⟨i, j, rfl, rfl, q⟩
def gAdd (i j : Int) : Option Sc := some (.int (i + j))
def gSub (i j : Int) : Option Sc := some (.int (i - j))
def gMul (i j : Int) : Option Sc := if Builtin.Int.intBits i + Builtin.Int.intBits j ≤ 134217728 then some (.int (i * j)) else none
def gDiv (i j : Int) : Option Sc := if 0 < j ∧ j < 1073741824 then some (.int (i / j)) else none
def gMod (i j : Int) : Option Sc := if 0 < j then some (.int (i % j)) else none
def gPow (i j : Int) : Option Sc := if 0 ≤ j ∧ j ≤ 1000000 ∧ i.natAbs < 2 ^ 64 then some (.int (i ^ j.toNat)) else none
def gLt (i j : Int) : Option Sc := some (.bl (decide (i < j)))
def gLe (i j : Int) : Option Sc := some (.bl (decide (i ≤ j)))
def gGt (i j : Int) : Option Sc := some (.bl (decide (j < i)))
def gGe (i j : Int) : Option Sc := some (.bl (decide (j ≤ i)))
def mI (g : Int → Int → Option Sc) (a b : M PyData) : M PyData := m2 (fun x y => (i2 g x y).map Sc.d) a b
theorem op_mulB {X : Cx} : OpR X (binaryOp .Mult) (rI (fun i j => Builtin.Int.intBits i + Builtin.Int.intBits j ≤ 134217728) fun i j => .int (i * j)) := opI fun _ _ _ _ _ _ _ hc q => mul_int q (mulOk_of_bits (Nat.le_refl _) (Nat.le_refl _) hc)
theorem ef_add (h1 : EB C a ma) (h2 : EB C b mb) : EF C (.BinOp a .Add b pos) (mI gAdd ma mb) := by
  obtain ⟨ta, pa, va⟩ := h1
  obtain ⟨tb, pb, vb⟩ := h2
  exact ⟨_, fun X h => pe_op op_add (pa X h) (pb X h), vf_op2 va vb (ri0_ok (gv := fun i j => .int (i + j)) fun i j z e => by cases e; rfl)⟩
theorem ef_sub (h1 : EB C a ma) (h2 : EB C b mb) : EF C (.BinOp a .Sub b pos) (mI gSub ma mb) := by
  obtain ⟨ta, pa, va⟩ := h1
  obtain ⟨tb, pb, vb⟩ := h2
  exact ⟨_, fun X h => pe_op op_sub (pa X h) (pb X h), vf_op2 va vb (ri0_ok (gv := fun i j => .int (i - j)) fun i j z e => by cases e; rfl)⟩
theorem ef_mul (h1 : EB C a ma) (h2 : EB C b mb) : EF C (.BinOp a .Mult b pos) (mI gMul ma mb) := by
  obtain ⟨ta, pa, va⟩ := h1
  obtain ⟨tb, pb, vb⟩ := h2
  exact ⟨_, fun X h => pe_op op_mulB (pa X h) (pb X h), vf_op2 va vb (ri_ok (gv := fun i j => .int (i * j)) fun i j z e => by
    unfold gMul at e
    split at e
    · rename_i hc
      cases e
      exact ⟨hc, rfl⟩
    · cases e)⟩
theorem ef_div (h1 : EB C a ma) (h2 : EB C b mb) : EF C (.BinOp a .FloorDiv b pos) (mI gDiv ma mb) := by
  obtain ⟨ta, pa, va⟩ := h1
  obtain ⟨tb, pb, vb⟩ := h2
  exact ⟨_, fun X h => pe_op op_fdiv (pa X h) (pb X h), vf_op2 va vb (ri_ok (gv := fun i j => .int (i / j)) fun i j z e => by
    unfold gDiv at e
    split at e
    · rename_i hc
      cases e
      exact ⟨hc, rfl⟩
    · cases e)⟩
theorem ef_mod (h1 : EB C a ma) (h2 : EB C b mb) : EF C (.BinOp a .Mod b pos) (mI gMod ma mb) := by
  obtain ⟨ta, pa, va⟩ := h1
  obtain ⟨tb, pb, vb⟩ := h2
  exact ⟨_, fun X h => pe_op op_mod (pa X h) (pb X h), vf_op2 va vb (ri_ok (gv := fun i j => .int (i % j)) fun i j z e => by
    unfold gMod at e
    split at e
    · rename_i hc
      cases e
      exact ⟨hc, rfl⟩
    · cases e)⟩
theorem ef_pow (h1 : EB C a ma) (h2 : EB C b mb) : EF C (.BinOp a .Pow b pos) (mI gPow ma mb) := by
  obtain ⟨ta, pa, va⟩ := h1
  obtain ⟨tb, pb, vb⟩ := h2
  exact ⟨_, fun X h => pe_op op_pow (pa X h) (pb X h), vf_op2 va vb (ri_ok (gv := fun i j => .int (i ^ j.toNat)) fun i j z e => by
    unfold gPow at e
    split at e
    · rename_i hc
      cases e
      exact ⟨hc, rfl⟩
    · cases e)⟩
theorem ec_le (h1 : EB C a ma) (h2 : EB C b mb) : EC C (.Compare a [.LtE] [b] pos) (mI gLe ma mb) := by
  obtain ⟨ta, pa, va⟩ := h1
  obtain ⟨tb, pb, vb⟩ := h2
  exact ⟨_, fun X h => ⟨pe_cmpR op_le (pa X h) (pb X h) (nomark _), pt_cmpR op_le (pa X h) (pb X h) (nomark _)⟩, vf_op2 va vb (ri0_ok (gv := fun i j => .bl (decide (i ≤ j))) fun i j z e => by cases e; rfl)⟩
theorem ec_gt (h1 : EB C a ma) (h2 : EB C b mb) : EC C (.Compare a [.Gt] [b] pos) (mI gGt ma mb) := by
  obtain ⟨ta, pa, va⟩ := h1
  obtain ⟨tb, pb, vb⟩ := h2
  exact ⟨_, fun X h => ⟨pe_cmpR op_gt (pa X h) (pb X h) (nomark _), pt_cmpR op_gt (pa X h) (pb X h) (nomark _)⟩, vf_op2 va vb (ri0_ok (gv := fun i j => .bl (decide (j < i))) fun i j z e => by cases e; rfl)⟩
theorem ec_ge (h1 : EB C a ma) (h2 : EB C b mb) : EC C (.Compare a [.GtE] [b] pos) (mI gGe ma mb) := by
  obtain ⟨ta, pa, va⟩ := h1
  obtain ⟨tb, pb, vb⟩ := h2
  exact ⟨_, fun X h => ⟨pe_cmpR op_ge (pa X h) (pb X h) (nomark _), pt_cmpR op_ge (pa X h) (pb X h) (nomark _)⟩, vf_op2 va vb (ri0_ok (gv := fun i j => .bl (decide (j ≤ i))) fun i j z e => by cases e; rfl)⟩
def mCh (g g' : Int → Int → Option Sc) (a b c : M PyData) : M PyData := fun ρ => (a ρ).bind fun x => (b ρ).bind fun y => (i2 g x y).bind fun z => (b? z.d).bind fun k => if k then (c ρ).bind fun w => (i2 g' y w).map Sc.d else some (.bool false)
theorem vf_chain {K : PySem.W.Frag} {ta tb tc : TE} {r r' : R2} {g g' : Int → Int → Option Sc} (va : VB K ta ma) (vb : VB K tb mb) (vc : VB K tc mc)
    (hr : ∀ H x y d e c Q, Dp K H x d → Dp K H y e → i2 g d e = some c → Q c.v H → r x y H Q) (hr' : ∀ H x y d e c Q, Dp K H x d → Dp K H y e → i2 g' d e = some c → Q c.v H → r' x y H Q) : VF K (tChain r r' ta tb tc) (mCh g g' ma mb mc) := fun ρ σ F H fps d Q e S k => by
  obtain ⟨x, e1, e⟩ := bind2 e
  obtain ⟨y, e2, e⟩ := bind2 e
  obtain ⟨z, e3, e⟩ := bind2 e
  obtain ⟨kk, e4, e⟩ := bind2 e
  refine va ρ σ F H fps x _ e1 S fun v F1 H1 h1 x1 => ?_
  refine vb ρ σ F1 H1 fps y _ e2 (S.ex x1) fun u F2 H2 h2 x2 => ?_
  refine hr H2 v u x y z _ (Dp.up h1 x2.hh) h2 e3 ?_
  refine ⟨kk, b?_v (K := K) (F := H2) (Sc.dp z) e4, ?_⟩
  cases kk with
  | false =>
    cases e
    simp only [Bool.false_eq_true, if_false]
    exact k _ F2 H2 (.bl false) (x1.trans x2)
  | true =>
    obtain ⟨w, e5, e⟩ := bind2 (f := fun w => (i2 g' y w).map Sc.d) (by simpa using e)
    obtain ⟨q, e6, rfl⟩ := map2 e
    simp only [if_true]
    refine vc ρ σ F2 H2 fps w _ e5 ((S.ex x1).ex x2) fun t F3 H3 h3 x3 => ?_
    exact hr' H3 u t y w q _ (Dp.up h2 x3.hh) h3 e6 (k _ F3 H3 (Sc.dp q) ((x1.trans x2).trans x3))
theorem ec_lele (h1 : EB C a ma) (h2 : EB C b mb) (h3 : EB C c mc) (hm : lastMarks [.LtE, .LtE] [b, c] = false := by with_unfolding_all rfl) : EC C (.Compare a [.LtE, .LtE] [b, c] pos) (mCh gLe gLe ma mb mc) := by
  obtain ⟨ta, pa, va⟩ := h1
  obtain ⟨tb, pb, vb⟩ := h2
  obtain ⟨tc, pc, vc⟩ := h3
  exact ⟨_, fun X h => ⟨pe_chain op_le op_le (pa X h) (pb X h) (pc X h) hm, pt_chain op_le op_le (pa X h) (pb X h) (pc X h) hm⟩, vf_chain va vb vc (ri0_ok (gv := fun i j => .bl (decide (i ≤ j))) fun i j z e => by cases e; rfl) (ri0_ok (gv := fun i j => .bl (decide (i ≤ j))) fun i j z e => by cases e; rfl)⟩
theorem ec_lelt (h1 : EB C a ma) (h2 : EB C b mb) (h3 : EB C c mc) (hm : lastMarks [.LtE, .Lt] [b, c] = false := by with_unfolding_all rfl) : EC C (.Compare a [.LtE, .Lt] [b, c] pos) (mCh gLe gLt ma mb mc) := by
  obtain ⟨ta, pa, va⟩ := h1
  obtain ⟨tb, pb, vb⟩ := h2
  obtain ⟨tc, pc, vc⟩ := h3
  exact ⟨_, fun X h => ⟨pe_chain op_le op_lt (pa X h) (pb X h) (pc X h) hm, pt_chain op_le op_lt (pa X h) (pb X h) (pc X h) hm⟩, vf_chain va vb vc (ri0_ok (gv := fun i j => .bl (decide (i ≤ j))) fun i j z e => by cases e; rfl) (ri0_ok (gv := fun i j => .bl (decide (i < j))) fun i j z e => by cases e; rfl)⟩
def gEq (x y : PyData) : Option Sc := if SeqAt.shaped x = true ∧ SeqAt.shaped y = true then some (.bl (PyData.eqv x y)) else none
def gNe (x y : PyData) : Option Sc := if SeqAt.shaped x = true ∧ SeqAt.shaped y = true then some (.bl (!PyData.eqv x y)) else none
theorem ec_eq (h1 : EB C a ma) (h2 : EB C b mb) : EC C (.Compare a [.Eq] [b] pos) (m2 (fun x y => (gEq x y).map Sc.d) ma mb) := by
  obtain ⟨ta, pa, va⟩ := h1
  obtain ⟨tb, pb, vb⟩ := h2
  refine ⟨tOp (rEqD C.K) ta tb, fun X h => ?_, vf_op2 va vb fun H u v d e z Q h1 h2 h q => ?_⟩
  · rw [← h.K]
    exact ⟨pe_cmpR (op_eqD h.room.units) (pa X h) (pb X h) (nomark _), pt_cmpR (op_eqD h.room.units) (pa X h) (pb X h) (nomark _)⟩
  · unfold gEq at h
    split at h
    · rename_i hc
      cases h
      exact ⟨d, e, h1.lay hc.1, h2.lay hc.2, hc.1, hc.2, q⟩
    · cases h
theorem ec_ne (h1 : EB C a ma) (h2 : EB C b mb) : EC C (.Compare a [.NotEq] [b] pos) (m2 (fun x y => (gNe x y).map Sc.d) ma mb) := by
  obtain ⟨ta, pa, va⟩ := h1
  obtain ⟨tb, pb, vb⟩ := h2
  refine ⟨tOp (rNeD C.K) ta tb, fun X h => ?_, vf_op2 va vb fun H u v d e z Q h1 h2 h q => ?_⟩
  · rw [← h.K]
    exact ⟨pe_cmpR (op_neD h.room.units) (pa X h) (pb X h) (nomark _), pt_cmpR (op_neD h.room.units) (pa X h) (pb X h) (nomark _)⟩
  · unfold gNe at h
    split at h
    · rename_i hc
      cases h
      exact ⟨d, e, h1.lay hc.1, h2.lay hc.2, hc.1, hc.2, q⟩
    · cases h
def items? : PyData → Option (List PyData)
  | .list ds => some ds
  | .tuple ds => some ds
  | _ => none
theorem items?_inv {K : PySem.W.Frag} {H : Hp} {v : V} {d : PyData} {ds : List PyData} (h : Dp K H v d) (e : items? d = some ds) : ∃ p xs, v = .ref p ∧ (SqL K H p xs ∨ SqT K H p xs) ∧ DpAll K H xs ds := by
  cases h <;> simp only [items?] at e <;> cases e
  · exact ⟨_, _, rfl, .inl ‹_›, ‹_›⟩
  · exact ⟨_, _, rfl, .inr ‹_›, ‹_›⟩
def gIsB : PyData → PyData → Option Sc
  | .bool i, .bool j => some (.bl (i == j))
  | _, _ => none
def gIsNotB : PyData → PyData → Option Sc
  | .bool i, .bool j => some (.bl (!(i == j)))
  | _, _ => none
def tN (a : M Bool) : M Bool := fun ρ => (a ρ).map fun k => !k
def tA (a b : M Bool) : M Bool := fun ρ => (a ρ).bind fun k => if k then b ρ else some false
def tO (a b : M Bool) : M Bool := fun ρ => (a ρ).bind fun k => if k then some true else b ρ
theorem et_not (h : ET C a mt) : ET C (.UnaryOp .Not a pos) (tN mt) := by
  obtain ⟨t, p, v⟩ := h
  refine ⟨_, fun X z => pt_not (p X z), fun ρ σ F H fps k Q e S q => ?_⟩
  obtain ⟨k0, e1, rfl⟩ := map2 e
  exact v ρ σ F H fps k0 _ e1 S fun F' H' x => q F' H' x
theorem vt_or {K : PySem.W.Frag} {t u : TT} (h1 : VT K t mt) (h2 : VT K u ms) : VT K (L2.tOr t u) (tO mt ms) := fun ρ σ F H fps k Q e S q => by
  obtain ⟨k0, e1, e⟩ := bind2 e
  refine h1 ρ σ F H fps k0 _ e1 S fun F1 H1 x1 => ?_
  cases k0 with
  | true =>
    cases e
    simp only [if_true]
    exact q F1 H1 x1
  | false =>
    simp only [Bool.false_eq_true, if_false] at e ⊢
    exact h2 ρ σ F1 H1 fps k _ e (S.ex x1) fun F2 H2 x2 => q F2 H2 (x1.trans x2)
variable {rest : List Expr}
theorem ew_or (h1 : ET C a mt) (h2 : EW C (.BoolOp .Or (b :: rest) pos) ms) : EW C (.BoolOp .Or (a :: b :: rest) pos) (tO mt ms) := let ⟨_, p1, v1⟩ := h1; let ⟨_, p2, v2⟩ := h2; ⟨_, fun X z => pw_or (p1 X z) (p2 X z), vt_or v1 v2⟩
theorem ew_or1 (h1 : ET C a mt) : EW C (.BoolOp .Or [a] pos) mt := let ⟨_, p1, v1⟩ := h1; ⟨_, fun X z => pw_or1 (p1 X z), v1⟩
def vN (a : M PyData) : M PyData := fun ρ => (mB a ρ).map fun k => .bool (!k)
def vA (a b : M PyData) : M PyData := fun ρ => (mB a ρ).bind fun k => if k then b ρ else some (.bool false)
def vO (a b : M PyData) : M PyData := fun ρ => (mB a ρ).bind fun k => if k then some (.bool true) else b ρ
theorem ef_not (h : EB C a ma) : EF C (.UnaryOp .Not a pos) (vN ma) := by
  obtain ⟨t, p, v⟩ := h
  refine ⟨_, fun X z => pe_not (p X z), fun ρ σ F H fps d Q e S q => ?_⟩
  obtain ⟨k0, e1, rfl⟩ := map2 e
  obtain ⟨d0, e0, e1⟩ := bind2 e1
  exact v ρ σ F H fps d0 _ e0 S fun u F' H' hd x => ⟨k0, b?_v hd e1, q _ F' H' (.bl _) x⟩
theorem ef_and (h1 : EB C a ma) (h2 : EF C (.BoolOp .And (b :: rest) pos) mb) : EF C (.BoolOp .And (a :: b :: rest) pos) (vA ma mb) := by
  obtain ⟨t, p, v⟩ := h1
  obtain ⟨t2, p2, v2⟩ := h2
  refine ⟨_, fun X z => pe_and (p X z) (p2 X z), fun ρ σ F H fps d Q e S q => ?_⟩
  obtain ⟨k0, e1, e⟩ := bind2 e
  obtain ⟨d0, e0, e1⟩ := bind2 e1
  refine v ρ σ F H fps d0 _ e0 S fun u F1 H1 hd x1 => ⟨k0, b?_v hd e1, ?_⟩
  cases k0 with
  | false =>
    cases e
    simp only [Bool.false_eq_true, if_false]
    exact q _ F1 H1 (.bl _) x1
  | true =>
    simp only [if_true] at e ⊢
    exact v2 ρ σ F1 H1 fps d _ e (S.ex x1) fun u F2 H2 hd x2 => q u F2 H2 hd (x1.trans x2)
theorem ef_or (h1 : EB C a ma) (h2 : EF C (.BoolOp .Or (b :: rest) pos) mb) : EF C (.BoolOp .Or (a :: b :: rest) pos) (vO ma mb) := by
  obtain ⟨t, p, v⟩ := h1
  obtain ⟨t2, p2, v2⟩ := h2
  refine ⟨_, fun X z => pe_or (p X z) (p2 X z), fun ρ σ F H fps d Q e S q => ?_⟩
  obtain ⟨k0, e1, e⟩ := bind2 e
  obtain ⟨d0, e0, e1⟩ := bind2 e1
  refine v ρ σ F H fps d0 _ e0 S fun u F1 H1 hd x1 => ⟨k0, b?_v hd e1, ?_⟩
  cases k0 with
  | true =>
    cases e
    simp only [if_true]
    exact q _ F1 H1 (.bl _) x1
  | false =>
    simp only [Bool.false_eq_true, if_false] at e ⊢
    exact v2 ρ σ F1 H1 fps d _ e (S.ex x1) fun u F2 H2 hd x2 => q u F2 H2 hd (x1.trans x2)
theorem ef_one {op : BoolOp} (h1 : EF C a ma) : EF C (.BoolOp op [a] pos) ma := let ⟨_, p1, v1⟩ := h1; ⟨_, fun X z => pe_one (p1 X z), v1⟩

def mIf {α : Type} (t : M Bool) (a b : M α) : M α := fun ρ => (t ρ).bind fun k => if k then a ρ else b ρ
theorem vif {α : Type} {K : PySem.W.Frag} {tt : TT} {a b : M α} {ρ : En} {σ : L2.St} {F H : Hp} {fps : Nat → List Addr} {r : α} {ta tb : TE} {Q : VK} (vt : VT K tt mt) (e : mIf mt a b ρ = some r) (S : Stt K F H ρ σ fps)
    (h1 : a ρ = some r → ∀ F1 H1, Ex F H F1 H1 → ta σ H1 Q) (h2 : b ρ = some r → ∀ F1 H1, Ex F H F1 H1 → tb σ H1 Q) : L2.tIf tt ta tb σ H Q := by
  obtain ⟨k0, e1, e⟩ := bind2 e
  refine vt ρ σ F H fps k0 _ e1 S fun F1 H1 x1 => ?_
  cases k0 with
  | true => simp only [if_true] at e ⊢; exact h1 e F1 H1 x1
  | false => simp only [Bool.false_eq_true, if_false] at e ⊢; exact h2 e F1 H1 x1
theorem ef_if (h : ET C c mt) (h1 : EF C a ma) (h2 : EF C b mb) : EF C (.IfExp c a b pos) (mIf mt ma mb) := by
  obtain ⟨t, p, v⟩ := h
  obtain ⟨t1, p1, v1⟩ := h1
  obtain ⟨t2, p2, v2⟩ := h2
  exact ⟨_, fun X z => pe_ifExp (p X z) (p1 X z) (p2 X z), fun ρ σ F H fps d Q e S q => vif v e S
    (fun e F1 H1 x => v1 ρ σ F1 H1 fps d _ e (S.ex x) fun u F2 H2 hd x2 => q u F2 H2 hd (x.trans x2)) (fun e F1 H1 x => v2 ρ σ F1 H1 fps d _ e (S.ex x) fun u F2 H2 hd x2 => q u F2 H2 hd (x.trans x2))⟩
theorem New.back {K : PySem.W.Frag} {H H1 F' H' : Hp} {r : R} {v : V} {fp : List Addr} (n : New K H1 F' H' r v fp) (s : Same H H1) : New K H F' H' r v fp := ⟨n.own, n.nd, fun p hp => ⟨same_free s (n.nw p hp).1, (n.nw p hp).2⟩⟩
end Vs

namespace Vs
open PySem PySem.Spec PyProof.Rows L2
variable {C : Ct} {pos p p2 apos cpos : Pos} {e a b c : Expr} {es : List Expr} {x : Str} {ma mb mc : M PyData} {mt ms : M Bool}

abbrev Glb (sc : Scope) (x : Str) : Prop := sc.names.lookup x = some .globalImplicit
def gIx : PyData → PyData → Option PyData
  | .list ds, .int i => atI ds i
  | .tuple ds, .int i => atI ds i
  | _, _ => none
theorem atI_get {K : PySem.W.Frag} {F : Hp} {vs : List V} {ds : List PyData} {i : Int} {d : PyData} (h : DpAll K F vs ds) (e : atI ds i = some d) : ∃ v, atI vs i = some v ∧ Dp K F v d := by
  unfold atI at e ⊢
  rw [DpAll.len h]
  obtain ⟨j, e1, e2⟩ := bind2 e
  obtain ⟨v, h1, h2⟩ := DpAll.get h e2
  exact ⟨v, by rw [e1]; exact h1, h2⟩
theorem gIx_ok {K : PySem.W.Frag} {F H : Hp} {u v : V} {d e z : PyData} {Q : VK} (s : Same F H) (h1 : Dp K F u d) (h2 : Dp K H v e) (h : gIx d e = some z) (q : ∀ w, Dp K F w z → Q w H) : rIx K u v H Q := by
  cases h1 <;> cases h2 <;> simp only [gIx] at h <;> try cases h
  · obtain ⟨w, e1, e2⟩ := atI_get ‹_› h
    exact .inl ⟨_, _, _, w, rfl, rfl, sql_mono s ‹_›, e1, q w e2⟩
  · obtain ⟨w, e1, e2⟩ := atI_get ‹_› h
    exact .inr (.inl ⟨_, _, _, w, rfl, rfl, sqt_mono s ‹_›, e1, q w e2⟩)
theorem eb_ix (h1 : EB C a ma) (h2 : EB C b mb) (hs : PlainIx b := by intro _ _; rfl) : EB C (.Subscript a b pos) (m2 gIx ma mb) := by
  obtain ⟨ta, pa, va⟩ := h1
  obtain ⟨tb, pb, vb⟩ := h2
  refine ⟨tOp (rIx C.K) ta tb, fun X h => by rw [← h.K]; exact pe_ix ix_seq (pa X h) (pb X h) hs, fun ρ σ F H fps d Q e S k => ?_⟩
  obtain ⟨d1, e1, e⟩ := bind2 e
  obtain ⟨d2, e2, e⟩ := bind2 e
  refine va ρ σ F H fps d1 _ e1 S fun v F1 H1 h1 x1 => ?_
  refine vb ρ σ F1 H1 fps d2 _ e2 (S.ex x1) fun u F2 H2 h2 x2 => ?_
  exact gIx_ok (.refl _) (Dp.up h1 x2.hh) h2 e fun w hw => k w F2 H2 hw (x1.trans x2)
theorem ef_ix (h1 : EF C a ma) (h2 : EB C b mb) (hs : PlainIx b := by intro _ _; rfl) : EF C (.Subscript a b pos) (m2 gIx ma mb) := by
  obtain ⟨ta, pa, va⟩ := h1
  obtain ⟨tb, pb, vb⟩ := h2
  refine ⟨tOp (rIx C.K) ta tb, fun X h => by rw [← h.K]; exact pe_ix ix_seq (pa X h) (pb X h) hs, fun ρ σ F H fps d Q e S k => ?_⟩
  obtain ⟨d1, e1, e⟩ := bind2 e
  obtain ⟨d2, e2, e⟩ := bind2 e
  refine va ρ σ F H fps d1 _ e1 S fun v F1 H1 h1 x1 => ?_
  refine vb ρ σ F1 H1 fps d2 _ e2 (S.ex x1) fun u F2 H2 h2 x2 => ?_
  exact gIx_ok x2.fh (Dp.up h1 x2.ff) h2 e fun w hw => k w F2 H2 hw (x1.trans x2)

theorem ebA_nil : EBA C [] aN := ⟨_, fun _ _ => pa_nil, vba_nil⟩
theorem efA_nil : EFA C [] aN := ⟨_, fun _ _ => pa_nil, vfa_nil⟩
theorem ebA {n : M (List PyData)} (h : EB C e ma) (t : EBA C es n) (hs : ∀ env : Env, starEach (e :: es) env = (false, eval e env) :: starEach es env := by intro _; rfl) : EBA C (e :: es) (aC ma n) :=
  let ⟨_, p1, v1⟩ := h; let ⟨_, p2, v2⟩ := t; ⟨_, fun X z => pa_cons (p1 X z) (p2 X z) (hs X.env), vba_cons v1 v2⟩
theorem efA {n : M (List PyData)} (h : EF C e ma) (t : EFA C es n) (hs : ∀ env : Env, starEach (e :: es) env = (false, eval e env) :: starEach es env := by intro _; rfl) : EFA C (e :: es) (aC ma n) :=
  let ⟨_, p1, v1⟩ := h; let ⟨_, p2, v2⟩ := t; ⟨_, fun X z => pa_cons (p1 X z) (p2 X z) (hs X.env), vfa_cons v1 v2⟩
theorem small_sz {n : Nat} (h : n ≤ 4000) : n ≤ sizeLine := Nat.le_trans h (by decide)
def mTup (a : M (List PyData)) : M PyData := fun ρ => (a ρ).bind fun ds => if ds.length ≤ 4000 then some (.tuple ds) else none
def mLst (a : M (List PyData)) : M R := fun ρ => (a ρ).bind fun ds => if ds.length ≤ 4000 then some (.ol ds) else none
theorem iteS {α : Type} {P : Prop} [Decidable P] {x y : α} (e : (if P then some x else none) = some y) : P ∧ x = y := by
  split at e
  · cases e; exact ⟨‹_›, rfl⟩
  · cases e
theorem fz_tup {K : PySem.W.Frag} {F H F1 H1 : Hp} {p : Addr} {xs : List V} {ds : List PyData} (x : Ex F H F1 H1) (h : H1 p = none) (a : DpAll K F1 xs ds) : Dp K (upd F1 p (.tup xs)) (.ref p) (.tuple ds) ∧ Ex F H (upd F1 p (.tup xs)) (upd H1 p (.tup xs)) := by
  have hf : F1 p = none := same_free x.fh h
  refine ⟨.tup (sqt_of upd_same) (DpAll.up a (upd_same_of hf)), x.ff.trans (upd_same_of hf), x.hh.trans (upd_same_of h), fun b o e => ?_, fun b h1 h2 => ?_⟩
  · by_cases hb : b = p
    · subst hb; rw [upd_same] at e ⊢; exact e
    · rw [upd_ne hb] at e ⊢; exact x.fh b o e
  · have hb : b ≠ p := fun z => by subst z; exact absurd h (same_live x.hh h2)
    rw [upd_ne hb]
    exact x.nw b h1 h2
theorem ef_tup {n : M (List PyData)} {x1 : Nat} (h : EFA C es n) : EF C (.Tuple es x1 pos) (mTup n) := by
  obtain ⟨t, pt, vt⟩ := h
  refine ⟨_, fun X z => pe_tup (pt X z), fun ρ σ F H fps d Q e S k => ?_⟩
  obtain ⟨ds, e1, e⟩ := bind2 e
  obtain ⟨hl, rfl⟩ := iteS e
  refine vt ρ σ F H fps ds _ e1 S fun vs F1 H1 hd x1 => ⟨by rw [DpAll.len hd]; exact small_sz hl, fun q hq => ?_⟩
  exact k _ _ _ (fz_tup x1 hq hd).1 (fz_tup x1 hq hd).2
theorem ee_lst {n : M (List PyData)} (h : EFA C es n) : EE C (.List es pos) (mLst n) := by
  obtain ⟨t, pt, vt⟩ := h
  refine ⟨_, fun X z => pe_lst (pt X z), fun ρ σ F H fps d Q e S k => ?_⟩
  obtain ⟨ds, e1, e⟩ := bind2 e
  obtain ⟨hl, rfl⟩ := iteS e
  refine vt ρ σ F H fps ds _ e1 S fun vs F1 H1 hd x1 => ⟨by rw [DpAll.len hd]; exact small_sz hl, fun q hq => ?_⟩
  exact k _ _ _ _ (new_ol x1 hq hd) (x1.alloc hq)

def VO (K : PySem.W.Frag) (t : TO) (m : M (Option Int)) : Prop := ∀ ρ σ F H fps d Q, m ρ = some d → Stt K F H ρ σ fps → (∀ F' H', Ex F H F' H' → Q d H') → t σ H Q
def EO (C : Ct) (e : Option Expr) (m : M (Option Int)) : Prop := ∃ t, (∀ X, C.Has X → PO X e t) ∧ VO C.K t m
def oN : M (Option Int) := fun _ => some none
def int? : PyData → Option Int
  | .int i => some i
  | _ => none
def oS (m : M PyData) : M (Option Int) := fun ρ => (m ρ).bind fun d => (int? d).map some
theorem eo_none : EO C none oN := ⟨_, fun _ _ => po_none, fun ρ σ F H fps d Q e S k => by cases e; exact k F H (.refl S.fh)⟩
theorem int?_v {K : PySem.W.Frag} {F : Hp} {d : PyData} {k : Int} {v : V} (h : Dp K F v d) (e : int? d = some k) : v = .int k := by
  cases h <;> simp only [int?] at e <;> cases e
  rfl
theorem eo_some (h : EB C e ma) : EO C (some e) (oS ma) := by
  obtain ⟨t, pt, vt⟩ := h
  refine ⟨_, fun X z => po_some (pt X z), fun ρ σ F H fps d Q e S k => ?_⟩
  obtain ⟨d0, e1, e⟩ := bind2 e
  obtain ⟨i, e2, rfl⟩ := map2 e
  exact vt ρ σ F H fps d0 _ e1 S fun v F1 H1 hd x1 => ⟨i, int?_v hd e2, k F1 H1 x1⟩
def cutD (ds : List PyData) (lo hi : Option Int) : List PyData := (ds.drop (HT.sIx ds.length 0 lo)).take (HT.sIx ds.length ds.length hi - HT.sIx ds.length 0 lo)
def list? : PyData → Option (List PyData)
  | .list ds => some ds
  | _ => none
theorem list?_inv {K : PySem.W.Frag} {H : Hp} {v : V} {d : PyData} {ds : List PyData} (h : Dp K H v d) (e : list? d = some ds) : ∃ p xs, v = .ref p ∧ SqL K H p xs ∧ DpAll K H xs ds := by
  cases h <;> simp only [list?] at e <;> cases e
  exact ⟨_, _, rfl, ‹_›, ‹_›⟩
def mSl (a : M PyData) (lo hi : M (Option Int)) : M R := fun ρ => (a ρ).bind fun d => (list? d).bind fun ds => (lo ρ).bind fun l => (hi ρ).bind fun h => some (.ol (cutD ds l h))
theorem ee_slice {lo hi : Option Expr} {ml mh : M (Option Int)} (h1 : EF C a ma) (h2 : EO C lo ml) (h3 : EO C hi mh) : EE C (.Subscript a (.Slice lo hi none p2) pos) (mSl ma ml mh) := by
  obtain ⟨ta, pa, va⟩ := h1
  obtain ⟨tl, pl, vl⟩ := h2
  obtain ⟨th, ph, vh⟩ := h3
  refine ⟨tSl (rSlL C.K) ta tl th, fun X h => by rw [← h.K]; exact pe_slice sl_list (pa X h) (pl X h) (ph X h), fun ρ σ F H fps d Q e S k => ?_⟩
  obtain ⟨d0, e0, e⟩ := bind2 e
  obtain ⟨ds, e1, e⟩ := bind2 e
  obtain ⟨l, e2, e⟩ := bind2 e
  obtain ⟨u, e3, e⟩ := bind2 e
  cases e
  refine va ρ σ F H fps d0 _ e0 S fun v F1 H1 hd x1 => ?_
  refine vl ρ σ F1 H1 fps l _ e2 (S.ex x1) fun F2 H2 x2 => ?_
  refine vh ρ σ F2 H2 fps u _ e3 ((S.ex x1).ex x2) fun F3 H3 x3 => ?_
  obtain ⟨q, xs, rfl, hs, ha⟩ := list?_inv hd e1
  refine ⟨q, xs, rfl, sql_mono ((x2.trans x3).ff.trans x3.fh) hs, fun r hr => ?_⟩
  have ha' := DpAll.up ha (x2.trans x3).ff
  have hc : DpAll C.K F3 (cutV xs l u) (cutD ds l u) := by
    unfold cutV cutD
    rw [DpAll.len ha]
    exact DpAll.take _ (DpAll.drop _ ha')
  exact k _ _ _ _ (new_ol ((x1.trans x2).trans x3) hr hc) (((x1.trans x2).trans x3).alloc hr)

theorem ef_cb {id : String} {r : List V → Hp → VK → Prop} {g : List PyData → Option Sc} {n : M (List PyData)} (hc : ∀ X, C.Has X → CallR X (.builtin id) r) (hr : ∀ H xs ds c Q, DpAll C.K H xs ds → g ds = some c → Q c.v H → r xs H Q)
    (hg : Glb C.sc x) (hm : C.mg x = none) (hv : bootBuiltins x = some (.builtin id)) (ha : EBA C (e :: es) n) (hn : x ≠ "__name__" := by decide) (hdb : (x == ("__debug__" : Str)) = false := by decide)
    (he : ∀ env : Env, starEach (e :: es) env = (false, eval e env) :: starEach es env := by intro _; rfl) (hpl : ∀ env : Env, (backTo pos (starEach es env)).any (·.1) = false := by intro _; rfl) : EF C (.Call (.Name x p) (e :: es) [] pos) (mA (fun x => (g x).map Sc.d) n) := by
  obtain ⟨t, pt, vt⟩ := ha
  exact ⟨tCB r t, fun X h => pe_callB (hc X h) (by unfold Gl Env.kindOf; rw [h.sc]; exact hg) (by rw [h.mg]; exact hm) hv (pt X h) hn hdb (he X.env) (hpl X.env), vf_cb vt hr⟩
theorem dp1 {K : PySem.W.Frag} {H : Hp} {xs : List V} {d : PyData} (h : DpAll K H xs [d]) : ∃ v, xs = [v] ∧ Dp K H v d := by
  cases h with
  | cons h t => cases t; exact ⟨_, rfl, h⟩
theorem dp2 {K : PySem.W.Frag} {H : Hp} {xs : List V} {d e : PyData} (h : DpAll K H xs [d, e]) : ∃ v u, xs = [v, u] ∧ Dp K H v d ∧ Dp K H u e := by
  cases h with
  | cons h t =>
    cases t with
    | cons h' t => cases t; exact ⟨_, _, rfl, h, h'⟩
def gLen : List PyData → Option Sc
  | [d] => (items? d).map fun ds => .int (ds.length : Nat)
  | _ => none
theorem ef_len {n : M (List PyData)} (ha : EBA C [e] n) (hm : C.mg "len" = none) (hg : Glb C.sc "len" := by rfl) (he : ∀ env : Env, starEach [e] env = (false, eval e env) :: starEach [] env := by intro _; rfl) :
    EF C (.Call (.Name "len" p) [e] [] pos) (mA (fun x => (gLen x).map Sc.d) n) := by
  refine ef_cb (r := fun xs H Q => ∃ p ys, xs = [.ref p] ∧ (SqL C.K H p ys ∨ SqT C.K H p ys) ∧ Q (.int ys.length) H) (fun X h => by rw [← h.K]; exact call_len_seq) (fun H xs ds z Q hd h q => ?_) hg hm PySem.boot_len ha (by decide) (by decide) he (by intro _; rfl)
  match ds, h with
  | [d], h =>
    obtain ⟨l, e1, rfl⟩ := map2 (show (items? d).map _ = some z from h)
    obtain ⟨v, rfl, hv⟩ := dp1 hd
    obtain ⟨q', xs, rfl, hs, ha⟩ := items?_inv hv e1
    exact ⟨q', xs, rfl, hs, by rw [DpAll.len ha]; exact q⟩
def gAbs : List PyData → Option Sc
  | [.int i] => some (.int (if i < 0 then -i else i))
  | _ => none
theorem ef_abs {n : M (List PyData)} (ha : EBA C [e] n) (hm : C.mg "abs" = none) (hg : Glb C.sc "abs" := by rfl) (he : ∀ env : Env, starEach [e] env = (false, eval e env) :: starEach [] env := by intro _; rfl) :
    EF C (.Call (.Name "abs" p) [e] [] pos) (mA (fun x => (gAbs x).map Sc.d) n) := by
  refine ef_cb (fun X h => call_abs) (fun H xs ds z Q hd h q => ?_) hg hm (by decide +kernel) ha (by decide) (by decide) he (by intro _; rfl)
  match ds, h with
  | [.int i], h =>
    cases h
    obtain ⟨v, rfl, hv⟩ := dp1 hd
    cases hv
    exact ⟨_, rfl, q⟩
def gMax : List PyData → Option Sc
  | [.int i, .int j] => some (.int (if j > i then j else i))
  | _ => none
theorem ef_max2 {n : M (List PyData)} (ha : EBA C [e, a] n) (hm : C.mg "max" = none) (hg : Glb C.sc "max" := by rfl) (he : ∀ env : Env, starEach [e, a] env = (false, eval e env) :: starEach [a] env := by intro _; rfl) (hpl : ∀ env : Env, (backTo pos (starEach [a] env)).any (·.1) = false := by intro _; rfl) :
    EF C (.Call (.Name "max" p) [e, a] [] pos) (mA (fun x => (gMax x).map Sc.d) n) := by
  refine ef_cb (fun X h => call_max2 h.calm) (fun H xs ds z Q hd h q => ?_) hg hm (by decide +kernel) ha (by decide) (by decide) he hpl
  match ds, h with
  | [.int i, .int j], h =>
    cases h
    obtain ⟨v, u, rfl, hv, hu⟩ := dp2 hd
    cases hv
    cases hu
    exact ⟨_, _, rfl, q⟩
def ints? : List PyData → Option (List Int)
  | [] => some []
  | .int i :: r => (ints? r).map (i :: ·)
  | _ => none
theorem ints?_inv {K : PySem.W.Frag} {H : Hp} : ∀ {ds : List PyData} {ns : List Int} {xs : List V}, ints? ds = some ns → DpAll K H xs ds → xs = ns.map V.int ∧ ds = ns.map PyData.int
  | [], ns, xs, e, h => by
    cases e
    cases h
    exact ⟨rfl, rfl⟩
  | .int i :: r, ns, xs, e, h => by
    obtain ⟨l, e1, rfl⟩ := map2 (show (ints? r).map _ = some ns from e)
    cases h with
    | cons h t =>
      cases h
      obtain ⟨rfl, rfl⟩ := ints?_inv e1 t
      exact ⟨rfl, rfl⟩
  | .none :: r, ns, xs, e, h => by cases e
  | .bool _ :: r, ns, xs, e, h => by cases e
  | .str _ :: r, ns, xs, e, h => by cases e
  | .list _ :: r, ns, xs, e, h => by cases e
  | .tuple _ :: r, ns, xs, e, h => by cases e
  | .dict _ :: r, ns, xs, e, h => by cases e
theorem ints?_map (ns : List Int) : ints? (ns.map PyData.int) = some ns := by
  induction ns with
  | nil => rfl
  | cons n r ih => show (ints? (r.map PyData.int)).map (n :: ·) = _; rw [ih]; rfl
def bls? : List PyData → Option (List Bool)
  | [] => some []
  | .bool i :: r => (bls? r).map (i :: ·)
  | _ => none
theorem bls?_inv {K : PySem.W.Frag} {H : Hp} : ∀ {ds : List PyData} {ns : List Bool} {xs : List V}, bls? ds = some ns → DpAll K H xs ds → xs = ns.map V.bl
  | [], ns, xs, e, h => by
    cases e
    cases h
    rfl
  | .bool i :: r, ns, xs, e, h => by
    obtain ⟨l, e1, rfl⟩ := map2 (show (bls? r).map _ = some ns from e)
    cases h with
    | cons h t =>
      cases h
      obtain rfl := bls?_inv e1 t
      rfl
  | .none :: r, ns, xs, e, h => by cases e
  | .int _ :: r, ns, xs, e, h => by cases e
  | .str _ :: r, ns, xs, e, h => by cases e
  | .list _ :: r, ns, xs, e, h => by cases e
  | .tuple _ :: r, ns, xs, e, h => by cases e
  | .dict _ :: r, ns, xs, e, h => by cases e
theorem bls?_map (ns : List Bool) : bls? (ns.map PyData.bool) = some ns := by
  induction ns with
  | nil => rfl
  | cons n r ih => show (bls? (r.map PyData.bool)).map (n :: ·) = _; rw [ih]; rfl
def gSum : List PyData → Option Sc
  | [d] => (list? d).bind fun ds => (ints? ds).map fun ns => .int ns.sum
  | _ => none
def gAny : List PyData → Option Sc
  | [d] => (list? d).bind fun ds => (bls? ds).map fun ns => .bl (ns.any id)
  | _ => none
def gAll : List PyData → Option Sc
  | [d] => (list? d).bind fun ds => (bls? ds).map fun ns => .bl (ns.all id)
  | _ => none
theorem ef_sum {n : M (List PyData)} (ha : EBA C [e] n) (hm : C.mg "sum" = none) (hg : Glb C.sc "sum" := by rfl) (he : ∀ env : Env, starEach [e] env = (false, eval e env) :: starEach [] env := by intro _; rfl) :
    EF C (.Call (.Name "sum" p) [e] [] pos) (mA (fun x => (gSum x).map Sc.d) n) := by
  refine ef_cb (r := rSum C.K) (fun X h => by rw [← h.K]; exact cr_sum h.calm) (fun H xs ds z Q hd h q => ?_) hg hm (by decide +kernel) ha (by decide) (by decide) he (by intro _; rfl)
  match ds, h with
  | [d], h =>
    obtain ⟨l, e1, h⟩ := bind2 (show (list? d).bind _ = some z from h)
    obtain ⟨ns, e2, rfl⟩ := map2 h
    obtain ⟨v, rfl, hv⟩ := dp1 hd
    obtain ⟨q', xs, rfl, hs, ha⟩ := list?_inv hv e1
    obtain ⟨rfl, rfl⟩ := ints?_inv e2 ha
    exact ⟨q', ns, rfl, hs, q⟩
theorem ef_any {n : M (List PyData)} (ha : EBA C [e] n) (hm : C.mg "any" = none) (hg : Glb C.sc "any" := by rfl) (he : ∀ env : Env, starEach [e] env = (false, eval e env) :: starEach [] env := by intro _; rfl) :
    EF C (.Call (.Name "any" p) [e] [] pos) (mA (fun x => (gAny x).map Sc.d) n) := by
  refine ef_cb (r := rAny C.K) (fun X h => by rw [← h.K]; exact cr_any h.calm) (fun H xs ds z Q hd h q => ?_) hg hm (by decide +kernel) ha (by decide) (by decide) he (by intro _; rfl)
  match ds, h with
  | [d], h =>
    obtain ⟨l, e1, h⟩ := bind2 (show (list? d).bind _ = some z from h)
    obtain ⟨ns, e2, rfl⟩ := map2 h
    obtain ⟨v, rfl, hv⟩ := dp1 hd
    obtain ⟨q', xs, rfl, hs, ha⟩ := list?_inv hv e1
    obtain rfl := bls?_inv e2 ha
    exact ⟨q', ns, rfl, hs, q⟩
theorem ef_all {n : M (List PyData)} (ha : EBA C [e] n) (hm : C.mg "all" = none) (hg : Glb C.sc "all" := by rfl) (he : ∀ env : Env, starEach [e] env = (false, eval e env) :: starEach [] env := by intro _; rfl) :
    EF C (.Call (.Name "all" p) [e] [] pos) (mA (fun x => (gAll x).map Sc.d) n) := by
  refine ef_cb (r := rAll C.K) (fun X h => by rw [← h.K]; exact cr_all h.calm) (fun H xs ds z Q hd h q => ?_) hg hm (by decide +kernel) ha (by decide) (by decide) he (by intro _; rfl)
  match ds, h with
  | [d], h =>
    obtain ⟨l, e1, h⟩ := bind2 (show (list? d).bind _ = some z from h)
    obtain ⟨ns, e2, rfl⟩ := map2 h
    obtain ⟨v, rfl, hv⟩ := dp1 hd
    obtain ⟨q', xs, rfl, hs, ha⟩ := list?_inv hv e1
    obtain rfl := bls?_inv e2 ha
    exact ⟨q', ns, rfl, hs, q⟩

inductive Ty where
  | int | bool | str | list | tuple | dict
def Ty.s : Ty → String
  | .int => "int" | .bool => "bool" | .str => "str" | .list => "list" | .tuple => "tuple" | .dict => "dict"
def isiD : PyData → Ty → Bool
  | .int _, .int => true
  | .bool _, .int => true
  | .bool _, .bool => true
  | .str _, .str => true
  | .list _, .list => true
  | .tuple _, .tuple => true
  | .dict _, .dict => true
  | _, _ => false
def isi? (d : PyData) (T : Ty) : Option PyData := match d with
  | .dict _ => none
  | d => some (.bool (isiD d T))
theorem isi?_inv {d z : PyData} {T : Ty} (e : isi? d T = some z) : (∀ l, d ≠ .dict l) ∧ z = .bool (isiD d T) := by
  cases d <;> simp only [isi?] at e <;> cases e <;> exact ⟨fun l => by simp, rfl⟩
theorem kit_int (K : PySem.W.Frag) (T : Ty) (i : Int) : PySem.W.kitOne K (.type "int") (.type T.s) = some (isiD (.int i) T) := by cases T <;> rfl
theorem kit_bool (K : PySem.W.Frag) (T : Ty) (i : Bool) : PySem.W.kitOne K (.type "bool") (.type T.s) = some (isiD (.bool i) T) := by cases T <;> rfl
theorem kit_none (K : PySem.W.Frag) (T : Ty) : PySem.W.kitOne K (.type "NoneType") (.type T.s) = some (isiD .none T) := by cases T <;> rfl
theorem kit_str (K : PySem.W.Frag) (T : Ty) (i : Str) : PySem.W.kitOne K (.type "str") (.type T.s) = some (isiD (.str i) T) := by cases T <;> rfl
theorem kit_list (K : PySem.W.Frag) (T : Ty) (i : List PyData) : PySem.W.kitOne K (.type "list") (.type T.s) = some (isiD (.list i) T) := by cases T <;> rfl
theorem kit_tuple (K : PySem.W.Frag) (T : Ty) (i : List PyData) : PySem.W.kitOne K (.type "tuple") (.type T.s) = some (isiD (.tuple i) T) := by cases T <;> rfl
theorem call_isi (X : Cx) : CallR X (.builtin "isinstance") (fun xs H Q => ∃ (v : V) (d : PyData) (T : Ty), xs = [v, .ty T.s] ∧ Dp X.K H v d ∧ (∀ l, d ≠ .dict l) ∧ Q (.bl (isiD d T)) H) := by
  intro pins s σ H xs us Q I r h
  obtain ⟨v, d, T, rfl, hd, nob, q⟩ := h
  cases r with
  | cons r1 r2 =>
    cases r2 with
    | cons r2 r3 =>
      cases r3
      cases r2
      have fin : ∀ tk, EP X pins σ Q (.bool (isiD d T)) { s with toks := tk } := fun tk => ⟨.bl _, H, I.tok _, rfl, q⟩
      cases hd with
      | non => exact isinst_ok I r1 .non (kit_none _ T) fin
      | bl b => exact isinst_ok I r1 (.bl b) (kit_bool _ T b) fin
      | int i => exact isinst_ok I r1 (.int i) (kit_int _ T i) fin
      | str z => exact isinst_ok I r1 (.str z) (kit_str _ T z) fin
      | lst hs ha =>
        rcases hs with (hs | ⟨o, hs⟩) | ⟨o, its, n, h1, h2, _⟩
        · exact isinst_ok I r1 (.lst hs) (kit_list _ T _) fin
        · exact isinst_ok I r1 (.frz hs) (kit_list _ T _) fin
        · cases r1
          exact PySem.W.kia_one PySem.W.kitx_list I.kIn ⟨o, I.kIn _ _ h1, h2⟩ (kit_list _ T _) (fun z => nomatch z) fin
      | ob _ _ => exact absurd rfl (nob _)
      | tup hs ha =>
        rcases hs with (hs | ⟨o, hs⟩) | ⟨o, its, n, h1, h2, _⟩
        · exact isinst_ok I r1 (.tup hs) (kit_tuple _ T _) fin
        · cases r1
          obtain ⟨_, _, _, _, pp⟩ := (show ObjOk X.prog X.w H s.heap _ (.frz o (.tup _)) from I.hok _ _ hs)
          obtain ⟨o', h1, h2, _⟩ := pp
          exact PySem.W.kia_one PySem.W.kitx_tuple I.kIn ⟨o', h1, h2⟩ (kit_tuple _ T _) (fun z => nomatch z) fin
        · cases r1
          exact PySem.W.kia_one PySem.W.kitx_tuple I.kIn ⟨o, I.kIn _ _ h1, h2⟩ (kit_tuple _ T _) (fun z => nomatch z) fin
theorem ef_isi (T : Ty) {y : Str} (h : EB C e ma) (hm : C.mg "isinstance" = none) (hmT : C.mg y = none) (hT : bootBuiltins y = some (.type T.s)) (hg : Glb C.sc "isinstance" := by rfl) (hgT : Glb C.sc y := by rfl)
    (hn : y ≠ "__name__" := by decide) (hdb : (y == ("__debug__" : Str)) = false := by decide)
    (he : ∀ env : Env, starEach [e, .Name y p2] env = (false, eval e env) :: starEach [.Name y p2] env := by intro _; rfl) : EF C (.Call (.Name "isinstance" p) [e, .Name y p2] [] pos) (m1 (fun d => isi? d T) ma) := by
  obtain ⟨t, pt, vt⟩ := h
  refine ⟨tCB (fun xs H Q => ∃ (v : V) (d : PyData) (T : Ty), xs = [v, .ty T.s] ∧ Dp C.K H v d ∧ (∀ l, d ≠ .dict l) ∧ Q (.bl (isiD d T)) H) (tCons t (tCons (tC (.ty T.s)) tNil)), fun X h => ?_, fun ρ σ F H fps d Q e S k => ?_⟩
  · rw [← h.K]
    refine pe_callB (call_isi X) (by unfold Gl Env.kindOf; rw [h.sc]; exact hg) (by rw [h.mg]; exact hm) (by decide +kernel) (pa_cons (pt X h) (pa_cons (pe_bltn (v := .ty T.s) (by unfold Gl Env.kindOf; rw [h.sc]; exact hgT) (by rw [h.mg]; exact hmT) hT rfl hn hdb) pa_nil (by rfl)) (he X.env)) (by decide) (by decide) (he X.env) (by rfl)
  · obtain ⟨d0, e1, e⟩ := bind2 e
    obtain ⟨nob, rfl⟩ := isi?_inv e
    exact vt ρ σ F H fps d0 _ e1 S fun v F1 H1 hd x1 => ⟨v, d0, T, rfl, hd, nob, k _ F1 H1 (.bl _) x1⟩

def mList (n : M (List PyData)) : M R := fun ρ => (n ρ).bind fun xs => match xs with
  | [d] => (items? d).map R.ol
  | _ => none
theorem ee_list_of {n : M (List PyData)} (h : EFA C [e] n) (hm : C.mg "list" = none) (hg : Glb C.sc "list" := by rfl) (he : ∀ env : Env, starEach [e] env = (false, eval e env) :: starEach [] env := by intro _; rfl) :
    EE C (.Call (.Name "list" p) [e] [] pos) (mList n) := by
  obtain ⟨t, pt, vt⟩ := h
  refine ⟨tCB (fun xs H Q => ∃ p ys, xs = [.ref p] ∧ (SqL C.K H p ys ∨ SqT C.K H p ys) ∧ ∀ l, H l = none → Q (.ref l) (upd H l (.lst ys))) t, fun X h => by rw [← h.K]; exact pe_callTy call_list_of (by unfold Gl Env.kindOf; rw [h.sc]; exact hg) (by rw [h.mg]; exact hm) (by decide +kernel) (pt X h) (by decide) (by decide) (he X.env) (by rfl), fun ρ σ F H fps r Q e S k => ?_⟩
  obtain ⟨ds, e1, e⟩ := bind2 e
  match ds, e with
  | [d], e =>
    obtain ⟨l, e2, rfl⟩ := map2 (show (items? d).map R.ol = some r from e)
    refine vt ρ σ F H fps [d] _ e1 S fun vs F1 H1 hd x1 => ?_
    obtain ⟨v, rfl, hv⟩ := dp1 hd
    obtain ⟨q', xs, rfl, hs, ha⟩ := items?_inv hv e2
    exact ⟨q', xs, rfl, hs.imp (sql_mono x1.fh) (sqt_mono x1.fh), fun l hl => k _ _ _ _ (new_ol x1 hl ha) (x1.alloc hl)⟩

def spOf (K : PySem.W.Frag) (n : Nat) (f : List PyData → Option R) : Sp := fun vs H Q _ => ∃ F ds r, vs.length = n ∧ Same F H ∧ DpAll K F vs ds ∧ f ds = some r ∧ ∀ v F' H' fp, New K H F' H' r v fp → Ex F H F' H' → Q v H'
structure Def (P : Program) (w : World) (K : PySem.W.Frag) (mg : Str → Option Value) (base : Heap) (k : Nat) (x : Str) (n : Nat) (f : List PyData → Option R) : Prop where
  ex : ∃ (fa : Addr) (fd : FuncData) (ps : List Str), FnOk P w K mg base CX0 k fa fd ps (spOf K n f) ∧ mg x = some (.ref fa) ∧ PySem.W.keepIn K (.ref fa) = true ∧ Binds K fd ps []
def LenA (n : Nat) (m : M (List PyData)) : Prop := ∀ ρ ds, m ρ = some ds → ds.length = n
theorem lenA_nil : LenA 0 aN := fun ρ ds e => by cases e; rfl
theorem lenA_cons {n : Nat} {m : M (List PyData)} (h : LenA n m) : LenA (n + 1) (aC ma m) := fun ρ ds e => by
  obtain ⟨d, e1, e⟩ := bind2 e
  obtain ⟨r, e2, e⟩ := bind2 e
  cases e
  exact congrArg (· + 1) (h ρ r e2)
def mCall (f : List PyData → Option R) (a : M (List PyData)) : M R := fun ρ => (a ρ).bind f
theorem ee_call {n : Nat} {f : List PyData → Option R} {m : M (List PyData)} (G : Def C.P C.w C.K C.mg C.base C.k x n f) (h : EFA C (e :: es) m) (hn : (e :: es).length = n := by rfl) (hg : Glb C.sc x := by rfl) (hdb : (x == ("__debug__" : Str)) = false := by decide)
    (he : ∀ env : Env, starEach (e :: es) env = (false, eval e env) :: starEach es env := by intro _; rfl) (hpl : ∀ env : Env, (backTo pos (starEach es env)).any (·.1) = false := by intro _; rfl)
    (hlen : LenA n m := by (repeat (first | exact lenA_nil | apply lenA_cons))) : EE C (.Call (.Name x p) (e :: es) [] pos) (mCall f m) := by
  obtain ⟨t, pt, vt⟩ := h
  obtain ⟨fa, fd, ps, F, hm, kp, bi⟩ := G.ex
  refine ⟨tCall (spOf C.K n f) [] (fun _ _ _ => False) t, fun X h => ?_, fun ρ σ F H fps r Q e S k => ?_⟩
  · have F' : FnOk X.prog X.w X.K X.mg X.base CX0 C.k fa fd ps (spOf C.K n f) := by rw [h.p, h.w, h.K, h.mg, h.base]; exact F
    exact pe_call F' h.room (by unfold Gl Env.kindOf; rw [h.sc]; exact hg) (by rw [h.mg]; exact hm) (by rw [h.K]; exact kp) (by rw [h.K]; exact bi) .nil (fun _ _ _ _ _ _ _ h => h.elim) (pt X h) hdb (he X.env) (hpl X.env)
  · obtain ⟨ds, e1, e⟩ := bind2 e
    refine vt ρ σ F H fps ds _ e1 S fun vs F1 H1 hd x1 => ?_
    show spOf C.K n f (vs ++ []) H1 Q _
    rw [List.append_nil]
    exact ⟨F1, ds, r, by rw [DpAll.len hd]; exact hlen ρ ds e1, x1.fh, hd, e, fun v F2 H2 fp nw x2 => k v F2 H2 fp (nw.back x1.hh) (x1.trans x2)⟩
end Vs

namespace Vs
open PySem PySem.Spec PyProof.Rows L2
variable {C : Ct} {pos p p2 apos cpos : Pos} {e a b c tg iter : Expr} {es : List Expr} {x : Str} {ma mb mc : M PyData} {mt ms : M Bool}

def fput (fps : Nat → List Addr) (i : Nat) (fp : List Addr) : Nat → List Addr := fun j => if j = i then fp else fps j
theorem fput_at {fps : Nat → List Addr} {i : Nat} {fp : List Addr} : fput fps i fp i = fp := if_pos rfl
theorem fput_ne {fps : Nat → List Addr} {i j : Nat} {fp : List Addr} (h : j ≠ i) : fput fps i fp j = fps j := if_neg h
theorem Stt.put {K : PySem.W.Frag} {F H : Hp} {ρ : En} {σ : L2.St} {fps : Nat → List Addr} (S : Stt K F H ρ σ fps) {i : Nat} {r : R} {v : V} {fp : List Addr} (o : Own K F H r v fp) (nd : fp.Nodup) (fr : ∀ p ∈ fp, F p = none ∧ ∀ j, j ≠ i → p ∉ fps j) :
    Stt K F H (ρ.set i (some r)) (σ.set i (some v)) (fput fps i fp) := by
  refine ⟨by rw [List.length_set, List.length_set]; exact S.len, fun j r' e => ?_, fun j k q h1 h2 => ?_, fun j => ?_, fun j q hq => ?_, S.fh⟩
  · by_cases hj : j = i
    · subst hj
      by_cases hl : j < ρ.length
      · rw [List.getElem?_set_self hl] at e
        cases e
        rw [fput_at]
        exact ⟨v, by rw [List.getElem?_set_self (by rw [← S.len]; exact hl)], o⟩
      · rw [List.getElem?_eq_none (by rw [List.length_set]; omega)] at e
        cases e
    · rw [List.getElem?_set_ne (Ne.symm hj)] at e ⊢
      rw [fput_ne hj]
      exact S.own j r' e
  · by_cases hj : j = i
    · by_cases hk : k = i
      · rw [hj, hk]
      · subst hj
        rw [fput_at] at h1
        rw [fput_ne hk] at h2
        exact absurd h2 ((fr q h1).2 k hk)
    · by_cases hk : k = i
      · subst hk
        rw [fput_at] at h2
        rw [fput_ne hj] at h1
        exact absurd h1 ((fr q h2).2 j hj)
      · rw [fput_ne hj] at h1
        rw [fput_ne hk] at h2
        exact S.dis j k q h1 h2
  · by_cases hj : j = i
    · subst hj; rw [fput_at]; exact nd
    · rw [fput_ne hj]; exact S.nd j
  · by_cases hj : j = i
    · subst hj; rw [fput_at] at hq; exact ⟨(fr q hq).1, o.live q hq⟩
    · rw [fput_ne hj] at hq; exact S.fre j q hq
theorem Stt.drop {K : PySem.W.Frag} {F H : Hp} {ρ : En} {σ : L2.St} {fps : Nat → List Addr} (S : Stt K F H ρ σ fps) (i : Nat) (o : Option V) : Stt K F H (ρ.set i none) (σ.set i o) fps :=
  ⟨by rw [List.length_set, List.length_set]; exact S.len, fun j r e => by
    by_cases hj : j = i
    · subst hj
      by_cases hl : j < ρ.length
      · rw [List.getElem?_set_self hl] at e; cases e
      · rw [List.getElem?_eq_none (by rw [List.length_set]; omega)] at e; cases e
    · rw [List.getElem?_set_ne (Ne.symm hj)] at e ⊢
      exact S.own j r e, S.dis, S.nd, S.fre, S.fh⟩
def wip (ρ : En) : List Nat → En
  | [] => ρ
  | v :: vs => (wip ρ vs).set v none
theorem Stt.wip {K : PySem.W.Frag} {F H : Hp} {ρ : En} {σ : L2.St} {fps : Nat → List Addr} (S : Stt K F H ρ σ fps) : ∀ vs : List Nat, Stt K F H (Vs.wip ρ vs) (wipe σ vs) fps
  | [] => S
  | v :: vs => (Stt.wip S vs).drop v none
theorem wipe_set_out {σ : L2.St} {i : Nat} {o : Option V} : ∀ {vs : List Nat}, i ∉ vs → wipe (σ.set i o) vs = (wipe σ vs).set i o
  | [], _ => rfl
  | v :: vs, h => by
    show (wipe (σ.set i o) vs).set v none = ((wipe σ vs).set v none).set i o
    rw [wipe_set_out (fun z => h (List.mem_cons_of_mem _ z)), List.set_comm]
    intro z; subst z; exact h List.mem_cons_self
theorem wipe_set {σ : L2.St} {i : Nat} {o : Option V} : ∀ {vs : List Nat}, i ∈ vs → wipe (σ.set i o) vs = wipe σ vs
  | [], h => by simp at h
  | v :: vs, h => by
    show (wipe (σ.set i o) vs).set v none = (wipe σ vs).set v none
    by_cases hi : i ∈ vs
    · rw [wipe_set hi]
    · obtain rfl : i = v := by rcases List.mem_cons.mp h with z | z; exact z; exact absurd z hi
      rw [wipe_set_out hi, List.set_set]
theorem wipe_idem {σ : L2.St} : ∀ {vs us : List Nat}, (∀ v ∈ us, v ∈ vs) → wipe (wipe σ us) vs = wipe σ vs
  | vs, [], _ => rfl
  | vs, u :: us, h => by
    show wipe ((wipe σ us).set u none) vs = wipe σ vs
    rw [wipe_set (h u List.mem_cons_self), wipe_idem fun v hv => h v (List.mem_cons_of_mem _ hv)]

def VG (K : PySem.W.Frag) (g : TG) (is : List Nat) (m : PyData → En → Option En) : Prop := ∀ d v ρ ρ' σ F H fps Q, m d ρ = some ρ' → Dp K F v d → Stt K F H ρ σ fps →
  (∀ σ' fps', Stt K F H ρ' σ' fps' → (∀ j, ∀ q ∈ fps' j, q ∈ fps j) → (∀ vs : List Nat, (∀ i ∈ is, i ∈ vs) → wipe σ' vs = wipe σ vs) → Q σ' H) → g v σ H Q
def VGs (K : PySem.W.Frag) (g : TGs) (is : List Nat) (m : List PyData → En → Option En) : Prop := ∀ ds vs ρ ρ' σ F H fps Q, m ds ρ = some ρ' → DpAll K F vs ds → Stt K F H ρ σ fps →
  (∀ σ' fps', Stt K F H ρ' σ' fps' → (∀ j, ∀ q ∈ fps' j, q ∈ fps j) → (∀ vs : List Nat, (∀ i ∈ is, i ∈ vs) → wipe σ' vs = wipe σ vs) → Q σ' H) → g vs σ H Q
def EG (C : Ct) (tg : Expr) (is : List Nat) (m : PyData → En → Option En) : Prop := ∃ g, (∀ X, C.Has X → PG X tg g) ∧ VG C.K g is m
def EGs (C : Ct) (tgs : List Expr) (is : List Nat) (m : List PyData → En → Option En) : Prop := ∃ g, (∀ X, C.Has X → PGs X tgs g) ∧ VGs C.K g is m
def gN (i : Nat) : PyData → En → Option En := fun d ρ => some (ρ.set i (some (.f d)))
theorem vg_name {K : PySem.W.Frag} {i : Nat} : VG K (gName i) [i] (gN i) := fun d v ρ ρ' σ F H fps Q e hd S k => by
  cases e
  refine k _ (fput fps i []) (S.put (.f hd) .nil fun p hp => by simp at hp) (fun j q hq => ?_) fun vs h => wipe_set (h i (by simp))
  by_cases hj : j = i
  · subst hj; rw [fput_at] at hq; simp at hq
  · rw [fput_ne hj] at hq; exact hq
theorem eg_name (i : Nat) (nd : C.N.Nodup) (hN : C.N[i]? = some x := by rfl) (hl : C.Lc x := by first | exact .inl rfl | exact .inr ⟨rfl, rfl⟩) : EG C (.Name x pos) [i] (gN i) :=
  ⟨_, fun X h => pg_name (i := i) (by rw [h.N]; exact nd) (by rw [h.N]; exact hN) (by rw [h.sc]; exact hl.loc) (by rw [h.sc, h.fn]; exact hl.fn), vg_name⟩
def gsN : List PyData → En → Option En
  | [], ρ => some ρ
  | _ :: _, _ => none
def gsC (g : PyData → En → Option En) (t : List PyData → En → Option En) : List PyData → En → Option En
  | [], _ => none
  | d :: ds, ρ => (g d ρ).bind (t ds)
theorem egs_nil : EGs C [] [] gsN := ⟨_, fun _ _ => pgs_nil, fun ds vs ρ ρ' σ F H fps Q e hd S k => by
  cases hd with
  | nil => cases e; exact ⟨rfl, k σ fps S (fun _ _ h => h) fun _ _ => rfl⟩
  | cons _ _ => cases e⟩
theorem egs_cons {is js : List Nat} {g : PyData → En → Option En} {t : List PyData → En → Option En} (h1 : EG C e is g) (h2 : EGs C es js t)
    (hs : ∀ env : Env, (assignEach (e :: es) env).map (·.2) = assign e env :: (assignEach es env).map (·.2) := by intro _; rfl) : EGs C (e :: es) (is ++ js) (gsC g t) := by
  obtain ⟨g1, p1, v1⟩ := h1
  obtain ⟨g2, p2, v2⟩ := h2
  refine ⟨_, fun X h => pgs_cons (p1 X h) (p2 X h) (hs X.env), fun ds vs ρ ρ' σ F H fps Q e hd S k => ?_⟩
  cases hd with
  | nil => cases e
  | cons hd ht =>
    obtain ⟨ρ1, e1, e⟩ := bind2 e
    refine ⟨_, _, rfl, v1 _ _ ρ ρ1 σ F H fps _ e1 hd S fun σ1 fps1 S1 s1 w1 => ?_⟩
    refine v2 _ _ ρ1 ρ' σ1 F H fps1 _ e ht S1 fun σ2 fps2 S2 s2 w2 => k σ2 fps2 S2 (fun j q hq => s1 j q (s2 j q hq)) fun vs h => ?_
    rw [w2 vs fun i hi => h i (List.mem_append_right _ hi), w1 vs fun i hi => h i (List.mem_append_left _ hi)]
def gT (n : Nat) (t : List PyData → En → Option En) : PyData → En → Option En
  | .tuple ds, ρ => if ds.length = n then t ds ρ else none
  | _, _ => none
theorem eg_tup {is : List Nat} {n kk : Nat} {t : List PyData → En → Option En} (h : EGs C es is t) (hn : ∀ env : Env, (assignEach es env).length = n := by intro _; rfl) (hst : ∀ env : Env, (assignEach es env).findIdx? (·.1) = none := by intro _; rfl) :
    EG C (.Tuple es kk pos) is (gT n t) := by
  obtain ⟨g, pg, vg⟩ := h
  refine ⟨gTup C.K n g, fun X h => by rw [← h.K]; exact pg_tup h.calm (pg X h) (hn X.env) (hst X.env), fun d v ρ ρ' σ F H fps Q e hd S k => ?_⟩
  cases hd with
  | tup hs ha =>
    have e : (if _ then _ else none) = some ρ' := e
    split at e
    · rename_i hl
      exact ⟨_, _, rfl, sqt_mono S.fh hs, by rw [DpAll.len ha]; exact hl, vg _ _ ρ ρ' σ F H fps Q e ha S k⟩
    · cases e
  | _ => cases e

structure Yld (K : PySem.W.Frag) (F : Hp) (J : It) (ds : List PyData) : Prop where
  go : ∀ F' H i, Same F F' → Same F' H → i < ds.length → J.go i H
  yl : ∀ F' H i d x H', Same F F' → Same F' H → ds[i]? = some d → J.yld i H x H' → ∃ F'', Dp K F'' x d ∧ Ex F' H F'' H'
  st : ∀ F' H, Same F F' → Same F' H → J.stop ds.length H
def VI (K : PySem.W.Frag) (wi : TI) (m : M (List PyData)) : Prop := ∀ ρ σ F H fps ds R', m ρ = some ds → Stt K F H ρ σ fps → (∀ J F' H', Yld K F' J ds → Ex F H F' H' → R' J H') → wi σ H R'
def EI (C : Ct) (tg iter : Expr) (m : M (List PyData)) : Prop := ∃ wi, (∀ X, C.Has X → PI X tg iter wi) ∧ VI C.K wi m
def mIt (m : M PyData) : M (List PyData) := fun ρ => (m ρ).bind list?
theorem ei_list (h : EF C iter ma) : EI C tg iter (mIt ma) := by
  obtain ⟨t, pt, vt⟩ := h
  refine ⟨iList C.K t, fun X h => by rw [← h.K]; exact pi_list (pt X h), fun ρ σ F H fps ds R' e S k => ?_⟩
  obtain ⟨d, e1, e⟩ := bind2 e
  refine vt ρ σ F H fps d _ e1 S fun v F1 H1 hd x1 => ?_
  obtain ⟨q, xs, rfl, hs, ha⟩ := list?_inv hd e
  refine ⟨q, rfl, ⟨xs, sql_mono x1.fh hs⟩, k _ F1 H1 ⟨fun F' H' i s1 s2 hi => ?_, fun F' H' i d' y H2 s1 s2 hi yl => ?_, fun F' H' s1 s2 => ?_⟩ x1⟩
  · obtain ⟨w, hw, _⟩ := DpAll.get ha (i := i) (d := ds[i]) (by simp [hi])
    exact ⟨xs, w, sql_mono (s1.trans s2) hs, hw⟩
  · obtain ⟨rfl, yl⟩ := yl
    have hy := yl xs (sql_mono (s1.trans s2) hs)
    obtain ⟨w, hw, hd'⟩ := DpAll.get ha hi
    rw [hy] at hw
    cases hw
    exact ⟨F', Dp.up hd' s1, .refl s2⟩
  · exact ⟨xs, sql_mono (s1.trans s2) hs, by rw [DpAll.len ha]; exact Nat.le_refl _⟩
def rngD (lo : Int) : Nat → List PyData
  | 0 => []
  | n + 1 => .int lo :: rngD (lo + 1) n
theorem rngD_len (n : Nat) : ∀ lo : Int, (rngD lo n).length = n := by
  induction n with
  | zero => intro _; rfl
  | succ n ih => intro lo; show (rngD (lo + 1) n).length + 1 = n + 1; rw [ih]
theorem rngD_get {d : PyData} (n : Nat) : ∀ (lo : Int) (i : Nat), (rngD lo n)[i]? = some d → d = .int (lo + i) := by
  induction n with
  | zero => intro lo i h; simp [rngD] at h
  | succ n ih =>
    intro lo i h
    cases i with
    | zero => simp [rngD] at h; rw [← h]; simp
    | succ i =>
      have := ih (lo + 1) i (by simpa [rngD] using h)
      rw [this]
      congr 1
      omega
theorem yld_rng {K : PySem.W.Frag} {F : Hp} {lo : Int} {n : Nat} : Yld K F (Itr lo n) (rngD lo n) := by
  refine ⟨fun F' H i _ _ hi => ?_, fun F' H i d x H' s1 s2 hi yl => ?_, fun F' H _ _ => ?_⟩
  · rw [rngD_len] at hi; exact hi
  · obtain ⟨rfl, rfl⟩ := yl
    rw [rngD_get n lo i hi]
    exact ⟨F', .int _, .refl s2⟩
  · show n ≤ (rngD lo n).length
    rw [rngD_len]
    exact Nat.le_refl _
def mRg1 (m : M (List PyData)) : M (List PyData) := fun ρ => (m ρ).bind fun ds => match ds with
  | [.int j] => if -1000000 ≤ j ∧ j ≤ 1000000 then some (rngD 0 j.toNat) else none
  | _ => none
def mRg2 (m : M (List PyData)) : M (List PyData) := fun ρ => (m ρ).bind fun ds => match ds with
  | [.int i, .int j] => if (-1000000 ≤ i ∧ i ≤ 1000000) ∧ -1000000 ≤ j ∧ j ≤ 1000000 then some (rngD i (j - i).toNat) else none
  | _ => none
theorem ei_rng1 {n : M (List PyData)} (h : EBA C [a] n) (hm : C.mg "range" = none) (hg : Glb C.sc "range" := by rfl) (hs : ∀ env : Env, starEach [a] env = [(false, eval a env)] := by intro _; rfl) : EI C tg (.Call (.Name "range" p) [a] [] pos) (mRg1 n) := by
  obtain ⟨t, pt, vt⟩ := h
  refine ⟨iRng1 t, fun X h => pi_range1 (by unfold Gl Env.kindOf; rw [h.sc]; exact hg) (by rw [h.mg]; exact hm) (pt X h) (hs X.env), fun ρ σ F H fps ds R' e S k => ?_⟩
  obtain ⟨l, e1, e⟩ := bind2 e
  match l, e with
  | [.int j], e =>
    obtain ⟨hj, rfl⟩ := iteS (show (if -1000000 ≤ j ∧ j ≤ 1000000 then some (rngD 0 j.toNat) else none) = some ds from e)
    refine vt ρ σ F H fps _ _ e1 S fun vs F1 H1 hd x1 => ?_
    obtain ⟨v, rfl, hv⟩ := dp1 hd
    cases hv
    exact ⟨j, rfl, by omega, by omega, k _ F1 H1 yld_rng x1⟩
theorem ei_rng2 {n : M (List PyData)} (h : EBA C [a, b] n) (hm : C.mg "range" = none) (hg : Glb C.sc "range" := by rfl) (hs : ∀ env : Env, starEach [a, b] env = [(false, eval a env), (false, eval b env)] := by intro _; rfl) (hs2 : ∀ env : Env, starEach [b] env = [(false, eval b env)] := by intro _; rfl) :
    EI C tg (.Call (.Name "range" p) [a, b] [] pos) (mRg2 n) := by
  obtain ⟨t, pt, vt⟩ := h
  refine ⟨iRng2 t, fun X h => pi_range2 (by unfold Gl Env.kindOf; rw [h.sc]; exact hg) (by rw [h.mg]; exact hm) (pt X h) (hs X.env) (hs2 X.env), fun ρ σ F H fps ds R' e S k => ?_⟩
  obtain ⟨l, e1, e⟩ := bind2 e
  match l, e with
  | [.int i, .int j], e =>
    obtain ⟨hj, rfl⟩ := iteS (show (if (-1000000 ≤ i ∧ i ≤ 1000000) ∧ -1000000 ≤ j ∧ j ≤ 1000000 then some (rngD i (j - i).toNat) else none) = some ds from e)
    refine vt ρ σ F H fps _ _ e1 S fun vs F1 H1 hd x1 => ?_
    obtain ⟨v, u, rfl, hv, hu⟩ := dp2 hd
    cases hv
    cases hu
    exact ⟨i, j, rfl, by omega, k _ F1 H1 yld_rng x1⟩
def enumD : Nat → List PyData → List PyData
  | _, [] => []
  | i, d :: ds => .tuple [.int (i : Nat), d] :: enumD (i + 1) ds
theorem enumD_len : ∀ (ds : List PyData) (i : Nat), (enumD i ds).length = ds.length
  | [], _ => rfl
  | d :: ds, i => congrArg (· + 1) (enumD_len ds (i + 1))
theorem enumD_get {z : PyData} : ∀ (ds : List PyData) (i j : Nat), (enumD i ds)[j]? = some z → ∃ d, ds[j]? = some d ∧ z = .tuple [.int (i + j : Nat), d]
  | [], i, j, h => by simp [enumD] at h
  | d :: ds, i, 0, h => by
    simp [enumD] at h
    exact ⟨d, rfl, by rw [← h]; simp⟩
  | d :: ds, i, j + 1, h => by
    obtain ⟨d', h1, h2⟩ := enumD_get ds (i + 1) j (by simpa [enumD] using h)
    refine ⟨d', by simpa using h1, ?_⟩
    rw [h2]
    congr 3
    omega
def mEnum (n : M (List PyData)) : M (List PyData) := fun ρ => (n ρ).bind fun l => match l with
  | [d] => (list? d).map (enumD 0)
  | _ => none
theorem ei_enum {n : M (List PyData)} {kk : Nat} {tpos : Pos} (h : EFA C [a] n) (hm : C.mg "enumerate" = none) (hg : Glb C.sc "enumerate" := by rfl) (hs : ∀ env : Env, starEach [a] env = [(false, eval a env)] := by intro _; rfl) :
    EI C (.Tuple es kk tpos) (.Call (.Name "enumerate" p) [a] [] pos) (mEnum n) := by
  obtain ⟨t, pt, vt⟩ := h
  refine ⟨iEnum C.K t, fun X h => by rw [← h.K]; exact pi_enum (by unfold Gl Env.kindOf; rw [h.sc]; exact hg) (by rw [h.mg]; exact hm) (pt X h) (hs X.env), fun ρ σ F H fps ds R' e S k => ?_⟩
  obtain ⟨l, e1, e⟩ := bind2 e
  match l, e with
  | [d], e =>
    obtain ⟨ds0, e2, rfl⟩ := map2 (show (list? d).map (enumD 0) = some ds from e)
    refine vt ρ σ F H fps _ _ e1 S fun vs F1 H1 hd x1 => ?_
    obtain ⟨v, rfl, hv⟩ := dp1 hd
    obtain ⟨q, xs, rfl, hs, ha⟩ := list?_inv hv e2
    refine ⟨q, xs, rfl, sql_mono x1.fh hs, k _ F1 H1 ⟨fun F' H' i s1 s2 hi => ?_, fun F' H' i d' y H2 s1 s2 hi yl => ?_, fun F' H' s1 s2 => ?_⟩ x1⟩
    · rw [enumD_len] at hi
      obtain ⟨w, hw, _⟩ := DpAll.get ha (i := i) (d := ds0[i]) (by simp [hi])
      exact ⟨xs, w, sql_mono (s1.trans s2) hs, hw⟩
    · obtain ⟨T, z, rfl, hT, rfl, yl⟩ := yl
      have hy := yl xs (sql_mono (s1.trans s2) hs)
      obtain ⟨d0, h1, rfl⟩ := enumD_get ds0 0 i hi
      obtain ⟨w, hw, hd'⟩ := DpAll.get ha h1
      rw [hy] at hw
      cases hw
      have hz := fz_tup (K := C.K) (Ex.refl s2) hT (DpAll.cons (Dp.int ((i : Nat) : Int)) (DpAll.cons (Dp.up hd' s1) .nil))
      refine ⟨_, ?_, hz.2⟩
      rw [Nat.zero_add]
      exact hz.1
    · exact ⟨xs, sql_mono (s1.trans s2) hs, by rw [enumD_len, DpAll.len ha]; exact Nat.le_refl _⟩
def zipD : List PyData → List PyData → List PyData
  | d :: ds, e :: es => .tuple [d, e] :: zipD ds es
  | _, _ => []
theorem zipD_len : ∀ ds es : List PyData, (zipD ds es).length = min ds.length es.length
  | [], _ => by simp [zipD]
  | _ :: _, [] => by simp [zipD]
  | d :: ds, e :: es => by
    show (zipD ds es).length + 1 = min (ds.length + 1) (es.length + 1)
    rw [zipD_len ds es]
    omega
theorem zipD_get {z : PyData} : ∀ (ds es : List PyData) (j : Nat), (zipD ds es)[j]? = some z → ∃ d e, ds[j]? = some d ∧ es[j]? = some e ∧ z = .tuple [d, e]
  | [], _, j, h => by simp [zipD] at h
  | _ :: _, [], j, h => by simp [zipD] at h
  | d :: ds, e :: es, 0, h => by
    simp [zipD] at h
    exact ⟨d, e, rfl, rfl, h.symm⟩
  | d :: ds, e :: es, j + 1, h => by
    obtain ⟨d', e', h1, h2, h3⟩ := zipD_get ds es j (by simpa [zipD] using h)
    exact ⟨d', e', by simpa using h1, by simpa using h2, h3⟩
def mZip (n : M (List PyData)) : M (List PyData) := fun ρ => (n ρ).bind fun l => match l with
  | [d, e] => (list? d).bind fun ds => (list? e).map (zipD ds)
  | _ => none
theorem ei_zip {n : M (List PyData)} {kk : Nat} {tpos : Pos} (h : EFA C [a, b] n) (hm : C.mg "zip" = none) (hg : Glb C.sc "zip" := by rfl) (hs : ∀ env : Env, starEach [a, b] env = (false, eval a env) :: starEach [b] env := by intro _; rfl) (hpl : ∀ env : Env, (backTo pos (starEach [b] env)).any (·.1) = false := by intro _; rfl) :
    EI C (.Tuple es kk tpos) (.Call (.Name "zip" p) [a, b] [] pos) (mZip n) := by
  obtain ⟨t, pt, vt⟩ := h
  refine ⟨iZip C.K t, fun X h => by rw [← h.K]; exact pi_zip (by unfold Gl Env.kindOf; rw [h.sc]; exact hg) (by rw [h.mg]; exact hm) (pt X h) (hs X.env) (hpl X.env), fun ρ σ F H fps ds R' e S k => ?_⟩
  obtain ⟨l, e1, e⟩ := bind2 e
  match l, e with
  | [d, d'], e =>
    obtain ⟨ds0, e2, e⟩ := bind2 (show (list? d).bind (fun ds => (list? d').map (zipD ds)) = some ds from e)
    obtain ⟨es0, e3, rfl⟩ := map2 e
    refine vt ρ σ F H fps _ _ e1 S fun vs F1 H1 hd x1 => ?_
    obtain ⟨v, u, rfl, hv, hu⟩ := dp2 hd
    obtain ⟨q, xs, rfl, hs, ha⟩ := list?_inv hv e2
    obtain ⟨q', ys, rfl, hs', ha'⟩ := list?_inv hu e3
    refine ⟨q, q', xs, ys, rfl, sql_mono x1.fh hs, sql_mono x1.fh hs', k _ F1 H1 ⟨fun F' H' i s1 s2 hi => ?_, fun F' H' i d' y H2 s1 s2 hi yl => ?_, fun F' H' s1 s2 => ?_⟩ x1⟩
    · rw [zipD_len] at hi
      obtain ⟨w, hw, _⟩ := DpAll.get ha (i := i) (d := ds0[i]'(by omega)) (by simp)
      obtain ⟨w', hw', _⟩ := DpAll.get ha' (i := i) (d := es0[i]'(by omega)) (by simp)
      exact ⟨xs, ys, w, w', sql_mono (s1.trans s2) hs, sql_mono (s1.trans s2) hs', hw, hw'⟩
    · obtain ⟨T, z, z', rfl, hT, rfl, yl, yl'⟩ := yl
      have hy := yl xs (sql_mono (s1.trans s2) hs)
      have hy' := yl' ys (sql_mono (s1.trans s2) hs')
      obtain ⟨d0, d0', h1, h1', rfl⟩ := zipD_get ds0 es0 i hi
      obtain ⟨w, hw, hd'⟩ := DpAll.get ha h1
      obtain ⟨w', hw', hd''⟩ := DpAll.get ha' h1'
      rw [hy] at hw
      rw [hy'] at hw'
      cases hw
      cases hw'
      have hz := fz_tup (K := C.K) (Ex.refl s2) hT (DpAll.cons (Dp.up hd' s1) (DpAll.cons (Dp.up hd'' s1) .nil))
      exact ⟨_, hz.1, hz.2⟩
    · refine ⟨xs, ys, sql_mono (s1.trans s2) hs, sql_mono (s1.trans s2) hs', ?_⟩
      rw [zipD_len, DpAll.len ha, DpAll.len ha']
      omega

def ETs (C : Ct) (es : List Expr) (m : M Bool) : Prop := ∃ tt, (∀ X, C.Has X → PTs X es tt) ∧ VT C.K tt m
def tY : M Bool := fun _ => some true
theorem ets_nil : ETs C [] tY := ⟨_, fun _ _ => pts_nil, fun ρ σ F H fps k Q e S q => by cases e; exact q F H (.refl S.fh)⟩
theorem ets_one (h : ET C e mt) : ETs C [e] mt := let ⟨_, p, v⟩ := h; ⟨_, fun X z => pts_one (p X z), v⟩
def colD (g : PyData → En → Option En) (t : M Bool) (el : M PyData) (ρ : En) : List PyData → Option (List PyData)
  | [] => some []
  | d :: r => (g d ρ).bind fun ρ1 => (t ρ1).bind fun k => if k then (el ρ1).bind fun y => (colD g t el ρ r).map (y :: ·) else colD g t el ρ r
def mLc (it : M (List PyData)) (g : PyData → En → Option En) (t : M Bool) (el : M PyData) (vs : List Nat) : M R := fun ρ => (it ρ).bind fun ds => if ds.length ≤ 1000000 then (colD g t el (wip ρ vs) ds).map R.ol else none
theorem ve_lc {K : PySem.W.Frag} {wi : TI} {g : TG} {tt : TT} {te : TE} {vs is : List Nat} {mi : M (List PyData)} {mg : PyData → En → Option En} {mt : M Bool} {me : M PyData} (hi : VI K wi mi) (hg : VG K g is mg) (his : ∀ i ∈ is, i ∈ vs) (ht : VT K tt mt) (he : VF K te me) :
    VE K (tLc wi g tt te vs) (mLc mi mg mt me vs) := fun ρ σ F H fps r Q e S k => by
  obtain ⟨ds, e1, e⟩ := bind2 e
  split at e
  rotate_left
  · cases e
  rename_i hlen
  obtain ⟨out, e2, rfl⟩ := map2 e
  refine hi ρ σ F H fps ds _ e1 S fun J F1 H1 Y x1 => fun D hD => ?_
  have S1 : Stt K F1 H1 (wip ρ vs) (wipe σ vs) fps := (S.ex x1).wip vs
  have fD : F1 D = none := same_free x1.fh hD
  -- at turn i: the list so far at D, what is left of the data
  refine ⟨fun i m H2 => ∃ F2 acc ys rest, m = ds.length - i ∧ i ≤ ds.length ∧ H2 D = some (.lst acc) ∧ F2 D = none ∧ DpAll K F2 acc ys ∧ acc.length ≤ i ∧ colD mg mt me (wip ρ vs) (ds.drop i) = some rest ∧ ys ++ rest = out ∧
      Same F1 F2 ∧ Same F2 H2 ∧ (∀ b o, H1 b = some o → H2 b = some o) ∧ (∀ b, F1 b = none → H1 b ≠ none → F2 b = none), ⟨ds.length, F1, [], [], out, by simp, Nat.zero_le _, upd_same, fD, .nil, Nat.zero_le _, by simpa using e2, rfl, .refl _, ?_, ?_, fun b h _ => h⟩, ?_⟩
  · exact x1.fh.trans (upd_same_of hD)
  · exact upd_same_of hD
  rintro i m H2 ⟨F2, acc, ys, rest, rfl, hil, hDl, hFD, hacc, hal, hcol, hout, sF, sFH, sH, nw⟩
  have X2 : Ex F1 H1 F2 H2 := ⟨sF, sH, sFH, nw⟩
  by_cases hlt : i < ds.length
  rotate_left
  · obtain rfl : i = ds.length := by omega
    rw [List.drop_length] at hcol
    cases hcol
    rw [List.append_nil] at hout
    subst hout
    refine .inl ⟨Y.st F2 H2 sF sFH, k (.ref D) F2 H2 [D] ⟨.ol hDl hacc, by simp, fun q hq => ?_⟩ (x1.trans X2)⟩
    rw [List.mem_singleton.mp hq]
    exact ⟨same_free x1.hh hD, hFD⟩
  -- one turn
  have hdrop : ds.drop i = ds[i] :: ds.drop (i + 1) := List.drop_eq_getElem_cons hlt
  rw [hdrop] at hcol
  obtain ⟨ρ1, g1, hcol⟩ := bind2 hcol
  obtain ⟨kk, t1, hcol⟩ := bind2 hcol
  refine .inr ⟨Y.go F2 H2 i sF sFH hlt, fun H' => ∃ F2' acc' ys' rest', H' D = some (.lst acc') ∧ F2' D = none ∧ DpAll K F2' acc' ys' ∧ acc'.length ≤ i + 1 ∧ colD mg mt me (wip ρ vs) (ds.drop (i + 1)) = some rest' ∧ ys' ++ rest' = out ∧
      Same F1 F2' ∧ Same F2' H' ∧ (∀ b o, H1 b = some o → H' b = some o) ∧ (∀ b, F1 b = none → H1 b ≠ none → F2' b = none), fun H' ⟨F2', acc', ys', rest', h1, h2, h3, h4, h5, h6, h7, h8, h9, h10⟩ => ⟨ds.length - (i + 1), by omega, F2', acc', ys', rest', rfl, by omega, h1, h2, h3, h4, h5, h6, h7, h8, h9, h10⟩, fun y H3 yl => ?_⟩
  obtain ⟨F3, hy, x3⟩ := Y.yl F2 H2 i ds[i] y H3 sF sFH (by simp [hlt]) yl
  have S3 := (S1.ex X2).ex x3
  refine hg ds[i] y (wip ρ vs) ρ1 (wipe σ vs) F3 H3 fps _ g1 hy S3 fun σ2 fps2 S4 _ wp => ⟨by rw [wp vs his]; exact wipe_idem fun _ h => h, ?_⟩
  refine ht ρ1 σ2 F3 H3 fps2 kk _ t1 S4 fun F4 H4 x4 => ?_
  have X4 := (X2.trans x3).trans x4
  have D4 : H4 D = some (.lst acc) := x4.hh D _ (x3.hh D _ hDl)
  have FD4 : F4 D = none := x4.nw D (x3.nw D hFD (by rw [hDl]; simp)) (by rw [x3.hh D _ hDl]; simp)
  cases kk with
  | false =>
    simp only [Bool.false_eq_true, if_false] at hcol ⊢
    exact ⟨F4, acc, ys, rest, D4, FD4, DpAll.up hacc (x3.ff.trans x4.ff), by omega, hcol, hout, X4.ff, X4.fh, X4.hh, X4.nw⟩
  | true =>
    simp only [if_true] at hcol ⊢
    obtain ⟨yd, m1, hcol⟩ := bind2 hcol
    obtain ⟨rest', m2, rfl⟩ := map2 hcol
    refine he ρ1 σ2 F4 H4 fps2 yd _ m1 (S4.ex x4) fun yv F5 H5 hyv x5 => ?_
    have X5 := X4.trans x5
    have D5 : H5 D = some (.lst acc) := x5.hh D _ D4
    have FD5 : F5 D = none := x5.nw D FD4 (by rw [D4]; simp)
    refine ⟨acc, D5, Nat.lt_of_le_of_lt (Nat.le_trans hal (Nat.le_trans hil hlen)) (by decide), F5, acc ++ [yv], ys ++ [yd], rest', upd_same, FD5, DpAll.app (DpAll.up hacc (x3.ff.trans (x4.ff.trans x5.ff))) (.cons hyv .nil), ?_, m2, ?_, X5.ff, ?_, ?_, X5.nw⟩
    · rw [List.length_append]; show acc.length + 1 ≤ i + 1; omega
    · rw [List.append_assoc]; exact hout
    · intro b o hb
      have : b ≠ D := fun z => by subst z; rw [FD5] at hb; cases hb
      rw [upd_ne this]
      exact X5.fh b o hb
    · intro b o hb
      have : b ≠ D := ne_of_none hb hD
      rw [upd_ne this]
      exact X5.hh b o hb
theorem ee_lc {elt : Expr} {ifs : List Expr} {scope : Scope} {own : List (Str × Nat)} {is : List Nat} {mi : M (List PyData)} {mg : PyData → En → Option En} {me : M PyData} (nd : C.N.Nodup) (hi : EI C tg iter mi) (ok : blkC C.N C.sc scope own = true)
    (hg : EG (C.blk scope) tg is mg) (his : (is.all fun i => (own.map (·.2)).contains i) = true) (ht : ETs (C.blk scope) ifs mt) (he : EF (C.blk scope) elt me) (hs : ∀ (env : Env) (z : Value), foldedSetIterable iter env z = pure z := by intro _ _; rfl) :
    EE C (.ListComp elt [⟨tg, iter, ifs, 0⟩] scope pos) (mLc mi mg mt me (own.map (·.2))) := by
  obtain ⟨wi, pi, vi⟩ := hi
  obtain ⟨g, pg, vg⟩ := hg
  obtain ⟨tt, ptt, vtt⟩ := ht
  obtain ⟨te, pe, ve⟩ := he
  refine ⟨tLc wi g tt te (own.map (·.2)), fun X h => ?_, ve_lc vi vg (fun i hi => ?_) vtt ve⟩
  · exact pe_lc h.calm (by rw [h.N]; exact nd) (pi X h) (blkOk_by (by rw [h.N, h.sc]; exact ok)) (fun s H A cl fp => pg _ (h.blk s H scope cl A fp)) (fun s H A cl fp => ptt _ (h.blk s H scope cl A fp)) (fun s H A cl fp => pe _ (h.blk s H scope cl A fp)) (hs X.env)
  · have := List.all_eq_true.mp his i hi
    simpa using this
end Vs

namespace Vs
open PySem PySem.Spec PyProof.Rows L2
variable {C : Ct} {pos p p2 apos cpos : Pos} {e a b c tg iter : Expr} {es : List Expr} {x : Str} {ma mb mc : M PyData} {mt ms : M Bool}

structure Sx (F H : Hp) (fps : Nat → List Addr) (F' H' : Hp) (fps' : Nat → List Addr) : Prop where
  keep : ∀ b o, H b = some o → (∀ i, b ∉ fps i) → H' b = some o
  ff : Same F F'
  nw : ∀ b, F b = none → H b ≠ none → (∀ i, b ∉ fps i) → F' b = none
  fpn : ∀ i, ∀ b ∈ fps' i, (∃ j, b ∈ fps j) ∨ H b = none
theorem Sx.refl {F H : Hp} {fps : Nat → List Addr} : Sx F H fps F H fps := ⟨fun _ _ h _ => h, .refl _, fun _ h _ _ => h, fun i b hb => .inl ⟨i, hb⟩⟩
theorem Sx.out {F H F1 H1 : Hp} {fps fps1 : Nat → List Addr} (a : Sx F H fps F1 H1 fps1) {b : Addr} (h : H b ≠ none) (n : ∀ i, b ∉ fps i) : ∀ i, b ∉ fps1 i := fun i hb => by
  rcases a.fpn i b hb with ⟨j, z⟩ | z
  · exact n j z
  · exact h z
theorem Sx.live {F H F1 H1 : Hp} {fps fps1 : Nat → List Addr} (a : Sx F H fps F1 H1 fps1) {b : Addr} (h : H b ≠ none) (n : ∀ i, b ∉ fps i) : H1 b ≠ none := by
  cases e : H b with
  | none => exact absurd e h
  | some o => rw [a.keep b o e n]; simp
theorem Sx.trans {F H F1 H1 F2 H2 : Hp} {fps fps1 fps2 : Nat → List Addr} (a : Sx F H fps F1 H1 fps1) (b : Sx F1 H1 fps1 F2 H2 fps2) (S1 : ∀ i, ∀ q ∈ fps1 i, H1 q ≠ none) : Sx F H fps F2 H2 fps2 := by
  refine ⟨fun q o h n => b.keep q o (a.keep q o h n) (a.out (by rw [h]; simp) n), a.ff.trans b.ff, fun q h1 h2 n => b.nw q (a.nw q h1 h2 n) (a.live h2 n) (a.out h2 n), fun i q hq => ?_⟩
  rcases b.fpn i q hq with ⟨j, z⟩ | z
  · exact a.fpn j q z
  · cases e : H q with
    | none => exact .inr rfl
    | some o =>
      by_cases n : ∃ j, q ∈ fps j
      · exact .inl n
      · have := a.keep q o e fun i hi => n ⟨i, hi⟩
        rw [z] at this
        cases this
theorem Ex.sx {F H F' H' : Hp} {fps fps' : Nat → List Addr} (x : Ex F H F' H') (h : ∀ i, ∀ q ∈ fps' i, (∃ j, q ∈ fps j) ∨ H q = none) : Sx F H fps F' H' fps' := ⟨fun b o e _ => x.hh b o e, x.ff, fun b h1 h2 _ => x.nw b h1 h2, h⟩
inductive Fl where
  | nx (ρ : En) | rt (r : R) | bk (ρ : En) | ct (ρ : En)
structure Rt (K : PySem.W.Frag) (F H : Hp) (fps : Nat → List Addr) (F' H' : Hp) (r : R) (v : V) (fp : List Addr) : Prop where
  own : Own K F' H' r v fp
  nd : fp.Nodup
  fre : ∀ q ∈ fp, F' q = none
  fh : Same F' H'
  sx : Sx F H fps F' H' (fun _ => fp)
def Post (K : PySem.W.Frag) (F H : Hp) (fps : Nat → List Addr) (D : Ends) : Fl → Prop
  | .nx ρ => ∀ σ' F' H' fps', Stt K F' H' ρ σ' fps' → Sx F H fps F' H' fps' → D.nx σ' H'
  | .bk ρ => ∀ σ' F' H' fps', Stt K F' H' ρ σ' fps' → Sx F H fps F' H' fps' → D.bk σ' H'
  | .ct ρ => ∀ σ' F' H' fps', Stt K F' H' ρ σ' fps' → Sx F H fps F' H' fps' → D.ct σ' H'
  | .rt r => ∀ v F' H' fp, Rt K F H fps F' H' r v fp → D.rt v H'
abbrev MS := En → Option Fl
def VS (K : PySem.W.Frag) (ts : TS) (m : MS) : Prop := ∀ ρ σ F H fps D out, m ρ = some out → Stt K F H ρ σ fps → Post K F H fps D out → ts D σ H
def ES (C : Ct) (st : Stmt) (m : MS) : Prop := ∃ ts, (∀ X, C.Has X → PS X st ts) ∧ VS C.K ts m
def ESs (C : Ct) (st : List Stmt) (m : MS) : Prop := ∃ ts, (∀ X, C.Has X → PSs X st ts) ∧ VS C.K ts m
theorem Stt.liv {K : PySem.W.Frag} {F H : Hp} {ρ : En} {σ : L2.St} {fps : Nat → List Addr} (S : Stt K F H ρ σ fps) : ∀ i, ∀ q ∈ fps i, H q ≠ none := fun i q hq => (S.fre i q hq).2
theorem Rt.pre {K : PySem.W.Frag} {F H F1 H1 F' H' : Hp} {fps fps1 : Nat → List Addr} {r : R} {v : V} {fp : List Addr} (h : Rt K F1 H1 fps1 F' H' r v fp) (x : Sx F H fps F1 H1 fps1) (l : ∀ i, ∀ q ∈ fps1 i, H1 q ≠ none) : Rt K F H fps F' H' r v fp := ⟨h.own, h.nd, h.fre, h.fh, x.trans h.sx l⟩
theorem Post.pre {K : PySem.W.Frag} {F H F1 H1 : Hp} {fps fps1 : Nat → List Addr} {D : Ends} {o : Fl} (q : Post K F H fps D o) (x : Sx F H fps F1 H1 fps1) (l : ∀ i, ∀ q ∈ fps1 i, H1 q ≠ none) : Post K F1 H1 fps1 D o := by
  cases o with
  | nx ρ => exact fun σ' F' H' fps' S y => q σ' F' H' fps' S (x.trans y l)
  | bk ρ => exact fun σ' F' H' fps' S y => q σ' F' H' fps' S (x.trans y l)
  | ct ρ => exact fun σ' F' H' fps' S y => q σ' F' H' fps' S (x.trans y l)
  | rt r => exact fun v F' H' fp h => q v F' H' fp (h.pre x l)
def sNx : MS := fun ρ => some (.nx ρ)
def sSeq (m n : MS) : MS := fun ρ => (m ρ).bind fun o => match o with
  | .nx ρ' => n ρ'
  | o => some o
theorem vs_seq {K : PySem.W.Frag} {t u : TS} {m n : MS} (h1 : VS K t m) (h2 : VS K u n) : VS K (tSeq t u) (sSeq m n) := fun ρ σ F H fps D out e S q => by
  obtain ⟨o, e1, e⟩ := bind2 e
  refine h1 ρ σ F H fps _ o e1 S ?_
  cases o with
  | nx ρ' => exact fun σ' F' H' fps' S' x => h2 ρ' σ' F' H' fps' D out e S' (q.pre x S'.liv)
  | bk ρ' => cases e; exact q
  | ct ρ' => cases e; exact q
  | rt r => cases e; exact q
variable {st : Stmt} {sts : List Stmt} {m n : MS}
theorem ess_nil : ESs C [] sNx := ⟨_, fun _ _ => pss_nil, fun ρ σ F H fps D out e S q => by cases e; exact q σ F H fps S .refl⟩
theorem ess_cons (h1 : ES C st m) (h2 : ESs C sts n) : ESs C (st :: sts) (sSeq m n) := let ⟨_, p1, v1⟩ := h1; let ⟨_, p2, v2⟩ := h2; ⟨_, fun X z => pss_cons (p1 X z) (p2 X z), vs_seq v1 v2⟩
theorem ess_one (h1 : ES C st m) : ESs C [st] m := let ⟨_, p1, v1⟩ := h1; ⟨_, fun X z => pss_one (p1 X z), v1⟩
def sBk : MS := fun ρ => some (.bk ρ)
def sCt : MS := fun ρ => some (.ct ρ)
def sNo : MS := fun _ => none
theorem es_never : ES C st sNo := ⟨_, fun _ _ => ps_never, fun ρ σ F H fps D out e S q => by cases e⟩
def sSetF (i : Nat) (m : M PyData) : MS := fun ρ => (m ρ).map fun d => .nx (ρ.set i (some (.f d)))
def sSetE (i : Nat) (m : M R) : MS := fun ρ => (m ρ).map fun r => .nx (ρ.set i (some r))
theorem sub_fput {H : Hp} {fps : Nat → List Addr} {i : Nat} {fp : List Addr} (h : ∀ q ∈ fp, (∃ j, q ∈ fps j) ∨ H q = none) : ∀ j, ∀ q ∈ fput fps i fp j, (∃ k, q ∈ fps k) ∨ H q = none := fun j q hq => by
  by_cases hj : j = i
  · subst hj; rw [fput_at] at hq; exact h q hq
  · rw [fput_ne hj] at hq; exact .inl ⟨j, hq⟩
theorem vs_setF {K : PySem.W.Frag} {te : TE} {i : Nat} (h : VF K te ma) : VS K (tAsg te (gName i)) (sSetF i ma) := fun ρ σ F H fps D out e S q => by
  obtain ⟨d, e1, rfl⟩ := map2 e
  refine h ρ σ F H fps d _ e1 S fun v F1 H1 hd x1 => ?_
  exact q _ F1 H1 _ ((S.ex x1).put (i := i) (.f hd) .nil fun p hp => by simp at hp) (x1.sx (sub_fput fun q hq => by simp at hq))
theorem vs_setE {K : PySem.W.Frag} {te : TE} {i : Nat} {mr : M R} (h : VE K te mr) : VS K (tAsg te (gName i)) (sSetE i mr) := fun ρ σ F H fps D out e S q => by
  obtain ⟨r, e1, rfl⟩ := map2 e
  refine h ρ σ F H fps r _ e1 S fun v F1 H1 fp nw x1 => ?_
  refine q _ F1 H1 _ ((S.ex x1).put (i := i) nw.own nw.nd fun p hp => ⟨(nw.nw p hp).2, fun j _ hj => ?_⟩) (x1.sx (sub_fput fun q hq => .inr (nw.nw q hq).1))
  exact (S.fre j p hj).2 (nw.nw p hp).1
theorem es_setF (i : Nat) (h : EF C e ma) (nd : C.N.Nodup) (hN : C.N[i]? = some x := by rfl) (hl : C.Lc x := by first | exact .inl rfl | exact .inr ⟨rfl, rfl⟩) (hs : ∀ env : Env, env.scope = C.sc → swapsWith e (some (.Name x p2)) pos.line env = pure false := by intro env h; first | rfl | (cases env; cases h; rfl)) :
    ES C (.Assign [.Name x p2] e pos) (sSetF i ma) :=
  let ⟨_, p, v⟩ := h; ⟨_, fun X h => ps_set (i := i) (by rw [h.N]; exact nd) (by rw [h.N]; exact hN) (by rw [h.sc]; exact hl.loc) (p X h) (hs X.env h.sc) (by rw [h.sc, h.fn]; exact hl.fn), vs_setF v⟩
theorem es_setE (i : Nat) {mr : M R} (h : EE C e mr) (nd : C.N.Nodup) (hN : C.N[i]? = some x := by rfl) (hl : C.Lc x := by first | exact .inl rfl | exact .inr ⟨rfl, rfl⟩) (hs : ∀ env : Env, env.scope = C.sc → swapsWith e (some (.Name x p2)) pos.line env = pure false := by intro env h; first | rfl | (cases env; cases h; rfl)) :
    ES C (.Assign [.Name x p2] e pos) (sSetE i mr) :=
  let ⟨_, p, v⟩ := h; ⟨_, fun X h => ps_set (i := i) (by rw [h.N]; exact nd) (by rw [h.N]; exact hN) (by rw [h.sc]; exact hl.loc) (p X h) (hs X.env h.sc) (by rw [h.sc, h.fn]; exact hl.fn), vs_setE v⟩
def sAsg (m : M PyData) (g : PyData → En → Option En) : MS := fun ρ => (m ρ).bind fun d => (g d ρ).map Fl.nx
theorem es_setLc (i : Nat) {elt : Expr} {ifs : List Expr} {scope : Scope} {own : List (Str × Nat)} {is : List Nat} {mi : M (List PyData)} {mg : PyData → En → Option En} {me : M PyData} (nd : C.N.Nodup) (hi : EI C tg iter mi) (ok : blkC C.N C.sc scope own = true)
    (hg : EG (C.blk scope) tg is mg) (his : (is.all fun i => (own.map (·.2)).contains i) = true) (ht : ETs (C.blk scope) ifs mt) (he : EF (C.blk scope) elt me) (hN : C.N[i]? = some x := by rfl) (hl : C.sc.names.lookup x = some .local := by rfl)
    (hk : C.sc.kind = .function := by rfl) (hline : (p2.line == p.line) = true := by rfl) (hany : (scope.names.any fun (n, k) => n == x && (k == .local || k == .cell)) = false := by decide +kernel) (hs : ∀ (env : Env) (z : Value), foldedSetIterable iter env z = pure z := by intro _ _; rfl) :
    ES C (.Assign [.Name x p2] (.ListComp elt [⟨tg, iter, ifs, 0⟩] scope p) pos) (sSetE i (mLc mi mg mt me (own.map (·.2)))) := by
  obtain ⟨wi, pi, vi⟩ := hi
  obtain ⟨g, pg, vg⟩ := hg
  obtain ⟨tt, ptt, vtt⟩ := ht
  obtain ⟨te, pe, ve⟩ := he
  refine ⟨tAsg (tLc wi g tt te (own.map (·.2))) (gName i), fun X h => ?_, vs_setE (ve_lc vi vg (fun i hi => ?_) vtt ve)⟩
  · exact ps_setLc h.calm (by rw [h.N]; exact nd) (by rw [h.N]; exact hN) (by rw [h.sc]; exact hl) (sw_true (by rw [h.sc]; exact hk) (by rw [h.sc]; exact hl) hline hany) (pi X h) (blkOk_by (by rw [h.N, h.sc]; exact ok)) (fun s H A cl fp => pg _ (h.blk s H scope cl A fp)) (fun s H A cl fp => ptt _ (h.blk s H scope cl A fp)) (fun s H A cl fp => pe _ (h.blk s H scope cl A fp)) (hs X.env)
  · have := List.all_eq_true.mp his i hi
    simpa using this
def sFz (i : Nat) (m : MS) : MS := fun ρ => (m ρ).bind fun o => match o with
  | .nx ρ' => (at' ρ' i).bind fun r => r.d?.map fun d => .nx (ρ'.set i (some (.f d)))
  | o => some o
theorem Stt.fz {K : PySem.W.Frag} {F H : Hp} {ρ : En} {σ : L2.St} {fps : Nat → List Addr} (S : Stt K F H ρ σ fps) {i : Nat} {r : R} {d : PyData} (e : at' ρ i = some r) (hd : r.d? = some d) :
    Stt K (frz F H (fps i)) H (ρ.set i (some (.f d))) σ (fput fps i []) := by
  obtain ⟨v, hv, o⟩ := S.own i r (at'_some e)
  have hdp : Dp K (frz F H (fps i)) v d := o.view hd (frz_same S.fh) fun q hq o' h => by rw [frz_in hq]; exact h
  refine ⟨by rw [List.length_set]; exact S.len, fun j r' er => ?_, fun j k q h1 h2 => ?_, fun j => ?_, fun j q hq => ?_, frz_le S.fh⟩
  · by_cases hj : j = i
    · subst hj
      have hl : j < ρ.length := (List.getElem?_eq_some_iff.mp (at'_some e)).1
      rw [List.getElem?_set_self hl] at er
      cases er
      rw [fput_at]
      exact ⟨v, hv, .f hdp⟩
    · rw [List.getElem?_set_ne (Ne.symm hj)] at er
      rw [fput_ne hj]
      obtain ⟨w, hw, o'⟩ := S.own j r' er
      exact ⟨w, hw, o'.up (frz_same S.fh) fun _ _ _ h => h⟩
  · by_cases hj : j = i
    · subst hj; rw [fput_at] at h1; simp at h1
    · by_cases hk : k = i
      · subst hk; rw [fput_at] at h2; simp at h2
      · rw [fput_ne hj] at h1; rw [fput_ne hk] at h2; exact S.dis j k q h1 h2
  · by_cases hj : j = i
    · subst hj; rw [fput_at]; exact .nil
    · rw [fput_ne hj]; exact S.nd j
  · by_cases hj : j = i
    · subst hj; rw [fput_at] at hq; simp at hq
    · rw [fput_ne hj] at hq
      refine ⟨?_, (S.fre j q hq).2⟩
      rw [frz_out fun z => hj (S.dis j i q hq z)]
      exact (S.fre j q hq).1
theorem sx_fz {F H : Hp} {fps : Nat → List Addr} {i : Nat} (h : Same F H) : Sx F H fps (frz F H (fps i)) H (fput fps i []) :=
  ⟨fun _ _ h _ => h, frz_same h, fun b h1 _ n => by rw [frz_out (n i)]; exact h1, sub_fput fun q hq => by simp at hq⟩
theorem vs_fz {K : PySem.W.Frag} {ts : TS} {i : Nat} (h : VS K ts m) : VS K ts (sFz i m) := fun ρ σ F H fps D out e S q => by
  obtain ⟨o, e1, e⟩ := bind2 e
  refine h ρ σ F H fps D o e1 S ?_
  cases o with
  | nx ρ' =>
    obtain ⟨r, e2, e⟩ := bind2 (show (at' ρ' i).bind _ = some out from e)
    obtain ⟨d, e3, rfl⟩ := map2 e
    exact fun σ' F' H' fps' S' x => q σ' _ H' _ (S'.fz e2 e3) (x.trans (sx_fz S'.fh) S'.liv)
  | bk ρ' => cases e; exact q
  | ct ρ' => cases e; exact q
  | rt r => cases e; exact q
theorem ES.fz (i : Nat) (h : ES C st m) : ES C st (sFz i m) := let ⟨_, p, v⟩ := h; ⟨_, p, vs_fz v⟩
def frzE (i : Nat) (ρ : En) : Option En := (at' ρ i).bind fun r => r.d?.map fun d => ρ.set i (some (.f d))
def sPre (i : Nat) (m : MS) : MS := fun ρ => (frzE i ρ).bind m
theorem vs_pre {K : PySem.W.Frag} {ts : TS} {i : Nat} (h : VS K ts m) : VS K ts (sPre i m) := fun ρ σ F H fps D out e S q => by
  obtain ⟨ρ', e1, e⟩ := bind2 e
  obtain ⟨r, e2, e1⟩ := bind2 e1
  obtain ⟨d, e3, rfl⟩ := map2 e1
  have S' := S.fz e2 e3
  exact h _ σ _ H _ D out e S' (q.pre (sx_fz S.fh) S'.liv)
theorem ES.pre (i : Nat) (h : ES C st m) : ES C st (sPre i m) := let ⟨_, p, v⟩ := h; ⟨_, p, vs_pre v⟩
def tPre (i : Nat) (m : M Bool) : M Bool := fun ρ => (frzE i ρ).bind m
theorem ET.pre (i : Nat) (h : ET C e mt) : ET C e (tPre i mt) := by
  obtain ⟨t, pt, vt⟩ := h
  refine ⟨t, pt, fun ρ σ F H fps k Q e S q => ?_⟩
  obtain ⟨ρ', e1, e⟩ := bind2 e
  obtain ⟨r, e2, e1⟩ := bind2 e1
  obtain ⟨d, e3, rfl⟩ := map2 e1
  exact vt _ σ _ H _ k _ e (S.fz e2 e3) fun F' H' x => q F H' (x.back S.fh)
def sDrop (m : M R) : MS := fun ρ => (m ρ).map fun _ => .nx ρ
theorem es_expr {mr : M R} (h : EE C e mr) (hs : ∀ env : Env, swapsWith e none pos.line env = pure false := by intro _; rfl) : ES C (.Expr e pos) (sDrop mr) := by
  obtain ⟨te, pe, ve⟩ := h
  refine ⟨_, fun X z => ps_expr (pe X z) (hs X.env), fun ρ σ F H fps D out e S q => ?_⟩
  obtain ⟨r, e1, rfl⟩ := map2 e
  exact ve ρ σ F H fps r _ e1 S fun v F1 H1 fp nw x1 => q σ F1 H1 fps (S.ex x1) (x1.sx fun j q hq => .inl ⟨j, hq⟩)
def sRet (m : M R) : MS := fun ρ => (m ρ).map Fl.rt
theorem es_ret {mr : M R} (h : EE C e mr) : ES C (.Return (some e) pos) (sRet mr) := by
  obtain ⟨te, pe, ve⟩ := h
  refine ⟨_, fun X z => ps_ret (pe X z), fun ρ σ F H fps D out e S q => ?_⟩
  obtain ⟨r, e1, rfl⟩ := map2 e
  exact ve ρ σ F H fps r _ e1 S fun v F1 H1 fp nw x1 => q v F1 H1 fp ⟨nw.own, nw.nd, fun q hq => (nw.nw q hq).2, x1.fh, x1.sx fun _ q hq => .inr (nw.nw q hq).1⟩
def sRetV (i : Nat) : MS := fun ρ => (at' ρ i).map Fl.rt
theorem es_retV (i : Nat) (hN : C.N[i]? = some x := by rfl) (hv : Vis C.sc x := by first | exact Or.inl rfl | exact Or.inr (Or.inl rfl) | exact Or.inr (Or.inr rfl)) (hd : (x == ("__debug__" : Str)) = false := by decide) (hcd : (x == ("__classdict__" : Str)) = false := by decide) : ES C (.Return (some (.Name x p2)) pos) (sRetV i) := by
  refine ⟨_, fun X h => ps_ret (pe_var (i := i) (by rw [h.N]; exact hN) (by rw [h.sc]; exact hv) hd hcd), fun ρ σ F H fps D out e S q => ?_⟩
  obtain ⟨r, e1, rfl⟩ := map2 e
  obtain ⟨v, hv, o⟩ := S.own i r (at'_some e1)
  exact ⟨v, hv, q v F H (fps i) ⟨o, S.nd i, fun q hq => (S.fre i q hq).1, S.fh, Ex.sx (.refl S.fh) fun _ q hq => .inl ⟨i, hq⟩⟩⟩
def sIf (t : M Bool) (m n : MS) : MS := fun ρ => (t ρ).bind fun k => if k then m ρ else n ρ
theorem es_if {as bs : List Stmt} (h : ET C e mt) (h1 : ESs C as m) (h2 : ESs C bs n) : ES C (.If e as bs pos) (sIf mt m n) := by
  obtain ⟨tt, pt, vt⟩ := h
  obtain ⟨t1, p1, v1⟩ := h1
  obtain ⟨t2, p2, v2⟩ := h2
  refine ⟨_, fun X z => ps_if (pt X z) (p1 X z) (p2 X z), fun ρ σ F H fps D out e S q => ?_⟩
  obtain ⟨k, e1, e⟩ := bind2 e
  refine vt ρ σ F H fps k _ e1 S fun F1 H1 x1 => ?_
  have S1 := S.ex x1
  have q1 := q.pre (x1.sx fun j q hq => .inl ⟨j, hq⟩) S1.liv
  cases k with
  | true => simp only [if_true] at e ⊢; exact v1 ρ σ F1 H1 fps D out e S1 q1
  | false => simp only [Bool.false_eq_true, if_false] at e ⊢; exact v2 ρ σ F1 H1 fps D out e S1 q1
def loopF (g : PyData → En → Option En) (body : MS) : List PyData → MS
  | [], ρ => some (.nx ρ)
  | d :: ds, ρ => (g d ρ).bind fun ρ1 => (body ρ1).bind fun o => match o with
    | .nx ρ' => loopF g body ds ρ'
    | .ct ρ' => loopF g body ds ρ'
    | .bk ρ' => some (.nx ρ')
    | .rt r => some (.rt r)
def sFor (it : M (List PyData)) (g : PyData → En → Option En) (body : MS) : MS := fun ρ => (it ρ).bind fun ds => loopF g body ds ρ
theorem es_for {is : List Nat} {mi : M (List PyData)} {g : PyData → En → Option En} {body : List Stmt} (hi : EI C tg iter mi) (hg : EG C tg is g) (hb : ESs C body m) (hs : ∀ (env : Env) (z : Value), foldedSetIterable iter env z = pure z := by intro _ _; rfl) :
    ES C (.For tg iter body [] pos) (sFor mi g m) := by
  obtain ⟨wi, pi, vi⟩ := hi
  obtain ⟨tg, pg, vg⟩ := hg
  obtain ⟨tb, pb, vb⟩ := hb
  refine ⟨tFor wi tg tb, fun X h => ps_for (by rw [h.xe]; exact PassesOwn.never) h.calm (pi X h) (pg X h) (pb X h) (hs X.env), fun ρ σ F H fps D out e S q => ?_⟩
  obtain ⟨ds, e1, e⟩ := bind2 e
  refine vi ρ σ F H fps ds _ e1 S fun J F1 H1 Y x1 => ?_
  have S1 := S.ex x1
  have q1 := q.pre (x1.sx fun j q hq => .inl ⟨j, hq⟩) S1.liv
  refine ⟨fun i mm σ2 H2 => ∃ ρ2 F2 fps2, mm = ds.length - i ∧ i ≤ ds.length ∧ Stt C.K F2 H2 ρ2 σ2 fps2 ∧ Sx F1 H1 fps F2 H2 fps2 ∧ loopF g m (ds.drop i) ρ2 = some out, ⟨ds.length, ρ, F1, fps, by simp, Nat.zero_le _, S1, .refl, by simpa using e⟩, ?_⟩
  rintro i mm σ2 H2 ⟨ρ2, F2, fps2, rfl, hil, S2, x2, e2⟩
  have q2 := q1.pre x2 S2.liv
  by_cases hlt : i < ds.length
  rotate_left
  · obtain rfl : i = ds.length := by omega
    rw [List.drop_length] at e2
    cases e2
    exact .inl ⟨Y.st F2 H2 x2.ff S2.fh, q2 σ2 F2 H2 fps2 S2 .refl⟩
  rw [List.drop_eq_getElem_cons hlt] at e2
  obtain ⟨ρ3, g3, e2⟩ := bind2 e2
  obtain ⟨o, b3, e2⟩ := bind2 e2
  refine .inr ⟨Y.go F2 H2 i x2.ff S2.fh hlt, fun σ' H' => ∃ ρ' F' fps', Stt C.K F' H' ρ' σ' fps' ∧ Sx F1 H1 fps F' H' fps' ∧ loopF g m (ds.drop (i + 1)) ρ' = some out, fun σ' H' ⟨ρ', F', fps', h1, h2, h3⟩ => ⟨ds.length - (i + 1), by omega, ρ', F', fps', rfl, by omega, h1, h2, h3⟩, fun y H3 yl => ?_⟩
  obtain ⟨F3, hy, x3⟩ := Y.yl F2 H2 i ds[i] y H3 x2.ff S2.fh (by simp [hlt]) yl
  have S3 := S2.ex x3
  have x23 : Sx F1 H1 fps F3 H3 fps2 := x2.trans (x3.sx fun j q hq => .inl ⟨j, hq⟩) S2.liv
  refine vg ds[i] y ρ2 ρ3 σ2 F3 H3 fps2 _ g3 hy S3 fun σ4 fps4 S4 s4 _ => ?_
  have x4 : Sx F1 H1 fps F3 H3 fps4 := x23.trans (Ex.sx (.refl S3.fh) fun j q hq => .inl ⟨j, s4 j q hq⟩) S3.liv
  refine vb ρ3 σ4 F3 H3 fps4 _ o b3 S4 ?_
  cases o with
  | nx ρ' => exact fun σ' F' H' fps' S' x' => ⟨ρ', F', fps', S', x4.trans x' S4.liv, e2⟩
  | ct ρ' => exact fun σ' F' H' fps' S' x' => ⟨ρ', F', fps', S', x4.trans x' S4.liv, e2⟩
  | bk ρ' =>
    cases e2
    exact fun σ' F' H' fps' S' x' => q1 σ' F' H' fps' S' (x4.trans x' S4.liv)
  | rt r =>
    cases e2
    exact fun v F' H' fp h => q1 v F' H' fp (h.pre x4 S4.liv)
def loopW (t : M Bool) (body : MS) : Nat → MS
  | 0, _ => none
  | k + 1, ρ => (t ρ).bind fun c => if c then (body ρ).bind fun o => match o with
    | .nx ρ' => loopW t body k ρ'
    | .ct ρ' => loopW t body k ρ'
    | .bk ρ' => some (.nx ρ')
    | .rt r => some (.rt r) else some (.nx ρ)
theorem es_while (k : Nat) {body : List Stmt} (h : ET C e mt) (hb : ESs C body m) : ES C (.While e body [] pos) (loopW mt m k) := by
  obtain ⟨tt, pt, vt⟩ := h
  obtain ⟨tb, pb, vb⟩ := hb
  refine ⟨tWhile tt tb, fun X h => ps_while (by rw [h.xe]; exact PassesOwn.never) (pt X h) (pb X h), fun ρ σ F H fps D out e S q => ?_⟩
  refine ⟨fun mm σ2 H2 => ∃ ρ2 F2 fps2, Stt C.K F2 H2 ρ2 σ2 fps2 ∧ Sx F H fps F2 H2 fps2 ∧ loopW mt m mm ρ2 = some out, ⟨k, ρ, F, fps, S, .refl, e⟩, ?_⟩
  rintro mm σ2 H2 ⟨ρ2, F2, fps2, S2, x2, e2⟩
  have q2 := q.pre x2 S2.liv
  cases mm with
  | zero => cases e2
  | succ mm =>
    obtain ⟨cc, t1, e2⟩ := bind2 e2
    refine vt ρ2 σ2 F2 H2 fps2 cc _ t1 S2 fun F3 H3 x3 => ?_
    have S3 := S2.ex x3
    have x23 : Sx F H fps F3 H3 fps2 := x2.trans (x3.sx fun j q hq => .inl ⟨j, hq⟩) S2.liv
    cases cc with
    | false =>
      simp only [Bool.false_eq_true, if_false] at e2 ⊢
      cases e2
      exact q σ2 F3 H3 fps2 S3 x23
    | true =>
      simp only [if_true] at e2 ⊢
      obtain ⟨o, b1, e2⟩ := bind2 e2
      refine ⟨fun σ' H' => ∃ ρ' F' fps', Stt C.K F' H' ρ' σ' fps' ∧ Sx F H fps F' H' fps' ∧ loopW mt m mm ρ' = some out, fun σ' H' h => ⟨mm, Nat.lt_succ_self _, h⟩, ?_⟩
      refine vb ρ2 σ2 F3 H3 fps2 _ o b1 S3 ?_
      cases o with
      | nx ρ' => exact fun σ' F' H' fps' S' x' => ⟨ρ', F', fps', S', x23.trans x' S3.liv, e2⟩
      | ct ρ' => exact fun σ' F' H' fps' S' x' => ⟨ρ', F', fps', S', x23.trans x' S3.liv, e2⟩
      | bk ρ' =>
        cases e2
        exact fun σ' F' H' fps' S' x' => q σ' F' H' fps' S' (x23.trans x' S3.liv)
      | rt r =>
        cases e2
        exact fun v F' H' fp h => q v F' H' fp (h.pre x23 S3.liv)
def sApp (i : Nat) (m : M PyData) : MS := fun ρ => (m ρ).bind fun d => match at' ρ i with
  | some (.ol ds) => if ds.length ≤ 1000000 then some (.nx (ρ.set i (some (.ol (ds ++ [d]))))) else none
  | _ => none
theorem Stt.mut {K : PySem.W.Frag} {F H : Hp} {ρ : En} {σ : L2.St} {fps : Nat → List Addr} (S : Stt K F H ρ σ fps) {i : Nat} {l : Addr} {xs ys : List V} {es : List PyData} (hσ : σ[i]? = some (some (.ref l))) (hf : fps i = [l]) (a : DpAll K F ys es) :
    Stt K F (upd H l (.lst ys)) (ρ.set i (some (.ol es))) σ fps ∧ Sx F H fps F (upd H l (.lst ys)) fps := by
  have hl : l ∈ fps i := by rw [hf]; simp
  have nl : ∀ j, ∀ q ∈ fps j, j ≠ i → q ≠ l := fun j q hq hj z => hj (S.dis j i q hq (by rw [z]; exact hl))
  have fl : F l = none := (S.fre i l hl).1
  refine ⟨⟨by rw [List.length_set]; exact S.len, fun j r e => ?_, S.dis, S.nd, fun j q hq => ⟨(S.fre j q hq).1, ?_⟩, fun b o hb => ?_⟩, ⟨fun b o hb n => ?_, .refl _, fun b h _ _ => h, fun j b hb => .inl ⟨j, hb⟩⟩⟩
  · by_cases hj : j = i
    · subst hj
      have hlen : j < ρ.length := by rw [S.len]; exact (List.getElem?_eq_some_iff.mp hσ).1
      rw [List.getElem?_set_self hlen] at e
      cases e
      exact ⟨_, hσ, by rw [hf]; exact .ol upd_same a⟩
    · rw [List.getElem?_set_ne (Ne.symm hj)] at e
      obtain ⟨w, hw, o⟩ := S.own j r e
      exact ⟨w, hw, o.up (.refl _) fun q hq o' h => by rw [upd_ne (nl j q hq hj)]; exact h⟩
  · by_cases hq' : q = l
    · subst hq'; rw [upd_same]; simp
    · rw [upd_ne hq']; exact (S.fre j q hq).2
  · have : b ≠ l := fun z => by subst z; rw [fl] at hb; cases hb
    rw [upd_ne this]
    exact S.fh b o hb
  · have : b ≠ l := fun z => by subst z; exact n i hl
    rw [upd_ne this]
    exact hb
theorem own_ol {K : PySem.W.Frag} {F H : Hp} {ds : List PyData} {v : V} {fp : List Addr} (o : Own K F H (.ol ds) v fp) : ∃ l xs, v = .ref l ∧ H l = some (.lst xs) ∧ DpAll K F xs ds ∧ fp = [l] := by
  cases o with
  | ol h a => exact ⟨_, _, rfl, h, a, rfl⟩
theorem es_append (i : Nat) (h : EF C e ma) (hN : C.N[i]? = some x := by rfl) (hv : Vis C.sc x := by first | exact Or.inl rfl | exact Or.inr (Or.inl rfl) | exact Or.inr (Or.inr rfl)) (hd : (x == ("__debug__" : Str)) = false := by decide) (hcd : (x == ("__classdict__" : Str)) = false := by decide)
    (hline : (apos.endLine == cpos.line) = true := by rfl) (hst : ∀ env : Env, starEach [e] env = (false, eval e env) :: starEach [] env := by intro _; rfl) (hfew : ∀ env : Env, ((backTo cpos (starEach [e] env)).all (fun x => !x.1) && (backToKw cpos (keywordEach [] env)).all (fun x => x.1.isSome)
      && decide (([e] : List Expr).length + ([] : List Keyword).length + (if ([] : List Keyword).isEmpty then 0 else 1) < 30)) = true := by intro _; rfl) :
    ES C (.Expr (.Call (.Attribute (.Name x p2) "append" apos) [e] [] cpos) pos) (sApp i ma) := by
  obtain ⟨te, pe, ve⟩ := h
  refine ⟨tDrop (tBM C.K "list" rAppend (tVar i) (tCons te tNil)), fun X h => ?_, fun ρ σ F H fps D out e S q => ?_⟩
  · rw [← h.K]
    exact ps_expr (pe_bm PySem.F.plainAttrs_list PySem.F.slot_list_append PySem.F.type_list_append mt_append (pe_var (i := i) (by rw [h.N]; exact hN) (by rw [h.sc]; exact hv) hd hcd) (pa_cons (pe X h) pa_nil (hst X.env)) (by rfl) (hfew X.env) hline (hst X.env) (by rfl))
  · obtain ⟨d, e1, e⟩ := bind2 e
    cases er : at' ρ i with
    | none => simp only [er] at e; cases e
    | some r =>
      simp only [er] at e
      cases r with
      | ol ds =>
        obtain ⟨hl, rfl⟩ := iteS e
        obtain ⟨v, hv, o⟩ := S.own i _ (at'_some er)
        obtain ⟨l, xs, rfl, hl1, ha, hf⟩ := own_ol o
        refine ⟨_, hv, .inl ⟨rfl, xs, sql_of hl1⟩, ?_⟩
        refine ve ρ σ F H fps d _ e1 S fun y F1 H1 hy x1 => ?_
        have S1 := S.ex x1
        refine ⟨l, xs, y, rfl, rfl, x1.hh l _ hl1, ?_, ?_⟩
        · rw [DpAll.len ha]; exact Nat.lt_of_le_of_lt hl (by decide)
        · have hm := S1.mut (xs := xs) hv hf (DpAll.app (DpAll.up ha x1.ff) (.cons hy .nil))
          exact q σ F1 _ fps hm.1 ((x1.sx fun j q hq => .inl ⟨j, hq⟩).trans hm.2 S1.liv)
      | f _ => cases e
      | ot _ => cases e
      | od _ => cases e
      | dn _ => cases e
def startE (N : Nat) (ds : List PyData) : En := ds.map (fun d => some (R.f d)) ++ List.replicate (N - ds.length) none
def runS (N n : Nat) (body : MS) (ds : List PyData) : Option R := if ds.length = n then (body (startE N ds)).bind fun o => match o with
  | .nx _ => some (.f .none)
  | .rt r => some r
  | _ => none else none
theorem stt_start {K : PySem.W.Frag} {F H : Hp} {vs : List V} {ds : List PyData} {N : List Str} (h : DpAll K F vs ds) (s : Same F H) : Stt K F H (startE N.length ds) (start N vs) (fun _ => []) := by
  refine ⟨?_, fun i r e => ?_, fun _ _ _ h => by simp at h, fun _ => .nil, fun _ _ h => by simp at h, s⟩
  · unfold startE L2.start
    rw [List.length_append, List.length_append, List.length_map, List.length_map, List.length_replicate, List.length_replicate, DpAll.len h]
  · unfold startE at e
    by_cases hi : i < ds.length
    · rw [List.getElem?_append_left (by simpa using hi), List.getElem?_map] at e
      cases ed : ds[i]? with
      | none => rw [ed] at e; cases e
      | some d =>
        rw [ed] at e
        cases e
        obtain ⟨v, hv, hd⟩ := DpAll.get h ed
        refine ⟨v, ?_, .f hd⟩
        unfold L2.start
        rw [List.getElem?_append_left (by rw [List.length_map, DpAll.len h]; exact hi), List.getElem?_map, hv]
        rfl
    · rw [List.getElem?_append_right (by simpa using hi), List.getElem?_replicate] at e
      split at e <;> cases e
theorem fn_ok {P : Program} {w : World} {K : PySem.W.Frag} {mg : Str → Option Value} {base : Heap} {y qual : Str} {st : Stmt} {f : Addr} {fd : FuncData} {N ps : List Str} {k : Nat} (F : Fun K y qual st f fd) (S : FnScope N ps (defScope st)) {body : MS}
    (h : ESs ⟨P, w, K, mg, base, N, defScope st, k, fun _ => true⟩ (defBody st) body) : FnOk P w K mg base CX0 (k + 1) f fd ps (spOf K ps.length (runS N.length ps.length body)) := by
  refine F.ok S (fun vs H Q E h => h.choose_spec.choose_spec.choose_spec.1) (fun cdv A outer s H vs Q E hr hsp => ?_)
  obtain ⟨ts, pts, vts⟩ := h
  obtain ⟨Fz, ds, r, hl, hs, hd, hr2, q⟩ := hsp
  refine ⟨ts, pts _ ⟨rfl, rfl, rfl, rfl, rfl, rfl, rfl, hr, rfl, rfl, rfl⟩, ?_⟩
  unfold runS at hr2
  split at hr2
  rotate_left
  · cases hr2
  obtain ⟨o, e1, e⟩ := bind2 hr2
  refine vts _ _ Fz H _ _ o e1 (stt_start hd hs) ?_
  have fin : ∀ {F' H' : Hp} {r' : R} {v : V} {fp : List Addr}, Rt K Fz H (fun _ => []) F' H' r' v fp → New K H F' H' r' v fp ∧ Ex Fz H F' H' := fun {F' H' r' v fp} t => by
    refine ⟨⟨t.own, t.nd, fun q hq => ⟨?_, t.fre q hq⟩⟩, t.sx.ff, fun b o hb => t.sx.keep b o hb (fun _ => by simp), t.fh, fun b h1 h2 => t.sx.nw b h1 h2 fun _ => by simp⟩
    rcases t.sx.fpn 0 q hq with ⟨j, z⟩ | z
    · simp at z
    · exact z
  cases o with
  | nx ρ' =>
    cases e
    intro σ' F' H' fps' S' x
    have t : Rt K Fz H (fun _ => []) F' H' (.f .none) .non [] := ⟨.f .non, .nil, fun q hq => by simp at hq, S'.fh, x.keep, x.ff, x.nw, fun _ q hq => by simp at hq⟩
    exact q _ F' H' [] (fin t).1 (fin t).2
  | rt r' =>
    cases e
    intro v F' H' fp t
    exact q v F' H' fp (fin t).1 (fin t).2
  | bk _ => cases e
  | ct _ => cases e
end Vs

namespace Vs
open PySem PySem.Spec PyProof.Rows L2
variable {C : Ct} {pos p p2 p3 apos cpos : Pos} {e a b c tg iter : Expr} {es : List Expr} {x y : Str} {ma mb mc : M PyData} {mt ms : M Bool} {m n : MS}

def sPar (i j : Nat) (m n : M R) : MS := fun ρ => (m ρ).bind fun r => (n ρ).map fun s => .nx ((ρ.set i (some r)).set j (some s))
def cN : M (List (Bool × PyData)) := fun _ => some []
def cF (a : M PyData) (t : M (List (Bool × PyData))) : M (List (Bool × PyData)) := fun ρ => (a ρ).bind fun d => (t ρ).map ((false, d) :: ·)
def sRetT (m : M (List (Bool × PyData))) : MS := fun ρ => (m ρ).bind fun cs => if cs.length ≤ 4000 then some (.rt (.ot cs)) else none
theorem OwnC.len {K : PySem.W.Frag} {F H : Hp} : ∀ {cs : List (Bool × PyData)} {vs : List V} {fp : List Addr}, OwnC K F H cs vs fp → vs.length = cs.length
  | _, _, _, .nil => rfl
  | _, _, _, .fz _ t => congrArg (· + 1) (OwnC.len t)
  | _, _, _, .ow _ _ t => congrArg (· + 1) (OwnC.len t)
def key? : PyData → Option Key
  | .int i => some (.inl i)
  | .str s => some (.inr s)
  | _ => none
def pairs? : List PyData → Option (List (Key × PyData))
  | [] => some []
  | .tuple [k, d] :: r => (key? k).bind fun k => (pairs? r).map ((k, d) :: ·)
  | _ => none
def putD (kvs : List (Key × PyData)) (k : Key) (v : PyData) : List (Key × PyData) :=
  if (kvs.any fun kv => decide (kv.1 = k)) = true then kvs.map (fun kv => if kv.1 = k then (kv.1, v) else kv) else kvs ++ [(k, v)]
def mergeD (kvs more : List (Key × PyData)) : List (Key × PyData) := more.foldl (fun acc kv => putD acc kv.1 kv.2) kvs
theorem KvD.any {K : PySem.W.Frag} {F : Hp} {k : Key} : ∀ {vs : List (Key × V)} {ds : List (Key × PyData)}, KvD K F vs ds → (vs.any fun kv => decide (kv.1 = k)) = (ds.any fun kv => decide (kv.1 = k))
  | _, _, .nil => rfl
  | _, _, .cons h t => by rw [List.any_cons, List.any_cons, KvD.any t]
theorem KvD.snoc {K : PySem.W.Frag} {F : Hp} {k : Key} {v : V} {d : PyData} (hd : Dp K F v d) : ∀ {vs : List (Key × V)} {ds : List (Key × PyData)}, KvD K F vs ds → KvD K F (vs ++ [(k, v)]) (ds ++ [(k, d)])
  | _, _, .nil => .cons hd .nil
  | _, _, .cons h t => .cons h (KvD.snoc hd t)
theorem KvD.rep {K : PySem.W.Frag} {F : Hp} {k : Key} {v : V} {d : PyData} (hd : Dp K F v d) : ∀ {vs : List (Key × V)} {ds : List (Key × PyData)}, KvD K F vs ds → KvD K F (vs.map fun kv => if kv.1 = k then (kv.1, v) else kv) (ds.map fun kv => if kv.1 = k then (kv.1, d) else kv)
  | _, _, .nil => .nil
  | _, _, .cons (k := k') h t => by
    rw [List.map_cons, List.map_cons]
    by_cases hk : k' = k
    · rw [if_pos hk, if_pos hk]; exact .cons hd (KvD.rep hd t)
    · rw [if_neg hk, if_neg hk]; exact .cons h (KvD.rep hd t)
theorem KvD.put {K : PySem.W.Frag} {F : Hp} {k : Key} {v : V} {d : PyData} (hd : Dp K F v d) {vs : List (Key × V)} {ds : List (Key × PyData)} (h : KvD K F vs ds) : KvD K F (putK vs k v) (putD ds k d) := by
  unfold putK putD
  rw [KvD.any h]
  split
  · exact KvD.rep hd h
  · exact KvD.snoc hd h
def mDict (n : M (List PyData)) : M R := fun ρ => (n ρ).bind fun xs => match xs with
  | [d] => (list? d).bind fun ds => (pairs? ds).map fun kvs => R.od (mergeD [] kvs)
  | _ => none
def valD (kvs : List (Key × PyData)) (k : Key) : Option PyData := (kvs.find? fun kv => decide (kv.1 = k)).map (·.2)
theorem KvD.val {K : PySem.W.Frag} {F : Hp} {k : Key} : ∀ {vs : List (Key × V)} {ds : List (Key × PyData)}, KvD K F vs ds → (valV vs k).isSome = (valD ds k).isSome ∧ ∀ d, valD ds k = some d → ∃ v, valV vs k = some v ∧ Dp K F v d
  | _, _, .nil => ⟨rfl, fun d h => by cases h⟩
  | _, _, .cons (k := k') h t => by
    unfold valV valD
    rw [List.find?_cons, List.find?_cons]
    by_cases hk : k' = k
    · subst hk
      simp only [decide_true]
      exact ⟨rfl, fun d e => by cases e; exact ⟨_, rfl, h⟩⟩
    · simp only [hk, decide_false]
      exact KvD.val t
def R.l? : R → Option PyData
  | .f d => some d
  | .ol ds => some (.list ds)
  | _ => none
def mIxO (i : Nat) (b : M PyData) : M PyData := fun ρ => (at' ρ i).bind fun r => r.l?.bind fun d => (b ρ).bind fun y => gIx d y
end Vs

namespace Vs
open PySem PySem.Spec PyProof.Rows L2 PySem.W Att
theorem weights_mem : ∀ (ns : List Int) (i : Int), i ∈ ns → Builtin.Int.intBits i ≤ WData.weightAll (ns.map WData.int)
  | [], i, h => by simp at h
  | n :: r, i, h => by
    show _ ≤ WData.weight (.int n) + 1 + WData.weightAll (r.map WData.int)
    rcases List.mem_cons.mp h with rfl | h
    · have : WData.weight (.int i) = Builtin.Int.intBits i := by simp only [WData.weight, Builtin.Int.intBits]
      omega
    · have := weights_mem r i h
      omega
theorem script_bits {ns : List Int} (h : WData.layableAll [WData.list (ns.map WData.int)] = true) : ∀ i ∈ ns, Builtin.Int.intBits i ≤ 2 ^ 20 := fun i hi => by
  have h1 := (layW_cons h).1
  unfold WData.layable at h1
  have h2 : WData.weight (.list (ns.map WData.int)) ≤ 2 ^ 20 := of_decide_eq_true (Bool.and_eq_true_iff.mp h1).2
  simp only [WData.weight] at h2
  exact Nat.le_trans (weights_mem ns i hi) h2
theorem dps_ints {K : PySem.W.Frag} {F : Hp} : ∀ ns : List Int, DpAll K F (ns.map V.int) (ns.map PyData.int)
  | [] => .nil
  | n :: r => .cons (.int n) (dps_ints r)
theorem walk_b {l : PySem.W.OpenLaw} {n k : Nat} {q : Program} {loose : List Str} {XP : (Str → Option Value) → Heap → Prop} {YP : World → Heap → Prop} {d : DefRec} {K : Params → PySem.W.Frag} {f : List PyData → Option R} {x : Str}
    (hn : l.most = some n) (hn2 : n ≤ sizeLine) (hdf : d.params.defaults = []) (hr : Room k callerA) {ts : List (Addr × Str)} (hY : ∀ (w : World) (h : Heap), YP w h → (K w.params).In h ∧ ∀ q ∈ ts, h.get? q.1 = some { cls := .none, data := .fields #[] })
    (hTK : ∀ (w : World), ∀ q ∈ ts, (K w.params).lookup q.1 = none ∧ ∃ c, PySem.W.codeHdIn (K w.params) c q.1 = true) (hnd : ∀ q ∈ ts, ∀ q' ∈ ts, q.1 = q'.1 → q = q')
    (hTab : ∀ (w : World) (mg : Str → Option Value) (h : Heap), (K w.params).In h → h.Ns mainGlobals mg → ∀ H : Hp, (∀ q ∈ ts, H q.1 = some (.tbl q.2)) → Tabs (K w.params) mg H)
    (F : ∀ (w : World) (mg : Str → Option Value) (fa : Addr) (h : Heap), (K w.params).In h → h.Ns mainGlobals mg → mg d.name = some (.ref fa) →
      ∃ fd : FuncData, (∀ (s : Shared) (u : Value), BindsTo s fd ⟨[u], []⟩ [(x, u)]) ∧ ∀ base : Heap, (K w.params).In base → base.Ns mainGlobals mg → FnOk l.prog w (K w.params) mg base CX0 k fa fd [x] (spOf (K w.params) 1 f))
    (hf : ∀ ns : List Int, ns.length ≤ n → (∀ i ∈ ns, Builtin.Int.intBits i ≤ 2 ^ 20) → f [.list (ns.map PyData.int)] = some (.f (.bool true))) :
    PySem.W.WalkO q loose XP YP l.row.toRowW d [] (fun f vs => PySem.call f vs) := by
  intro w s₀ s₁ mg mb G Y fa o pm cd doc dV kV ho hd hcd hD hmg hg args vals as hpre hlay hrd hwl hlo
  obtain rfl : dV = .none := Dflts.none hD hdf
  obtain rfl : kV = .none := Dflts.noKw hD
  obtain ⟨a, vs, ns, rfl, rfl, hobj, hints, hlen⟩ := script_of hn hpre hwl
  obtain ⟨KX, hTs⟩ := hY w _ Y
  obtain ⟨fd, hb, hF⟩ := F w mg fa _ KX G.T.g hmg
  have hv := hf ns hlen (script_bits hlay)
  have key := law_call KX G.T.g G.T.b G.T.builtins G.T.nolimit G.T.bmain (ts := ts) (fun q hq => ⟨hTs q hq, (hTK w q hq).1, (hTK w q hq).2⟩) hnd (hTab w mg _ KX G.T.g) hg hobj hints (Nat.le_trans hlen hn2) hr hF hb
    (fun H hO hS => ⟨H, [.list (ns.map PyData.int)], _, rfl, .refl _, .cons (.lst hS (dps_ints ns)) .nil, hv, fun v F' H' fp nw x => by
      have := own_f nw.own
      cases this
      rfl⟩) (fun H e s' z => z.elim)
  refine enter_call (codeAny_mono key fun r s' hq => ?_)
  obtain ⟨rfl, h2, h3, h4⟩ := hq
  exact ⟨.inl ⟨.bool true, .bool true, [], rfl, fun _ => rfl, .bool true, post_true l _, fun _ => ⟨List.Pairwise.nil, fun _ hm => (nomatch hm)⟩⟩, h2, h3, h4⟩
theorem def_zero {P : Program} {w : World} {K : PySem.W.Frag} {mg : Str → Option Value} {base : Heap} {y qual x : Str} {st : Stmt} {ps : List Str} {n : Nat} {f : List PyData → Option R} (h : ∃ fa fd, Fun K y qual st fa fd ∧ mg x = some (.ref fa) ∧ Binds K fd ps []) (hf : ∀ ds, f ds = none) :
    Def P w K mg base 0 x n f := by
  obtain ⟨fa, fd, F, hm, hb⟩ := h
  refine ⟨fa, fd, ps, ⟨fun vs H Q E s => ?_, fun A outer s H args us vs Q E _ _ _ _ sp => ?_⟩, hm, F.kp, hb⟩
  · obtain ⟨_, ds, r, _, _, _, e, _⟩ := s
    rw [hf] at e
    cases e
  · obtain ⟨_, ds, r, _, _, _, e, _⟩ := sp
    rw [hf] at e
    cases e
theorem def_succ {P : Program} {w : World} {K : PySem.W.Frag} {mg : Str → Option Value} {base : Heap} {y qual x : Str} {st : Stmt} {N ps : List Str} {k : Nat} {body : MS} (h : ∃ fa fd, Fun K y qual st fa fd ∧ mg x = some (.ref fa) ∧ Binds K fd ps []) (S : FnScope N ps (defScope st))
    (hb : ESs ⟨P, w, K, mg, base, N, defScope st, k, fun _ => true⟩ (defBody st) body) : Def P w K mg base (k + 1) x ps.length (runS N.length ps.length body) := by
  obtain ⟨fa, fd, F, hm, bi⟩ := h
  exact ⟨fa, fd, ps, fn_ok F S hb, hm, F.kp, bi⟩
end Vs
namespace Vs
open PySem PySem.Spec PyProof.Rows L2 PySem.W
theorem txt_def {K : PySem.W.Frag} {h : Heap} {mg : Str → Option Value} {x : Str} {st : Stmt} {ps : List Str} {f : Addr} {oc : Value} {od an : Option Addr} {sl : Array (Option Value)} {kV dc pm cd ct : Value} (X : K.In h) (G : h.Ns mainGlobals mg)
    (a : PySem.W.nsIn K mainGlobals x = some (some (.ref f))) (l : K.lookup f = some ⟨oc, od, .func (PySem.W.fnOf x x (defArgs st) (defBody st) (defScope st) .none kV dc pm an cd ct), sl⟩) (c : PySem.W.codeIn K cd x = true) (k : PySem.W.keepIn K (.ref f) = true)
    (b : ∀ (kV doc pm : Value) (an : Option Addr) (cdv ct : Value) (us : List Value), us.length = ps.length → bindArgs (PySem.W.fnOf x x (defArgs st) (defBody st) (defScope st) .none kV doc pm an cdv ct) ⟨us, []⟩ = pure (ps.zip us)) :
    ∃ fa fd, Fun K x x st fa fd ∧ mg x = some (.ref fa) ∧ Binds K fd ps [] := by
  have F := fun_mk (st := st) l c k
  exact ⟨f, _, F, PySem.W.mg_of X G a, F.binds b⟩
theorem txt_law {K : PySem.W.Frag} {h : Heap} {mg : Str → Option Value} {x y : Str} {st : Stmt} {f fa : Addr} {oc : Value} {od an : Option Addr} {sl : Array (Option Value)} {kV dc pm cd ct : Value} (X : K.In h) (G : h.Ns mainGlobals mg) (hm : mg x = some (.ref fa))
    (a : PySem.W.nsIn K mainGlobals x = some (some (.ref f))) (l : K.lookup f = some ⟨oc, od, .func (PySem.W.fnOf x x (defArgs st) (defBody st) (defScope st) .none kV dc pm an cd ct), sl⟩) (c : PySem.W.codeIn K cd x = true) (k : PySem.W.keepIn K (.ref f) = true)
    (b : ∀ (kV doc pm : Value) (an : Option Addr) (cdv ct : Value) (u : Value), bindArgs (PySem.W.fnOf x x (defArgs st) (defBody st) (defScope st) .none kV doc pm an cdv ct) ⟨[u], []⟩ = pure [(y, u)]) :
    ∃ fd, Fun K x x st fa fd ∧ ∀ (s : Shared) (u : Value), BindsTo s fd ⟨[u], []⟩ [(y, u)] := by
  have e := hm.symm.trans (PySem.W.mg_of X G a)
  cases e
  exact ⟨_, fun_mk (st := st) l c k, fun s u => .of_eq (b kV dc pm an cd ct u)⟩
theorem txt_none {K : PySem.W.Frag} {h : Heap} {mg : Str → Option Value} {x : Str} (X : K.In h) (G : h.Ns mainGlobals mg) (z : PySem.W.nsIn K mainGlobals x = some none) : mg x = none := PySem.W.mg_none_of X G z
theorem txt_int {K : PySem.W.Frag} {h : Heap} {mg : Str → Option Value} {x : Str} {i : Int} {t : Tok} (X : K.In h) (G : h.Ns mainGlobals mg) (z : PySem.W.nsIn K mainGlobals x = some (some (.int i t))) : ∃ t, mg x = some (.int i t) := ⟨t, PySem.W.mg_of X G z⟩
end Vs

namespace Vs
open PySem PySem.Spec PyProof.Rows L2 PySem.W

def ltP (a b : Int × Int) : Bool := decide (a.1 < b.1) || (decide (a.1 = b.1) && decide (a.2 < b.2))
section
variable {n : Nat} {key : Nat → Int × Int} {cmp : Nat → Nat → (Bool → Shared → Prop) → Shared → Prop} {I : Shared → Prop}
def Ans (n : Nat) (key : Nat → Int × Int) (cmp : Nat → Nat → (Bool → Shared → Prop) → Shared → Prop) (I : Shared → Prop) : Prop := ∀ i j, i < n → j < n → ∀ (Q : Bool → Shared → Prop) (s : Shared), I s → (∀ s', I s' → Q (ltP (key i) (key j)) s') → cmp i j Q s
structure Pm (n : Nat) (p : Array Nat) : Prop where
  sz : p.size = n
  lt : ∀ i, i < n → p.getD i 0 < n
  inj : ∀ i j, i < n → j < n → p.getD i 0 = p.getD j 0 → i = j
variable (hA : Ans n key cmp I) (hk : ∀ i j, i < n → j < n → key i = key j → i = j)
include hA hk
omit hA hk
include hA hk
end
end Vs

namespace Vs
open PySem PySem.Spec PyProof.Rows L2 PySem.W
section
variable {prog : Program} {w : World} {A : Around} {E : Value → Shared → Prop} {s : Shared}
end
inductive Prs (K : PySem.W.Frag) (H : Hp) : List V → List (Int × Int) → Prop
  | nil : Prs K H [] []
  | cons {a : Addr} {xs : List V} {k : Int × Int} {ks : List (Int × Int)} : SqT K H a [.int k.1, .int k.2] → Prs K H xs ks → Prs K H (.ref a :: xs) (k :: ks)
theorem Prs.len {K : PySem.W.Frag} {H : Hp} {xs : List V} {ks : List (Int × Int)} (h : Prs K H xs ks) : xs.length = ks.length := by
  induction h with
  | nil => rfl
  | cons _ _ ih => simp [ih]
theorem Prs.get {K : PySem.W.Frag} {H : Hp} {xs : List V} {ks : List (Int × Int)} (h : Prs K H xs ks) : ∀ i, i < ks.length → ∃ a, xs.getD i .non = .ref a ∧ SqT K H a [.int (ks.getD i (0, 0)).1, .int (ks.getD i (0, 0)).2] := by
  induction h with
  | nil => intro i hi; simp at hi
  | @cons a xs k ks hq _ ih =>
    intro i hi
    cases i with
    | zero => exact ⟨a, rfl, hq⟩
    | succ i =>
      obtain ⟨b, h1, h2⟩ := ih i (by simpa using hi)
      exact ⟨b, by simpa using h1, by simpa using h2⟩
end Vs

namespace Vs
open PySem PySem.Spec PyProof.Rows L2
variable {C : Ct} {pos p p2 apos cpos : Pos} {e a b c : Expr} {es : List Expr} {x : Str} {ma mb mc : M PyData} {mt ms : M Bool}
def insP (k : Int × Int) : List (Int × Int) → List (Int × Int)
  | [] => [k]
  | x :: r => if ltP k x then k :: x :: r else x :: insP k r
def sortP : List (Int × Int) → List (Int × Int)
  | [] => []
  | k :: r => insP k (sortP r)
def tupD (k : Int × Int) : PyData := .tuple [.int k.1, .int k.2]
def pr? : List PyData → Option (List (Int × Int))
  | [] => some []
  | .tuple [.int a, .int b] :: r => (pr? r).map ((a, b) :: ·)
  | _ => none
def mSortT (n : M (List PyData)) : M R := fun ρ => (n ρ).bind fun xs => match xs with
  | [d] => (list? d).bind fun ds => (pr? ds).bind fun ks => if ks.length < 64 ∧ ks.Nodup then some (.ol ((sortP ks).map tupD)) else none
  | _ => none
end Vs

namespace Vs
open PySem PySem.Spec PyProof.Rows L2
def rising : List Int → Bool
  | a :: b :: r => decide (a < b) && rising (b :: r)
  | _ => true
structure ItemOk (m b : Int) (x : Int × Int) : Prop where
  lo : 0 ≤ x.1
  hi : x.1 < m + b
  c0 : 0 ≤ x.2
  cm : x.1 < m → x.2 = 0
  c9 : x.2 ≤ 9
structure RowOk (m b : Int) (r : List (Int × Int)) : Prop where
  hd : ∃ x t, r = x :: t ∧ x.1 < m
  up : rising (r.map (·.1)) = true
  it : ∀ x ∈ r, ItemOk m b x
  len : r.length ≤ 16
structure TabOk (m b : Int) (rs : List (List (Int × Int))) : Prop where
  m1 : 1 ≤ m
  m10 : m ≤ 10
  b0 : 0 ≤ b
  b6 : b ≤ 6
  len : rs.length ≤ 16
  row : ∀ r ∈ rs, RowOk m b r
end Vs

namespace Vs
open PySem PySem.Spec PyProof.Rows L2
section
variable {ρ : En} {m n : MS} {a b c : M PyData} {t u : M Bool} {r s : M R} {l : M (List PyData)} {i j k N : Nat} {ds : List PyData} {d x y : PyData}
theorem xrunS {f : MS} : runS N k f ds = if ds.length = k then (f (startE N ds)).bind fun o => match o with | .nx _ => some (.f .none) | .rt r => some r | _ => none else none := rfl
theorem xstartE : startE N ds = ds.map (fun d => some (R.f d)) ++ List.replicate (N - ds.length) none := rfl
theorem xSeq : sSeq m n ρ = (m ρ).bind fun o => match o with | .nx ρ' => n ρ' | o => some o := rfl
theorem xIf : sIf t m n ρ = (t ρ).bind fun k => if k then m ρ else n ρ := rfl
theorem xRet : sRet r ρ = (r ρ).map Fl.rt := rfl
theorem xSetF : sSetF i a ρ = (a ρ).map fun d => .nx (ρ.set i (some (.f d))) := rfl
theorem xSetE : sSetE i r ρ = (r ρ).map fun d => .nx (ρ.set i (some d)) := rfl
theorem xFz : sFz i m ρ = (m ρ).bind fun o => match o with | .nx ρ' => (at' ρ' i).bind fun r => r.d?.map fun d => .nx (ρ'.set i (some (.f d))) | o => some o := rfl
theorem xfrzE : frzE i ρ = (at' ρ i).bind fun r => r.d?.map fun d => ρ.set i (some (.f d)) := rfl
theorem xPre : sPre i m ρ = (frzE i ρ).bind m := rfl
theorem xtPre : tPre i t ρ = (frzE i ρ).bind t := rfl
theorem xAsg {g : PyData → En → Option En} : sAsg a g ρ = (a ρ).bind fun d => (g d ρ).map Fl.nx := rfl
theorem xPar : sPar i j r s ρ = (r ρ).bind fun p => (s ρ).map fun q => .nx ((ρ.set i (some p)).set j (some q)) := rfl
theorem xRetT {q : M (List (Bool × PyData))} : sRetT q ρ = (q ρ).bind fun cs => if cs.length ≤ 4000 then some (.rt (.ot cs)) else none := rfl
theorem xRetV : sRetV i ρ = (at' ρ i).map Fl.rt := rfl
theorem xDrop : sDrop r ρ = (r ρ).map fun _ => .nx ρ := rfl
theorem xNx : sNx ρ = some (.nx ρ) := rfl
theorem xBk : sBk ρ = some (.bk ρ) := rfl
theorem xCt : sCt ρ = some (.ct ρ) := rfl
theorem xNo : sNo ρ = none := rfl
theorem xFor {g : PyData → En → Option En} : sFor l g m ρ = (l ρ).bind fun ds => loopF g m ds ρ := rfl
theorem xApp {es : List PyData} (h : at' ρ i = some (.ol es)) : sApp i a ρ = (a ρ).bind fun d => if es.length ≤ 1000000 then some (.nx (ρ.set i (some (.ol (es ++ [d]))))) else none := by unfold sApp; rw [h]
theorem xI {g : Int → Int → Option Sc} : mI g a b ρ = (a ρ).bind fun x => (b ρ).bind fun y => (i2 g x y).map Sc.d := rfl
theorem xi2 {g : Int → Int → Option Sc} {p q : Int} : i2 g (.int p) (.int q) = g p q := rfl
theorem x2 {g : PyData → PyData → Option PyData} : m2 g a b ρ = (a ρ).bind fun x => (b ρ).bind fun y => g x y := rfl
theorem x1 {g : PyData → Option PyData} : m1 g a ρ = (a ρ).bind g := rfl
theorem xA {g : List PyData → Option PyData} : mA g l ρ = (l ρ).bind g := rfl
theorem xN : mN i ρ = (at' ρ i).bind R.fz? := rfl
theorem xV : mV i ρ = (at' ρ i).bind R.d? := rfl
theorem xC {z : Sc} : mC z ρ = some z.d := rfl
theorem xF : mF a ρ = (a ρ).map R.f := rfl
theorem xD : mD r ρ = (r ρ).bind R.d? := rfl
theorem xSc : mSc a ρ = (a ρ).bind fun d => (sc? d).map Sc.d := rfl
theorem xB : mB a ρ = (a ρ).bind b? := rfl
theorem xCh {g g' : Int → Int → Option Sc} : mCh g g' a b c ρ = (a ρ).bind fun x => (b ρ).bind fun y => (i2 g x y).bind fun z => (b? z.d).bind fun k => if k then (c ρ).bind fun w => (i2 g' y w).map Sc.d else some (.bool false) := rfl
theorem xtN : Vs.tN t ρ = (t ρ).map fun k => !k := rfl
theorem xtA : Vs.tA t u ρ = (t ρ).bind fun k => if k then u ρ else some false := rfl
theorem xtO : Vs.tO t u ρ = (t ρ).bind fun k => if k then some true else u ρ := rfl
theorem xtY : tY ρ = some true := rfl
theorem xvN : vN a ρ = (mB a ρ).map fun k => .bool (!k) := rfl
theorem xvA : vA a b ρ = (mB a ρ).bind fun k => if k then b ρ else some (.bool false) := rfl
theorem xvO : vO a b ρ = (mB a ρ).bind fun k => if k then some (.bool true) else b ρ := rfl
theorem xmIf {α : Type} {p q : M α} : mIf t p q ρ = (t ρ).bind fun k => if k then p ρ else q ρ := rfl
theorem xTup : mTup l ρ = (l ρ).bind fun ds => if ds.length ≤ 4000 then some (.tuple ds) else none := rfl
theorem xLst : mLst l ρ = (l ρ).bind fun ds => if ds.length ≤ 4000 then some (.ol ds) else none := rfl
theorem xList : mList l ρ = (l ρ).bind fun xs => match xs with | [d] => (Vs.items? d).map R.ol | _ => none := rfl
theorem xCall {f : List PyData → Option R} : mCall f l ρ = (l ρ).bind f := rfl
theorem xDict : mDict l ρ = (l ρ).bind fun xs => match xs with | [d] => (list? d).bind fun ds => (pairs? ds).map fun kvs => R.od (mergeD [] kvs) | _ => none := rfl
theorem xaN : aN ρ = some [] := rfl
theorem xaC : aC a l ρ = (a ρ).bind fun x => (l ρ).bind fun xs => some (x :: xs) := rfl
theorem xSl {lo hi : M (Option Int)} : mSl a lo hi ρ = (a ρ).bind fun d => (list? d).bind fun ds => (lo ρ).bind fun l => (hi ρ).bind fun h => some (.ol (cutD ds l h)) := rfl
theorem xoN : oN ρ = some none := rfl
theorem xoS : oS a ρ = (a ρ).bind fun d => (int? d).map some := rfl
theorem xIt : mIt a ρ = (a ρ).bind list? := rfl
theorem xRg1 : mRg1 l ρ = (l ρ).bind fun ds => match ds with | [.int j] => if -1000000 ≤ j ∧ j ≤ 1000000 then some (rngD 0 j.toNat) else none | _ => none := rfl
theorem xRg2 : mRg2 l ρ = (l ρ).bind fun ds => match ds with | [.int i, .int j] => if (-1000000 ≤ i ∧ i ≤ 1000000) ∧ -1000000 ≤ j ∧ j ≤ 1000000 then some (rngD i (j - i).toNat) else none | _ => none := rfl
theorem xEnum : mEnum l ρ = (l ρ).bind fun l => match l with | [d] => (list? d).map (enumD 0) | _ => none := rfl
theorem xZip : mZip l ρ = (l ρ).bind fun l => match l with | [d, e] => (list? d).bind fun ds => (list? e).map (zipD ds) | _ => none := rfl
theorem xLc {g : PyData → En → Option En} {vs : List Nat} : mLc l g t a vs ρ = (l ρ).bind fun ds => if ds.length ≤ 1000000 then (colD g t a (wip ρ vs) ds).map R.ol else none := rfl
theorem xcN : cN ρ = some [] := rfl
theorem xcF {q : M (List (Bool × PyData))} : cF a q ρ = (a ρ).bind fun d => (q ρ).map ((false, d) :: ·) := rfl
theorem xgN : gN i d ρ = some (ρ.set i (some (.f d))) := rfl
theorem xgT {g : List PyData → En → Option En} : gT k g (.tuple ds) ρ = if ds.length = k then g ds ρ else none := rfl
theorem xgsN : gsN [] ρ = some ρ := rfl
theorem xgsC {g : PyData → En → Option En} {h : List PyData → En → Option En} : gsC g h (d :: ds) ρ = (g d ρ).bind (h ds) := rfl
theorem xat0 {o : Option R} {q : En} : at' (o :: q) 0 = o := rfl
theorem xatS {o : Option R} {q : En} : at' (o :: q) (i + 1) = at' q i := rfl
theorem xd1 : R.d? (.f d) = some d := rfl
theorem xd2 : R.d? (.ol ds) = some (.list ds) := rfl
theorem xd3 {cs : List (Bool × PyData)} : R.d? (.ot cs) = some (.tuple (cs.map (·.2))) := rfl
theorem xfz : R.fz? (.f d) = some d := rfl
theorem xAdd {p q : Int} : Vs.gAdd p q = some (.int (p + q)) := rfl
theorem xSub {p q : Int} : Vs.gSub p q = some (.int (p - q)) := rfl
theorem xLt {p q : Int} : gLt p q = some (.bl (decide (p < q))) := rfl
theorem xLe {p q : Int} : gLe p q = some (.bl (decide (p ≤ q))) := rfl
theorem xGt {p q : Int} : gGt p q = some (.bl (decide (q < p))) := rfl
theorem xGe {p q : Int} : gGe p q = some (.bl (decide (q ≤ p))) := rfl
theorem xMod {p q : Int} (h : 0 < q) : gMod p q = some (.int (p % q)) := if_pos h
theorem xDiv {p q : Int} (h : 0 < q ∧ q < 1073741824) : gDiv p q = some (.int (p / q)) := if_pos h
theorem xix1 {p : Int} : gIx (.list ds) (.int p) = atI ds p := rfl
theorem xix2 {p : Int} : gIx (.tuple ds) (.int p) = atI ds p := rfl
theorem xlen1 : gLen [.list ds] = some (.int (ds.length : Nat)) := rfl
theorem xlen2 : gLen [.tuple ds] = some (.int (ds.length : Nat)) := rfl
theorem xabs {p : Int} : gAbs [.int p] = some (.int (if p < 0 then -p else p)) := rfl
theorem xmax {p q : Int} : gMax [.int p, .int q] = some (.int (if q > p then q else p)) := rfl
theorem xsum : gSum [.list ds] = (ints? ds).map fun ns => .int ns.sum := rfl
theorem xany : gAny [.list ds] = (bls? ds).map fun ns => .bl (ns.any id) := rfl
theorem xall : gAll [.list ds] = (bls? ds).map fun ns => .bl (ns.all id) := rfl
theorem xisB {p q : Bool} : gIsB (.bool p) (.bool q) = some (.bl (p == q)) := rfl
theorem xisNotB {p q : Bool} : gIsNotB (.bool p) (.bool q) = some (.bl (!(p == q))) := rfl
theorem xs1 {p : Int} : Sc.d (.int p) = .int p := rfl
theorem xs2 {p : Bool} : Sc.d (.bl p) = .bool p := rfl
theorem xs3 {p : Str} : Sc.d (.str p) = .str p := rfl
theorem xs4 : Sc.d .non = .none := rfl
theorem xsc1 {p : Int} : sc? (.int p) = some (.int p) := rfl
theorem xsc2 {p : Bool} : sc? (.bool p) = some (.bl p) := rfl
theorem xb {p : Bool} : b? (.bool p) = some p := rfl
theorem xint {p : Int} : int? (.int p) = some p := rfl
theorem xlist : list? (.list ds) = some ds := rfl
theorem xitems1 : Vs.items? (.list ds) = some ds := rfl
theorem xitems2 : Vs.items? (.tuple ds) = some ds := rfl
theorem xkey {p : Int} : key? (.int p) = some (.inl p) := rfl
theorem xisi1 {p : Int} : isi? (.int p) .int = some (.bool true) := rfl
theorem xisi2 {p : Int} : isi? (.int p) .bool = some (.bool false) := rfl
theorem xisi3 : isi? (.tuple ds) .tuple = some (.bool true) := rfl
theorem xisi4 : isi? (.list ds) .list = some (.bool true) := rfl
theorem xisi5 {p : Bool} : isi? (.bool p) .bool = some (.bool true) := rfl
theorem xIxO : mIxO i b ρ = (at' ρ i).bind fun r => r.l?.bind fun d => (b ρ).bind fun y => gIx d y := rfl
theorem xl1 : R.l? (.f d) = some d := rfl
theorem xl2 : R.l? (.ol ds) = some (.list ds) := rfl
theorem xSort : mSortT l ρ = (l ρ).bind fun xs => match xs with | [d] => (list? d).bind fun ds => (pr? ds).bind fun ks => if ks.length < 64 ∧ ks.Nodup then some (.ol ((sortP ks).map tupD)) else none | _ => none := rfl
theorem xw0 : wip ρ [] = ρ := rfl
theorem xw1 {vs : List Nat} : wip ρ (i :: vs) = (wip ρ vs).set i none := rfl
end
theorem shaped_int (p : Int) : SeqAt.shaped (.int p) = true := rfl
theorem shaped_bool (p : Bool) : SeqAt.shaped (.bool p) = true := rfl
theorem eqv_int (p q : Int) : PyData.eqv (.int p) (.int q) = decide (p = q) := by simp only [PyData.eqv]; by_cases h : p = q <;> simp [h]
theorem xEqI {p q : Int} : gEq (.int p) (.int q) = some (.bl (decide (p = q))) := by unfold gEq; rw [shaped_int, shaped_int, eqv_int]; rfl
theorem xNeI {p q : Int} : gNe (.int p) (.int q) = some (.bl (!decide (p = q))) := by unfold gNe; rw [shaped_int, shaped_int, eqv_int]; rfl
theorem eqv_bool (p q : Bool) : PyData.eqv (.bool p) (.bool q) = decide (p = q) := by simp [PyData.eqv]; cases p <;> cases q <;> rfl
theorem xNeB {p q : Bool} : gNe (.bool p) (.bool q) = some (.bl (!decide (p = q))) := by unfold gNe; rw [shaped_bool, shaped_bool, eqv_bool]; rfl
theorem xk0 : ((0 : Nat) : Int) = 0 := rfl
theorem xk1 : ((1 : Nat) : Int) = 1 := rfl
theorem xk2 : ((2 : Nat) : Int) = 2 := rfl
theorem xk3 : ((3 : Nat) : Int) = 3 := rfl
theorem xk4 : ((4 : Nat) : Int) = 4 := rfl
theorem xk5 : ((5 : Nat) : Int) = 5 := rfl
theorem xk6 : ((6 : Nat) : Int) = 6 := rfl
theorem xk7 : ((7 : Nat) : Int) = 7 := rfl
theorem atI_ge {α : Type} {xs : List α} {i : Int} {d : α} (h0 : 0 ≤ i) (h : xs[i.toNat]? = some d) : atI xs i = some d := by
  have hl : i.toNat < xs.length := (List.getElem?_eq_some_iff.mp h).1
  unfold atI ixN
  rw [if_pos h0, if_pos (by omega)]
  exact h
theorem xat_0 {α : Type} {d : α} {r : List α} : atI (d :: r) 0 = some d := atI_ge (by decide) rfl
theorem xat_1 {α : Type} {d e : α} {r : List α} : atI (d :: e :: r) 1 = some e := atI_ge (by decide) rfl
theorem xat_2 {α : Type} {d e f : α} {r : List α} : atI (d :: e :: f :: r) 2 = some f := atI_ge (by decide) rfl
theorem colD_mapL {α : Type} {g : PyData → En → Option En} {t : M Bool} {e : M PyData} {ρ : En} {D f : α → PyData} : ∀ {l : List α}, (∀ x ∈ l, ∃ ρ1, g (D x) ρ = some ρ1 ∧ t ρ1 = some true ∧ e ρ1 = some (f x)) → colD g t e ρ (l.map D) = some (l.map f)
  | [], _ => rfl
  | d :: r, h => by
    obtain ⟨ρ1, h1, h2, h3⟩ := h d List.mem_cons_self
    have ih := colD_mapL (l := r) fun d hd => h d (List.mem_cons_of_mem _ hd)
    simp only [List.map_cons, colD, h1, h2, h3, ih, Option.bind_some, Option.map_some, if_true]
theorem colD_filterL {α : Type} {g : PyData → En → Option En} {t : M Bool} {e : M PyData} {ρ : En} {D f : α → PyData} {p : α → Bool} : ∀ {l : List α}, (∀ x ∈ l, ∃ ρ1, g (D x) ρ = some ρ1 ∧ t ρ1 = some (p x) ∧ (p x = true → e ρ1 = some (f x))) → colD g t e ρ (l.map D) = some ((l.filter p).map f)
  | [], _ => rfl
  | d :: r, h => by
    obtain ⟨ρ1, h1, h2, h3⟩ := h d List.mem_cons_self
    have ih := colD_filterL (l := r) fun d hd => h d (List.mem_cons_of_mem _ hd)
    cases hp : p d with
    | true => simp only [List.map_cons, colD, h1, h2, hp, h3 hp, ih, Option.bind_some, Option.map_some, if_true, List.filter_cons_of_pos hp]
    | false => simp only [List.map_cons, colD, h1, h2, hp, ih, Option.bind_some, Bool.false_eq_true, if_false, List.filter_cons_of_neg (by simp [hp] : ¬ p d = true)]
theorem bls_fun {α : Type} (l : List α) (f : α → Bool) : bls? (l.map fun x => PyData.bool (f x)) = some (l.map f) := by
  have := bls?_map (l.map f)
  rw [List.map_map] at this
  exact this
theorem all_fun {α : Type} (l : List α) (f : α → Bool) : (l.map f).all id = l.all f := by rw [List.all_map]; rfl
theorem any_fun {α : Type} (l : List α) (f : α → Bool) : (l.map f).any id = l.any f := by rw [List.any_map]; rfl
end Vs

namespace Vs
open PySem PySem.Spec PyProof.Rows L2
abbrev Dist (r : List (Int × Int)) : Prop := r.Pairwise fun x y => x.1 ≠ y.1
def lk (r : List (Int × Int)) (t : Int) : Option Int := (r.find? fun y => decide (y.1 = t)).map (·.2)
def meetB (m : Int) (x y : Int × Int) : Bool := decide (x.1 = y.1) && (decide (x.1 < m) || (!decide (x.2 = y.2) || decide (x.2 = 0)))
def clashB (m : Int) (r s : List (Int × Int)) : Bool := r.any fun x => s.any fun y => meetB m x y
theorem rngD_map : ∀ (n : Nat) (lo : Int), rngD lo n = (List.range n).map fun i => PyData.int (lo + (i : Nat))
  | 0, _ => rfl
  | n + 1, lo => by
    rw [List.range_succ_eq_map, List.map_cons, List.map_map]
    show PyData.int lo :: rngD (lo + 1) n = _
    rw [rngD_map n (lo + 1)]
    congr 1
    · simp
    · apply List.map_congr_left
      intro i _
      simp only [Function.comp_apply, PyData.int.injEq]
      omega
end Vs

namespace Vs
open PySem PySem.Spec PyProof.Rows L2
theorem seq_nx {m n : MS} {ρ ρ' : En} (h : m ρ = some (.nx ρ')) : sSeq m n ρ = n ρ' := by rw [xSeq, h]; rfl
theorem enumD_map (cs : List Int) : ∀ i : Nat, enumD i (cs.map PyData.int) = (cs.zipIdx i).map fun p => .tuple [.int (p.2 : Nat), .int p.1] := by
  induction cs with
  | nil => intro i; rfl
  | cons c r ih => intro i; simp only [List.map_cons, enumD, List.zipIdx_cons, ih]
theorem cutD_take {ds : List PyData} {n : Int} (h : 0 ≤ n) : cutD ds none (some n) = ds.take n.toNat := by
  unfold cutD
  simp only [HT.sIx]
  rw [if_neg (by omega)]
  simp only [List.drop_zero, Nat.sub_zero]
  rw [← List.take_eq_take_min]
theorem shaped_list_ints (ns : List Int) : SeqAt.shaped (.list (ns.map PyData.int)) = true := by
  have h1 : ∀ l : List Int, PyData.canLayAll0 (l.map PyData.int) = true := by
    intro l
    induction l with
    | nil => rfl
    | cons n r ih => simp only [List.map_cons, PyData.canLayAll0, PyData.canLay0, ih]; rfl
  have h2 : ∀ l : List Int, PyData.depthAll (l.map PyData.int) = 0 := by
    intro l
    induction l with
    | nil => rfl
    | cons n r ih => simp only [List.map_cons, PyData.depthAll, PyData.depth, ih]; rfl
  unfold SeqAt.shaped
  simp only [PyData.canLay0, PyData.depth, h1, h2]
  rfl
theorem run_rt {N k : Nat} {f : MS} {ds : List PyData} {r : R} (h : ds.length = k) (e : f (startE N ds) = some (.rt r)) : runS N k f ds = some r := by rw [xrunS, if_pos h, e]; rfl
theorem rg1_int {l : M (List PyData)} {ρ : En} {j : Int} (h : l ρ = some [.int j]) (h0 : -1000000 ≤ j) (h1 : j ≤ 1000000) : mRg1 l ρ = some (rngD 0 j.toNat) := by
  rw [xRg1, h, Option.bind_some]
  exact if_pos ⟨h0, h1⟩
theorem rg2_int {l : M (List PyData)} {ρ : En} {i j : Int} (h : l ρ = some [.int i, .int j]) (h0 : -1000000 ≤ i ∧ i ≤ 1000000) (h1 : -1000000 ≤ j ∧ j ≤ 1000000) : mRg2 l ρ = some (rngD i (j - i).toNat) := by
  rw [xRg2, h, Option.bind_some]
  exact if_pos ⟨h0, h1⟩
end Vs

namespace Vs
open PySem PySem.Spec PyProof.Rows L2
variable {C : Ct} {pos p p2 p3 apos cpos : Pos} {e a b c tg iter tg1 iter1 : Expr} {es : List Expr} {x y : Str} {ma mb mc : M PyData} {mt ms : M Bool} {m n : MS}
structure ExD (D : Addr) (F H F' H' : Hp) : Prop where
  ff : Same F F'
  hh : ∀ b o, b ≠ D → H b = some o → H' b = some o
  fh : Same F' H'
  nw : ∀ b, F b = none → H b ≠ none → F' b = none
theorem ExD.trans {D : Addr} {F H F1 H1 F2 H2 : Hp} (a : ExD D F H F1 H1) (b : ExD D F1 H1 F2 H2) (hD : H1 D ≠ none) : ExD D F H F2 H2 := by
  refine ⟨a.ff.trans b.ff, fun q o n h => b.hh q o n (a.hh q o n h), b.fh, fun q h1 h2 => b.nw q (a.nw q h1 h2) ?_⟩
  by_cases hq : q = D
  · rw [hq]; exact hD
  · cases e : H q with
    | none => exact absurd e h2
    | some o => rw [a.hh q o hq e]; simp
theorem ExD.app {D : Addr} {F H : Hp} {o : HO} (fh : Same F H) (hF : F D = none) (hD : H D ≠ none) : ExD D F H F (upd H D o) := by
  refine ⟨.refl _, fun b u n h => by rw [upd_ne n]; exact h, fun b u h => ?_, fun b h _ => h⟩
  have : b ≠ D := fun z => by rw [z, hF] at h; cases h
  rw [upd_ne this]
  exact fh b u h
structure AccD (K : PySem.W.Frag) (D : Addr) (F H : Hp) (acc : List V) (ys : List PyData) : Prop where
  at' : H D = some (.lst acc)
  fr : F D = none
  all : DpAll K F acc ys
theorem AccD.ex {K : PySem.W.Frag} {D : Addr} {F H F' H' : Hp} {acc : List V} {ys : List PyData} (a : AccD K D F H acc ys) (x : Ex F H F' H') : AccD K D F' H' acc ys := ⟨x.hh D _ a.at', x.nw D a.fr (by rw [a.at']; simp), DpAll.up a.all x.ff⟩
theorem AccD.live {K : PySem.W.Frag} {D : Addr} {F H : Hp} {acc : List V} {ys : List PyData} (a : AccD K D F H acc ys) : H D ≠ none := by rw [a.at']; simp
end Vs

namespace Vs
open PySem PySem.Spec PyProof.Rows L2
def rowAt (rs : List (List (Int × Int))) (j : Int) : List (Int × Int) := rs.getD j.toNat []
abbrev InR (rs : List (List (Int × Int))) (j : Int) : Prop := 0 ≤ j ∧ j < rs.length
structure Chs (rs : List (List (Int × Int))) (js : List Int) : Prop where
  inr : ∀ j ∈ js, InR rs j
  up : rising js = true
  len : js.length ≤ 1000
def clW (m : Int) (rs : List (List (Int × Int))) (c : Int) (os : List Int) : Bool := os.any fun o => clashB m (rowAt rs c) (rowAt rs o)
def hasB (rs : List (List (Int × Int))) (j t : Int) : Bool := (rowAt rs j).any fun x => decide (x.1 = t)
section
variable {ρ : En} {a b : M PyData} {l it1 : M (List PyData)} {t t1 : M Bool} {i N : Nat}
end
theorem shaped_refl {d : PyData} (h : SeqAt.shaped d = true) : gNe d d = some (.bl false) ∧ gEq d d = some (.bl true) := by
  have h2 := SeqAt.eqv_refl d (Bool.and_eq_true_iff.mp h).1
  unfold gNe gEq
  rw [if_pos ⟨h, h⟩, if_pos ⟨h, h⟩, h2]
  exact ⟨rfl, rfl⟩
theorem zipIdx_mem {js : List Int} {p : Int × Nat} (h : p ∈ js.zipIdx 0) : p.1 ∈ js ∧ p.2 < js.length := by
  obtain ⟨c, i⟩ := p
  have := List.mem_zipIdx h
  simp at this
  exact ⟨by rw [this.2]; exact List.getElem_mem _, this.1⟩
end Vs

namespace Vs
open PySem PySem.Spec PyProof.Rows L2
variable {C : Ct} {pos p p2 apos cpos : Pos} {e a b c o : Expr} {es : List Expr} {x y f m : Str} {ma mb mc : M PyData} {mt ms : M Bool}
def obD (cl : Addr) (fl : List (Str × PyData)) : PyData := .dict ((.int (cl : Int), .none) :: fl.map fun q => (PyData.str q.1, q.2))
def lookF (f : Str) : List (PyData × PyData) → Option PyData
  | (.str x, d) :: r => if f == x then some d else lookF f r
  | _ => none
theorem DpF.look {K : PySem.W.Frag} {H : Hp} {f : Str} : ∀ {fs : List (Str × V)} {ds : List (PyData × PyData)} {d : PyData}, DpF K H fs ds → lookF f ds = some d → ∃ v, fs.lookup f = some v ∧ Dp K H v d
  | _, _, _, .nil, e => by cases e
  | _, _, d, .cons (x := x) (v := v) (fs := fs) h t, e => by
    unfold lookF at e
    rw [List.lookup_cons]
    cases hx : (f == x) with
    | true =>
      rw [hx] at e
      cases e
      exact ⟨v, rfl, h⟩
    | false =>
      rw [hx] at e
      exact DpF.look t e
theorem DpF.no {K : PySem.W.Frag} {H : Hp} {f : Str} : ∀ {fs : List (Str × V)} {ds : List (PyData × PyData)}, DpF K H fs ds → lookF f ds = none → fs.lookup f = none
  | _, _, .nil, e => rfl
  | _, _, .cons (x := x) (v := v) (fs := fs) h t, e => by
    unfold lookF at e
    rw [List.lookup_cons]
    cases hx : (f == x) with
    | true => rw [hx] at e; cases e
    | false =>
      rw [hx] at e
      exact DpF.no t e
theorem DpF.app {K : PySem.W.Frag} {H : Hp} : ∀ {fs gs : List (Str × V)} {ds es : List (PyData × PyData)}, DpF K H fs ds → DpF K H gs es → DpF K H (fs ++ gs) (ds ++ es)
  | _, _, _, _, .nil, h => h
  | _, _, _, _, .cons h t, k => .cons h (DpF.app t k)
theorem DpF.up {K : PySem.W.Frag} {F G : Hp} {fs : List (Str × V)} {ds : List (PyData × PyData)} (h : DpF K F fs ds) (s : Same F G) : DpF K G fs ds := dpf_mono s ds fs h
structure InsOf (K : PySem.W.Frag) (cl D : Addr) (b : Bool) : Prop where
  kc : Cls K cl
  ha : PySem.W.findIn K (.ref cl) "__class__" = some (some (.builtin "object.__class__"))
  hn : PySem.W.specialIn K (.builtin "object.__class__") "__get__" = some (some (.builtin "getset_descriptor.__get__"))
  htk : PySem.W.takesIn K (.builtin "object.__class__") = some true
  hm : PySem.W.mroIn K cl (.type "object") = some true
  hk : PySem.W.kitOne K (.ref cl) (.ref D) = some b
structure DefM (P : Program) (w : World) (K : PySem.W.Frag) (mg : Str → Option Value) (base : Heap) (k : Nat) (cl : Addr) (m : Str) (n : Nat) (f : List PyData → Option R) : Prop where
  ex : (∀ ds, f ds = none) ∨ ∃ (fa : Addr) (fd : FuncData) (ps : List Str), FnOk P w K mg base CX0 k fa fd ps (spOf K n f) ∧ Cls K cl ∧ Meth K cl m fa ∧ Binds K fd ps []
end Vs

namespace Vs
open PySem PySem.Spec PyProof.Rows L2
variable {C : Ct} {pos p p2 apos cpos : Pos} {e a b c o : Expr} {es : List Expr} {x y f m : Str} {ma mb mc : M PyData} {mt ms : M Bool}
abbrev flD (fl : List (Str × PyData)) : List (PyData × PyData) := fl.map fun q => (PyData.str q.1, q.2)
structure Made (F H : Hp) (x : Addr) (F' H' : Hp) : Prop where
  ff : Same F F'
  fh : Same F' H'
  fx : F' x = none
  keep : ∀ b o, H b = some o → b ≠ x → H' b = some o
  nw : ∀ b, F b = none → H b ≠ none → F' b = none
theorem Made.trans {F H F1 H1 F2 H2 : Hp} {x : Addr} (a : Made F H x F1 H1) (b : Made F1 H1 x F2 H2) : Made F H x F2 H2 := by
  refine ⟨a.ff.trans b.ff, b.fh, b.fx, fun q o h n => b.keep q o (a.keep q o h n) n, fun q h1 h2 => ?_⟩
  by_cases hq : q = x
  · rw [hq]; exact b.fx
  · refine b.nw q (a.nw q h1 h2) ?_
    cases e : H q with
    | none => exact absurd e h2
    | some o => rw [a.keep q o e hq]; simp
theorem Stt.made {K : PySem.W.Frag} {F H F' H' : Hp} {x : Addr} {ρ : En} {σ : L2.St} (S : Stt K F H ρ σ (fun _ => [])) (M : Made F H x F' H') : Stt K F' H' ρ σ (fun _ => []) :=
  ⟨S.len, fun i r e => let ⟨v, h1, h2⟩ := S.own i r e; ⟨v, h1, h2.up M.ff fun p hp => by simp at hp⟩, fun _ _ _ h => by simp at h, fun _ => .nil, fun _ _ h => by simp at h, M.fh⟩
def nC (f : Str) (ma : M PyData) (g : M (List (Str × PyData))) : M (List (Str × PyData)) := fun ρ => (ma ρ).bind fun d => (g ρ).map ((f, d) :: ·)
def spInit (K : PySem.W.Frag) (cl : Addr) (n : Nat) (g : List PyData → Option (List (Str × PyData))) : Sp := fun vs H Q _ => ∃ x dx us F ds fl, vs = V.ref x :: us ∧ us.length = n ∧ H x = some (.ins cl dx []) ∧ F x = none ∧ Same F H ∧ DpAll K F us ds ∧ g ds = some fl ∧
  ∀ F' H' vs', H' x = some (.ins cl dx vs') → DpF K F' vs' (flD fl) → Made F H x F' H' → Q .non H'
structure DefC (P : Program) (w : World) (K : PySem.W.Frag) (mg : Str → Option Value) (base : Heap) (k : Nat) (x : Str) (n : Nat) (f : List PyData → Option R) : Prop where
  ex : (∀ ds, f ds = none) ∨ ∃ (j : Nat) (fa cl : Addr) (fd : FuncData) (ps : List Str) (g : List PyData → Option (List (Str × PyData))), j + 1 ≤ k ∧ FnOk P w K mg base CX0 j fa fd ps (spInit K cl n g) ∧ mg x = some (.ref cl) ∧ Mk K cl fa ∧ Binds K fd ps [] ∧ ∀ ds r, f ds = some r → ∃ fl, g ds = some fl ∧ r = .f (obD cl fl)
end Vs

namespace Vs
open PySem PySem.Spec PyProof.Rows L2
variable {C : Ct} {pos p p2 apos cpos : Pos} {e a b c o tg : Expr} {es : List Expr} {x y f m : Str} {ma mb mc : M PyData} {mt ms : M Bool}
end Vs
namespace Vs
open PySem PySem.Spec PyProof.Rows L2 PySem.W
end Vs

namespace Vs
open PySem PySem.Spec PyProof.Rows L2
variable {C : Ct} {pos p p2 p3 tpos apos cpos : Pos} {e a b c o tg : Expr} {es : List Expr} {x y z f m : Str} {ma mb mc : M PyData} {mt ms : M Bool}
end Vs

set_option maxHeartbeats 400000
namespace Ts
open PySem PySem.Spec PyProof.Rows PySem.W
end Ts

set_option maxHeartbeats 400000
namespace Ts
open PySem PySem.Spec PyProof.Rows PySem.W
structure SX where
  prog : Program
  w : World
  A : Around
  E : Value → Shared → Prop
  I : Shared → Prop
  κ : SortKind
  lt : Keyed → Keyed → Bool
  ok : Keyed → Prop
  ask : ∀ x y, ok x → ok y → ∀ (Q : Bool → Shared → Prop) s, I s → (∀ s', I s' → Q (lt x y) s') → wpAny (model prog w) A (keyLt' κ x.1 y.1) Q (fun _ _ => False) s
  as : ∀ x y, lt x y = true → lt y x = false
  tr : ∀ x y z, lt y x = false → lt z y = false → lt z x = false
variable {X : SX}
def W (X : SX) {σ α : Type} (m : StateT σ Sem α) (P : α → σ → Prop) (st : σ) : Prop := ∀ s, X.I s → kasC (model X.prog X.w) X.A X.E m (fun a st' s' => X.I s' ∧ P a st') st s
section
variable {st : SortSt} {arr : Array Keyed} {base n hint : Nat} {left : Bool} {key : Keyed} {el : Nat → Keyed}
end
end Ts

set_option maxHeartbeats 400000
namespace Ts
open PySem PySem.Spec PyProof.Rows PySem.W
abbrev G7 := Option (Array Keyed) × Array Keyed × Nat × Nat × Nat × Nat × Nat
def loD (a b out : Array Keyed) (ia ib : Nat) : Array Keyed := out ++ a.extract ia ++ b.extract ib
end Ts

set_option maxHeartbeats 400000
namespace Ts
open PySem PySem.Spec PyProof.Rows PySem.W
def le (X : SX) (x y : Keyed) : Prop := X.lt y x = false
def Srt (X : SX) (l : List Keyed) : Prop := l.Pairwise (le X)
theorem Srt.app {X : SX} {l m : List Keyed} (h1 : Srt X l) (h2 : Srt X m) (h : ∀ x ∈ l, ∀ y ∈ m, le X x y) : Srt X (l ++ m) := List.pairwise_append.mpr ⟨h1, h2, h⟩
structure MI (X : SX) (all out RA RB : List Keyed) : Prop where
  pm : (out ++ (RA ++ RB)).Perm all
  so : Srt X out
  sa : Srt X RA
  sb : Srt X RB
  se : ∀ x ∈ out, ∀ y ∈ RA ++ RB, le X x y
variable {X : SX} {all out RA RB P : List Keyed}
def Good (X : SX) (all : List Keyed) (r : Array Keyed) : Prop := Srt X r.toList ∧ r.toList.Perm all
theorem MI.fin1 (h : MI X all out RA RB) (k : ∀ x ∈ RA, ∀ y ∈ RB, le X x y) : Srt X (out ++ RA ++ RB) ∧ (out ++ RA ++ RB).Perm all :=
  ⟨by rw [List.append_assoc]; exact h.so.app (h.sa.app h.sb k) h.se, by rw [List.append_assoc]; exact h.pm⟩
theorem MI.fin2 (h : MI X all out RA RB) (k : ∀ y ∈ RB, ∀ x ∈ RA, le X y x) : Srt X (out ++ RB ++ RA) ∧ (out ++ RB ++ RA).Perm all :=
  ⟨by rw [List.append_assoc]; exact h.so.app (h.sb.app h.sa k) fun x hx y hy => h.se x hx y (by rcases List.mem_append.mp hy with hy | hy <;> simp [hy]), by
    rw [List.append_assoc]
    exact List.Perm.trans (List.Perm.append_left _ List.perm_append_comm) h.pm⟩
theorem ext_drop {a : Array Keyed} {i : Nat} : (a.extract i).toList = a.toList.drop i := by
  rw [Array.toList_extract, List.extract_eq_drop_take]
  apply List.take_of_length_le
  simp
structure LoH (X : SX) (a b : Array Keyed) : Prop where
  oka : ∀ x ∈ a.toList, X.ok x
  okb : ∀ x ∈ b.toList, X.ok x
  sa : Srt X a.toList
  sb : Srt X b.toList
section
variable {a b o : Array Keyed} {ia ib mg ac bc : Nat} {st : SortSt}
abbrev MA (X : SX) (a b o : Array Keyed) (ia ib : Nat) : Prop := MI X (a.toList ++ b.toList) o.toList (a.toList.drop ia) (b.toList.drop ib)
theorem MA.done (m : MA X a b o ia ib) (h : a.size ≤ ia ∨ b.size ≤ ib) : Good X (a.toList ++ b.toList) (loD a b o ia ib) := by
  unfold Good loD
  rw [Array.toList_append, Array.toList_append, ext_drop, ext_drop]
  refine m.fin1 fun x hx y hy => ?_
  rcases h with h | h
  · rw [List.drop_of_length_le (by simpa using h)] at hx; cases hx
  · rw [List.drop_of_length_le (by simpa using h)] at hy; cases hy
def Eqv (st st' : SortSt) : Prop := PyProof.Rows.kindOf st' = PyProof.Rows.kindOf st ∧ arrOf st' = arrOf st ∧ pendingOf st' = pendingOf st ∧ failedOf st' = failedOf st
theorem Eqv.tr {s t u : SortSt} (h : Eqv s t) (k : Eqv t u) : Eqv s u := ⟨k.1.trans h.1, k.2.1.trans h.2.1, k.2.2.1.trans h.2.2.1, k.2.2.2.trans h.2.2.2⟩
section
variable {R : ForInStep G7 → SortSt → Prop} (hr : ∀ r c, Good X (a.toList ++ b.toList) r → R (.done (some r, c)) st)
include hr
end
end
end Ts

set_option maxHeartbeats 400000
namespace Ts
open PySem PySem.Spec PyProof.Rows PySem.W
abbrev K7 := Option (Array Keyed) × Nat × Nat × Array Keyed × Nat × Nat × Nat
def hiD (a b out : Array Keyed) (na nb : Nat) : Array Keyed := a.extract 0 na ++ b.extract 0 nb ++ out.reverse
def hiE (a b out : Array Keyed) (na nb : Nat) : Array Keyed := b.extract 0 nb ++ a.extract 0 na ++ out.reverse
structure MR (X : SX) (all RA RB out : List Keyed) : Prop where
  pm : (RA ++ RB ++ out).Perm all
  so : Srt X out
  sa : Srt X RA
  sb : Srt X RB
  se : ∀ x ∈ RA ++ RB, ∀ y ∈ out, le X x y
variable {X : SX} {all out RA RB P : List Keyed}
theorem MR.fin1 (h : MR X all RA RB out) (k : ∀ x ∈ RA, ∀ y ∈ RB, le X x y) : Srt X (RA ++ RB ++ out) ∧ (RA ++ RB ++ out).Perm all := ⟨(h.sa.app h.sb k).app h.so h.se, h.pm⟩
theorem MR.fin2 (h : MR X all RA RB out) (k : ∀ y ∈ RB, ∀ x ∈ RA, le X y x) : Srt X (RB ++ RA ++ out) ∧ (RB ++ RA ++ out).Perm all :=
  ⟨(h.sb.app h.sa k).app h.so fun x hx y hy => h.se x (by rcases List.mem_append.mp hx with hx | hx <;> simp [hx]) y hy, List.Perm.trans (List.Perm.append_right _ List.perm_append_comm) h.pm⟩
theorem ext_0 {a : Array Keyed} {i : Nat} : (a.extract 0 i).toList = a.toList.take i := by
  rw [Array.toList_extract, List.extract_eq_drop_take]
  simp
section
variable {a b o : Array Keyed} {na nb mg ac bc : Nat} {st : SortSt}
abbrev MB (X : SX) (a b o : Array Keyed) (na nb : Nat) : Prop := MR X (a.toList ++ b.toList) (a.toList.take na) (b.toList.take nb) o.toList.reverse
theorem MB.done (m : MB X a b o na nb) (h : na = 0 ∨ nb = 0) : Good X (a.toList ++ b.toList) (hiD a b o na nb) := by
  unfold Good hiD
  rw [Array.toList_append, Array.toList_append, ext_0, ext_0, Array.toList_reverse]
  refine m.fin1 fun x hx y hy => ?_
  rcases h with rfl | rfl
  · simp at hx
  · simp at hy
theorem MB.first (m : MB X a b o na nb) (hf : ∀ y ∈ b.toList.take 1, ∀ x ∈ a.toList, le X y x) (h : nb = 1) : Good X (a.toList ++ b.toList) (hiE a b o na nb) := by
  unfold Good hiE
  rw [Array.toList_append, Array.toList_append, ext_0, ext_0, Array.toList_reverse]
  subst h
  exact m.fin2 fun y hy x hx => hf y hy x (List.mem_of_mem_take hx)
section
variable {R : ForInStep K7 → SortSt → Prop} (hr : ∀ r c, Good X (a.toList ++ b.toList) r → R (.done (some r, c)) st)
include hr
end
end
end Ts

set_option maxHeartbeats 400000
namespace Ts
open PySem PySem.Spec PyProof.Rows PySem.W
def offs : Nat → List (List Keyed) → List (Nat × Nat)
  | _, [] => []
  | o, g :: gs => (o, g.length) :: offs (o + g.length) gs
theorem offs_len : ∀ (A : List (List Keyed)) (o : Nat), (offs o A).length = A.length
  | [], _ => rfl
  | _ :: A, o => by simp [offs, offs_len A]
def Pend (p : Array (Nat × Nat × Nat)) (segs : List (List Keyed)) : Prop := p.toList.map (fun e => (e.1, e.2.1)) = offs 0 segs
theorem Pend.size {p : Array (Nat × Nat × Nat)} {segs : List (List Keyed)} (h : Pend p segs) : p.size = segs.length := by
  have := congrArg List.length h
  rw [List.length_map, offs_len, Array.length_toList] at this
  exact this
structure SS (X : SX) (st : SortSt) : Prop where
  kind : PyProof.Rows.kindOf st = X.κ
  fail : failedOf st = none
variable {X : SX} {st : SortSt}
end Ts

set_option maxHeartbeats 400000
namespace Ts
open PySem PySem.Spec PyProof.Rows PySem.W
variable {X : SX} {st : SortSt}
def Dist (X : SX) (l : List Keyed) : Prop := l.Pairwise fun x y => X.lt x y = true ∨ X.lt y x = true
theorem Dist.perm {l m : List Keyed} (h : Dist X l) (p : m.Perm l) : Dist X m := (List.Perm.pairwise_iff (fun h => h.symm) p).mpr h
theorem Dist.get {l : List Keyed} (h : Dist X l) {i j : Nat} (hij : i < j) (hj : j < l.length) : X.lt (l[i]'(by omega)) l[j] = true ∨ X.lt l[j] (l[i]'(by omega)) = true := List.pairwise_iff_getElem.mp h i j (by omega) hj hij
end Ts

set_option maxHeartbeats 400000
namespace Ts
open PySem PySem.Spec PyProof.Rows PySem.W
variable {X : SX} {st : SortSt}
structure RI (X : SX) (a0 : List Keyed) (st : SortSt) (segs : List (List Keyed)) (rest : List Keyed) : Prop where
  ss : SS X st
  arr : (arrOf st).toList = segs.flatten ++ rest
  pm : (segs.flatten ++ rest).Perm a0
  pend : Pend (pendingOf st) segs
  srt : ∀ g ∈ segs, Srt X g ∧ g ≠ []
end Ts

set_option maxHeartbeats 400000
namespace Ts
open PySem PySem.Spec PyProof.Rows PySem.W
section
variable {prog : Program} {w : World} {A : Around} {E : Value → Shared → Prop} {s : Shared}
end
end Ts

set_option maxHeartbeats 400000
namespace Ts
open PySem PySem.Spec PyProof.Rows PySem.W L2
theorem intsAre_get : ∀ {vs : List Value} {ns : List Int}, IntsAre vs ns → ∀ {i : Nat}, i < vs.length → ∃ a t, vs[i]? = some (.int a t) ∧ ns[i]? = some a
  | _, _, .nil, i, hi => by simp at hi
  | _, _, .cons n t h, 0, hi => ⟨n, t, rfl, rfl⟩
  | _, _, .cons n t h, i + 1, hi => by
    obtain ⟨a, u, h1, h2⟩ := intsAre_get h (i := i) (by simpa using hi)
    exact ⟨a, u, by simpa using h1, by simpa using h2⟩
end Ts

namespace Vs
open PySem PySem.Spec PyProof.Rows L2 PySem.W

def keyH (h : Heap) : Value → List Int
  | .ref a => match h.get? a with
    | some o => match o.data with
      | .seq items _ => items.toList.map fun v => match v with
        | .int n _ => n
        | _ => 0
      | _ => []
    | none => []
  | _ => []
section
variable {prog : Program} {w : World} {A : Around} {E : Value → Shared → Prop} {s : Shared}
end
end Vs

namespace Vs
open PySem PySem.Spec PyProof.Rows L2 PySem.W
variable {C : Ct} {e : Expr} {p pos : Pos}
def sortI (ns : List Int) : List Int := ns.mergeSort fun a b => decide (a ≤ b)
theorem sortI_perm (ns : List Int) : (sortI ns).Perm ns := List.mergeSort_perm ns _
theorem sortI_sorted (ns : List Int) : (sortI ns).Pairwise (· ≤ ·) := by
  have := List.pairwise_mergeSort (le := fun a b : Int => decide (a ≤ b)) (fun a b c h1 h2 => by
    simp only [decide_eq_true_eq] at *
    omega) (fun a b => by
    simp only [Bool.or_eq_true, decide_eq_true_eq]
    omega) ns
  exact this.imp fun h => by simpa using h
theorem sortedI_uniq : ∀ {l m : List Int}, l.Pairwise (· ≤ ·) → m.Pairwise (· ≤ ·) → l.Perm m → l = m
  | [], m, _, _, p => (List.nil_perm.mp p).symm
  | a :: l, [], _, _, p => absurd p.length_eq (by simp)
  | a :: l, b :: m, h1, h2, p => by
    have h1' := List.pairwise_cons.mp h1
    have h2' := List.pairwise_cons.mp h2
    have e : a = b := by
      have ma : a ∈ b :: m := p.mem_iff.mp List.mem_cons_self
      have mb : b ∈ a :: l := p.mem_iff.mpr List.mem_cons_self
      rcases List.mem_cons.mp ma with e | ma
      · exact e
      · rcases List.mem_cons.mp mb with e | mb
        · exact e.symm
        · exact Int.le_antisymm (h1'.1 b mb) (h2'.1 a ma)
    subst e
    rw [sortedI_uniq h1'.2 h2'.2 (List.Perm.cons_inv p)]
def lisD (ns : List Int) : PyData := .list (ns.map PyData.int)
end Vs

namespace Vs
open PySem PySem.Spec PyProof.Rows L2 PySem.W
variable {C : Ct} {e c : Expr} {p pos : Pos}
end Vs

namespace Vs
open PySem PySem.Spec PyProof.Rows L2 PySem.W
section
variable {prog : Program} {w : World} {A : Around} {E : Value → Shared → Prop} {s : Shared}
end
variable {C : Ct} {x : Str} {a : Expr} {p p2 tpos pos : Pos}
end Vs

namespace Vs
open PySem PySem.Spec PyProof.Rows L2 PySem.W
variable {C : Ct} {e st : Expr} {p p2 pos : Pos}
end Vs

namespace Vs
open PySem PySem.Spec PyProof.Rows L2 PySem.W
variable {C : Ct} {x y z : Str} {e a b c : Expr} {p p2 p3 p4 p5 p6 p7 pos pos2 pos3 apos cpos tpos : Pos} {ma mb : M PyData} {st : Stmt} {sts : List Stmt}
theorem do_sc {K : PySem.W.Frag} {H F : Hp} {v : V} {d : PyData} {s : Sc} (h : Dp K F v d) (e : sc? d = some s) : Do K H v d [] := by
  cases h <;> simp only [sc?] at e <;> try cases e
  · exact .non
  · exact .bl _
  · exact .int _
  · exact .str _
def allSc (ds : List PyData) : Bool := ds.all fun d => (sc? d).isSome
theorem dos_sc {K : PySem.W.Frag} {H F : Hp} : ∀ {vs : List V} {ds : List PyData}, DpAll K F vs ds → allSc ds = true → DoAll K H vs ds []
  | _, _, .nil, _ => .nil
  | _, d :: ds, .cons h t, e => by
    unfold allSc at e
    rw [List.all_cons, Bool.and_eq_true] at e
    obtain ⟨s, hs⟩ := Option.isSome_iff_exists.mp e.1
    exact .cons (fp := []) (fq := []) (do_sc h hs) (dos_sc t e.2)
theorem DoAll.len {K : PySem.W.Frag} {H : Hp} : ∀ {vs : List V} {ds : List PyData} {fp : List Addr}, DoAll K H vs ds fp → vs.length = ds.length
  | _, _, _, .nil => rfl
  | _, _, _, .cons _ t => congrArg (· + 1) (DoAll.len t)
theorem DoAll.app {K : PySem.W.Frag} {H : Hp} : ∀ {vs us : List V} {ds es : List PyData} {fp fq : List Addr}, DoAll K H vs ds fp → DoAll K H us es fq → DoAll K H (vs ++ us) (ds ++ es) (fp ++ fq)
  | _, _, _, _, _, _, .nil, h => h
  | _, _, _, _, _, _, .cons h t, k => by
    rw [List.append_assoc]
    exact .cons h (DoAll.app t k)
theorem DoAll.split {K : PySem.W.Frag} {H : Hp} : ∀ (n : Nat) {vs : List V} {ds : List PyData} {fp : List Addr}, DoAll K H vs ds fp → ∃ f1 f2, fp = f1 ++ f2 ∧ DoAll K H (vs.take n) (ds.take n) f1 ∧ DoAll K H (vs.drop n) (ds.drop n) f2
  | 0, vs, ds, fp, h => ⟨[], fp, rfl, by simp; exact .nil, h⟩
  | n + 1, _, _, _, .nil => ⟨[], [], rfl, .nil, .nil⟩
  | n + 1, _, _, _, .cons (fp := f) h t => by
    obtain ⟨f1, f2, rfl, h1, h2⟩ := DoAll.split n t
    exact ⟨f ++ f1, f2, by rw [List.append_assoc], .cons h h1, h2⟩
def toDn (i : Nat) (ρ : En) : Option En := match at' ρ i with
  | some (.ol ds) => if allSc ds = true then some (ρ.set i (some (.dn (.list ds)))) else none
  | _ => none
theorem stt_toDn {K : PySem.W.Frag} {F H : Hp} {ρ ρ' : En} {σ : L2.St} {fps : Nat → List Addr} {i : Nat} (S : Stt K F H ρ σ fps) (e : toDn i ρ = some ρ') : Stt K F H ρ' σ fps := by
  unfold toDn at e
  cases er : at' ρ i with
  | none => rw [er] at e; cases e
  | some r =>
    rw [er] at e
    cases r with
    | ol ds =>
      obtain ⟨hs, rfl⟩ := iteS e
      obtain ⟨v, hv, o⟩ := S.own i _ (at'_some er)
      obtain ⟨l, xs, rfl, hl, ha, hf⟩ := own_ol o
      refine ⟨by rw [List.length_set]; exact S.len, fun j r' e' => ?_, S.dis, S.nd, S.fre, S.fh⟩
      by_cases hj : j = i
      · subst hj
        have hlen : j < ρ.length := (List.getElem?_eq_some_iff.mp (at'_some er)).1
        rw [List.getElem?_set_self hlen] at e'
        cases e'
        exact ⟨_, hv, by rw [hf]; exact .dn (.lst hl (dos_sc ha hs))⟩
      · rw [List.getElem?_set_ne (Ne.symm hj)] at e'
        exact S.own j r' e'
    | f _ => cases e
    | ot _ => cases e
    | od _ => cases e
    | dn _ => cases e
def sDn (i : Nat) (m : MS) : MS := fun ρ => (m ρ).bind fun o => match o with
  | .nx ρ' => (toDn i ρ').map Fl.nx
  | o => some o
theorem ES.dn (i : Nat) {m : MS} (h : ES C st m) : ES C st (sDn i m) := by
  obtain ⟨ts, pt, vt⟩ := h
  refine ⟨ts, pt, fun ρ σ F H fps D out e S q => ?_⟩
  obtain ⟨o, e1, e⟩ := bind2 e
  refine vt ρ σ F H fps D o e1 S ?_
  cases o with
  | nx ρ' =>
    obtain ⟨ρ2, e2, rfl⟩ := map2 (show (toDn i ρ').map Fl.nx = some out from e)
    exact fun σ' F' H' fps' S' x' => q σ' F' H' fps' (stt_toDn S' e2) x'
  | rt r => cases e; exact q
  | bk ρ' => cases e; exact q
  | ct ρ' => cases e; exact q
theorem Stt.heap {K : PySem.W.Frag} {F H H' : Hp} {ρ : En} {σ : L2.St} {fps : Nat → List Addr} (S : Stt K F H ρ σ fps) (hF : Same F H') (hp : ∀ i, ∀ q ∈ fps i, ∀ o, H q = some o → H' q = some o) : Stt K F H' ρ σ fps :=
  ⟨S.len, fun j r e => let ⟨w, hw, o⟩ := S.own j r e; ⟨w, hw, o.up (.refl _) (hp j)⟩, S.dis, S.nd, fun j q hq => ⟨(S.fre j q hq).1, by
    cases e : H q with
    | none => exact absurd e (S.fre j q hq).2
    | some o => rw [hp j q hq o e]; simp⟩, hF⟩
end Vs

namespace Vs
open PySem PySem.Spec PyProof.Rows L2 PySem.W
variable {C : Ct} {xm xs xc : Str} {c : Expr} {p1 p2 p3 p4 p5 p6 p7 p8 p9 p10 p11 p12 q1 q2 q3 q4 q5 q6 apos cpos : Pos} {mt : M Bool}
end Vs

namespace Vs
open PySem PySem.Spec PyProof.Rows L2
variable {C : Ct} {pos p p2 apos cpos : Pos} {e a b c o : Expr} {es : List Expr} {x y f m : Str} {ma mb mc : M PyData} {mt ms : M Bool}
def spInitD (K : PySem.W.Frag) (cl : Addr) (f : Str) (n : Nat) (g : List PyData → Option PyData) : Sp := fun vs H Q _ => ∃ x dx us F ds d, vs = V.ref x :: us ∧ us.length = n ∧ H x = some (.ins cl dx []) ∧ F x = none ∧ Same F H ∧ DpAll K F us ds ∧ g ds = some d ∧
  ∀ H' v fp, H' x = some (.ins cl dx [(f, v)]) → Do K H' v d fp → (x :: fp).Nodup → (∀ q ∈ fp, H q = none) → (∀ b o, H b = some o → b ≠ x → H' b = some o) → Q .non H'
structure DefCD (P : Program) (w : World) (K : PySem.W.Frag) (mg : Str → Option Value) (base : Heap) (k : Nat) (x : Str) (n : Nat) (g : List PyData → Option R) : Prop where
  ex : (∀ ds, g ds = none) ∨ ∃ (j : Nat) (fa cl : Addr) (f : Str) (fd : FuncData) (ps : List Str) (g' : List PyData → Option PyData), j + 1 ≤ k ∧ FnOk P w K mg base CX0 j fa fd ps (spInitD K cl f n g') ∧ mg x = some (.ref cl) ∧ Mk K cl fa ∧ Binds K fd ps [] ∧ ∀ ds r, g ds = some r → ∃ d, g' ds = some d ∧ r = .dn (obD cl [(f, d)])
end Vs

namespace RvT
open PySem PyProof.Rows
def IsRv (h : Heap) (it a : Addr) (i : Int) : Prop := ∃ o, h.get? it = some o ∧ o.cls = .type "reversed" ∧ o.data = .fields #[.ref a, rawInt i]
section
variable {prog : Program} {w : World} {A : Around} {E : Value → Shared → Prop} {s : Shared}
theorem IsRv.typeIs {it a : Addr} {i : Int} (x : IsRv s.heap it a i) : s.TypeIs (.ref it) "reversed" := let ⟨o, ho, hc, _⟩ := x; ⟨o, ho, hc⟩
theorem IsRv.at {h h' : Heap} {it a : Addr} {i : Int} (x : IsRv h it a i) (e : ∀ o, h.get? it = some o → h'.get? it = some o) : IsRv h' it a i := let ⟨o, ho, r⟩ := x; ⟨o, e _ ho, r⟩
end
end RvT
namespace Vs
open PySem PySem.Spec PyProof.Rows L2 RvT
section
variable {X : Cx} {tg : Expr}
end
variable {C : Ct} {pos p : Pos} {e tg : Expr}
end Vs

namespace Vs
open PySem PySem.Spec PyProof.Rows L2
variable {C : Ct} {pos p p2 apos cpos : Pos} {e a b c o : Expr} {es : List Expr} {x y f m : Str} {ma mb mc : M PyData} {mt ms : M Bool}
def scs? (ds : List PyData) : Bool := ds.all fun d => (sc? d).isSome
def freeR : R → Bool
  | .f d => (sc? d).isSome
  | .ol ds => scs? ds
  | .dn _ => true
  | _ => false
theorem sc_dp {K : PySem.W.Frag} {F G : Hp} {v : V} {d : PyData} (h : Dp K F v d) (e : (sc? d).isSome = true) : Dp K G v d := by
  cases ec : sc? d with
  | none => rw [ec] at e; cases e
  | some c =>
    obtain ⟨rfl, rfl⟩ := sc?_v h ec
    exact Sc.dp c
theorem scs_dp {K : PySem.W.Frag} {F G : Hp} : ∀ {vs : List V} {ds : List PyData}, DpAll K F vs ds → scs? ds = true → DpAll K G vs ds
  | _, _, .nil, _ => .nil
  | _, _, .cons h t, e => by
    unfold scs? at e
    rw [List.all_cons, Bool.and_eq_true] at e
    exact .cons (sc_dp h e.1) (scs_dp t e.2)
theorem own_free {K : PySem.W.Frag} {F G H : Hp} {r : R} {v : V} {fp : List Addr} (o : Own K F H r v fp) (e : freeR r = true) : Own K G H r v fp := by
  cases o with
  | f h => exact .f (sc_dp h e)
  | ol h a => exact .ol h (scs_dp a e)
  | ot h c => cases e
  | od h a => cases e
  | dn h => exact .dn h
def mCallB (f : List PyData → Option R) (a : M (List PyData)) : M R := fun ρ => (a ρ).bind fun ds => (f ds).bind fun r => if freeR r = true then some r else none
theorem ee_callB {n : Nat} {f : List PyData → Option R} {m : M (List PyData)} (G : Def C.P C.w C.K C.mg C.base C.k x n f) (h : EBA C (e :: es) m) (hn : (e :: es).length = n := by rfl) (hg : Glb C.sc x := by rfl) (hdb : (x == ("__debug__" : Str)) = false := by decide)
    (he : ∀ env : Env, starEach (e :: es) env = (false, eval e env) :: starEach es env := by intro _; rfl) (hpl : ∀ env : Env, (backTo pos (starEach es env)).any (·.1) = false := by intro _; rfl)
    (hlen : LenA n m := by (repeat (first | exact lenA_nil | apply lenA_cons))) : EE C (.Call (.Name x p) (e :: es) [] pos) (mCallB f m) := by
  obtain ⟨t, pt, vt⟩ := h
  obtain ⟨fa, fd, ps, F, hm, kp, bi⟩ := G.ex
  refine ⟨tCall (spOf C.K n f) [] (fun _ _ _ => False) t, fun X h => ?_, fun ρ σ F H fps r Q e S k => ?_⟩
  · have F' : FnOk X.prog X.w X.K X.mg X.base CX0 C.k fa fd ps (spOf C.K n f) := by rw [h.p, h.w, h.K, h.mg, h.base]; exact F
    exact pe_call F' h.room (by unfold Gl Env.kindOf; rw [h.sc]; exact hg) (by rw [h.mg]; exact hm) (by rw [h.K]; exact kp) (by rw [h.K]; exact bi) .nil (fun _ _ _ _ _ _ _ h => h.elim) (pt X h) hdb (he X.env) (hpl X.env)
  · obtain ⟨ds, e1, e⟩ := bind2 e
    obtain ⟨r', e2, e⟩ := bind2 e
    obtain ⟨hfr, rfl⟩ := iteS e
    refine vt ρ σ F H fps ds _ e1 S fun vs F1 H1 hd x1 => ?_
    show spOf C.K n f (vs ++ []) H1 Q _
    rw [List.append_nil]
    refine ⟨H1, ds, r', by rw [DpAll.len hd]; exact hlen ρ ds e1, .refl _, hd, e2, fun v F2 H2 fp nw x2 => ?_⟩
    refine k v F1 H2 fp ⟨own_free nw.own hfr, nw.nd, fun q hq => ?_⟩ ⟨x1.ff, x1.hh.trans x2.hh, x1.fh.trans x2.hh, x1.nw⟩
    have := (nw.nw q hq).1
    exact ⟨same_free x1.hh this, same_free x1.fh this⟩
def sAug (i : Nat) (g : Int → Int → Option Sc) (mb : M PyData) : MS := sSetF i (mI g (mV i) mb)
theorem vs_aug {K : PySem.W.Frag} {te : TE} {i : Nat} {gi : Int → Int → Int} {g : Int → Int → Option Sc} (hg : ∀ a b, g a b = some (.int (gi a b))) (h : VB K te mb) : VS K (tAug i te (ipI gi)) (sAug i g mb) := fun ρ σ F H fps D out e S q => by
  obtain ⟨d, e1, rfl⟩ := map2 e
  obtain ⟨u, e2, e1⟩ := bind2 e1
  obtain ⟨w, e3, e1⟩ := bind2 e1
  obtain ⟨z, e4, rfl⟩ := map2 e1
  unfold mV at e2
  cases er : at' ρ i with
  | none => rw [er] at e2; cases e2
  | some r =>
    rw [er] at e2
    obtain ⟨v, hv, o⟩ := S.own i r (at'_some er)
    have hdu : Dp K H v u := o.view e2 S.fh fun _ _ _ h => h
    refine ⟨v, hv, h ρ σ F H fps w _ e3 S fun v2 F1 H1 hd x1 => ?_⟩
    obtain ⟨i1, j1, rfl, rfl, hz⟩ := i2_inv (Dp.up hdu x1.hh) hd e4
    rw [hg] at hz
    cases hz
    refine ⟨i1, j1, rfl, rfl, ?_⟩
    exact q _ F1 H1 _ ((S.ex x1).put (i := i) (.f (.int _)) .nil fun p hp => by simp at hp) (x1.sx (sub_fput fun q hq => by simp at hq))
theorem es_augA (i : Nat) (h : EB C e mb) (nd : C.N.Nodup) (hN : C.N[i]? = some x := by rfl) (hl : C.Lc x := by first | exact .inl rfl | exact .inr ⟨rfl, rfl⟩) :
    ES C (.AugAssign (.Name x p2) .Add e pos) (sAug i gAdd mb) :=
  let ⟨_, p, v⟩ := h; ⟨_, fun X h => ps_aug (i := i) (by rw [h.N]; exact nd) (by rw [h.N]; exact hN) (by rw [h.sc]; exact hl.loc) (p X h) ip_add (by rw [h.sc, h.fn]; exact hl.fn), vs_aug (fun _ _ => rfl) v⟩
theorem es_augS (i : Nat) (h : EB C e mb) (nd : C.N.Nodup) (hN : C.N[i]? = some x := by rfl) (hl : C.Lc x := by first | exact .inl rfl | exact .inr ⟨rfl, rfl⟩) :
    ES C (.AugAssign (.Name x p2) .Sub e pos) (sAug i gSub mb) :=
  let ⟨_, p, v⟩ := h; ⟨_, fun X h => ps_aug (i := i) (by rw [h.N]; exact nd) (by rw [h.N]; exact hN) (by rw [h.sc]; exact hl.loc) (p X h) ip_sub (by rw [h.sc, h.fn]; exact hl.fn), vs_aug (fun _ _ => rfl) v⟩
end Vs

namespace Vs
open PySem PySem.Spec PyProof.Rows L2
theorem at_set {ρ : En} {i j : Nat} {o : Option R} : at' (ρ.set i o) j = if i = j then (if i < ρ.length then o else none) else at' ρ j := by
  unfold at'
  rw [List.getElem?_set]
  by_cases h : i = j
  · subst h
    by_cases hl : i < ρ.length
    · simp [hl]
    · simp [hl]
  · simp [h]
theorem xCallB {f : List PyData → Option R} {l : M (List PyData)} {ρ : En} : mCallB f l ρ = (l ρ).bind fun ds => (f ds).bind fun r => if freeR r = true then some r else none := rfl
theorem scs_ints : ∀ ns : List Int, scs? (ns.map PyData.int) = true
  | [] => rfl
  | n :: r => by
    have := scs_ints r
    unfold scs? at this ⊢
    rw [List.map_cons, List.all_cons, this]
    rfl
theorem free_ints (ns : List Int) : freeR (.ol (ns.map PyData.int)) = true := scs_ints ns
theorem free_int (n : Int) : freeR (.f (.int n)) = true := rfl
theorem free_bool (n : Bool) : freeR (.f (.bool n)) = true := rfl
theorem free_dn (d : PyData) : freeR (.dn d) = true := rfl
theorem xAug {i : Nat} {g : Int → Int → Option Sc} {m : M PyData} {ρ : En} : sAug i g m ρ = ((mV i ρ).bind fun x => (m ρ).bind fun y => (i2 g x y).map Sc.d).map fun d => .nx (ρ.set i (some (.f d))) := rfl
theorem loopF_inv {α : Type} {g : PyData → En → Option En} {body : MS} {D : α → PyData} {I : List α → En → Prop} : ∀ {l pre : List α} {ρ : En}, (∀ pre' x post ρ, l = pre' ++ x :: post → I (pre ++ pre') ρ → ∃ ρ2, (g (D x) ρ).bind body = some (.nx ρ2) ∧ I (pre ++ pre' ++ [x]) ρ2) → I pre ρ → ∃ ρ', loopF g body (l.map D) ρ = some (.nx ρ') ∧ I (pre ++ l) ρ'
  | [], pre, ρ, _, h => ⟨ρ, rfl, by simpa using h⟩
  | d :: r, pre, ρ, hs, h => by
    obtain ⟨ρ2, h2, h3⟩ := hs [] d r ρ rfl (by simpa using h)
    obtain ⟨ρ1, h1, h2⟩ := bind2 h2
    have ih := loopF_inv (l := r) (pre := pre ++ [d]) (ρ := ρ2) (I := I) (g := g) (body := body) (D := D) (fun pre' d' post ρ' e hI => by
      obtain ⟨b, c2, c3⟩ := hs (d :: pre') d' post ρ' (by rw [e]; rfl) (by simpa using hI)
      exact ⟨b, c2, by simpa using c3⟩) (by simpa using h3)
    obtain ⟨ρ', e1, e2⟩ := ih
    refine ⟨ρ', ?_, by simpa using e2⟩
    simp only [List.map_cons, loopF, h1, h2, Option.bind_some]
    exact e1
theorem loopF_all {α : Type} {g : PyData → En → Option En} {body : MS} {D : α → PyData} {I : En → Prop} {l : List α} {ρ : En} (hs : ∀ x ∈ l, ∀ ρ, I ρ → ∃ ρ2, (g (D x) ρ).bind body = some (.nx ρ2) ∧ I ρ2) (h : I ρ) : ∃ ρ', loopF g body (l.map D) ρ = some (.nx ρ') ∧ I ρ' := by
  obtain ⟨ρ', e, h⟩ := loopF_inv (l := l) (pre := []) (I := fun _ => I) (g := g) (body := body) (D := D) (ρ := ρ) (fun pre x post ρ e hI => hs x (by rw [e]; simp) ρ hI) h
  exact ⟨ρ', e, h⟩
theorem colD_mapE {α : Type} {g : PyData → En → Option En} {e : M PyData} {ρ : En} {D f : α → PyData} {l : List α} (h : ∀ x ∈ l, (g (D x) ρ).bind e = some (f x)) : colD g tY e ρ (l.map D) = some (l.map f) :=
  colD_mapL fun x hx => by
    obtain ⟨ρ1, h1, h2⟩ := bind2 (h x hx)
    exact ⟨ρ1, h1, rfl, h2⟩
theorem colD_filtE {α : Type} {g : PyData → En → Option En} {t : M Bool} {e : M PyData} {ρ : En} {D f : α → PyData} {p : α → Bool} {l : List α} (ht : ∀ x ∈ l, (g (D x) ρ).bind t = some (p x)) (h : ∀ x ∈ l, p x = true → (g (D x) ρ).bind e = some (f x)) : colD g t e ρ (l.map D) = some ((l.filter p).map f) :=
  colD_filterL fun x hx => by
    obtain ⟨ρ1, h1, h2⟩ := bind2 (ht x hx)
    refine ⟨ρ1, h1, h2, fun hp => ?_⟩
    have := h x hx hp
    rw [h1] at this
    exact this
theorem atI_ints {ws : List Int} {i w : Int} (h0 : 0 ≤ i) (h : ws[i.toNat]? = some w) : atI (ws.map PyData.int) i = some (.int w) := atI_ge h0 (by rw [List.getElem?_map, h]; rfl)
end Vs

namespace Vs
open PySem PySem.Spec PyProof.Rows L2
variable {C : Ct} {pos p p2 apos cpos : Pos} {e a b c o : Expr} {es : List Expr} {x y f m : Str} {ma mb mc : M PyData} {mt ms : M Bool}
theorem KvD.len {K : PySem.W.Frag} {F : Hp} : ∀ {vs : List (Key × V)} {ds : List (Key × PyData)}, KvD K F vs ds → vs.length = ds.length
  | _, _, .nil => rfl
  | _, _, .cons _ t => congrArg (· + 1) (KvD.len t)
end Vs

namespace Vs
open PySem PySem.Spec PyProof.Rows L2
structure LamScope (x : Str) (scope : Scope) : Prop where
  kind : scope.kind = .function
  co : scope.isCoroutine = false
  gen : scope.isGenerator = false
  par : scope.names.lookup x = some .local
  one : ∀ y ∈ scope.names, y.2 = .local → y.1 = x
  nocell : ∀ y ∈ scope.names, y.2 ≠ .cell
end Vs

namespace Vs
open PySem PySem.Spec PyProof.Rows L2
end Vs

namespace Vs
open PySem PySem.Spec PyProof.Rows L2
end Vs

namespace Vs
open PySem PySem.Spec PyProof.Rows L2
end Vs

namespace Vs
open PySem PySem.Spec PyProof.Rows L2
end Vs

namespace Vs
open PySem PySem.Spec PyProof.Rows L2
variable {C : Ct} {pos p p2 kpos lpos : Pos} {e a b : Expr} {es : List Expr} {x q : Str} {ma mb : M PyData} {st : Stmt} {sts : List Stmt} {m n : MS}
def LX (q : Str) (X : Cx) : Prop := ∃ c P, X.env.code = .ref c ∧ PySem.W.codeHdIn X.K c P = true ∧ X.env.qual ++ "<lambda>" = q ∧ ∀ pins σ H s, Inv X pins σ H s → H P = some (.tbl q)
def ESL (C : Ct) (q : Str) (st : Stmt) (m : MS) : Prop := ∃ ts, (∀ X, C.Has X → LX q X → PS X st ts) ∧ VS C.K ts m
theorem ES.l (h : ES C st m) : ESL C q st m := let ⟨_, p, v⟩ := h; ⟨_, fun X z _ => p X z, v⟩
def LamDef (K : PySem.W.Frag) (mg : Str → Option Value) (x : Str) (st : Stmt) (ps : List Str) : Prop := ∃ fa fd c Pt, Fun K x x st fa fd ∧ mg x = some (.ref fa) ∧ Binds K fd ps [] ∧ fd.code = .ref c ∧ PySem.W.codeHdIn K c Pt = true
theorem LamDef.d {K : PySem.W.Frag} {mg : Str → Option Value} {x : Str} {st : Stmt} {ps : List Str} (h : LamDef K mg x st ps) : ∃ fa fd, Fun K x x st fa fd ∧ mg x = some (.ref fa) ∧ Binds K fd ps [] := let ⟨fa, fd, c, Pt, h1, h2, h3, _⟩ := h; ⟨fa, fd, h1, h2, h3⟩
end Vs
namespace Vs
open PySem PySem.Spec PyProof.Rows L2
theorem tabs_no {K : PySem.W.Frag} {h : Heap} {mg : Str → Option Value} {nm : Str} (X : K.In h) (G : h.Ns mainGlobals mg) (z : PySem.W.nsIn K mainGlobals nm = some none) {H : Hp} {q : Str} :
    ∀ (fa : Addr) (o : Obj) (fd : FuncData) (c P : Addr), mg nm = some (.ref fa) → K.lookup fa = some o → o.data = .func fd → fd.code = .ref c → PySem.W.codeHdIn K c P = true → H P = some (.tbl q) := by
  intro fa o fd c' P' a1
  have := a1.symm.trans (PySem.W.mg_none_of X G z)
  cases this
theorem tabs_two {K : PySem.W.Frag} {mg : Str → Option Value} {H : Hp} {a b : Str} (hl : lamNames = [a, b])
    (h1 : ∀ (fa : Addr) (o : Obj) (fd : FuncData) (c P : Addr), mg a = some (.ref fa) → K.lookup fa = some o → o.data = .func fd → fd.code = .ref c → PySem.W.codeHdIn K c P = true → H P = some (.tbl (a ++ ".<locals>." ++ "<lambda>")))
    (h2 : ∀ (fa : Addr) (o : Obj) (fd : FuncData) (c P : Addr), mg b = some (.ref fa) → K.lookup fa = some o → o.data = .func fd → fd.code = .ref c → PySem.W.codeHdIn K c P = true → H P = some (.tbl (b ++ ".<locals>." ++ "<lambda>"))) : Tabs K mg H := by
  intro nm hn
  rw [hl] at hn
  simp only [List.mem_cons, List.not_mem_nil, or_false] at hn
  rcases hn with rfl | rfl
  · exact h1
  · exact h2
end Vs

namespace Vs
open PySem PySem.Spec PyProof.Rows L2
def allR (rs : List (List (Int × Int))) : List Int := (List.range rs.length).map fun i => (0 + (i : Nat) : Int)
def openL (m : Int) (rs : List (List (Int × Int))) (js : List Int) : List Int := (allR rs).filter fun c => !clW m rs c js
theorem mem_allR {rs : List (List (Int × Int))} {c : Int} : c ∈ allR rs ↔ InR rs c := by
  unfold allR
  rw [List.mem_map]
  constructor
  · rintro ⟨i, hi, rfl⟩
    have := List.mem_range.mp hi
    exact ⟨by omega, by omega⟩
  · rintro ⟨h1, h2⟩
    exact ⟨c.toNat, List.mem_range.mpr (by omega), by omega⟩
structure IsCov (m : Int) (rs : List (List (Int × Int))) (c : List Int) : Prop where
  up : c.Pairwise (· < ·)
  inr : ∀ j ∈ c, InR rs j
  go : ∀ i ∈ c, ∀ j ∈ c, i ≠ j → clashB m (rowAt rs i) (rowAt rs j) = false
  all : ∀ t, 0 ≤ t → t < m → ∃ j ∈ c, hasB rs j t = true
structure Way (m : Int) (rs : List (List (Int × Int))) (js : List Int) : Prop where
  nd : js.Nodup
  inr : ∀ j ∈ js, InR rs j
  go : ∀ i ∈ js, ∀ j ∈ js, i ≠ j → clashB m (rowAt rs i) (rowAt rs j) = false
theorem mem_open {m : Int} {rs : List (List (Int × Int))} {js : List Int} {c : Int} : c ∈ openL m rs js ↔ InR rs c ∧ ∀ o ∈ js, clashB m (rowAt rs c) (rowAt rs o) = false := by
  unfold openL
  rw [List.mem_filter, mem_allR]
  refine and_congr_right fun _ => ?_
  unfold clW
  constructor
  · intro h o ho
    cases e : clashB m (rowAt rs c) (rowAt rs o) with
    | false => rfl
    | true =>
      have : (js.any fun o => clashB m (rowAt rs c) (rowAt rs o)) = true := List.any_eq_true.mpr ⟨o, ho, e⟩
      rw [this] at h
      cases h
  · intro h
    cases e : js.any fun o => clashB m (rowAt rs c) (rowAt rs o) with
    | false => rfl
    | true =>
      obtain ⟨o, ho, e⟩ := List.any_eq_true.mp e
      rw [h o ho] at e
      cases e
abbrev Nod := List Int × List Int
structure NodOk (m : Int) (rs : List (List (Int × Int))) (x : Nod) : Prop where
  way : Way m rs x.1
  opn : x.2 = openL m rs x.1
theorem open_in {m : Int} {rs : List (List (Int × Int))} {js : List Int} : ∀ j ∈ openL m rs js, InR rs j := fun j hj => (mem_open.mp hj).1
end Vs

namespace Vs
open PySem PySem.Spec PyProof.Rows L2
theorem allR_len (rs : List (List (Int × Int))) : (allR rs).length = rs.length := by unfold allR; rw [List.length_map, List.length_range]
end Vs

namespace Vs
open PySem PySem.Spec PyProof.Rows L2
def lgo (f : Int → Int) : List Int → Int → Int → Int
  | [], b, _ => b
  | x :: r, b, kb => lgo f r (if f x < kb then x else b) (if f x < kb then f x else kb)
def least (f : Int → Int) : List Int → Int
  | [] => 0
  | x :: r => lgo f r x (f x)
theorem open_len {m : Int} {rs : List (List (Int × Int))} {js : List Int} : (openL m rs js).length ≤ rs.length := by
  refine Nat.le_trans (List.length_filter_le _ _) ?_
  rw [allR_len]
  exact Nat.le_refl _
end Vs
namespace Vs
open PySem PySem.Spec PyProof.Rows L2
theorem loopW_go {t : M Bool} {body : MS} {k : Nat} {ρ ρ' : En} (ht : t ρ = some true) (hb : body ρ = some (.nx ρ')) : loopW t body (k + 1) ρ = loopW t body k ρ' := by
  rw [loopW, ht, Option.bind_some, if_pos rfl, hb]
  rfl
theorem loopW_end {t : M Bool} {body : MS} {k : Nat} {ρ : En} (ht : t ρ = some false) : loopW t body (k + 1) ρ = some (.nx ρ) := by
  rw [loopW, ht]
  rfl
end Vs

namespace Vs
open PySem PySem.Spec PyProof.Rows L2
variable {C : Ct} {pos p p2 : Pos} {a b c : Expr} {x y z : Str}
end Vs
namespace Vs
open PySem PySem.Spec PyProof.Rows L2
variable {C : Ct} {pos p p2 : Pos} {e a b c : Expr} {es : List Expr} {x y z : Str}
end Vs

namespace Vs
open PySem PySem.Spec PyProof.Rows L2
section
variable {C : Ct} {a b : Expr} {ma mb : M PyData} {pos : Pos}
end
end Vs

namespace Vs
open PySem PySem.Spec PyProof.Rows L2
section
variable {C : Ct} {e a : Expr} {pos p : Pos}
end
end Vs

namespace Vs
open PySem PySem.Spec PyProof.Rows L2
variable {C : Ct} {pos p p2 : Pos} {e a b c tg : Expr} {es : List Expr} {ma mb : M PyData}
end Vs

namespace Vs
open PySem PySem.Spec PyProof.Rows L2
variable {C : Ct} {x y z f m : Str} {e a b c o t : Expr} {es : List Expr} {p p2 p3 p4 p5 pos apos cpos tpos : Pos} {ma mb mc : M PyData} {st : Stmt} {sts : List Stmt}
end Vs

namespace Vs
open PySem PySem.Spec PyProof.Rows L2
variable {C : Ct} {x y z f m : Str} {e a b c o t : Expr} {es : List Expr} {p p2 p3 p4 p5 pos apos cpos tpos : Pos} {ma mb mc : M PyData} {st : Stmt} {sts : List Stmt}
end Vs

namespace Vs
open PySem PySem.Spec PyProof.Rows L2
variable {C : Ct} {a b : Expr} {pos : Pos} {ma mb : M PyData}
theorem xd4 {d : PyData} : R.d? (.dn d) = some d := rfl
end Vs

namespace Vs
open PySem PySem.Spec PyProof.Rows L2
variable {C : Ct} {x y z f m : Str} {e a b c o t : Expr} {es : List Expr} {p p2 p3 p4 p5 pos apos cpos tpos : Pos} {ma mb mc : M PyData} {st : Stmt} {sts : List Stmt}
theorem DoF.look {K : PySem.W.Frag} {H : Hp} {f : Str} : ∀ {fs : List (Str × V)} {ds : List (PyData × PyData)} {d : PyData} {fp : List Addr}, DoF K H fs ds fp → lookF f ds = some d → ∃ v fq, fs.lookup f = some v ∧ Do K H v d fq ∧ ∀ q ∈ fq, q ∈ fp
  | _, _, _, _, .nil, e => by cases e
  | _, _, d, _, .cons (x := x) (v := v) (fs := fs) (fp := fp) h t, e => by
    unfold lookF at e
    rw [List.lookup_cons]
    cases hx : (f == x) with
    | true =>
      rw [hx] at e
      cases e
      exact ⟨v, fp, rfl, h, fun q hq => List.mem_append_left _ hq⟩
    | false =>
      rw [hx] at e
      obtain ⟨v, fq, h1, h2, h3⟩ := DoF.look t e
      exact ⟨v, fq, h1, h2, fun q hq => List.mem_append_right _ (h3 q hq)⟩
end Vs

namespace Vs
open PySem PySem.Spec PyProof.Rows L2
variable {C : Ct} {x y z f f1 f2 m : Str} {e a b c o t : Expr} {es : List Expr} {p p2 p3 p4 p5 pos pos2 apos apos2 cpos tpos : Pos} {ma mb mc : M PyData} {st : Stmt} {sts : List Stmt}
def spInitD2 (K : PySem.W.Frag) (cl : Addr) (f1 f2 : Str) (n : Nat) (g : List PyData → Option (PyData × PyData)) : Sp := fun vs H Q _ => ∃ x dx us F ds d1 d2, vs = V.ref x :: us ∧ us.length = n ∧ H x = some (.ins cl dx []) ∧ F x = none ∧ Same F H ∧ DpAll K F us ds ∧ g ds = some (d1, d2) ∧
  ∀ H' v1 v2 fp, H' x = some (.ins cl dx [(f1, v1), (f2, v2)]) → Do K H' v1 d1 fp → Do K H' v2 d2 [] → (x :: fp).Nodup → (∀ q ∈ fp, H q = none) → (∀ b o, H b = some o → b ≠ x → H' b = some o) → Q .non H'
structure DefCD2 (P : Program) (w : World) (K : PySem.W.Frag) (mg : Str → Option Value) (base : Heap) (k : Nat) (x : Str) (n : Nat) (g : List PyData → Option R) : Prop where
  ex : (∀ ds, g ds = none) ∨ ∃ (j : Nat) (fa cl : Addr) (f1 f2 : Str) (fd : FuncData) (ps : List Str) (g' : List PyData → Option (PyData × PyData)), j + 1 ≤ k ∧ FnOk P w K mg base CX0 j fa fd ps (spInitD2 K cl f1 f2 n g') ∧ mg x = some (.ref cl) ∧ Mk K cl fa ∧ Binds K fd ps [] ∧ ∀ ds r, g ds = some r → ∃ d1 d2, g' ds = some (d1, d2) ∧ r = .dn (obD cl [(f1, d1), (f2, d2)])
end Vs

namespace Vs
open PySem PySem.Spec PyProof.Rows L2
variable {C : Ct} {x y z f m : Str} {e a b c o t tg iter elt : Expr} {es : List Expr} {p p2 p3 p4 p5 p6 pos apos cpos tpos : Pos} {ma mb mc : M PyData} {mt : M Bool} {st : Stmt} {sts : List Stmt}
theorem Stt.free {K : PySem.W.Frag} {F H : Hp} {ρ : En} {σ : L2.St} {fps : Nat → List Addr} (S : Stt K F H ρ σ fps) (i : Nat) : Stt K F H (ρ.set i none) σ (fput fps i []) := by
  have sub : ∀ j, ∀ q ∈ fput fps i [] j, q ∈ fps j ∧ j ≠ i := fun j q hq => by
    by_cases hj : j = i
    · subst hj; rw [fput_at] at hq; simp at hq
    · rw [fput_ne hj] at hq; exact ⟨hq, hj⟩
  refine ⟨by rw [List.length_set]; exact S.len, fun j r e => ?_, fun j k q h1 h2 => S.dis j k q (sub j q h1).1 (sub k q h2).1, fun j => ?_, fun j q hq => S.fre j q (sub j q hq).1, S.fh⟩
  · by_cases hj : j = i
    · subst hj
      by_cases hl : j < ρ.length
      · rw [List.getElem?_set_self hl] at e; cases e
      · rw [List.getElem?_eq_none (by rw [List.length_set]; omega)] at e; cases e
    · rw [List.getElem?_set_ne (Ne.symm hj)] at e
      rw [fput_ne hj]
      exact S.own j r e
  · by_cases hj : j = i
    · subst hj; rw [fput_at]; exact .nil
    · rw [fput_ne hj]; exact S.nd j
end Vs

namespace Vs
open PySem PySem.Spec PyProof.Rows L2
variable {C : Ct} {x y z f m : Str} {e a b c o t tg iter elt : Expr} {es : List Expr} {p p2 p3 p4 p5 p6 p7 p8 pos apos cpos tpos : Pos} {ma mb mc : M PyData} {mt : M Bool} {st : Stmt} {sts : List Stmt}
end Vs

namespace L2
open PySem PySem.Spec PyProof.Rows
variable {X : Cx} {a b : Expr} {ta : TA} {p p2 p3 pos : Pos}
end L2
namespace Vs
open PySem PySem.Spec PyProof.Rows L2
variable {C : Ct} {x y z f m : Str} {e a b c o t tg iter elt : Expr} {es : List Expr} {p p2 p3 p4 p5 p6 p7 p8 pos apos cpos tpos : Pos} {ma mb mc : M PyData} {mt : M Bool} {st : Stmt} {sts : List Stmt}
end Vs

namespace Vs
open PySem PySem.Spec PyProof.Rows L2
variable {C : Ct} {x y z f m : Str} {e a b c o t tg iter elt : Expr} {es : List Expr} {p p2 p3 p4 p5 p6 p7 p8 pos apos cpos tpos : Pos} {ma mb mc : M PyData} {mt : M Bool} {st : Stmt} {sts : List Stmt}
theorem Sx.mu {F H F' H' : Hp} {fps : Nat → List Addr} {i : Nat} {fp' : List Addr} (x : Sx F H (fun _ => fps i) F' H' (fun _ => fp')) : Sx F H fps F' H' (fput fps i fp') :=
  ⟨fun b o h n => x.keep b o h fun _ => n i, x.ff, fun b h1 h2 n => x.nw b h1 h2 fun _ => n i, fun j q hq => by
    by_cases hj : j = i
    · subst hj
      rw [fput_at] at hq
      rcases x.fpn 0 q hq with ⟨_, h⟩ | h
      · exact .inl ⟨j, h⟩
      · exact .inr h
    · rw [fput_ne hj] at hq; exact .inl ⟨j, hq⟩⟩
theorem Stt.mu {K : PySem.W.Frag} {F H F' H' : Hp} {ρ : En} {σ : L2.St} {fps : Nat → List Addr} (S : Stt K F H ρ σ fps) {i : Nat} {v : V} {d' : PyData} {fp' : List Addr} (hσ : σ[i]? = some (some v)) (ho : Do K H' v d' fp') (nd : fp'.Nodup) (fr : ∀ q ∈ fp', F' q = none)
    (x : Sx F H (fun _ => fps i) F' H' (fun _ => fp')) (fh : Same F' H') : Stt K F' H' (ρ.set i (some (.dn d'))) σ (fput fps i fp') := by
  have ni : ∀ j, j ≠ i → ∀ q ∈ fps j, ∀ k : Nat, q ∉ (fun _ : Nat => fps i) k := fun j hj q hq _ hi => hj (S.dis j i q hq hi)
  have nf : ∀ j, j ≠ i → ∀ q ∈ fps j, q ∉ fp' := fun j hj q hq hf => by
    rcases x.fpn 0 q hf with ⟨_, h⟩ | h
    · exact hj (S.dis j i q hq h)
    · exact (S.fre j q hq).2 h
  refine ⟨by rw [List.length_set]; exact S.len, fun j r e => ?_, fun j k q h1 h2 => ?_, fun j => ?_, fun j q hq => ?_, fh⟩
  · by_cases hj : j = i
    · subst hj
      have hl : j < ρ.length := by rw [S.len]; exact (List.getElem?_eq_some_iff.mp hσ).1
      rw [List.getElem?_set_self hl] at e
      cases e
      rw [fput_at]
      exact ⟨v, hσ, .dn ho⟩
    · rw [List.getElem?_set_ne (Ne.symm hj)] at e
      rw [fput_ne hj]
      obtain ⟨w, hw, ow⟩ := S.own j r e
      exact ⟨w, hw, ow.up x.ff fun q hq o h => x.keep q o h (ni j hj q hq)⟩
  · by_cases hj : j = i
    · by_cases hk : k = i
      · rw [hj, hk]
      · subst hj
        rw [fput_at] at h1
        rw [fput_ne hk] at h2
        exact absurd h1 (nf k hk q h2)
    · by_cases hk : k = i
      · subst hk
        rw [fput_at] at h2
        rw [fput_ne hj] at h1
        exact absurd h2 (nf j hj q h1)
      · rw [fput_ne hj] at h1
        rw [fput_ne hk] at h2
        exact S.dis j k q h1 h2
  · by_cases hj : j = i
    · subst hj; rw [fput_at]; exact nd
    · rw [fput_ne hj]; exact S.nd j
  · by_cases hj : j = i
    · subst hj; rw [fput_at] at hq; exact ⟨fr q hq, do_live _ _ _ ho q hq⟩
    · rw [fput_ne hj] at hq
      have h := S.fre j q hq
      refine ⟨x.nw q h.1 h.2 (ni j hj q hq), ?_⟩
      cases e : H q with
      | none => exact absurd e h.2
      | some o => rw [x.keep q o e (ni j hj q hq)]; simp
theorem DoF.app {K : PySem.W.Frag} {H : Hp} : ∀ {fs gs : List (Str × V)} {ds es : List (PyData × PyData)} {fp fq : List Addr}, DoF K H fs ds fp → DoF K H gs es fq → DoF K H (fs ++ gs) (ds ++ es) (fp ++ fq)
  | _, _, _, _, _, _, .nil, h => h
  | _, _, _, _, _, _, .cons h t, k => by
    rw [List.append_assoc]
    exact .cons h (DoF.app t k)
theorem DoF.no {K : PySem.W.Frag} {H : Hp} {f : Str} : ∀ {fs : List (Str × V)} {ds : List (PyData × PyData)} {fp : List Addr}, DoF K H fs ds fp → lookF f ds = none → f ∉ fs.map (·.1)
  | _, _, _, .nil, _ => by simp
  | _, _, _, .cons (x := x) h t, e => by
    unfold lookF at e
    cases hx : (f == x) with
    | true => rw [hx] at e; cases e
    | false =>
      rw [hx] at e
      rw [List.map_cons, List.mem_cons]
      rintro (z | z)
      · rw [z] at hx; simp at hx
      · exact DoF.no t e z
theorem DoF.len {K : PySem.W.Frag} {H : Hp} : ∀ {fs : List (Str × V)} {ds : List (PyData × PyData)} {fp : List Addr}, DoF K H fs ds fp → fs.length = ds.length
  | _, _, _, .nil => rfl
  | _, _, _, .cons _ t => congrArg (· + 1) (DoF.len t)
end Vs

namespace Vs
open PySem PySem.Spec PyProof.Rows L2
variable {C : Ct} {x y z f m : Str} {e a b c o t tg iter elt : Expr} {es : List Expr} {p p2 p3 p4 p5 p6 p7 p8 pos apos cpos tpos : Pos} {ma mb mc : M PyData} {mt : M Bool} {st : Stmt} {sts : List Stmt}
def setFD (f : Str) (d' : PyData) : List (PyData × PyData) → List (PyData × PyData)
  | [] => []
  | (.str x, d) :: r => if (f == x) = true then (.str x, d') :: r else (.str x, d) :: setFD f d' r
  | q :: r => q :: setFD f d' r
theorem DoF.upd {K : PySem.W.Frag} {H : Hp} {f : Str} : ∀ {fs : List (Str × V)} {ds : List (PyData × PyData)} {fp : List Addr} {d : PyData}, DoF K H fs ds fp → lookF f ds = some d → ∃ v fq pre post, fs.lookup f = some v ∧ Do K H v d fq ∧ fp = pre ++ (fq ++ post) ∧
    ∀ H' d' fq', Do K H' v d' fq' → (∀ q ∈ pre ++ post, ∀ o, H q = some o → H' q = some o) → DoF K H' fs (setFD f d' ds) (pre ++ (fq' ++ post))
  | _, _, _, _, .nil, e => by cases e
  | _, _, _, d, .cons (x := x) (v := v) (fs := fs) (fp := fp) (fq := fr) h t, e => by
    unfold lookF at e
    rw [List.lookup_cons]
    cases hx : (f == x) with
    | true =>
      rw [hx] at e
      cases e
      refine ⟨v, fp, [], fr, rfl, h, rfl, fun H' d' fq' h' k => ?_⟩
      unfold setFD
      rw [hx]
      show DoF K H' ((x, v) :: fs) ((.str x, d') :: _) (fq' ++ fr)
      exact .cons h' (dof_up _ _ _ t fun q hq o ho => k q (by rw [List.nil_append]; exact hq) o ho)
    | false =>
      rw [hx] at e
      obtain ⟨w, fq, pre, post, h1, h2, h3, h4⟩ := DoF.upd t e
      refine ⟨w, fq, fp ++ pre, post, h1, h2, by rw [h3, List.append_assoc], fun H' d' fq' h' k => ?_⟩
      unfold setFD
      rw [hx, List.append_assoc]
      exact .cons (do_up _ _ _ h fun q hq o ho => k q (by simp [hq]) o ho) (h4 H' d' fq' h' fun q hq o ho => k q (by rcases List.mem_append.mp hq with z | z <;> simp [z]) o ho)
def spMu (K : PySem.W.Frag) (n : Nat) (f : List PyData → Option R) : Sp := fun vs H Q _ => ∃ x us F d fp ds d', vs = x :: us ∧ us.length = n ∧ Same F H ∧ Do K H x d fp ∧ fp.Nodup ∧ (∀ q ∈ fp, F q = none) ∧ DpAll K F us ds ∧ f (d :: ds) = some (.dn d') ∧
  ∀ F' H' fp', Do K H' x d' fp' → fp'.Nodup → (∀ q ∈ fp', F' q = none) → Same F' H' → Sx F H (fun _ => fp) F' H' (fun _ => fp') → Q .non H'
structure DefMu (P : Program) (w : World) (K : PySem.W.Frag) (mg : Str → Option Value) (base : Heap) (k : Nat) (cl : Addr) (m : Str) (n : Nat) (f : List PyData → Option R) : Prop where
  ex : (∀ ds, f ds = none) ∨ ∃ (fa : Addr) (fd : FuncData) (ps : List Str), FnOk P w K mg base CX0 k fa fd ps (spMu K n f) ∧ Cls K cl ∧ Meth K cl m fa ∧ Binds K fd ps []
structure DefCM (P : Program) (w : World) (K : PySem.W.Frag) (mg : Str → Option Value) (base : Heap) (k : Nat) (x : Str) (n : Nat) (g : List PyData → Option R) : Prop where
  ex : (∀ ds, g ds = none) ∨ ∃ (j : Nat) (fa cl : Addr) (fd : FuncData) (ps : List Str) (g' : List PyData → Option R), j + 1 ≤ k ∧ FnOk P w K mg base CX0 j fa fd ps (spMu K n g') ∧ mg x = some (.ref cl) ∧ Mk K cl fa ∧ Binds K fd ps [] ∧ ∀ ds r, g ds = some r → g' (obD cl [] :: ds) = some r
end Vs

namespace Vs
open PySem PySem.Spec PyProof.Rows L2
variable {C : Ct} {x y z f m : Str} {e a b c o t tg iter elt : Expr} {es : List Expr} {p p2 p3 p4 p5 p6 p7 p8 pos apos cpos tpos : Pos} {ma mb mc : M PyData} {mt : M Bool} {st : Stmt} {sts : List Stmt}
end Vs

namespace Vs
open PySem PySem.Spec PyProof.Rows L2
structure NodB (B : Int → Bool) (m : Int) (rs : List (List (Int × Int))) (x : Nod) : Prop where
  way : Way m rs x.1
  opn : x.2 = (openL m rs x.1).filter B
theorem NodB.sub {B : Int → Bool} {m : Int} {rs : List (List (Int × Int))} {x : Nod} (h : NodB B m rs x) {j : Int} (hj : j ∈ x.2) : j ∈ openL m rs x.1 ∧ B j = true := by
  rw [h.opn] at hj
  exact List.mem_filter.mp hj
theorem NodB.inr {B : Int → Bool} {m : Int} {rs : List (List (Int × Int))} {x : Nod} (h : NodB B m rs x) : ∀ j ∈ x.2, InR rs j := fun j hj => open_in j (h.sub hj).1
theorem NodB.len {B : Int → Bool} {m b : Int} {rs : List (List (Int × Int))} {x : Nod} (h : NodB B m rs x) (T : TabOk m b rs) : x.2.length ≤ 16 := by
  rw [h.opn]
  exact Nat.le_trans (List.length_filter_le _ _) (Nat.le_trans open_len T.len)
end Vs

namespace Vs
open PySem PySem.Spec PyProof.Rows L2
variable {C : Ct} {x y z f m : Str} {e a b c o t tg iter elt : Expr} {es : List Expr} {p p2 p3 p4 p5 p6 p7 p8 pos apos cpos tpos : Pos} {ma mb mc : M PyData} {mt : M Bool} {st : Stmt} {sts : List Stmt}
def spMv (K : PySem.W.Frag) (n : Nat) (f : List PyData → Option R) : Sp := fun vs H Q _ => ∃ x us F d fp ds d', vs = x :: us ∧ us.length = n ∧ Same F H ∧ Do K H x d fp ∧ fp.Nodup ∧ (∀ q ∈ fp, F q = none) ∧ DpAll K F us ds ∧ f (d :: ds) = some (.dn d') ∧
  ∀ v F' H' fp', Do K H' x d' fp' → fp'.Nodup → (∀ q ∈ fp', F' q = none) → Same F' H' → Sx F H (fun _ => fp) F' H' (fun _ => fp') → Q v H'
structure DefMv (P : Program) (w : World) (K : PySem.W.Frag) (mg : Str → Option Value) (base : Heap) (k : Nat) (cl : Addr) (m : Str) (n : Nat) (f : List PyData → Option R) : Prop where
  ex : (∀ ds, f ds = none) ∨ ∃ (fa : Addr) (fd : FuncData) (ps : List Str), FnOk P w K mg base CX0 k fa fd ps (spMv K n f) ∧ Cls K cl ∧ Meth K cl m fa ∧ Binds K fd ps []
end Vs

namespace Vs
open PySem PySem.Spec PyProof.Rows L2
def Rz (xs : Array Nat) : Prop := ∀ i j, i < j → (hj : j < xs.size) → ∀ (hi : i < xs.size), xs[i] < xs[j]
theorem getD_at {xs : Array Nat} {i d : Nat} (h : i < xs.size) : xs.getD i d = xs[i] := by simp [Array.getD, h]
theorem below_go {xs : Array Nat} (R : Rz xs) (j : Nat) : ∀ (fuel lo hi : Nat), hi - lo ≤ fuel → lo ≤ hi → hi ≤ xs.size → (∀ i, i < lo → ∀ h : i < xs.size, xs[i] < j) → (∀ i, hi ≤ i → ∀ h : i < xs.size, j ≤ xs[i]) →
    SetTable.below.go xs j fuel lo hi ≤ xs.size ∧ (∀ i, i < SetTable.below.go xs j fuel lo hi → ∀ h : i < xs.size, xs[i] < j) ∧ (∀ i, SetTable.below.go xs j fuel lo hi ≤ i → ∀ h : i < xs.size, j ≤ xs[i])
  | 0, lo, hi, hf, hl, hh, a, b => by
    have e : lo = hi := by omega
    subst e
    exact ⟨hh, a, b⟩
  | fuel + 1, lo, hi, hf, hl, hh, a, b => by
    unfold SetTable.below.go
    by_cases h : lo < hi
    · rw [if_pos h]
      have hm : (lo + hi) / 2 < xs.size := by omega
      dsimp only
      rw [getD_at hm]
      by_cases c : xs[(lo + hi) / 2] < j
      · rw [if_pos c]
        refine below_go R j fuel _ _ (by omega) (by omega) hh (fun i hi' hs => ?_) b
        rcases Nat.lt_or_ge i ((lo + hi) / 2) with z | z
        · exact Nat.lt_trans (R i _ z hm hs) c
        · have : i = (lo + hi) / 2 := by omega
          subst this
          exact c
      · rw [if_neg c]
        refine below_go R j fuel _ _ (by omega) (by omega) (by omega) a fun i hi' hs => ?_
        rcases Nat.lt_or_ge ((lo + hi) / 2) i with z | z
        · have := R _ i z hs hm
          omega
        · have : i = (lo + hi) / 2 := by omega
          subst this
          omega
    · rw [if_neg h]
      have e : lo = hi := by omega
      subst e
      exact ⟨hh, a, b⟩
theorem below_le {xs : Array Nat} (R : Rz xs) (j : Nat) : SetTable.below xs j ≤ xs.size := (below_go R j xs.size 0 xs.size (by omega) (by omega) (by omega) (by omega) (fun i h1 h2 => by omega)).1
theorem below_lt {xs : Array Nat} (R : Rz xs) {j i : Nat} (h : i < SetTable.below xs j) (hs : i < xs.size) : xs[i] < j := (below_go R j xs.size 0 xs.size (by omega) (by omega) (by omega) (by omega) (fun i h1 h2 => by omega)).2.1 i h hs
theorem below_ge {xs : Array Nat} (R : Rz xs) {j i : Nat} (h : SetTable.below xs j ≤ i) (hs : i < xs.size) : j ≤ xs[i] := (below_go R j xs.size 0 xs.size (by omega) (by omega) (by omega) (by omega) (fun i h1 h2 => by omega)).2.2 i h hs
theorem below_at {xs : Array Nat} (R : Rz xs) {i : Nat} (h : i < xs.size) : SetTable.below xs xs[i] = i := by
  rcases Nat.lt_trichotomy (SetTable.below xs xs[i]) i with z | z | z
  · have h1 : SetTable.below xs xs[i] < xs.size := by omega
    have := below_ge R (j := xs[i]) (Nat.le_refl _) h1
    have := R _ i z h h1
    omega
  · exact z
  · have := below_lt R z h
    omega
theorem below_next {xs : Array Nat} (R : Rz xs) {i : Nat} (h : i < xs.size) : SetTable.below xs (xs[i] + 1) = i + 1 := by
  rcases Nat.lt_trichotomy (SetTable.below xs (xs[i] + 1)) (i + 1) with z | z | z
  · have := below_ge R (j := xs[i] + 1) (i := i) (by omega) h
    omega
  · exact z
  · have h2 := below_le R (xs[i] + 1)
    have h3 : i + 1 < xs.size := by omega
    have := below_lt R (j := xs[i] + 1) z h3
    have := R i (i + 1) (by omega) h3 h
    omega
theorem below_zero {xs : Array Nat} (R : Rz xs) : SetTable.below xs 0 = 0 := by
  rcases Nat.eq_zero_or_pos (SetTable.below xs 0) with z | z
  · exact z
  · have h2 := below_le R 0
    have := below_lt R (j := 0) z (by omega)
    omega
theorem Rz.range (n : Nat) : Rz (Array.range n) := fun i j h hj hi => by simpa using h
theorem Rz.nil : Rz #[] := fun i j h hj => by simp at hj
theorem Rz.of_list {l : List Nat} (h : l.Pairwise (· < ·)) : Rz l.toArray := fun i j hij hj hi => by
  simpa using List.pairwise_iff_getElem.mp h i j (by simpa using hi) (by simpa using hj) hij
theorem Rz.to_list {xs : Array Nat} (h : Rz xs) : xs.toList.Pairwise (· < ·) := List.pairwise_iff_getElem.mpr fun i j hi hj hij => by
  simpa using h i j hij (by simpa using hj) (by simpa using hi)
theorem Rz.insert {xs : Array Nat} (R : Rz xs) {j : Nat} (hj : ∀ i, ∀ h : i < xs.size, xs[i] ≠ j) : Rz (SetTable.insertAt xs (SetTable.below xs j) j) := by
  have e : (SetTable.insertAt xs (SetTable.below xs j) j) = (xs.toList.take (SetTable.below xs j) ++ j :: xs.toList.drop (SetTable.below xs j)).toArray := by
    rw [← SetTable.toList_insertAt]
  rw [e]
  have P := R.to_list
  refine Rz.of_list (List.pairwise_append.mpr ⟨P.take, List.pairwise_cons.mpr ⟨fun y hy => ?_, P.drop⟩, fun a ha b hb => ?_⟩)
  · obtain ⟨i, hi, rfl⟩ := List.getElem_of_mem hy
    rw [List.length_drop] at hi
    have hi' : SetTable.below xs j + i < xs.size := by simp only [Array.length_toList] at hi; omega
    have h1 := below_ge R (j := j) (i := SetTable.below xs j + i) (by omega) hi'
    have h2 := hj _ hi'
    simp only [List.getElem_drop, Array.getElem_toList]
    omega
  · have hl : a < j := by
      obtain ⟨i, hi, rfl⟩ := List.getElem_of_mem ha
      rw [List.length_take] at hi
      have hi' : i < xs.size := by simp only [Array.length_toList] at hi; omega
      have h1 := below_lt R (j := j) (i := i) (by omega) hi'
      simpa using h1
    rcases List.mem_cons.mp hb with rfl | hb
    · exact hl
    · obtain ⟨i, hi, rfl⟩ := List.getElem_of_mem hb
      rw [List.length_drop] at hi
      have hi' : SetTable.below xs j + i < xs.size := by simp only [Array.length_toList] at hi; omega
      have h1 := below_ge R (j := j) (i := SetTable.below xs j + i) (by omega) hi'
      simp only [List.getElem_drop, Array.getElem_toList]
      omega
def NoPl (t : SetTable) (j : Nat) : Prop := ∀ i, ∀ h : i < t.place.size, t.place[i] ≠ j
theorem noPl {t : SetTable} (R : Rz t.place) {j : Nat} (h : ∀ i, t.slot j ≠ .live i) : NoPl t j := fun i hi e => by
  subst e
  refine h i ?_
  unfold SetTable.slot
  simp only [below_at R hi]
  simp [hi]
theorem probe_free {t : SetTable} (R : Rz t.place) {h : Int} : ∀ (fuel : Nat) (p : SetTable.Probe), (∀ d, p.dummy = some d → NoPl t d) → ∀ j d, SetTable.probe.go t (fun _ => h + 1) h fuel p = some (.empty j d) → NoPl t j ∧ ∀ x, d = some x → NoPl t x
  | 0, p, _, j, d, e => by cases e
  | fuel + 1, p, hp, j, d, e => by
    unfold SetTable.probe.go at e
    cases hs : t.slot p.j with
    | empty =>
      rw [hs] at e
      cases e
      exact ⟨noPl R (fun i c => by rw [hs] at c; cases c), fun x z => hp x z⟩
    | dummy =>
      rw [hs] at e
      refine probe_free R fuel _ (fun x z => ?_) j d e
      have z' : some p.j = some x := by
        rw [← z]
        unfold SetTable.advance
        split <;> rfl
      cases z'
      exact noPl R fun i c => by rw [hs] at c; cases c
    | live i =>
      rw [hs] at e
      dsimp only at e
      have hne : ((h + 1 == h) : Bool) = false := by
        rw [beq_eq_false_iff_ne]
        omega
      rw [hne] at e
      refine probe_free R fuel _ (fun x z => hp x ?_) j d e
      rw [← z]
      unfold SetTable.advance
      split <;> rfl
theorem freeSlot_no {t : SetTable} (R : Rz t.place) {h : Int} {j : Nat} {b : Bool} (e : t.freeSlot h = some (j, b)) : NoPl t j := by
  unfold SetTable.freeSlot SetTable.probe at e
  split at e
  · rename_i j' d hg
    cases e
    obtain ⟨h1, h2⟩ := probe_free R _ _ (fun d z => by cases z) _ _ hg
    cases d with
    | none => exact h1
    | some x => exact h2 x rfl
  · cases e
theorem standIn_rz (t : SetTable) (n : Nat) : Rz (t.standIn n).place ∧ (t.standIn n).led = t.led := ⟨Rz.range n, rfl⟩
theorem layNew_rz {t : SetTable} (R : Rz t.place) (es : Array (Int × Value)) (h : Int) (x : Value) : Rz (layNew t es h x).2.1.place ∧ (layNew t es h x).2.1.led = t.led := by
  unfold layNew
  split
  · rename_i slot wd e
    have r : Rz (t.put slot).1.place ∧ (t.put slot).1.led = t.led := ⟨R.insert (freeSlot_no R e), rfl⟩
    dsimp only
    unfold SetTable.orStandIn
    split
    · exact r
    · exact ⟨(standIn_rz _ _).1, r.2⟩
  · exact standIn_rz _ _
theorem laid_rz {mask finger moves : Nat} {led plain : Bool} {hs : Array Int} {t : SetTable} {o : Array Nat} (e : SetTable.laid mask finger moves led plain hs = some (t, o)) : Rz t.place ∧ t.led = led := by
  unfold SetTable.laid at e
  cases c : SetTable.layClean mask hs with
  | none => rw [c] at e; cases e
  | some ow =>
    rw [c] at e
    cases e
    refine ⟨Rz.of_list ?_, rfl⟩
    rw [List.map_filterMap]
    refine List.Pairwise.filterMap (R := (· < ·)) _ (fun a b hab a' ha b' hb => ?_) (List.pairwise_lt_range)
    have ea : a' = a := by
      cases q : ow.getD a none with
      | none => rw [q] at ha; cases ha
      | some v => rw [q] at ha; cases ha; rfl
    have eb : b' = b := by
      cases q : ow.getD b none with
      | none => rw [q] at hb; cases hb
      | some v => rw [q] at hb; cases hb; rfl
    rw [ea, eb]
    exact hab
theorem relayAll_rz (t : SetTable) (es : Array (Int × Value)) (n : Nat) : Rz (relayAll t es n).2.1.place ∧ (relayAll t es n).2.1.led = t.led := by
  unfold relayAll
  split
  · rename_i t' o e
    dsimp only
    split
    · exact laid_rz (show SetTable.laid _ _ _ t.led t.plain _ = some (t', o) from e)
    · exact standIn_rz _ _
  · exact standIn_rz _ _
end Vs

namespace Vs
open PySem PySem.Spec PyProof.Rows L2
def intOf : Value → Int
  | .int n _ => n
  | _ => 0
def SetW (prog : Program) (w : World) (h : Heap) (a : Addr) (σ : List Int) : Prop :=
  ∃ o es ep t, h.get? a = some o ∧ o.ExactSet ∧ o.data = .set es ep t ∧ ElemsOf (intKind prog w) es.toList ∧ (es.toList.map fun e => intOf e.2).Perm σ ∧ es.size < scanBound ∧ t.fits es.size = true ∧ Rz t.place ∧ t.led = !w.params.followText "set-order"
section
variable {prog : Program} {w : World} {A : Around} {E : Value → Shared → Prop} {s : Shared}
theorem SetW.up {h h' : Heap} {a : Addr} {σ : List Int} (x : SetW prog w h a σ) (k : ∀ o, h.get? a = some o → h'.get? a = some o) : SetW prog w h' a σ := by
  obtain ⟨o, es, ep, t, ho, r⟩ := x
  exact ⟨o, es, ep, t, k o ho, r⟩
theorem elem_int {es : List (Int × Value)} (h : ElemsOf (intKind prog w) es) {e : Int × Value} (he : e ∈ es) : ∃ n t, e.2 = .int n t := by
  obtain ⟨⟨k, h1, _⟩, _⟩ := h e he
  obtain ⟨t, h3⟩ := Value.isInt_shape (show Value.isInt k e.2 = true from h1)
  exact ⟨k, t, h3⟩
theorem is_int {n k : Int} {t : Tok} : (intKind prog w).is k (.int n t) = decide (k = n) := by
  show Value.isInt k (.int n t) = _
  by_cases e : k = n
  · subst e; simp [Value.isInt]
  · simp only [Value.isInt, e, decide_false]
    rw [beq_eq_false_iff_ne]
    exact fun z => e z.symm
theorem setw_store {a : Addr} {o : Obj} {es : Array (Int × Value)} {ep : Nat} {t : SetTable} {h : Heap} (ho : h.get? a = some o) (hex : o.ExactSet) (hd : o.data = .set es ep t)
    {es' : Array (Int × Value)} {t' : SetTable} {σ : List Int} (hel : ElemsOf (intKind prog w) es'.toList) (hp : (es'.toList.map fun e => intOf e.2).Perm σ) (hb : es'.size < scanBound) (hf : t'.fits es'.size = true) (R : Rz t'.place) (hl : t'.led = !w.params.followText "set-order") :
    (h.update a (Obj.putSet es' t')).get? a = some { o with data := .set es' (ep + 1) t' } ∧ SetW prog w (h.update a (Obj.putSet es' t')) a σ := by
  have hg : (h.update a (Obj.putSet es' t')).get? a = some { o with data := .set es' (ep + 1) t' } := by
    have := Heap.get?_update_self (Obj.putSet es' t') ho (by rw [putSet_of es' t' hd]; rfl)
    rw [putSet_of es' t' hd] at this
    exact this
  exact ⟨hg, _, es', ep + 1, t', hg, hex, rfl, hel, hp, hb, hf, R, hl⟩
theorem setw_tail {g : Bool → Sem Unit} (hg : ∀ (b : Bool) (s₁ : Shared) (Q' : Unit → Shared → Prop), Q' () s₁ → wpAny (model prog w) A (g b) Q' E s₁)
    {a : Addr} {o : Obj} {es : Array (Int × Value)} {ep : Nat} {t : SetTable} (ho : s.heap.get? a = some o) (hex : o.ExactSet) (hd : o.data = .set es ep t)
    {es1 : Array (Int × Value)} {t2 : SetTable} {σ : List Int} (hel : ElemsOf (intKind prog w) es1.toList) (hp : (es1.toList.map fun e => intOf e.2).Perm σ)
    (hb1 : es1.size < scanBound) (hf2 : t2.fits es1.size = true) (R2 : Rz t2.place) (hl2 : t2.led = !w.params.followText "set-order") {wd : Bool} {R : Option Bool → Shared → Prop}
    (h : ∀ h', Heap.SameBut a s.heap h' → SetW prog w h' a σ → R (some true) { s with heap := h' }) :
    wpAny (model prog w) A (do
        storeSet a es1 t2
        if (!wd && t2.tooFull) = true then do
            g (relayAll t2 es1 (SetTable.grown es1.size)).2.2
            storeSet a (relayAll t2 es1 (SetTable.grown es1.size)).1 (relayAll t2 es1 (SetTable.grown es1.size)).2.1
            pure (some true)
          else pure (some true)) R E s := by
  refine wpAny_bind (wpAny_storeSet_of ho hd ?_ (fits_of_scanBound hb1))
  obtain ⟨ho1, hS1⟩ := setw_store (prog := prog) (w := w) ho hex hd hel hp hb1 hf2 R2 hl2
  have hsb := Heap.SameBut.update s.heap a (Obj.putSet es1 t2)
  split
  · have hpr := relayAll_perm t2 es1 (SetTable.grown es1.size)
    have hfr := relayAll_fits t2 es1 (SetTable.grown es1.size)
    have hrz := relayAll_rz t2 es1 (SetTable.grown es1.size)
    have hsz : (relayAll t2 es1 (SetTable.grown es1.size)).1.size = es1.size := by rw [← Array.length_toList, hpr.length_eq, Array.length_toList]
    have hb2 : (relayAll t2 es1 (SetTable.grown es1.size)).1.size < scanBound := by rw [hsz]; exact hb1
    refine wpAny_bind (hg _ _ _ ?_)
    refine wpAny_bind (wpAny_storeSet_of ho1 rfl ?_ (fits_of_scanBound hb2))
    obtain ⟨_, hS2⟩ := setw_store (prog := prog) (w := w) (σ := σ) ho1 hex rfl (hel.perm hpr) ((hpr.map _).trans hp) hb2 hfr hrz.1 (hrz.2.trans hl2)
    exact wpAny_pure (h _ (hsb.trans (Heap.SameBut.update _ a _)) hS2)
  · exact wpAny_pure (h _ hsb hS1)
theorem setw_add {a : Addr} {σ : List Int} {k : Int} {tk : Tok} {Q : Bool → Shared → Prop} (hS : SetW prog w s.heap a σ) (hroom : σ.length + 1 < scanBound)
    (h : ∀ b h', Heap.SameBut a s.heap h' → SetW prog w h' a (step_dedup σ k) → Q b { s with heap := h' }) :
    wpAny (model prog w) A (setAddHashed a (.int k tk) ((intKind prog w).hash k)) Q E s := by
  obtain ⟨o, es, ep, t, ho, hex, hd, hel, hp, hb, hf, R, hl⟩ := hS
  have hn : es.size = σ.length := by rw [← hp.length_eq, List.length_map, Array.length_toList]
  have hsc : (Value.int k tk).scannable = true := rfl
  have hkey := intKind_is prog w k tk
  unfold setAddHashed setAddHashedIn
  refine wpAny_holding (wpAny_bind (wpAny_setState_of ho hd hf ?_))
  dsimp only
  rw [byScan_of hsc hb hel]
  simp only [↓reduceIte]
  unfold setAddByScan
  refine wpAny_bind ?_
  refine wpAny_bind (wpAny_rule ?_)
  refine wpAny_bind (wpAny_setScan_of hkey ho hd hf hel ?_)
  cases hr : List.findIdx? (fun e => (intKind prog w).is k e.2) es.toList with
  | some j =>
    dsimp only
    obtain ⟨hj, hpj, _⟩ := List.findIdx?_eq_some_iff_getElem.mp hr
    have hm : k ∈ σ := by
      refine hp.mem_iff.mp (List.mem_map.mpr ⟨es.toList[j], List.getElem_mem hj, ?_⟩)
      obtain ⟨n, t', e⟩ := elem_int hel (List.getElem_mem hj)
      rw [e, is_int] at hpj
      rw [e]
      exact (of_decide_eq_true hpj).symm
    have e1 : step_dedup σ k = σ := by
      unfold step_dedup
      rw [if_pos]
      simpa using hm
    refine wpAny_pure (wpAny_pure ?_)
    have := h false s.heap (Heap.SameBut.refl a s.heap) (by rw [e1]; exact ⟨o, es, ep, t, ho, hex, hd, hel, hp, hb, hf, R, hl⟩)
    exact this
  | none =>
    dsimp only
    have hm : k ∉ σ := fun hm => by
      obtain ⟨e, he, q⟩ := List.mem_map.mp (hp.mem_iff.mpr hm)
      obtain ⟨n, t', e'⟩ := elem_int hel he
      have := List.findIdx?_eq_none_iff.mp hr e he
      rw [e', is_int] at this
      rw [e'] at q
      exact absurd (show k = n from q.symm) (of_decide_eq_false this)
    have e1 : step_dedup σ k = σ ++ [k] := by
      unfold step_dedup
      rw [if_neg]
      simpa using hm
    have hgw : ∀ (b : Bool) {s₁ : Shared} {Q' : Unit → Shared → Prop}, Q' () s₁ → wpAny (model prog w) A (match b with | true => rule "set.scan.the-table-gave-way" | false => pure ()) Q' E s₁ :=
      fun b s₁ Q' hq => by cases b <;> first | exact wpAny_pure hq | exact wpAny_rule hq
    have hpr := layNew_perm t es ((intKind prog w).hash k) (.int k tk)
    have hfi := layNew_fits t es ((intKind prog w).hash k) (.int k tk)
    have hrz := layNew_rz R es ((intKind prog w).hash k) (.int k tk)
    generalize layNew t es ((intKind prog w).hash k) (.int k tk) = L at hpr hfi hrz ⊢
    obtain ⟨es1, t1, wd, gave⟩ := L
    dsimp only at hpr hfi hrz ⊢
    rw [Array.toList_push] at hpr
    have hel1 : ElemsOf (intKind prog w) es1.toList := (hel.push hkey hsc).perm hpr
    have hp1 : (es1.toList.map fun e => intOf e.2).Perm (σ ++ [k]) := (hpr.map _).trans (by
      rw [List.map_append]
      exact hp.append (List.Perm.refl _))
    have hb1 : es1.size < scanBound := by
      rw [← Array.length_toList, hpr.length_eq, List.length_append, Array.length_toList, hn]
      exact hroom
    refine wpAny_bind (hgw _ ?_)
    rw [e1] at h
    split
    · refine wpAny_bind ?_
      rw [hashByValue_scannable 8 hsc]
      refine wpAny_pure ?_
      refine setw_tail ?_ ho hex hd hel1 hp1 hb1 hfi hrz.1 (hrz.2.trans hl) ?_
      · intro b s₁ Q' hq; cases b <;> first | exact wpAny_pure hq | exact wpAny_rule hq
      · intro h' hsb hS'; dsimp only; exact wpAny_pure (h _ h' hsb hS')
    · refine wpAny_bind (wpAny_pure ?_)
      simp only [↓reduceIte]
      refine setw_tail ?_ ho hex hd hel1 hp1 hb1 hfi hrz.1 (hrz.2.trans hl) ?_
      · intro b s₁ Q' hq; cases b <;> first | exact wpAny_pure hq | exact wpAny_rule hq
      · intro h' hsb hS'; dsimp only; exact wpAny_pure (h _ h' hsb hS')
end
section
variable {prog : Program} {w : World} {A : Around} {R : Result → Shared → Prop} {I : Addr} {fp wr : List Addr} {G : Array GenState → Array GenState → Prop} {n : Nat} {P : Nat → Value → Prop} {St : Nat → Shared → Prop}
theorem setw_loop (W : WalksS prog w A.in1 I fp wr G n P St) (S : Addr) (hSf : S ∉ fp) (val : Nat → Int) (hval : ∀ i v, P i v → ∃ t, v = .int (val i) t) (hb : n + 1 < scanBound) :
    ∀ (k i : Nat) (s : Shared), n - i = k → i ≤ n → St i s → SetW prog w s.heap S (firstMet val i) →
      (∀ s', Moved (S :: wr) G s s' → SetW prog w s'.heap S (firstMet val n) → R (.ok (.ret .none)) s') →
      codeAny (model prog w) A (.builtin "set.update.loop" ⟨[.ref S, .ref I], []⟩) R s := by
  have hSw : S ∉ wr := fun h => hSf (W.sub _ h)
  have hsub : ∀ b ∈ wr, b ∈ S :: wr := fun b hb => List.mem_cons_of_mem _ hb
  intro k
  induction k with
  | zero =>
    intro i s hk hi hst hS hR
    have hin : i = n := by omega
    subst hin
    refine codeAny_builtin F.entry_set_update_loop ?_
    rw [Around.under_plainId F.plain_set_update_loop _]
    show wpAny _ A.in1 (pyNext (.ref I) >>= _) _ _ s
    refine wpAny_bind (W.done s _ _ hst fun s' hm => ?_)
    show wpAny _ A.in1 (ret Value.none) _ _ s'
    exact wpAny_pure (hR s' (hm.mono hsub) (hS.up fun o => hm.heap S o hSw))
  | succ k ih =>
    intro i s hk hi hst hS hR
    have hlt : i < n := by omega
    refine codeAny_builtin F.entry_set_update_loop ?_
    rw [Around.under_plainId F.plain_set_update_loop _]
    show wpAny _ A.in1 (pyNext (.ref I) >>= _) _ _ s
    refine wpAny_bind (W.item i s _ _ hlt hst fun v s' hP hst' hm => ?_)
    obtain ⟨t, rfl⟩ := hval i v hP
    have hS' : SetW prog w s'.heap S (firstMet val i) := hS.up fun o => hm.heap S o hSw
    show wpAny _ A.in1 (holding [Value.int (val i) t] (setAdd S (.int (val i) t)) >>= _) _ _ s'
    refine wpAny_bind (wpAny_holding ?_)
    unfold setAdd
    refine wpAny_holding ?_
    refine wpAny_bind ((intKind prog w).pyHash (k := val i) (intKind_is _ _ _ _) ?_)
    have hroom : (firstMet val i).length + 1 < scanBound := by have := firstMet_length_le val i; omega
    refine setw_add (s := { s' with toks := s'.toks + 1 }) hS' hroom fun b h' hsb hS2 => ?_
    rw [← firstMet_succ] at hS2
    refine wpAny_pure ⟨plainId_quiet F.plain_set_update_loop _, ih (i + 1) _ (by omega) hlt (W.frame _ s' _ _ hst' (Nat.le_succ _) fun b hb o e => ?_) hS2 fun s'' hm'' hS'' => ?_⟩
    · rw [hsb.2 b (fun h : b = S => hSf (by rw [← h]; exact hb))]; exact e
    · refine hR s'' (Moved.trans W.gtrans ((hm.mono hsub).then_heap (Nat.le_succ _) fun b o hb e => ?_) hm'') hS''
      rw [hsb.2 b (fun h : b = S => hb (by rw [h]; exact List.mem_cons_self))]; exact e
end
end Vs

namespace PySem
open PyProof.Rows
section
variable {prog : Program} {w : World} {A : Around} {E : Value → Shared → Prop} {s : Shared}
abbrev newSetObj (w : World) : Obj := { cls := .type "set", dict := none, data := .set #[] 0 (.fresh 0 0 (!w.params.followText "set-order")) }
set_option maxHeartbeats 8000000 in
theorem setw_new (a : Value) {Q₁ : Value → Shared → Prop} (h : Q₁ (.ref s.heap.objs.size) { s with heap := s.heap.push (newSetObj w) }) :
    codeAny (model prog w) A (.call (.builtin "set.__new__") ⟨[.type "set", a], []⟩) (wants Q₁ E) s := by
  refine codeAny_of_tree ?_
  show wpAny _ A.in1 (do checkBuiltinCall "set.__new__" ⟨[.type "set", a], []⟩; again (.builtin "set.__new__" ⟨[.type "set", a], []⟩)) _ _ s
  refine wpAny_bind (wpAny_of_eq (F.newCall_set_1 a) (wpAny_pure ⟨plainId_quiet F.plain_set_new _, codeAny_builtin F.entry_set_new ?_⟩))
  rw [Around.under_plainId F.plain_set_new _]
  unfold Builtin.«set.__new__» Builtin.Frozenset.newClass
  have hsub := sub_set_self
  obtain ⟨hp, g, d, tk, os⟩ := s
  dsimp only
  wp_walk
  refine wpAny_askSetting (wpAny_pure ?_)
  dsimp only
  simp only [newObj]
  refine wpAny_bind (wpAny_alloc (wpAny_pure ?_))
  exact wpAny_pure h
set_option maxHeartbeats 8000000 in
theorem setw_call {l : Addr} {items : Array Value} {ns : List Int} {Q : Value → Shared → Prop}
    (hh : A.handled = none) (hl : s.heap.IsList l items) (hi : PyProof.Rows.IntsAre items.toList ns) (hb : items.size + 1 < scanBound)
    (h : ∀ (h' : Heap) (tk : Nat), Vs.SetW prog w h' s.heap.objs.size (firstMet (fun i => ns.getD i 0) items.size) →
      (∀ b o, b < s.heap.objs.size → s.heap.get? b = some o → h'.get? b = some o) → Q (.ref s.heap.objs.size) { s with heap := h', toks := tk }) :
    wpAny (model prog w) A (call (.type "set") [.ref l]) Q E s := by
  obtain ⟨c, tl, hmro⟩ := F.called_set.mro
  have hmade := F.called_set.made
  have hsub := F.called_set.sub
  refine wpAny_call (codeAny_of_tree ?_)
  show wpAny _ _ (callAny (.type "set") _) _ _ _
  refine wpAny_pure ⟨Code.quiet_builtin _ (by decide +kernel), codeAny_builtin F.entry_type_call ?_⟩
  rw [Around.under_plain (weight_type_call_type "set" [.ref l] []) rfl]
  have h1 := F.called_set.notType
  have h2 := F.called_set.canCreate
  have hct := F.typeCall_set_1 (.ref l)
  repeat (any_goals (first | assumption | wp_step))
  refine codeAny_mono (setw_new (.ref l) (E := E) (Q₁ := fun obj s₁ => obj = .ref s.heap.objs.size ∧ s₁ = { s with heap := s.heap.push (newSetObj w) }) ⟨rfl, rfl⟩) fun r s₁ hr => ?_
  cases r with
  | error e => exact hr
  | ok fl =>
    cases fl with
    | ret obj =>
      obtain ⟨rfl, rfl⟩ := hr
      have hS : (s.heap.push (newSetObj w)).get? s.heap.objs.size = some (newSetObj w) := Heap.get?_push_size _ rfl
      have hT : Shared.TypeIs { s with heap := s.heap.push (newSetObj w) } (.ref s.heap.objs.size) "set" := ⟨_, hS, rfl⟩
      have hli := F.called_set.init.lookup
      have hbi := F.called_set.init.bind (.ref s.heap.objs.size)
      repeat (any_goals (first | assumption | wp_step))
      refine codeAny_mono (codeAny_call_builtin (R := wants (fun r s₂ => r = .none ∧ ∃ h' tk, s₂ = { s with heap := h', toks := tk } ∧
          Vs.SetW prog w h' s.heap.objs.size (firstMet (fun i => ns.getD i 0) items.size) ∧
          (∀ b o, b < s.heap.objs.size → s.heap.get? b = some o → h'.get? b = some o)) E) F.called_set.init.plain F.entry_set_init (check_set_init_1 hT ?_)) fun r₂ s₂ hr₂ => ?_
      · obtain ⟨ol, hol, hcl, nl, hdl⟩ := hl
        obtain ⟨ocls, odict, odata, oslots⟩ := ol
        simp only at hcl hdl
        subst hcl; subst hdl
        have hol' : (s.heap.push (newSetObj w)).get? l = some { cls := .type "list", dict := odict, data := .seq items nl, slots := oslots } := Heap.get?_push_of_some _ hol
        have hsls := F.sub_list_set
        have hslf := F.sub_list_frozenset
        have hne : (Value.type "list" == Value.type "dict") = false := by decide
        have hl1 : (s.heap.push (newSetObj w)).IsList l items := ⟨_, hol', rfl, nl, rfl⟩
        unfold Builtin.«set.__init__» noKeywords Builtin.Frozenset.updateFrom
        generalize hPI : pyIter = PI
        wp_walk
        subst hPI
        refine wpAny_pyIter_list hl1 ?_
        refine wpAny_bind (wpAny_runValue ?_)
        have hlS : l < s.heap.objs.size := Heap.lt_size hol
        have hh3 : A.in1.in1.in1.handled = none := by simp [hh]
        have hneI : l ≠ (s.heap.push (newSetObj w)).objs.size := by
          rw [Heap.size_push]; exact Nat.ne_of_lt (Nat.lt_succ_of_lt hlS)
        have hSf : s.heap.objs.size ∉ [(s.heap.push (newSetObj w)).objs.size, l] := by
          rw [Heap.size_push]; simp only [List.mem_cons, List.mem_singleton, List.not_mem_nil, or_false, not_or]
          exact ⟨Nat.ne_of_lt (Nat.lt_succ_self _), Nat.ne_of_gt hlS⟩
        have hval : ∀ (i : Nat) (v : Value), items[i]? = some v → ∃ t, v = .int ((fun i => ns.getD i 0) i) t := fun i v hv =>
          PyProof.Rows.IntsAre.int_at hi i v (by rw [Array.getElem?_toList]; exact hv)
        refine Vs.setw_loop ((Walks.list hh3 _ l hneI items).toS) s.heap.objs.size
          hSf (fun i => ns.getD i 0) hval hb (items.size - 0) 0 _ (by omega) (Nat.zero_le _)
          ⟨⟨_, Heap.get?_push_size _ rfl, rfl, rfl⟩, (hl1.push _)⟩ ?hS0 ?hR
        case hS0 =>
          have hget : ((s.heap.push (newSetObj w)).push { cls := .type "list_iterator", data := .fields #[.ref l, .int 0 0] }).get? s.heap.objs.size = some (newSetObj w) := Heap.get?_push_of_some _ hS
          exact ⟨_, #[], 0, _, hget, ⟨rfl, rfl, rfl⟩, rfl, fun e he => by simp at he, by simp [firstMet], by decide, rfl, Vs.Rz.nil, rfl⟩
        case hR =>
          intro s' hm hS'
          obtain ⟨h', g', d', tk', os'⟩ := s'
          have eg : g' = s.gens := hm.gens
          have ed : d' = s.drawn := hm.drawn
          have eo : os' = s.os := hm.os
          subst eg; subst ed; subst eo
          show wpAny _ _ _ _ _ _
          refine wpAny_pure ?_
          show wpAny _ _ (ret Value.none) _ _ _
          refine wpAny_pure ⟨rfl, h', tk', rfl, hS', fun b o hb e => ?_⟩
          have hb1 : b ≠ s.heap.objs.size := Nat.ne_of_lt hb
          have hb2 : b ≠ (s.heap.push (newSetObj w)).objs.size := by
            rw [Heap.size_push]; exact Nat.ne_of_lt (Nat.lt_succ_of_lt hb)
          exact hm.heap b o (by simp only [List.mem_cons, List.mem_singleton, List.not_mem_nil, or_false, not_or]; exact ⟨hb1, hb2⟩) (Heap.get?_push_of_some _ (Heap.get?_push_of_some _ e))
      · cases r₂ with
        | error e => exact hr₂
        | ok fl₂ =>
          cases fl₂ with
          | ret r =>
            obtain ⟨rfl, h', tk, rfl, hS', hk'⟩ := hr₂
            repeat (any_goals (first | assumption | wp_step))
            exact h _ _ hS' hk'
          | _ => exact False.elim hr₂
    | _ => exact False.elim hr
end
end PySem

namespace PySem.F
theorem owner_set_iterator : Manifest.owners.lookup (String.ofList ['r', 'o', 't', 'a', 'r', 'e', 't', 'i', '_', 't', 'e', 's'].reverse) = some Manifest.sig_set_iterator := by kernel_rfl
theorem slot_set_iterator_iter : Slot "set_iterator" "__iter__" "set_iterator.__iter__" :=
  .of (owner := "set_iterator") (n := "__iter__") (by rw [typeLookup_type, builtinLookup_eq_fast]; kernel_rfl) (by decide +kernel) (by decide +kernel) (by decide +kernel)
    (by first | exact .inl (by decide +kernel) | exact .inr (by decide +kernel)) (by rw [isSubtype_type]; kernel_rfl)
theorem entry_set_iterator_iter : entryFor table "set_iterator.__iter__" = some Builtin.«dict_keyiterator.__iter__» :=
  entryFor_alias (id' := "dict_keyiterator.__iter__") (by kernel_rfl) rfl (by decide +kernel) (by kernel_rfl)
theorem args_set_iterator_iter (a : Value) : argsOk "set_iterator.__iter__" ⟨[a], []⟩ := by
  unfold argsOk; rw [signature?_of (id := "set_iterator.__iter__") (n := ['_', '_', 'r', 'e', 't', 'i', '_', '_']) (o := ['r', 'o', 't', 'a', 'r', 'e', 't', 'i', '_', 't', 'e', 's']) (by kernel_rfl) owner_set_iterator]; kernel_rfl
theorem slot_set_iterator_next : Slot "set_iterator" "__next__" "set_iterator.__next__" :=
  .of (owner := "set_iterator") (n := "__next__") (by rw [typeLookup_type, builtinLookup_eq_fast]; kernel_rfl) (by decide +kernel) (by decide +kernel) (by decide +kernel)
    (by first | exact .inl (by decide +kernel) | exact .inr (by decide +kernel)) (by rw [isSubtype_type]; kernel_rfl)
theorem entry_set_iterator_next : entryFor table "set_iterator.__next__" = some Builtin.«set_iterator.__next__» := entryFor_of_tree (by kernel_rfl)
theorem args_set_iterator_next (a : Value) : argsOk "set_iterator.__next__" ⟨[a], []⟩ := by
  unfold argsOk; rw [signature?_of (id := "set_iterator.__next__") (n := ['_', '_', 't', 'x', 'e', 'n', '_', '_']) (o := ['r', 'o', 't', 'a', 'r', 'e', 't', 'i', '_', 't', 'e', 's']) (by kernel_rfl) owner_set_iterator]; kernel_rfl
theorem entry_set_iter : entryFor table "set.__iter__" = some Builtin.«frozenset.__iter__» :=
  entryFor_alias (id' := "frozenset.__iter__") (by kernel_rfl) rfl (by decide +kernel) (by kernel_rfl)
end PySem.F
namespace Vs
open PySem PySem.Spec PyProof.Rows L2
section
variable {prog : Program} {w : World} {A : Around} {E : Value → Shared → Prop} {s : Shared}
theorem er_perm {α : Type} : ∀ (l : List α) (i : Nat) (h : i < l.length), (l[i] :: l.eraseIdx i).Perm l
  | [], i, h => by simp at h
  | x :: r, 0, h => by simp
  | x :: r, i + 1, h => by
    simp only [List.getElem_cons_succ, List.eraseIdx_cons_succ]
    exact (List.Perm.swap _ _ _).trans (List.Perm.cons _ (er_perm r i (by simpa using h)))
theorem drawOrder_wp {α : Type} : ∀ (n : Nat) (xs : List α) {Q : List α → Shared → Prop} {s : Shared}, xs.length ≤ n → (∀ ys d, ys.Perm xs → Q ys { s with drawn := d }) → wpAny (model prog w) A (drawOrder n xs) Q E s
  | 0, xs, Q, s, hn, h => by
    have : xs = [] := List.length_eq_zero_iff.mp (by omega)
    subst this
    exact wpAny_pure (h [] s.drawn (List.Perm.refl _))
  | n + 1, [], Q, s, hn, h => wpAny_pure (h [] s.drawn (List.Perm.refl _))
  | n + 1, x :: r, Q, s, hn, h => by
    unfold drawOrder
    refine wpAny_bind ?_
    unfold choose
    intro Γ p hΓ
    rw [Sem.wp_choose]
    refine ⟨by simp, ?_⟩
    generalize hi : (model prog w).w.draws Source.order (s.drawn.get Source.order) % (x :: r).length = i
    have hlt : i < (x :: r).length := by rw [← hi]; exact Nat.mod_lt _ (by simp)
    rw [Sem.wp_pure]
    have go : wpAny (model prog w) A (match (x :: r)[i]? with
      | some y => do return y :: (← drawOrder n ((x :: r).eraseIdx i))
      | none => unsupported "internal:drawOrder") Q E { s with drawn := s.drawn.bump .order } := by
      rw [List.getElem?_eq_getElem hlt]
      dsimp only
      refine wpAny_bind (drawOrder_wp n _ (by rw [List.length_eraseIdx_of_lt hlt]; simp at hn ⊢; omega) fun ys d hp => wpAny_pure (h _ d ?_))
      refine (List.Perm.cons _ hp).trans ?_
      exact (er_perm _ _ hlt)
    exact go
theorem pickOrder_go {α : Type} (next : Nat → Nat) : ∀ (fuel k : Nat) (left : List α) (out : Array α), left.length = fuel → (pickOrder.go next fuel k left out).toList.Perm (out.toList ++ left)
  | 0, k, left, out, h => by
    have : left = [] := List.length_eq_zero_iff.mp h
    subst this
    unfold pickOrder.go
    simp
  | fuel + 1, k, left, out, h => by
    unfold pickOrder.go
    have hlt : next k % left.length < left.length := Nat.mod_lt _ (by omega)
    rw [List.getElem?_eq_getElem hlt]
    dsimp only
    refine (pickOrder_go next fuel (k + 1) _ _ (by rw [List.length_eraseIdx_of_lt hlt]; omega)).trans ?_
    rw [Array.toList_push, List.append_assoc]
    refine List.Perm.append_left _ ?_
    rw [List.singleton_append]
    exact er_perm _ _ hlt
theorem pickOrder_perm {α : Type} (next : Nat → Nat) (xs : Array α) : (pickOrder next xs).toList.Perm xs.toList := by
  have := pickOrder_go next xs.size 0 xs.toList #[] (by simp)
  simpa [pickOrder] using this
def SetAt (w : World) (h : Heap) (S : Addr) (es : Array (Int × Value)) (ep : Nat) (t : SetTable) : Prop :=
  ∃ o, h.get? S = some o ∧ o.ExactSet ∧ o.data = .set es ep t ∧ t.fits es.size = true ∧ Rz t.place ∧ t.led = !w.params.followText "set-order"
def SitAt (h : Heap) (I S : Addr) (first : Value) (i n ep : Nat) : Prop :=
  ∃ o, h.get? I = some o ∧ o.cls = .type "set_iterator" ∧ o.data = .fields #[first, .int i 0, .ref S, .int n 0, .int ep 0]
theorem SetAt.up {h h' : Heap} {S : Addr} {es : Array (Int × Value)} {ep : Nat} {t : SetTable} (x : SetAt w h S es ep t) (k : ∀ o, h.get? S = some o → h'.get? S = some o) : SetAt w h' S es ep t := by
  obtain ⟨o, ho, r⟩ := x
  exact ⟨o, k o ho, r⟩
theorem SitAt.up {h h' : Heap} {I S : Addr} {first : Value} {i n ep : Nat} (x : SitAt h I S first i n ep) (k : ∀ o, h.get? I = some o → h'.get? I = some o) : SitAt h' I S first i n ep := by
  obtain ⟨o, ho, r⟩ := x
  exact ⟨o, k o ho, r⟩
theorem SitAt.typeIs {I S : Addr} {first : Value} {i n ep : Nat} (x : SitAt s.heap I S first i n ep) : s.TypeIs (.ref I) "set_iterator" := let ⟨o, ho, hc, _⟩ := x; ⟨o, ho, hc⟩
theorem sit_self {I S : Addr} {first : Value} {i n ep : Nat} {Q : Value → Shared → Prop} (x : SitAt s.heap I S first i n ep) (h : Q (.ref I) s) : wpAny (model prog w) A (pyIter (.ref I)) Q E s := by
  refine wpAny_pyIter_slot x.typeIs F.slot_set_iterator_iter (wpAny_call_entry F.slot_set_iterator_iter x.typeIs F.entry_set_iterator_iter ?_ (F.args_set_iterator_iter _))
  show wpAny _ _ (ret (.ref I)) _ _ s
  exact wpAny_pure ⟨_, rfl, "set_iterator", _, x.typeIs, F.slot_set_iterator_next.lookup, h⟩
def nxt (w : World) (S : Addr) (es : Array (Int × Value)) (ep : Nat) (t : SetTable) (slot given : Nat) : Option (Value × Nat) :=
  if w.params.followText "set-order" = true then ((pickOrder (w.params.setOrder S ep) es)[given]?).map fun e => (e.2, slot) else match es[SetTable.below t.place slot]?, t.place[SetTable.below t.place slot]? with
      | some (_, x), some j => some (x, j + 1)
      | _, _ => none
theorem setNext_wp {S : Addr} {es : Array (Int × Value)} {ep : Nat} {t : SetTable} (x : SetAt w s.heap S es ep t) {slot given : Nat} {Q : Option (Value × Nat) → Shared → Prop}
    (hd : w.params.followText "set-order" = false → (!t.plain && decide (es.size > 1)) = false)
    (h : Q (nxt w S es ep t slot given) s) : wpAny (model prog w) A (setNext S slot given ep) Q E s := by
  obtain ⟨o, ho, hex, hda, hf, R, hl⟩ := x
  unfold nxt at h
  unfold setNext
  refine wpAny_bind (wpAny_setState_of ho hda hf ?_)
  dsimp only
  unfold setsByText
  refine wpAny_bind (wpAny_bind (wpAny_askSetting (wpAny_pure ?_)))
  show wpAny (model prog w) A (if w.params.followText "set-order" = true then _ else _) Q E s
  cases hb : w.params.followText "set-order" with
  | true =>
    rw [hb] at h
    simp only [if_true] at h ⊢
    simp only [bne_self_eq_false, Bool.false_eq_true, if_false]
    unfold setWalk
    refine wpAny_bind ?_
    refine wpAny_bind (wpAny_setState_of ho hda hf ?_)
    dsimp only
    unfold setsByText
    refine wpAny_bind (wpAny_bind (wpAny_askSetting (wpAny_pure ?_)))
    show wpAny (model prog w) A (if w.params.followText "set-order" = true then _ else _) _ E s
    rw [if_pos hb]
    exact wpAny_bind (wpAny_askSetting (wpAny_pure (wpAny_pure h)))
  | false =>
    rw [hb] at h hl
    simp only [Bool.false_eq_true, if_false] at h ⊢
    have hd' := hd hb
    split
    · rename_i z
      exact absurd (show (!t.plain && decide (es.size > 1)) = true from z) (by rw [hd']; exact Bool.false_ne_true)
    · refine wpAny_bind (m := _) (?_ : wpAny (model prog w) A (if (!t.led && !es.isEmpty) = true then unsupported "set:maker-not-led" else pure ()) _ E s)
      rw [if_neg (by rw [hl]; simp)]
      exact wpAny_pure (wpAny_pure h)
end
end Vs

namespace Vs
open PySem PySem.Spec PyProof.Rows L2
section
variable {prog : Program} {w : World} {A : Around} {E : Value → Shared → Prop} {s : Shared}
theorem sit_item {I S : Addr} {es : Array (Int × Value)} {ep slot nx i : Nat} {t : SetTable} {x : Value} {Q : Option Value → Shared → Prop} (hit : SitAt s.heap I S (.int slot 0) i es.size ep) (hs : SetAt w s.heap S es ep t)
    (hd : w.params.followText "set-order" = false → (!t.plain && decide (es.size > 1)) = false) (hx : nxt w S es ep t slot i = some (x, nx))
    (hQ : ∀ h', SitAt h' I S (.int nx 0) (i + 1) es.size ep → Heap.SameBut I s.heap h' → Q (some x) { s with heap := h' }) : wpAny (model prog w) A (pyNext (.ref I)) Q E s := by
  obtain ⟨o, ho, hc, hda⟩ := id hit
  obtain ⟨os, hos, hex, hds, hf, _⟩ := id hs
  unfold pyNext
  refine wpAny_bind (wpAny_attempt (wpAny_callSpecial?_slot (name := Str.ofString "__next__") hit.typeIs F.slot_set_iterator_next
    (wpAny_call_entry F.slot_set_iterator_next hit.typeIs F.entry_set_iterator_next ?_ (F.args_set_iterator_next _))))
  unfold Builtin.«set_iterator.__next__» slotArgs
  simp only [List.isEmpty_nil, Bool.not_true, Bool.false_eq_true, ↓reduceIte, bind_assoc, List.length_nil, bne_self_eq_false]
  refine wpAny_bind (wpAny_pure ?_)
  dsimp only
  refine wpAny_bind (wpAny_fieldsOf ho hda ?_)
  dsimp only
  refine wpAny_bind (wpAny_setEntries_of hos hds hf ?_)
  simp only [bne_self_eq_false, Bool.false_eq_true, ↓reduceIte]
  refine wpAny_bind (setNext_wp (by simpa using hs) hd ?_)
  simp only [Int.toNat_natCast]
  rw [hx]
  dsimp only
  refine wpAny_bind (wpAny_setField ho hda (by simp) ?_)
  have ho1 := Heap.get?_update_self (Obj.mapFields (·.setIfInBounds 0 (rawInt (nx : Int)))) ho (Obj.isFreed_of_fields (Obj.data_mapFields hda _))
  have hd1 := Obj.data_mapFields hda (·.setIfInBounds 0 (rawInt (nx : Int)))
  refine wpAny_bind (wpAny_setField ho1 hd1 (by simp) (wpAny_pure ⟨x, rfl, wpAny_pure (hQ _ ?_ ((Heap.SameBut.update ..).trans (Heap.SameBut.update ..)))⟩))
  refine ⟨_, Heap.get?_update_self _ ho1 (Obj.isFreed_of_fields (Obj.data_mapFields hd1 _)), (Obj.cls_mapFields ..).trans ((Obj.cls_mapFields ..).trans hc), ?_⟩
  rw [Obj.data_mapFields hd1]
  simp [rawInt]
theorem sit_end {I S : Addr} {es : Array (Int × Value)} {ep slot i : Nat} {t : SetTable} {Q : Option Value → Shared → Prop} (hh : A.handled = none) (hit : SitAt s.heap I S (.int slot 0) i es.size ep) (hs : SetAt w s.heap S es ep t)
    (hd : w.params.followText "set-order" = false → (!t.plain && decide (es.size > 1)) = false) (hx : nxt w S es ep t slot i = none)
    (hQ : ∀ h', Heap.ExtBut I s.heap h' → Q none { s with heap := h' }) : wpAny (model prog w) A (pyNext (.ref I)) Q E s := by
  obtain ⟨o, ho, hc, hda⟩ := id hit
  obtain ⟨os, hos, hex, hds, hf, _⟩ := id hs
  unfold pyNext
  refine wpAny_bind (wpAny_attempt (wpAny_callSpecial?_slot (name := Str.ofString "__next__") hit.typeIs F.slot_set_iterator_next
    (wpAny_call_entry F.slot_set_iterator_next hit.typeIs F.entry_set_iterator_next ?_ (F.args_set_iterator_next _))))
  unfold Builtin.«set_iterator.__next__» slotArgs
  simp only [List.isEmpty_nil, Bool.not_true, Bool.false_eq_true, ↓reduceIte, bind_assoc, List.length_nil, bne_self_eq_false]
  refine wpAny_bind (wpAny_pure ?_)
  dsimp only
  refine wpAny_bind (wpAny_fieldsOf ho hda ?_)
  dsimp only
  refine wpAny_bind (wpAny_setEntries_of hos hds hf ?_)
  simp only [bne_self_eq_false, Bool.false_eq_true, ↓reduceIte]
  refine wpAny_bind (setNext_wp (by simpa using hs) hd ?_)
  simp only [Int.toNat_natCast]
  rw [hx]
  dsimp only
  refine wpAny_bind (wpAny_setField ho hda (by simp) ?_)
  show wpAny _ _ (newExc (.type "StopIteration") [] >>= _) _ _ _
  refine wpAny_bind ?_
  simp only [newExc, newTuple]
  refine wpAny_bind (wpAny_newObj_type ?_ (by size_fits))
  refine wpAny_bind (m := firstArgMember _ _) (wpAny_of_eq (a := Value.none) (by first | rfl | (simp only [firstArgMember]; rfl)) ?_)
  refine wpAny_newObj_type ?_ (by size_fits)
  simp only [raiseNew]
  refine wpAny_bind (wpAny_handled ?_)
  rw [show A.in1.handled = none from hh]
  refine wpAny_bind (wpAny_pure (wpAny_throw ?_))
  refine wpAny_bind (wpAny_isInstance (T := "StopIteration") (b := true) ⟨_, Heap.get?_push_size _ rfl, rfl⟩ isSubtype_stop ?_)
  exact wpAny_pure (hQ _ (((Heap.SameBut.update ..).extBut.push _).push _))
end
end Vs

namespace Vs
open PySem PySem.Spec PyProof.Rows L2
section
variable {prog : Program} {w : World} {A : Around} {E : Value → Shared → Prop} {s : Shared}
theorem sit_itemD {I S T : Addr} {es : Array (Int × Value)} {ep i pl nT : Nat} {t : SetTable} {oT : Obj} {items : Array Value} {hv : Int} {x : Value} {Q : Option Value → Shared → Prop} (hit : SitAt s.heap I S (.ref T) i es.size ep) (hs : SetAt w s.heap S es ep t)
    (hT : s.heap.get? T = some oT) (hTd : oT.data = .seq items nT) (hi : items[i]? = some (rawInt (pl : Int))) (hx : es[pl]? = some (hv, x))
    (hQ : ∀ h', SitAt h' I S (.ref T) (i + 1) es.size ep → Heap.SameBut I s.heap h' → Q (some x) { s with heap := h' }) : wpAny (model prog w) A (pyNext (.ref I)) Q E s := by
  obtain ⟨o, ho, hc, hda⟩ := id hit
  obtain ⟨os, hos, hex, hds, hf, _⟩ := id hs
  unfold pyNext
  refine wpAny_bind (wpAny_attempt (wpAny_callSpecial?_slot (name := Str.ofString "__next__") hit.typeIs F.slot_set_iterator_next
    (wpAny_call_entry F.slot_set_iterator_next hit.typeIs F.entry_set_iterator_next ?_ (F.args_set_iterator_next _))))
  unfold Builtin.«set_iterator.__next__» slotArgs
  simp only [List.isEmpty_nil, Bool.not_true, Bool.false_eq_true, ↓reduceIte, bind_assoc, List.length_nil, bne_self_eq_false]
  refine wpAny_bind (wpAny_pure ?_)
  dsimp only
  refine wpAny_bind (wpAny_fieldsOf ho hda ?_)
  dsimp only
  refine wpAny_bind (wpAny_setEntries_of hos hds hf ?_)
  simp only [bne_self_eq_false, Bool.false_eq_true, ↓reduceIte]
  refine wpAny_bind (wpAny_seqItems hT hTd ?_)
  dsimp only
  simp only [Int.toNat_natCast, hi, rawInt]
  refine wpAny_bind ?_
  unfold setNextDrawn
  refine wpAny_bind (wpAny_setState_of hos hds hf ?_)
  dsimp only
  simp only [Int.toNat_natCast, bne_self_eq_false, Bool.false_eq_true, ↓reduceIte, hx]
  refine wpAny_pure ?_
  refine wpAny_bind (wpAny_setField ho hda (by simp) (wpAny_pure ⟨x, rfl, wpAny_pure (hQ _ ?_ (Heap.SameBut.update ..))⟩))
  refine ⟨_, Heap.get?_update_self _ ho (Obj.isFreed_of_fields (Obj.data_mapFields hda _)), (Obj.cls_mapFields ..).trans hc, ?_⟩
  rw [Obj.data_mapFields hda]
  simp [rawInt]
theorem sit_endD {I S T : Addr} {es : Array (Int × Value)} {ep i nT : Nat} {t : SetTable} {oT : Obj} {items : Array Value} {Q : Option Value → Shared → Prop} (hh : A.handled = none) (hit : SitAt s.heap I S (.ref T) i es.size ep) (hs : SetAt w s.heap S es ep t)
    (hT : s.heap.get? T = some oT) (hTd : oT.data = .seq items nT) (hi : items[i]? = none)
    (hQ : ∀ h', Heap.ExtBut I s.heap h' → Q none { s with heap := h' }) : wpAny (model prog w) A (pyNext (.ref I)) Q E s := by
  obtain ⟨o, ho, hc, hda⟩ := id hit
  obtain ⟨os, hos, hex, hds, hf, _⟩ := id hs
  unfold pyNext
  refine wpAny_bind (wpAny_attempt (wpAny_callSpecial?_slot (name := Str.ofString "__next__") hit.typeIs F.slot_set_iterator_next
    (wpAny_call_entry F.slot_set_iterator_next hit.typeIs F.entry_set_iterator_next ?_ (F.args_set_iterator_next _))))
  unfold Builtin.«set_iterator.__next__» slotArgs
  simp only [List.isEmpty_nil, Bool.not_true, Bool.false_eq_true, ↓reduceIte, bind_assoc, List.length_nil, bne_self_eq_false]
  refine wpAny_bind (wpAny_pure ?_)
  dsimp only
  refine wpAny_bind (wpAny_fieldsOf ho hda ?_)
  dsimp only
  refine wpAny_bind (wpAny_setEntries_of hos hds hf ?_)
  simp only [bne_self_eq_false, Bool.false_eq_true, ↓reduceIte]
  refine wpAny_bind (wpAny_seqItems hT hTd ?_)
  dsimp only
  simp only [Int.toNat_natCast, hi]
  refine wpAny_bind (wpAny_setField ho hda (by simp) ?_)
  have ho1 := Heap.get?_update_self (Obj.mapFields (·.setIfInBounds 0 (rawInt 0))) ho (Obj.isFreed_of_fields (Obj.data_mapFields hda _))
  have hd1 := Obj.data_mapFields hda (·.setIfInBounds 0 (rawInt 0))
  refine wpAny_bind (wpAny_setField ho1 hd1 (by simp) ?_)
  show wpAny _ _ (newExc (.type "StopIteration") [] >>= _) _ _ _
  refine wpAny_bind ?_
  simp only [newExc, newTuple]
  refine wpAny_bind (wpAny_newObj_type ?_ (by size_fits))
  refine wpAny_bind (m := firstArgMember _ _) (wpAny_of_eq (a := Value.none) (by first | rfl | (simp only [firstArgMember]; rfl)) ?_)
  refine wpAny_newObj_type ?_ (by size_fits)
  simp only [raiseNew]
  refine wpAny_bind (wpAny_handled ?_)
  rw [show A.in1.handled = none from hh]
  refine wpAny_bind (wpAny_pure (wpAny_throw ?_))
  refine wpAny_bind (wpAny_isInstance (T := "StopIteration") (b := true) ⟨_, Heap.get?_push_size _ rfl, rfl⟩ isSubtype_stop ?_)
  exact wpAny_pure (hQ _ ((((Heap.SameBut.update ..).trans (Heap.SameBut.update ..)).extBut.push _).push _))
def slotOf (w : World) (t : SetTable) : Nat → Nat
  | 0 => 0
  | i + 1 => if w.params.followText "set-order" = true then 0 else t.place.getD i 0 + 1
def seenOf (w : World) (S : Addr) (ep : Nat) (es : Array (Int × Value)) : List Value := (if w.params.followText "set-order" = true then pickOrder (w.params.setOrder S ep) es else es).toList.map (·.2)
theorem seen_len (S : Addr) (ep : Nat) (es : Array (Int × Value)) : (seenOf w S ep es).length = es.size := by
  unfold seenOf
  split
  · rw [List.length_map, (pickOrder_perm _ es).length_eq, Array.length_toList]
  · simp
theorem seen_perm (S : Addr) (ep : Nat) (es : Array (Int × Value)) : (seenOf w S ep es).Perm (es.toList.map (·.2)) := by
  unfold seenOf
  split
  · exact (pickOrder_perm _ es).map _
  · exact List.Perm.refl _
theorem nxt_at {S : Addr} {es : Array (Int × Value)} {ep : Nat} {t : SetTable} (R : Rz t.place) (hf : t.fits es.size = true) {i : Nat} (hi : i ≤ es.size) : nxt w S es ep t (slotOf w t i) i = ((seenOf w S ep es)[i]?).map fun v => (v, slotOf w t (i + 1)) := by
  unfold nxt seenOf
  have hz : t.place.size = es.size := by
    simp only [SetTable.fits, Bool.and_eq_true, beq_iff_eq] at hf
    exact hf.1
  cases hb : w.params.followText "set-order" with
  | true =>
    simp only [if_true]
    have e : ∀ j, slotOf w t j = 0 := fun j => by
      cases j with
      | zero => rfl
      | succ j => simp [slotOf, hb]
    rw [e, e, List.getElem?_map, Array.getElem?_toList, Option.map_map]
    rfl
  | false =>
    simp only [Bool.false_eq_true, if_false]
    have e : SetTable.below t.place (slotOf w t i) = i := by
      cases i with
      | zero => exact below_zero R
      | succ j =>
        simp only [slotOf, hb, Bool.false_eq_true, if_false]
        have hj : j < t.place.size := by omega
        rw [getD_at hj]
        exact below_next R hj
    rw [e]
    rcases Nat.lt_or_ge i es.size with hi | hi
    · have hi' : i < t.place.size := by omega
      rw [List.getElem?_map, Array.getElem?_toList, Array.getElem?_eq_getElem hi, Array.getElem?_eq_getElem hi']
      simp [slotOf, hb, hi']
    · have h2 : (es.toList.map (·.2))[i]? = none := List.getElem?_eq_none (by simpa using hi)
      rw [h2, Array.getElem?_eq_none hi]
      rfl
theorem walkP (hh : A.handled = none) (I S : Addr) (hne : S ≠ I) (es : Array (Int × Value)) (ep : Nat) (t : SetTable) (hd : w.params.followText "set-order" = false → (!t.plain && decide (es.size > 1)) = false) :
    Walks prog w A I [I, S] [I] es.size (fun i v => (seenOf w S ep es)[i]? = some v) (fun i h => SitAt h I S (.int (slotOf w t i : Nat) 0) i es.size ep ∧ SetAt w h S es ep t) where
  sub := fun b hb => by simp at hb; simp [hb]
  frame := fun _ _ _ st hk => ⟨st.1.up fun o e => hk I (by simp) o e, st.2.up fun o e => hk S (by simp) o e⟩
  item := fun i s Q E hi st hQ => by
    have hl : i < (seenOf w S ep es).length := by rw [seen_len]; exact hi
    obtain ⟨o, ho, _, _, hf, R, _⟩ := id st.2
    have hx := nxt_at (w := w) (S := S) (ep := ep) R hf (Nat.le_of_lt hi)
    rw [List.getElem?_eq_getElem hl] at hx
    refine sit_item st.1 st.2 hd hx fun h' hit' hs' => ?_
    exact hQ _ h' s.toks (List.getElem?_eq_getElem hl) ⟨hit', st.2.up fun o e => hs'.extBut S o hne e⟩ fun b o hb e => hs'.extBut b o (fun h => hb (by simp [h])) e
  done := fun s Q E st hQ => by
    obtain ⟨o, ho, _, _, hf, R, _⟩ := id st.2
    have hx := nxt_at (w := w) (S := S) (ep := ep) R hf (Nat.le_refl _)
    rw [List.getElem?_eq_none (by rw [seen_len]; exact Nat.le_refl _)] at hx
    exact sit_end hh st.1 st.2 hd hx fun h' he' => hQ h' s.toks fun b o hb e => he' b o (fun h => hb (by simp [h])) e
  self := fun _ _ _ _ st hQ => sit_self st.1 hQ
theorem walkD (hh : A.handled = none) (I S T : Addr) (hne : S ≠ I) (hnT : T ≠ I) (es : Array (Int × Value)) (ep : Nat) (t : SetTable) (ps : List Nat) (hp : ps.Perm (List.range es.size)) :
    Walks prog w A I [I, S, T] [I] es.size (fun i v => (ps.map fun p => ((es[p]?).map (·.2)).getD .none)[i]? = some v) (fun i h => SitAt h I S (.ref T) i es.size ep ∧ SetAt w h S es ep t ∧ ∃ oT nT, h.get? T = some oT ∧ oT.data = .seq (ps.map fun (p : Nat) => rawInt (p : Int)).toArray nT) where
  sub := fun b hb => by simp at hb; simp [hb]
  frame := fun _ _ _ st hk => ⟨st.1.up fun o e => hk I (by simp) o e, st.2.1.up fun o e => hk S (by simp) o e, by
    obtain ⟨oT, nT, h1, h2⟩ := st.2.2
    exact ⟨oT, nT, hk T (by simp) _ h1, h2⟩⟩
  item := fun i s Q E hi st hQ => by
    obtain ⟨oT, nT, h1, h2⟩ := id st.2.2
    have hl : i < ps.length := by rw [hp.length_eq, List.length_range]; exact hi
    have hlt : ps[i] < es.size := by
      have := hp.mem_iff.mp (List.getElem_mem hl)
      simpa using this
    have hx : es[ps[i]]? = some (es[ps[i]].1, es[ps[i]].2) := Array.getElem?_eq_getElem hlt
    refine sit_itemD st.1 st.2.1 h1 h2 (pl := ps[i]) (by simp [hl]) hx fun h' hit' hs' => ?_
    refine hQ _ h' s.toks ?_ ⟨hit', st.2.1.up fun o e => hs'.extBut S o hne e, oT, nT, hs'.extBut T _ hnT h1, h2⟩ fun b o hb e => hs'.extBut b o (fun h => hb (by simp [h])) e
    rw [List.getElem?_map, List.getElem?_eq_getElem hl]
    simp [hlt]
  done := fun s Q E st hQ => by
    obtain ⟨oT, nT, h1, h2⟩ := id st.2.2
    refine sit_endD hh st.1 st.2.1 h1 h2 (by simp [hp.length_eq]) fun h' he' => hQ h' s.toks fun b o hb e => he' b o (fun h => hb (by simp [h])) e
  self := fun _ _ _ _ st hQ => sit_self st.1 hQ
theorem drawn_perm {es : Array (Int × Value)} {ps : List Nat} (hp : ps.Perm (List.range es.size)) : (ps.map fun p => ((es[p]?).map (·.2)).getD .none).Perm (es.toList.map (·.2)) := by
  refine (hp.map _).trans ?_
  refine List.Perm.of_eq ?_
  apply List.ext_getElem
  · simp
  · intro i h1 h2
    have hi : i < es.size := by simpa using h1
    simp [hi]
theorem iter_set {S : Addr} {es : Array (Int × Value)} {ep : Nat} {t : SetTable} (x : SetAt w s.heap S es ep t) (hz : es.size ≤ sizeLine) {Q : Value → Shared → Prop}
    (h : ∀ (I : Addr) (fp : List Addr) (xs : List Value) (St : Nat → Shared → Prop) (h1 : Heap) (d), (∀ A' : Around, A'.handled = none → WalksS prog w A' I fp [I] (fun a b => b = a) es.size (fun i v => xs[i]? = some v) St) →
      St 0 { s with heap := h1, drawn := d } → xs.Perm (es.toList.map (·.2)) → (∀ b ∈ fp, b = S ∨ s.heap.objs.size ≤ b) → s.heap.objs.size ≤ I → (∀ b o, s.heap.get? b = some o → h1.get? b = some o) → Q (.ref I) { s with heap := h1, drawn := d }) :
    wpAny (model prog w) A (pyIter (.ref S)) Q E s := by
  obtain ⟨o, ho, hex, hds, hf, R, hl⟩ := id x
  have hT : s.TypeIs (.ref S) "set" := ⟨o, ho, hex.1⟩
  have hS : S < s.heap.objs.size := Heap.lt_size ho
  refine wpAny_pyIter_slot hT F.slot_set_iter (wpAny_call_entry F.slot_set_iter hT F.entry_set_iter ?_ (F.args_set_iter_1 _))
  unfold Builtin.«frozenset.__iter__» Builtin.Frozenset.slot0 slotArgs
  simp only [List.isEmpty_nil, Bool.not_true, Bool.false_eq_true, ↓reduceIte, bind_assoc, List.length_nil, bne_self_eq_false]
  unfold Builtin.Frozenset.addrOf Builtin.Frozenset.sizeOf
  refine wpAny_bind (wpAny_pure ?_)
  try dsimp only
  refine wpAny_bind (wpAny_pure ?_)
  refine wpAny_bind (wpAny_bind (wpAny_setEntries_of ho hds hf (wpAny_pure ?_)))
  refine wpAny_bind ?_
  unfold setDrawn
  refine wpAny_bind (wpAny_setState_of ho hds hf ?_)
  dsimp only
  unfold setsByText
  refine wpAny_bind (wpAny_bind (wpAny_askSetting (wpAny_pure ?_)))
  refine wpAny_pure ?_
  show wpAny (model prog w) A.in1 (if (!w.params.followText "set-order" && (!t.plain && decide (es.size > 1))) = true then _ else _) _ _ s
  by_cases hc : (!w.params.followText "set-order" && (!t.plain && decide (es.size > 1))) = true
  · rw [if_pos hc]
    refine wpAny_bind (drawOrder_wp es.size _ (by simp) fun ps d hp => ?_)
    refine wpAny_bind (wpAny_newTuple ?_ (by rw [List.length_map, hp.length_eq, List.length_range]; exact hz))
    have ho1 : (s.heap.push { cls := .type "tuple", data := .seq (ps.map fun (p : Nat) => rawInt (p : Int)).toArray }).get? S = some o := Heap.get?_push_of_some _ ho
    refine wpAny_bind (wpAny_setEpoch_of (s := { s with heap := s.heap.push { cls := .type "tuple", data := .seq (ps.map fun (p : Nat) => rawInt (p : Int)).toArray }, drawn := d }) ho1 hds hf ?_)
    refine wpAny_bind (wpAny_newObj_type (wpAny_pure ⟨_, rfl, "set_iterator", _, ⟨_, Heap.get?_push_size _ rfl, rfl⟩, F.slot_set_iterator_next.lookup, ?_⟩))
    have sz : (s.heap.push { cls := .type "tuple", data := .seq (ps.map fun (p : Nat) => rawInt (p : Int)).toArray }).objs.size = s.heap.objs.size + 1 := Heap.size_push ..
    refine h _ _ _ _ _ d (fun A' hA' => (walkD hA' _ S s.heap.objs.size ?_ ?_ es ep t ps hp).toS) ⟨⟨_, Heap.get?_push_size _ rfl, rfl, rfl⟩, ⟨o, Heap.get?_push_of_some _ ho1, hex, hds, hf, R, hl⟩, _, _, Heap.get?_push_of_some _ (Heap.get?_push_size _ rfl), rfl⟩ (drawn_perm hp) ?_ ?_ fun b u e => Heap.get?_push_of_some _ (Heap.get?_push_of_some _ e)
    · show S ≠ (s.heap.push _).objs.size
      rw [sz]; exact Nat.ne_of_lt (Nat.lt_succ_of_lt hS)
    · show s.heap.objs.size ≠ (s.heap.push _).objs.size
      rw [sz]; omega
    · intro b hb
      simp only [List.mem_cons, List.not_mem_nil, or_false] at hb
      rcases hb with rfl | rfl | rfl
      · right
        show s.heap.objs.size ≤ (s.heap.push _).objs.size
        rw [sz]; omega
      · exact .inl rfl
      · exact .inr (Nat.le_refl _)
    · show s.heap.objs.size ≤ (s.heap.push _).objs.size
      rw [sz]; omega
  · rw [if_neg hc]
    refine wpAny_bind (wpAny_pure ?_)
    refine wpAny_bind (wpAny_setEpoch_of ho hds hf ?_)
    refine wpAny_bind (wpAny_newObj_type (wpAny_pure ⟨_, rfl, "set_iterator", _, ⟨_, Heap.get?_push_size _ rfl, rfl⟩, F.slot_set_iterator_next.lookup, ?_⟩))
    refine h s.heap.objs.size _ _ _ _ s.drawn (fun A' hA' => (walkP hA' _ S (Nat.ne_of_lt hS) es ep t fun hb => ?_).toS) ⟨⟨_, Heap.get?_push_size _ rfl, rfl, rfl⟩, ⟨o, Heap.get?_push_of_some _ ho, hex, hds, hf, R, hl⟩⟩ (seen_perm S ep es) ?_ (Nat.le_refl _) fun b u e => Heap.get?_push_of_some _ e
    · cases z : (!t.plain && decide (es.size > 1)) with
      | false => rfl
      | true => exact absurd (by rw [hb, z]; rfl) hc
    · intro b hb
      simp only [List.mem_cons, List.not_mem_nil, or_false] at hb
      rcases hb with rfl | rfl
      · exact .inr (Nat.le_refl _)
      · exact .inl rfl
end
end Vs

namespace PySem.F
theorem split_set_len : splitId "set.__len__" = some ("set", "__len__") := by decide +kernel
end PySem.F
namespace Vs
open PySem PySem.Spec PyProof.Rows L2
section
variable {prog : Program} {w : World} {A : Around} {E : Value → Shared → Prop} {s : Shared}
theorem collect_set {S : Addr} {σ : List Int} (hh : A.handled = none) (hS : SetW prog w s.heap S σ) {Q : List Value → Shared → Prop}
    (h : ∀ vs h' tk d, (vs.map intOf).Perm σ → (∀ v ∈ vs, ∃ n t, v = .int n t) → s.heap.objs.size < h'.objs.size → (∀ b o, s.heap.get? b = some o → h'.get? b = some o) → Q vs { s with heap := h', toks := tk, drawn := d }) :
    wpAny (model prog w) A (collect (.ref S)) Q E s := by
  obtain ⟨o, es, ep, t, ho, hex, hd, hel, hp, hb, hf, R, hl⟩ := hS
  have hSl : S < s.heap.objs.size := Heap.lt_size ho
  unfold collect
  refine wpAny_bind (wpAny_runValue (codeAny_builtin F.entry_proto_collect ?_))
  rw [Around.under_plainId F.plain_proto_collect _]
  show wpAny _ A.in1 (newList [] >>= fun l => again (.builtin "list.__iadd__" ⟨[l, .ref S], []⟩)) _ _ s
  refine wpAny_bind (wpAny_newObj_type ?_)
  refine wpAny_pure ⟨plainId_quiet F.plain_list_iadd _, codeAny_builtin F.entry_list_iadd ?_⟩
  rw [Around.under_plainId F.plain_list_iadd _]
  show wpAny _ A.in1 (Builtin.List.listExtendWith (.ref s.heap.objs.size) (.ref S) (.ref s.heap.objs.size)) _ _ _
  unfold Builtin.List.listExtendWith
  have ho1 : (s.heap.push { cls := .type "list", data := .seq ([] : List Value).toArray }).get? S = some o := Heap.get?_push_of_some _ ho
  refine wpAny_bind (wpAny_typeOf (T := "set") ⟨o, ho1, hex.1⟩ ?_)
  have h1 : Builtin.List.listSameRef (.ref s.heap.objs.size) (.ref S) = false := by
    show (s.heap.objs.size == S) = false
    rw [beq_eq_false_iff_ne]
    exact Nat.ne_of_gt hSl
  rw [if_neg (by rw [h1]; decide)]
  refine wpAny_bind (iter_set (s := { s with heap := s.heap.push { cls := .type "list", data := .seq ([] : List Value).toArray } }) ⟨o, ho1, hex, hd, hf, R, hl⟩ (fits_of_scanBound hb) fun I fp xs St h1 d W st0 hpx hfp hI hk => ?_)
  have sz : (s.heap.push { cls := .type "list", data := .seq ([] : List Value).toArray }).objs.size = s.heap.objs.size + 1 := Heap.size_push ..
  have hLf : s.heap.objs.size ∉ fp := fun hm => by
    rcases hfp _ hm with e | e
    · exact absurd e (Nat.ne_of_gt hSl)
    · have e' : (s.heap.push { cls := .type "list", data := .seq ([] : List Value).toArray }).objs.size ≤ s.heap.objs.size := e
      rw [sz] at e'
      exact absurd e' (Nat.not_succ_le_self _)
  have ho2 : h1.get? S = some o := hk _ _ ho1
  have hL : h1.get? s.heap.objs.size = some { cls := .type "list", data := .seq ([] : List Value).toArray } := hk _ _ (Heap.get?_push_size _ rfl)
  have W1 := W A.in1 hh
  refine wpAny_bind (wpAny_holding ?_)
  unfold Builtin.List.listLengthHint
  have hT2 : Shared.TypeIs { s with heap := h1, drawn := d } (.ref S) "set" := ⟨o, ho2, hex.1⟩
  refine wpAny_bind (wpAny_specialOf hT2 F.slot_set_len.lookup ?_)
  generalize hid : ("set.__len__" : String) = id0
  wp_delta
  rw [show splitId id0 = some ("set", "__len__") from by subst hid; exact F.split_set_len]
  refine wpAny_bind (wpAny_isInstance (b := true) hT2 (by rw [isSubtype_type]; kernel_rfl) ?_)
  rw [if_neg (by decide)]
  wp_delta
  show wpAny (model prog w) A.in1 (if _ then (typeOf (Value.ref S) >>= _) else _) _ _ _
  rw [if_pos (by subst hid; decide +kernel)]
  focus
    refine wpAny_bind (wpAny_typeOf hT2 ?_)
    refine wpAny_pure ?_
    rw [if_pos (by decide +kernel)]
    refine wpAny_bind (wpAny_rule ?_)
    refine wpAny_bind ?_
    show wpAny _ A.in1 (updateSeq s.heap.objs.size (·.push .none) >>= fun _ => updateSeq s.heap.objs.size (·.pop)) _ _ _
    refine wpAny_bind (wpAny_updateSeq hL rfl ?_)
    have hL2 := Heap.get?_update_self (Obj.mapSeq (·.push Value.none)) hL rfl
    refine wpAny_updateSeq hL2 rfl ?_
    have hL3 := Heap.get?_update_self (Obj.mapSeq (·.pop)) hL2 rfl
    have oth : ∀ b u, b ≠ s.heap.objs.size → h1.get? b = some u → ((h1.update s.heap.objs.size (Obj.mapSeq (·.push Value.none))).update s.heap.objs.size (Obj.mapSeq (·.pop))).get? b = some u :=
      fun b u hb e => (Heap.get?_update_other _ _ (Ne.symm hb)).trans ((Heap.get?_update_other _ _ (Ne.symm hb)).trans e)
    refine wpAny_pure ⟨plainId_quiet F.plain_extend_loop _, codeAny_extend_loopS W1 (fits_of_scanBound hb) _ hLf _ es.size 0 _ _ _ rfl (Nat.zero_le _)
      (W1.frame 0 ({ s with heap := h1, drawn := d } : Shared) _ s.toks st0 (Nat.le_refl _) fun b hb u e => oth b u (fun z => hLf (z ▸ hb)) e) hL3 (ItemsOf.nil _) fun s' acc' c' hm hS' hacc => ?_⟩
    show wpAny _ A (load s.heap.objs.size >>= _) _ _ s'
    refine wpAny_bind (wpAny_load hS' ?_)
    have ex : acc'.toList = xs := by
      have hxl : xs.length = es.size := by rw [hpx.length_eq, List.length_map, Array.length_toList]
      apply List.ext_getElem?
      intro i
      rcases Nat.lt_or_ge i acc'.size with z | z
      · have := hacc.2 i acc'[i] (Array.getElem?_eq_getElem z)
        rw [this, Array.getElem?_toList, Array.getElem?_eq_getElem z]
      · rw [List.getElem?_eq_none (by simpa using z), List.getElem?_eq_none (by rw [hxl, ← hacc.1]; exact z)]
    obtain ⟨h', g', d', tk', os'⟩ := s'
    have eg : g' = s.gens := hm.gens
    have ed : d' = d := hm.drawn
    have eo : os' = s.os := hm.os
    subst eg; subst eo
    refine wpAny_pure (h acc'.toList h' tk' d' ?_ ?_ (Heap.lt_size hS') fun b u e => ?_)
    · rw [ex]
      refine (hpx.map intOf).trans ?_
      rw [List.map_map]
      exact hp
    · intro v hv
      rw [ex] at hv
      obtain ⟨e, he, rfl⟩ := List.mem_map.mp (hpx.mem_iff.mp hv)
      exact elem_int hel he
    · have hbl : b < s.heap.objs.size := Heap.lt_size e
      refine hm.heap b u ?_ (oth b u (Nat.ne_of_lt hbl) (hk b u (Heap.get?_push_of_some _ e)))
      simp only [List.mem_cons, List.not_mem_nil, or_false, not_or]
      refine ⟨Nat.ne_of_lt hbl, fun z => ?_⟩
      have hI' : (s.heap.push { cls := .type "list", data := .seq ([] : List Value).toArray }).objs.size ≤ I := hI
      rw [sz, ← z] at hI'
      exact absurd (Nat.lt_of_succ_le hI') (Nat.not_lt.mpr (Nat.le_of_lt hbl))
theorem ints_intOf : ∀ {vs : List Value}, (∀ v ∈ vs, ∃ n t, v = .int n t) → IntsAre vs (vs.map intOf)
  | [], _ => .nil
  | v :: vs, h => by
    obtain ⟨n, t, rfl⟩ := h v List.mem_cons_self
    exact .cons n t (ints_intOf fun u hu => h u (List.mem_cons_of_mem _ hu))
theorem sorted_setw {S : Addr} {σ : List Int} (hh : A.handled = none) (hS : SetW prog w s.heap S σ) (h64 : σ.length < 64) {Q : Value → Shared → Prop}
    (h : ∀ (out : Array Value) (ns' : List Int) (h' : Heap) (tk : Nat) d (D : Addr) (ep : Nat), IntsAre out.toList ns' → ns'.Perm σ → ns'.Pairwise (· ≤ ·) → s.heap.objs.size ≤ D → h'.get? D = some (seqObj "list" out ep) → (∀ b o, s.heap.get? b = some o → h'.get? b = some o) → Q (.ref D) { s with heap := h', toks := tk, drawn := d }) :
    wpAny (model prog w) A (call (.builtin "sorted") [.ref S]) Q E s := by
  refine Calls.call_function_entry kind_sorted plain_sorted entry_sorted (args_sorted1 _) ?_
  unfold Builtin.«sorted»
  refine wpAny_bind (m := checkCount "sorted" 1 1 _) (wpAny_pure ?_)
  refine wpAny_bind (collect_set (A := A.in1) (show A.in1.handled = none from hh) hS fun vs h1 tk d hp hv hz hk => ?_)
  have hlen : vs.length < 64 := by
    have := hp.length_eq
    rw [List.length_map] at this
    omega
  refine wpAny_bind (wpAny_newList ?_ (small64 hlen))
  have hoL : (h1.push (seqObj "list" vs.toArray 0)).get? h1.objs.size = some (seqObj "list" vs.toArray 0) := Heap.get?_push_size _ rfl
  refine wpAny_bind (wpAny_holding (wpAny_call_entry slot_list_sort ⟨_, hoL, rfl⟩ entry_list_sort (list_sort_tree hoL (ints_intOf hv) hlen fun out ns' a1 a2 a3 => ⟨_, rfl, ?_⟩) (args_list_sort _)))
  obtain ⟨ep, he⟩ := sortedHeap_at (out := out) hoL
  refine wpAny_pure ⟨_, rfl, h out ns' _ tk d _ ep a1 (a2.trans hp) a3 (Nat.le_of_lt hz) he fun b o e => ?_⟩
  have e1 := hk b o e
  have hlt : b < h1.objs.size := Heap.lt_size e1
  rw [sortedHeap_old (Nat.ne_of_lt hlt) (by rw [size_push']; exact Nat.lt_succ_of_lt hlt)]
  exact Heap.get?_push_of_some _ e1
end
end Vs

namespace L2
open PySem PySem.Spec PyProof.Rows
variable {X : Cx} {a b : Expr} {ta : TA} {p p2 p3 pos : Pos}
theorem Inv.drw {pins : List (Addr × Obj)} {σ : St} {H : Hp} {s : Shared} (I : Inv X pins σ H s) (d) : Inv X pins σ H { s with drawn := d } := ⟨I.ok, I.os, I.bare, I.base, I.loc, I.cell, I.free, I.freeC, I.pin, I.hok, I.len⟩
def ddI (ns : List Int) : List Int := ns.foldl step_dedup []
theorem ddI_met (ns : List Int) : firstMet (fun i => ns.getD i 0) ns.length = ddI ns := by
  unfold firstMet ddI
  congr 1
  apply List.ext_getElem
  · simp
  · intro i h1 h2
    simp [h2]
theorem ddI_len (ns : List Int) : (ddI ns).length ≤ ns.length := by
  rw [← ddI_met]
  exact firstMet_length_le _ _
def rSortSet (K : PySem.W.Frag) : List V → Hp → VK → Prop := fun vs H Q => ∃ (a : Addr) (ns : List Int), vs = [V.ref a] ∧ SqL K H a (ns.map V.int) ∧ ns.length < 64 ∧ ∀ (ns' : List Int) (D : Addr), ns'.Perm (ddI ns) → ns'.Pairwise (· ≤ ·) → H D = none → Q (.ref D) (upd H D (.lst (ns'.map V.int)))
theorem boot_set : bootBuiltins "set" = some (.type "set") := by decide +kernel
theorem boot_sorted' : bootBuiltins "sorted" = some (.builtin "sorted") := by decide +kernel
theorem pe_sortSet (hA : X.calm = true) (hg : Gl X "set") (hm : X.mg "set" = none) (hgl : Gl X "sorted") (hml : X.mg "sorted" = none) (ha : PA X [a] ta)
    (hs : starEach [a] X.env = [(false, eval a X.env)] := by rfl)
    (he : starEach [.Call (.Name "set" p2) [a] [] p3] X.env = [(false, eval (.Call (.Name "set" p2) [a] [] p3) X.env)] := by rfl) :
    PE X (.Call (.Name "sorted" p) [.Call (.Name "set" p2) [a] [] p3] [] pos) (fun σ H Q => ta σ H fun vs H1 => rSortSet X.K vs H1 Q) := by
  intro pins s σ H Q I h
  refine wpAny_Call_Name_kw (ld_blt I hgl hml boot_sorted' ?_ (by decide) (by decide))
  refine PyProof.Rows.callWith_builtin1 ?_ (by rw [he]; rfl) (by rfl)
  rw [he]
  show wpAny _ _ (spliced ((false, eval (.Call (.Name "set" p2) [a] [] p3) X.env) :: [])) _ _ s
  refine Calls.spliced_cons (wpAny_Call_Name_kw (ld_blt I hg hm boot_set (PyProof.Rows.callWith_type1 (thn (ha p3 pins s σ H _ I h) fun us s1 ⟨vs, H1, I1, r1, q1⟩ => ?_) (by rw [hs]; rfl) (by rfl)) (by decide) (by decide)))
  obtain ⟨q, ns, rfl, hs1, h64, q2⟩ := q1
  obtain ⟨its, rv, hl, _⟩ := I1.list hs1
  rw [Vals.ref1 r1]
  have hi := rv.ints
  have hlen : its.length = ns.length := hi.length
  have hc := I1.ok.hd hA
  refine setw_call hc hl.isList (by simpa using hi) (by simp only [List.size_toArray]; rw [hlen]; exact Nat.lt_trans (Nat.succ_lt_succ h64) (by decide)) fun h' tk hS hk => ?_
  simp only [List.size_toArray] at hS
  rw [hlen, ddI_met] at hS
  refine Calls.spliced_nil ?_
  have I2 : Inv X pins σ H1 { s1 with heap := h', toks := tk } := I1.kept fun b o e => hk b o (Heap.lt_size e) e
  refine Vs.sorted_setw (s := { s1 with heap := h', toks := tk }) hc hS (Nat.lt_of_le_of_lt (ddI_len ns) h64) fun out ns' h2 tk2 d D ep a1 a2 a3 hD hob hk2 => ?_
  have hln : (ns'.map V.int).length ≤ sizeLine := by
    rw [List.length_map, a2.length_eq]
    exact small64 (Nat.lt_of_le_of_lt (ddI_len ns) h64)
  have I3 := (I2.laid (t' := tk2) (o := .lst (ns'.map V.int)) (h' := h2) hk2 hD ⟨hln, out.toList, ep, vals_of_ints a1, hob⟩).drw d
  exact ⟨.ref D, _, I3, rfl, q2 ns' D a2 a3 (I2.hok.fresh hD)⟩
end L2
namespace Vs
open PySem PySem.Spec PyProof.Rows L2
variable {C : Ct} {x y z f m : Str} {e a b c o t tg iter elt : Expr} {es : List Expr} {p p2 p3 p4 p5 p6 p7 p8 pos apos cpos tpos : Pos} {ma mb mc : M PyData} {mt : M Bool} {st : Stmt} {sts : List Stmt}
def gSortSet (d : PyData) : Option R := (list? d).bind fun ds => (ints? ds).bind fun ns => if ns.length < 64 then some (.ol ((sortI (ddI ns)).map PyData.int)) else none
def mSortSet (n : M (List PyData)) : M R := fun ρ => (n ρ).bind fun ds => match ds with
  | [d] => gSortSet d
  | _ => none
theorem ee_sortSet {n : M (List PyData)} (h : EFA C [a] n) (hm : C.mg "set" = none) (hml : C.mg "sorted" = none) (hg : Glb C.sc "set" := by rfl) (hgl : Glb C.sc "sorted" := by rfl) (hs : ∀ env : Env, starEach [a] env = [(false, eval a env)] := by intro _; rfl)
    (he : ∀ env : Env, starEach [.Call (.Name "set" p2) [a] [] p3] env = [(false, eval (.Call (.Name "set" p2) [a] [] p3) env)] := by intro _; rfl) :
    EE C (.Call (.Name "sorted" p) [.Call (.Name "set" p2) [a] [] p3] [] pos) (mSortSet n) := by
  obtain ⟨t, pt, vt⟩ := h
  refine ⟨fun σ H Q => t σ H fun vs H1 => rSortSet C.K vs H1 Q, fun X h => by rw [← h.K]; exact pe_sortSet h.calm (by unfold Gl Env.kindOf; rw [h.sc]; exact hg) (by rw [h.mg]; exact hm) (by unfold Gl Env.kindOf; rw [h.sc]; exact hgl) (by rw [h.mg]; exact hml) (pt X h) (hs X.env) (he X.env), fun ρ σ F H fps r Q e S k => ?_⟩
  obtain ⟨ds, e1, e⟩ := bind2 e
  match ds, e with
  | [d], e =>
    obtain ⟨l, e2, e⟩ := bind2 (show (list? d).bind (fun ds => (ints? ds).bind fun ns => if ns.length < 64 then some (.ol ((sortI (ddI ns)).map PyData.int)) else none) = some r from e)
    obtain ⟨ns, e3, e⟩ := bind2 e
    obtain ⟨h64, rfl⟩ := iteS e
    refine vt ρ σ F H fps [d] _ e1 S fun vs F1 H1 hd x1 => ?_
    obtain ⟨v, rfl, hv⟩ := dp1 hd
    obtain ⟨q', xs, rfl, hs', ha'⟩ := list?_inv hv e2
    obtain ⟨rfl, rfl⟩ := ints?_inv e3 ha'
    refine ⟨q', ns, rfl, sql_mono x1.fh hs', h64, fun ns' D pm up hD => ?_⟩
    rw [sortedI_uniq up (sortI_sorted _) (pm.trans (sortI_perm _).symm)]
    exact k _ _ _ _ (new_ol x1 hD (dps_ints _)) (x1.alloc hD)
theorem ddI_step (σ : List Int) (k : Int) : ∀ x, x ∈ step_dedup σ k ↔ x ∈ σ ∨ x = k := fun x => by
  unfold step_dedup
  split
  · rename_i h
    refine ⟨.inl, fun z => z.elim id fun e => ?_⟩
    subst e
    simpa using h
  · simp
theorem nd_step {σ : List Int} (h : σ.Nodup) (k : Int) : (step_dedup σ k).Nodup := by
  unfold step_dedup
  split
  · exact h
  · rename_i z
    refine List.nodup_append.mpr ⟨h, by simp, fun a ha b hb e => ?_⟩
    simp only [List.mem_singleton] at hb
    subst hb e
    exact z (by simpa using ha)
theorem foldl_dd : ∀ (ns σ : List Int), σ.Nodup → (ns.foldl step_dedup σ).Nodup ∧ ∀ x, x ∈ ns.foldl step_dedup σ ↔ x ∈ σ ∨ x ∈ ns
  | [], σ, h => ⟨h, fun x => by simp⟩
  | n :: ns, σ, h => by
    obtain ⟨h1, h2⟩ := foldl_dd ns (step_dedup σ n) (nd_step h n)
    refine ⟨h1, fun x => ?_⟩
    rw [List.foldl_cons, h2, ddI_step, List.mem_cons, or_assoc]
theorem ddI_nodup (ns : List Int) : (ddI ns).Nodup := (foldl_dd ns [] List.nodup_nil).1
theorem mem_ddI {ns : List Int} {x : Int} : x ∈ ddI ns ↔ x ∈ ns := by
  have := (foldl_dd ns [] List.nodup_nil).2 x
  simpa [ddI] using this
theorem mem_ssI {ns : List Int} {x : Int} : x ∈ sortI (ddI ns) ↔ x ∈ ns := ((sortI_perm _).mem_iff).trans mem_ddI
theorem ssI_up (ns : List Int) : (sortI (ddI ns)).Pairwise (· < ·) := by
  have h1 := sortI_sorted (ddI ns)
  have h2 : (sortI (ddI ns)).Nodup := (sortI_perm _).nodup_iff.mpr (ddI_nodup ns)
  refine (h1.and h2).imp fun {a b} h => ?_
  have := h.1
  have := h.2
  omega
end Vs

namespace Ts
open PySem PySem.Spec PyProof.Rows PySem.W L2
theorem rcGe_int (A : Around) (s : Shared) (a : Int) (t : Tok) (c : Int) (u : Tok) (prog : Program) (w : World) (E : Value → Shared → Prop) (Q : Value → Shared → Prop) (h : Q (.bool (decide (c ≤ a))) s) :
    wpAny (model prog w) A (richCompare .GtE (.int a t) (.int c u)) Q E s :=
  (ge_int h : wpAny (model prog w) A (compareOp .GtE (.int a t) (.int c u)) Q E s)
theorem ge_loop (l b : Addr) (items items2 : Array Value) (n n2 : Nat) (dd dd2 : Option Addr) (sl sl2 : Array (Option Value)) (ns ms : List Int) (hi : IntsAre items.toList ns) (hj : IntsAre items2.toList ms) :
    ∀ (k i : Nat), min items.size items2.size - i = k → i ≤ min items.size items2.size → Meets (Builtin.«list.__eq__.loop» ⟨[.ref l, .ref b, rawInt i, rawInt 5], []⟩)
      (fun _ R s => s.heap.get? l = some { cls := .type "list", dict := dd, data := .seq items n, slots := sl } ∧ s.heap.get? b = some { cls := .type "list", dict := dd2, data := .seq items2 n2, slots := sl2 } ∧
        R (.ok (.ret (.bool (!HT.lexLt (ns.drop i) (ms.drop i))))) s) := by
  have l1 : items.size = ns.length := by rw [← hi.length]; simp
  have l2 : items2.size = ms.length := by rw [← hj.length]; simp
  intro k
  induction k with
  | zero =>
    intro i hk hle prog w A R s h
    obtain ⟨hl, hb, hR⟩ := h
    unfold Builtin.«list.__eq__.loop»
    dsimp only [rawInt]
    apply wpAny_bind
    refine listItems_at hl rfl ?_
    apply wpAny_bind
    refine listItems_at hb rfl ?_
    rw [Int.toNat_natCast]
    have hv : HT.lexLt (ns.drop i) (ms.drop i) = decide (items.size < items2.size) := by
      by_cases z : items.size < items2.size
      · rw [List.drop_of_length_le (l := ns) (by omega), List.drop_eq_getElem_cons (l := ms) (by omega), HT.lexLt_nil_cons]
        simp [z]
      · by_cases z2 : items2.size < items.size
        · rw [List.drop_of_length_le (l := ms) (by omega), List.drop_eq_getElem_cons (l := ns) (by omega), HT.lexLt_cons_nil]
          simp [z]
        · rw [List.drop_of_length_le (l := ns) (by omega), List.drop_of_length_le (l := ms) (by omega), HT.lexLt_nil_nil]
          simp [z]
    rw [hv, show (!decide (items.size < items2.size)) = decide (items.size ≥ items2.size) by by_cases q : items.size < items2.size <;> simp [q] <;> omega] at hR
    by_cases z : items.size ≤ i
    · rw [Array.getElem?_eq_none z]
      apply wpAny_bind
      refine listItems_at hl rfl ?_
      apply wpAny_bind
      refine listItems_at hb rfl ?_
      exact wpAny_pure hR
    · rw [Array.getElem?_eq_none (xs := items2) (by omega), Array.getElem?_eq_getElem (by omega)]
      apply wpAny_bind
      refine listItems_at hl rfl ?_
      apply wpAny_bind
      refine listItems_at hb rfl ?_
      exact wpAny_pure hR
  | succ k ih =>
    intro i hk hle prog w A R s h
    obtain ⟨hl, hb, hR⟩ := h
    unfold Builtin.«list.__eq__.loop»
    dsimp only [rawInt]
    apply wpAny_bind
    refine listItems_at hl rfl ?_
    apply wpAny_bind
    refine listItems_at hb rfl ?_
    rw [Int.toNat_natCast]
    obtain ⟨a, t, e1, f1⟩ := intsAre_get hi (i := i) (by rw [Array.length_toList]; omega)
    obtain ⟨c, u, e2, f2⟩ := intsAre_get hj (i := i) (by rw [Array.length_toList]; omega)
    rw [Array.getElem?_toList] at e1 e2
    rw [e1, e2]
    dsimp only
    have d1 : ns.drop i = a :: ns.drop (i + 1) := by
      obtain ⟨hlt, e⟩ := List.getElem?_eq_some_iff.mp f1
      rw [List.drop_eq_getElem_cons hlt, e]
    have d2 : ms.drop i = c :: ms.drop (i + 1) := by
      obtain ⟨hlt, e⟩ := List.getElem?_eq_some_iff.mp f2
      rw [List.drop_eq_getElem_cons hlt, e]
    rw [d1, d2, HT.lexLt_cons] at hR
    obtain ⟨e, he, hiff⟩ := HT.eqAt_int A.in1 s a t c u
    apply wpAny_bind
    refine he prog w _ _ ?_
    cases e with
    | true =>
      rw [if_pos (hiff.mp rfl)] at hR
      rw [if_pos rfl]
      refine wpAny_pure ⟨plainId_quiet PySem.MeetsSeq3.plain_eq_loop _, codeAny_builtin PySem.MeetsSeq3.entry_eq_loop ?_⟩
      rw [Around.under_plainId PySem.MeetsSeq3.plain_eq_loop]
      have := ih (i + 1) (by omega) (by omega) prog w A R s ⟨hl, hb, hR⟩
      exact this
    | false =>
      rw [if_neg (fun q => absurd (hiff.mpr q) Bool.false_ne_true)] at hR
      rw [if_neg (by decide)]
      apply wpAny_bind
      refine listItems_at hl rfl ?_
      apply wpAny_bind
      refine listItems_at hb rfl ?_
      rw [e1, e2]
      apply wpAny_bind
      refine rcGe_int A.in1 s a t c u prog w _ _ ?_
      rw [show (!decide (a < c)) = decide (c ≤ a) by by_cases q : a < c <;> simp [q] <;> omega] at hR
      exact wpAny_pure hR
theorem list_ge_ints (l b : Addr) (items items2 : Array Value) (n n2 : Nat) (dd dd2 : Option Addr) (sl sl2 : Array (Option Value)) (ns ms : List Int) (hi : IntsAre items.toList ns) (hj : IntsAre items2.toList ms) :
    Meets (Builtin.«list.__ge__» ⟨[.ref l, .ref b], []⟩)
      (fun _ R s => s.heap.get? l = some { cls := .type "list", dict := dd, data := .seq items n, slots := sl } ∧ s.heap.get? b = some { cls := .type "list", dict := dd2, data := .seq items2 n2, slots := sl2 } ∧
        R (.ok (.ret (.bool (!HT.lexLt ns ms)))) s) := by
  intro prog w A R s h
  obtain ⟨hp, g, d, tk, os⟩ := s
  obtain ⟨hl, hb, hR⟩ := h
  have f2 := AutoSeq1.sub_list_list
  unfold Builtin.«list.__ge__»
  wp_walk using AutoSeq1.wpAny_loadPart' hb
  refine ⟨plainId_quiet PySem.MeetsSeq3.plain_eq_loop _, codeAny_builtin PySem.MeetsSeq3.entry_eq_loop ?_⟩
  rw [Around.under_plainId PySem.MeetsSeq3.plain_eq_loop]
  have := ge_loop l b items items2 n n2 dd dd2 sl sl2 ns ms hi hj _ 0 rfl (Nat.zero_le _) prog w A R ⟨hp, g, d, tk, os⟩ ⟨hl, hb, by simpa using hR⟩
  exact this
end Ts
namespace L2
open PySem PySem.Spec PyProof.Rows
variable {X : Cx}
def rGeL (K : PySem.W.Frag) : R2 := fun x y H Q => ∃ a b ns ms, x = .ref a ∧ y = .ref b ∧ SqL K H a (ns.map V.int) ∧ SqL K H b (ms.map V.int) ∧ Q (.bl (!HT.lexLt ns ms)) H
theorem op_geL (hu : X.A.units < cLine) : OpR X (compareOp .GtE) (rGeL X.K) := by
  intro pins s σ H x y v u Q I rx ry h
  obtain ⟨a, b, ns, ms, rfl, rfl, ha, hb, q⟩ := h
  cases rx
  cases ry
  obtain ⟨its, r1, p1, _⟩ := I.list ha
  obtain ⟨its2, r2, p2, _⟩ := I.list hb
  have i1 : IntsAre its.toArray.toList ns := intsAre_of r1
  have i2 : IntsAre its2.toArray.toList ms := intsAre_of r2
  obtain ⟨⟨cls, dd, data, sl⟩, ho, hc, n, hd⟩ := p1.isList
  obtain ⟨⟨cls2, dd2, data2, sl2⟩, ho2, hc2, n2, hd2⟩ := p2.isList
  simp only at hc hd hc2 hd2
  subst hc hd hc2 hd2
  exact richCompare_meets_room (op := .GtE) ⟨_, ho, rfl⟩ ⟨_, ho2, rfl⟩ PySem.F.slot_list_ge PySem.F.entry_list_ge (PySem.F.args_list_ge_2 _ _) (Ts.list_ge_ints a b _ _ n n2 dd dd2 sl sl2 ns ms i1 i2)
    ⟨ho, ho2, (fun x => nomatch x), ⟨.bl (!HT.lexLt ns ms), H, I, rfl, q⟩⟩ hu
end L2
namespace Vs
open PySem PySem.Spec PyProof.Rows L2
variable {C : Ct} {x y z f m : Str} {e a b c o t tg iter elt : Expr} {es : List Expr} {p p2 p3 p4 p5 p6 p7 p8 pos apos cpos tpos : Pos} {ma mb mc : M PyData}
def gGeL (x y : PyData) : Option Sc := (list? x).bind fun xs => (ints? xs).bind fun ns => (list? y).bind fun ys => (ints? ys).map fun ms => .bl (!HT.lexLt ns ms)
theorem ec_geL (h1 : EB C a ma) (h2 : EB C b mb) : EC C (.Compare a [.GtE] [b] pos) (m2 (fun x y => (gGeL x y).map Sc.d) ma mb) := by
  obtain ⟨ta, pa, va⟩ := h1
  obtain ⟨tb, pb, vb⟩ := h2
  refine ⟨tOp (rGeL C.K) ta tb, fun X h => ?_, vf_op2 va vb fun H u v d e z Q h1 h2 h q => ?_⟩
  · rw [← h.K]
    exact ⟨pe_cmpR (op_geL (by have := h.room.units; omega)) (pa X h) (pb X h) (nomark _), pt_cmpR (op_geL (by have := h.room.units; omega)) (pa X h) (pb X h) (nomark _)⟩
  · obtain ⟨xs, e1, h⟩ := bind2 h
    obtain ⟨ns, e2, h⟩ := bind2 h
    obtain ⟨ys, e3, h⟩ := bind2 h
    obtain ⟨ms, e4, rfl⟩ := map2 h
    obtain ⟨q1, us, rfl, hs1, ha1⟩ := list?_inv h1 e1
    obtain ⟨q2, vs, rfl, hs2, ha2⟩ := list?_inv h2 e3
    obtain ⟨rfl, rfl⟩ := ints?_inv e2 ha1
    obtain ⟨rfl, rfl⟩ := ints?_inv e4 ha2
    exact ⟨q1, q2, ns, ms, rfl, rfl, hs1, hs2, q⟩
theorem xGeL (ns ms : List Int) : gGeL (.list (ns.map PyData.int)) (.list (ms.map PyData.int)) = some (.bl (!HT.lexLt ns ms)) := by
  unfold gGeL
  simp only [list?, Option.bind_some, ints?_map, Option.map_some]
end Vs

namespace K18
open PySem PySem.Spec PyProof.Rows L2 Vs
abbrev Fn := List PyData → Option R
inductive Nm where
  | is_number | is_within | layings | laying | number_in | check_strip | are_bars | is_laying | layings_up_to | begun_with | law_number | law_bars_of | law_right | law
def top (i : Nat) : Stmt := PySem.Challenge.pw_undocover_k18_whole_laying_numbers.main.body.getD i (.Pass ⟨0, 0, 0, 0⟩)
abbrev st_is_number : Stmt := top 5
abbrev st_is_within : Stmt := top 6
abbrev st_layings : Stmt := top 11
abbrev st_laying : Stmt := top 12
abbrev st_number_in : Stmt := top 13
abbrev st_check_strip : Stmt := top 14
abbrev st_are_bars : Stmt := top 15
abbrev st_is_laying : Stmt := top 16
abbrev st_layings_up_to : Stmt := top 17
abbrev st_begun_with : Stmt := top 18
abbrev st_law_number : Stmt := top 20
abbrev st_law_bars_of : Stmt := top 21
abbrev st_law_right : Stmt := top 22
abbrev st_law : Stmt := top 23
structure Txt (K : PySem.W.Frag) (mg : Str → Option Value) : Prop where
  z_abs : mg "abs" = none
  z_all : mg "all" = none
  z_any : mg "any" = none
  z_bool : mg "bool" = none
  z_enumerate : mg "enumerate" = none
  z_int : mg "int" = none
  z_isinstance : mg "isinstance" = none
  z_len : mg "len" = none
  z_list : mg "list" = none
  z_max : mg "max" = none
  z_range : mg "range" = none
  z_set : mg "set" = none
  z_sorted : mg "sorted" = none
  z_sum : mg "sum" = none
  z_zip : mg "zip" = none
  k_MOST_BARS : ∃ t, mg "MOST_BARS" = some (.int 8 t)
  k_MOST_LENGTH : ∃ t, mg "MOST_LENGTH" = some (.int 30 t)
  k_MOST_PLACES : ∃ t, mg "MOST_PLACES" = some (.int 300 t)
  d_is_number : ∃ fa fd, Fun K "is_number" "is_number" st_is_number fa fd ∧ mg "is_number" = some (.ref fa) ∧ Binds K fd ["value"] []
  d_is_within : ∃ fa fd, Fun K "is_within" "is_within" st_is_within fa fd ∧ mg "is_within" = some (.ref fa) ∧ Binds K fd ["value", "least", "most"] []
  d_layings : ∃ fa fd, Fun K "layings" "layings" st_layings fa fd ∧ mg "layings" = some (.ref fa) ∧ Binds K fd ["bars", "places"] []
  d_laying : ∃ fa fd, Fun K "laying" "laying" st_laying fa fd ∧ mg "laying" = some (.ref fa) ∧ Binds K fd ["bars", "places", "number"] []
  d_number_in : ∃ fa fd, Fun K "number_in" "number_in" st_number_in fa fd ∧ mg "number_in" = some (.ref fa) ∧ Binds K fd ["bars", "places", "some"] []
  d_check_strip : ∃ fa fd, Fun K "check_strip" "check_strip" st_check_strip fa fd ∧ mg "check_strip" = some (.ref fa) ∧ Binds K fd ["bars", "places"] []
  d_are_bars : ∃ fa fd, Fun K "are_bars" "are_bars" st_are_bars fa fd ∧ mg "are_bars" = some (.ref fa) ∧ Binds K fd ["bars"] []
  d_is_laying : ∃ fa fd, Fun K "is_laying" "is_laying" st_is_laying fa fd ∧ mg "is_laying" = some (.ref fa) ∧ Binds K fd ["bars", "places", "some"] []
  d_layings_up_to : ∃ fa fd, Fun K "layings_up_to" "layings_up_to" st_layings_up_to fa fd ∧ mg "layings_up_to" = some (.ref fa) ∧ Binds K fd ["bars", "places"] []
  d_begun_with : ∃ fa fd, Fun K "begun_with" "begun_with" st_begun_with fa fd ∧ mg "begun_with" = some (.ref fa) ∧ Binds K fd ["bars", "many", "rest"] []
  d_law_number : ∃ fa fd, Fun K "_law_number" "_law_number" st_law_number fa fd ∧ mg "_law_number" = some (.ref fa) ∧ Binds K fd ["_law_cell", "_law_at", "_law_whole"] []
  d_law_bars_of : ∃ fa fd, Fun K "_law_bars_of" "_law_bars_of" st_law_bars_of fa fd ∧ mg "_law_bars_of" = some (.ref fa) ∧ Binds K fd ["_law_script", "_law_by"] []
  d_law_right : ∃ fa fd, Fun K "_law_right" "_law_right" st_law_right fa fd ∧ mg "_law_right" = some (.ref fa) ∧ Binds K fd ["_law_bars", "_law_places", "_law_number_here"] []
def m_is_number (c : Nm → Fn) : MS := sRet (mF (vA (m1 (fun d => isi? d .int) (mV 0)) (vN (m1 (fun d => isi? d .bool) (mV 0)))))
theorem s_is_number : FnScope ["value"] ["value"] (defScope st_is_number) := ⟨rfl, rfl, rfl, by decide +kernel, rfl, by decide +kernel, by decide +kernel⟩
theorem b_is_number {P : Program} {w : World} {K : PySem.W.Frag} {mg : Str → Option Value} {base : Heap} {k : Nat} {c : Nm → Fn} (T : Txt K mg) :
    ESs ⟨P, w, K, mg, base, ["value"], defScope st_is_number, k, fun _ => true⟩ (defBody st_is_number) (m_is_number c) :=
  (ess_one (es_ret (ef_and (ef_isi .int (eb_name 0) T.z_isinstance T.z_int (by decide +kernel)).eb (ef_one (ef_not (ef_isi .bool (eb_name 0) T.z_isinstance T.z_bool (by decide +kernel)).eb))).ee))
def m_is_within (c : Nm → Fn) : MS := sRet (mF (vA (mD (mCall (c .is_number) (aC (mN 0) (aN)))) (mCh gLe gLe (mV 1) (mV 0) (mV 2))))
theorem s_is_within : FnScope ["value", "least", "most"] ["value", "least", "most"] (defScope st_is_within) := ⟨rfl, rfl, rfl, by decide +kernel, rfl, by decide +kernel, by decide +kernel⟩
theorem b_is_within {P : Program} {w : World} {K : PySem.W.Frag} {mg : Str → Option Value} {base : Heap} {k : Nat} {c : Nm → Fn} (T : Txt K mg) (G_is_number : Def P w K mg base k "is_number" 1 (c .is_number)) :
    ESs ⟨P, w, K, mg, base, ["value", "least", "most"], defScope st_is_within, k, fun _ => true⟩ (defBody st_is_within) (m_is_within c) :=
  (ess_one (es_ret (ef_and (ee_call G_is_number (efA (ef_name 0) efA_nil)).ef.eb (ef_one (ec_lele (eb_name 1) (eb_name 0) (eb_name 2)).ef)).ee))
def m_layings (c : Nm → Fn) : MS := sSeq (sDrop (mCall (c .check_strip) (aC (mN 0) (aC (mN 1) (aN)))))
    (sRet (mF (m2 gIx (mD (mCall (c .layings_up_to) (aC (mN 0) (aC (mN 1) (aN))))) (mV 1))))
theorem s_layings : FnScope ["bars", "places"] ["bars", "places"] (defScope st_layings) := ⟨rfl, rfl, rfl, by decide +kernel, rfl, by decide +kernel, by decide +kernel⟩
theorem b_layings {P : Program} {w : World} {K : PySem.W.Frag} {mg : Str → Option Value} {base : Heap} {k : Nat} {c : Nm → Fn} (T : Txt K mg) (G_check_strip : Def P w K mg base k "check_strip" 2 (c .check_strip)) (G_layings_up_to : Def P w K mg base k "layings_up_to" 2 (c .layings_up_to)) :
    ESs ⟨P, w, K, mg, base, ["bars", "places"], defScope st_layings, k, fun _ => true⟩ (defBody st_layings) (m_layings c) :=
  (ess_cons (es_expr (ee_call G_check_strip (efA (ef_name 0) (efA (ef_name 1) efA_nil))))
    (ess_one (es_ret (ef_ix (ee_call G_layings_up_to (efA (ef_name 0) (efA (ef_name 1) efA_nil))).ef (eb_name 1)).ee)))
def m_laying (c : Nm → Fn) : MS := sSeq (sDrop (mCall (c .check_strip) (aC (mN 0) (aC (mN 1) (aN)))))
    (sSeq (sSetF 3 (mD (mCall (c .layings_up_to) (aC (mN 0) (aC (mN 1) (aN))))))
    (sSeq (sIf (tN (mB (mD (mCall (c .is_within) (aC (mN 2) (aC (mC (.int 0)) (aC (mI gSub (m2 gIx (mV 3) (mV 1)) (mC (.int 1))) (aN)))))))) (sNo) (sNx))
    (sSeq (sSetE 4 (mLst (aN)))
    (sSeq (sSetF 5 (mN 2))
    (sSeq (sSetF 6 (mN 1))
    (sSeq (loopW (mB (mI gGt (mV 6) (mC (.int 0)))) (sSeq (sSetF 7 (mD (mCall (c .begun_with) (aC (mN 0) (aC (mN 3) (aC (mN 6) (aN)))))))
    (sSeq (sSetF 8 (mC (.int 0)))
    (sSeq (loopW (mB (mI gGe (mV 5) (m2 gIx (mV 7) (mV 8)))) (sSeq (sAug 5 gSub (m2 gIx (mV 7) (mV 8)))
    (sAug 8 gAdd (mC (.int 1)))) 1000000)
    (sSeq (sApp 4 (mN 8))
    (sAug 6 gSub (m2 gIx (mV 0) (mV 8))))))) 1000000)
    (sRetV 4)))))))
theorem s_laying : FnScope ["bars", "places", "number", "many", "made", "ahead", "rest", "begun", "bar"] ["bars", "places", "number"] (defScope st_laying) := ⟨rfl, rfl, rfl, by decide +kernel, rfl, by decide +kernel, by decide +kernel⟩
theorem b_laying {P : Program} {w : World} {K : PySem.W.Frag} {mg : Str → Option Value} {base : Heap} {k : Nat} {c : Nm → Fn} (T : Txt K mg) (G_is_within : Def P w K mg base k "is_within" 3 (c .is_within)) (G_check_strip : Def P w K mg base k "check_strip" 2 (c .check_strip)) (G_layings_up_to : Def P w K mg base k "layings_up_to" 2 (c .layings_up_to)) (G_begun_with : Def P w K mg base k "begun_with" 3 (c .begun_with)) :
    ESs ⟨P, w, K, mg, base, ["bars", "places", "number", "many", "made", "ahead", "rest", "begun", "bar"], defScope st_laying, k, fun _ => true⟩ (defBody st_laying) (m_laying c) :=
  (ess_cons (es_expr (ee_call G_check_strip (efA (ef_name 0) (efA (ef_name 1) efA_nil))))
    (ess_cons (es_setF 3 (ee_call G_layings_up_to (efA (ef_name 0) (efA (ef_name 1) efA_nil))).ef s_laying.nd)
    (ess_cons (es_if (et_not ((ee_call G_is_within (efA (ef_name 2) (efA ef_int (efA (ef_sub (eb_ix (eb_name 3) (eb_name 1)) ef_int.eb) efA_nil)))).ef.eb).et) (ess_one es_never) ess_nil)
    (ess_cons (es_setE 4 (ee_lst efA_nil) s_laying.nd)
    (ess_cons (es_setF 5 (ef_name 2) s_laying.nd)
    (ess_cons (es_setF 6 (ef_name 1) s_laying.nd)
    (ess_cons (es_while 1000000 (ec_gt (eb_name 6) ef_int.eb).et (ess_cons (es_setF 7 (ee_call G_begun_with (efA (ef_name 0) (efA (ef_name 3) (efA (ef_name 6) efA_nil)))).ef s_laying.nd)
    (ess_cons (es_setF 8 ef_int s_laying.nd)
    (ess_cons (es_while 1000000 (ec_ge (eb_name 5) (eb_ix (eb_name 7) (eb_name 8))).et (ess_cons (es_augS 5 (eb_ix (eb_name 7) (eb_name 8)) s_laying.nd)
    (ess_one (es_augA 8 ef_int.eb s_laying.nd))))
    (ess_cons (es_append 4 (ef_name 8))
    (ess_one (es_augS 6 (eb_ix (eb_name 0) (eb_name 8)) s_laying.nd)))))))
    (ess_one (es_retV 4)))))))))
def m_number_in (c : Nm → Fn) : MS := sSeq (sDrop (mCall (c .check_strip) (aC (mN 0) (aC (mN 1) (aN)))))
    (sSeq (sIf (tN (mB (mD (mCall (c .is_laying) (aC (mN 0) (aC (mN 1) (aC (mN 2) (aN)))))))) (sNo) (sNx))
    (sSeq (sSetF 3 (mD (mCall (c .layings_up_to) (aC (mN 0) (aC (mN 1) (aN))))))
    (sSeq (sSetF 4 (mC (.int 0)))
    (sSeq (sSetF 5 (mN 1))
    (sSeq (sFor (mIt (mN 2)) (gN 6) (sSeq (sAug 4 gAdd (mA (fun x => (gSum x).map Sc.d) (aC (mD (mSl (mD (mCall (c .begun_with) (aC (mN 0) (aC (mN 3) (aC (mN 5) (aN)))))) (oN) (oS (mV 6)))) (aN))))
    (sAug 5 gSub (m2 gIx (mV 0) (mV 6)))))
    (sRet (mF (mN 4))))))))
theorem s_number_in : FnScope ["bars", "places", "some", "many", "number", "rest", "bar"] ["bars", "places", "some"] (defScope st_number_in) := ⟨rfl, rfl, rfl, by decide +kernel, rfl, by decide +kernel, by decide +kernel⟩
theorem b_number_in {P : Program} {w : World} {K : PySem.W.Frag} {mg : Str → Option Value} {base : Heap} {k : Nat} {c : Nm → Fn} (T : Txt K mg) (G_check_strip : Def P w K mg base k "check_strip" 2 (c .check_strip)) (G_is_laying : Def P w K mg base k "is_laying" 3 (c .is_laying)) (G_layings_up_to : Def P w K mg base k "layings_up_to" 2 (c .layings_up_to)) (G_begun_with : Def P w K mg base k "begun_with" 3 (c .begun_with)) :
    ESs ⟨P, w, K, mg, base, ["bars", "places", "some", "many", "number", "rest", "bar"], defScope st_number_in, k, fun _ => true⟩ (defBody st_number_in) (m_number_in c) :=
  (ess_cons (es_expr (ee_call G_check_strip (efA (ef_name 0) (efA (ef_name 1) efA_nil))))
    (ess_cons (es_if (et_not ((ee_call G_is_laying (efA (ef_name 0) (efA (ef_name 1) (efA (ef_name 2) efA_nil)))).ef.eb).et) (ess_one es_never) ess_nil)
    (ess_cons (es_setF 3 (ee_call G_layings_up_to (efA (ef_name 0) (efA (ef_name 1) efA_nil))).ef s_number_in.nd)
    (ess_cons (es_setF 4 ef_int s_number_in.nd)
    (ess_cons (es_setF 5 (ef_name 1) s_number_in.nd)
    (ess_cons (es_for (ei_list (ef_name 2)) (eg_name 6 s_number_in.nd) (ess_cons (es_augA 4 (ef_sum (ebA (ee_slice (ee_call G_begun_with (efA (ef_name 0) (efA (ef_name 3) (efA (ef_name 5) efA_nil)))).ef eo_none (eo_some (eb_name 6))).ef.eb ebA_nil) T.z_sum).eb s_number_in.nd)
    (ess_one (es_augS 5 (eb_ix (eb_name 0) (eb_name 6)) s_number_in.nd))))
    (ess_one (es_ret (ef_name 4).ee))))))))
def m_check_strip (c : Nm → Fn) : MS := sSeq (sIf (tN (mB (mD (mCall (c .are_bars) (aC (mN 0) (aN)))))) (sNo) (sNx))
    (sIf (tN (mB (mD (mCall (c .is_within) (aC (mN 1) (aC (mC (.int 0)) (aC (mC (.int 300)) (aN)))))))) (sNo) (sNx))
theorem s_check_strip : FnScope ["bars", "places"] ["bars", "places"] (defScope st_check_strip) := ⟨rfl, rfl, rfl, by decide +kernel, rfl, by decide +kernel, by decide +kernel⟩
theorem b_check_strip {P : Program} {w : World} {K : PySem.W.Frag} {mg : Str → Option Value} {base : Heap} {k : Nat} {c : Nm → Fn} (T : Txt K mg) (G_is_within : Def P w K mg base k "is_within" 3 (c .is_within)) (G_are_bars : Def P w K mg base k "are_bars" 1 (c .are_bars)) :
    ESs ⟨P, w, K, mg, base, ["bars", "places"], defScope st_check_strip, k, fun _ => true⟩ (defBody st_check_strip) (m_check_strip c) :=
  (ess_cons (es_if (et_not ((ee_call G_are_bars (efA (ef_name 0) efA_nil)).ef.eb).et) (ess_one es_never) ess_nil)
    (ess_one (es_if (et_not ((ee_call G_is_within (efA (ef_name 1) (efA ef_int (efA (ef_globI rfl T.k_MOST_PLACES) efA_nil)))).ef.eb).et) (ess_one es_never) ess_nil)))
def m_are_bars (c : Nm → Fn) : MS := sSeq (sIf (tO (tN (mB (m1 (fun d => isi? d .list) (mV 0)))) (tN (mB (mD (mCall (c .is_within) (aC (mA (fun x => (gLen x).map Sc.d) (aC (mV 0) (aN))) (aC (mC (.int 1)) (aC (mC (.int 8)) (aN))))))))) (sRet (mF (mC (.bl false)))) (sNx))
    (sRet (mF (mA (fun x => (gAll x).map Sc.d) (aC (mD (mLc (mIt (mN 0)) (gN 1) (tY) (mD (mCall (c .is_within) (aC (mN 1) (aC (mC (.int 1)) (aC (mC (.int 30)) (aN)))))) [1])) (aN)))))
theorem s_are_bars : FnScope ["bars", "length"] ["bars"] (defScope st_are_bars) := ⟨rfl, rfl, rfl, by decide +kernel, rfl, by decide +kernel, by decide +kernel⟩
theorem b_are_bars {P : Program} {w : World} {K : PySem.W.Frag} {mg : Str → Option Value} {base : Heap} {k : Nat} {c : Nm → Fn} (T : Txt K mg) (G_is_within : Def P w K mg base k "is_within" 3 (c .is_within)) :
    ESs ⟨P, w, K, mg, base, ["bars", "length"], defScope st_are_bars, k, fun _ => true⟩ (defBody st_are_bars) (m_are_bars c) :=
  (ess_cons (es_if (ew_or (et_not ((ef_isi .list (eb_name 0) T.z_isinstance T.z_list (by decide +kernel)).eb).et) (ew_or1 (et_not ((ee_call G_is_within (efA (ef_len (ebA (eb_name 0) ebA_nil) T.z_len) (efA ef_int (efA (ef_globI rfl T.k_MOST_BARS) efA_nil)))).ef.eb).et))).et (ess_one (es_ret (ef_bl).ee)) ess_nil)
    (ess_one (es_ret (ef_all (ebA (ee_lc (own := [("length", 1)]) s_are_bars.nd (ei_list (ef_name 0)) (by dsimp only; decide +kernel) (eg_name 1 s_are_bars.nd) (by decide) ets_nil (ee_call G_is_within (efA (ef_name 1) (efA ef_int (efA (ef_globI rfl T.k_MOST_LENGTH) efA_nil)))).ef).ef.eb ebA_nil) T.z_all).ee)))
def m_is_laying (c : Nm → Fn) : MS := sSeq (sIf (tO (tN (mB (m1 (fun d => isi? d .list) (mV 2)))) (tN (mB (mA (fun x => (gAll x).map Sc.d) (aC (mD (mLc (mIt (mN 2)) (gN 3) (tY) (mD (mCall (c .is_within) (aC (mN 3) (aC (mC (.int 0)) (aC (mI gSub (mA (fun x => (gLen x).map Sc.d) (aC (mV 0) (aN))) (mC (.int 1))) (aN)))))) [3])) (aN)))))) (sRet (mF (mC (.bl false)))) (sNx))
    (sRet (mF (m2 (fun x y => (gEq x y).map Sc.d) (mA (fun x => (gSum x).map Sc.d) (aC (mD (mLc (mIt (mN 2)) (gN 3) (tY) (m2 gIx (mN 0) (mV 3)) [3])) (aN))) (mV 1))))
theorem s_is_laying : FnScope ["bars", "places", "some", "bar"] ["bars", "places", "some"] (defScope st_is_laying) := ⟨rfl, rfl, rfl, by decide +kernel, rfl, by decide +kernel, by decide +kernel⟩
theorem b_is_laying {P : Program} {w : World} {K : PySem.W.Frag} {mg : Str → Option Value} {base : Heap} {k : Nat} {c : Nm → Fn} (T : Txt K mg) (G_is_within : Def P w K mg base k "is_within" 3 (c .is_within)) :
    ESs ⟨P, w, K, mg, base, ["bars", "places", "some", "bar"], defScope st_is_laying, k, fun _ => true⟩ (defBody st_is_laying) (m_is_laying c) :=
  (ess_cons (es_if (ew_or (et_not ((ef_isi .list (eb_name 2) T.z_isinstance T.z_list (by decide +kernel)).eb).et) (ew_or1 (et_not ((ef_all (ebA (ee_lc (own := [("bar", 3)]) s_is_laying.nd (ei_list (ef_name 2)) (by dsimp only; decide +kernel) (eg_name 3 s_is_laying.nd) (by decide) ets_nil (ee_call G_is_within (efA (ef_name 3) (efA ef_int (efA (ef_sub (ef_len (ebA (eb_name 0) ebA_nil) T.z_len).eb ef_int.eb) efA_nil)))).ef).ef.eb ebA_nil) T.z_all).eb).et))).et (ess_one (es_ret (ef_bl).ee)) ess_nil)
    (ess_one (es_ret ((ec_eq (ef_sum (ebA (ee_lc (own := [("bar", 3)]) s_is_laying.nd (ei_list (ef_name 2)) (by dsimp only; decide +kernel) (eg_name 3 s_is_laying.nd) (by decide) ets_nil (ef_ix (ef_name 0) (eb_name 3))).ef.eb ebA_nil) T.z_sum).eb (eb_name 1)).ef).ee)))
def m_layings_up_to (c : Nm → Fn) : MS := sSeq (sSetE 2 (mLst (aC (mC (.int 1)) (aN))))
    (sSeq (sFor (mRg2 (aC (mC (.int 1)) (aC (mI gAdd (mV 1) (mC (.int 1))) (aN)))) (gN 3) (sApp 2 (mA (fun x => (gSum x).map Sc.d) (aC (mD (mCallB (c .begun_with) (aC (mV 0) (aC (mV 2) (aC (mV 3) (aN)))))) (aN)))))
    (sRetV 2))
theorem s_layings_up_to : FnScope ["bars", "places", "many", "rest"] ["bars", "places"] (defScope st_layings_up_to) := ⟨rfl, rfl, rfl, by decide +kernel, rfl, by decide +kernel, by decide +kernel⟩
theorem b_layings_up_to {P : Program} {w : World} {K : PySem.W.Frag} {mg : Str → Option Value} {base : Heap} {k : Nat} {c : Nm → Fn} (T : Txt K mg) (G_begun_with : Def P w K mg base k "begun_with" 3 (c .begun_with)) :
    ESs ⟨P, w, K, mg, base, ["bars", "places", "many", "rest"], defScope st_layings_up_to, k, fun _ => true⟩ (defBody st_layings_up_to) (m_layings_up_to c) :=
  (ess_cons (es_setE 2 (ee_lst (efA ef_int efA_nil)) s_layings_up_to.nd)
    (ess_cons (es_for (ei_rng2 (ebA ef_int.eb (ebA (ef_add (eb_name 1) ef_int.eb).eb ebA_nil)) T.z_range) (eg_name 3 s_layings_up_to.nd) (ess_one (es_append 2 (ef_sum (ebA (ee_callB G_begun_with (ebA (eb_name 0) (ebA (eb_name 2) (ebA (eb_name 3) ebA_nil)))).ef.eb ebA_nil) T.z_sum))))
    (ess_one (es_retV 2))))
def m_begun_with (c : Nm → Fn) : MS := sRet (mLc (mIt (mN 0)) (gN 3) (tY) (mIf (mB (mI gLe (mV 3) (mV 2))) (m2 gIx (mN 1) (mI gSub (mV 2) (mV 3))) (mC (.int 0))) [3])
theorem s_begun_with : FnScope ["bars", "many", "rest", "length"] ["bars", "many", "rest"] (defScope st_begun_with) := ⟨rfl, rfl, rfl, by decide +kernel, rfl, by decide +kernel, by decide +kernel⟩
theorem b_begun_with {P : Program} {w : World} {K : PySem.W.Frag} {mg : Str → Option Value} {base : Heap} {k : Nat} {c : Nm → Fn} (T : Txt K mg) :
    ESs ⟨P, w, K, mg, base, ["bars", "many", "rest", "length"], defScope st_begun_with, k, fun _ => true⟩ (defBody st_begun_with) (m_begun_with c) :=
  (ess_one (es_ret (ee_lc (own := [("length", 3)]) s_begun_with.nd (ei_list (ef_name 0)) (by dsimp only; decide +kernel) (eg_name 3 s_begun_with.nd) (by decide) ets_nil (ef_if (ec_le (eb_name 3) (eb_name 2)).et (ef_ix (ef_name 1) (ef_sub (eb_name 2) (eb_name 3)).eb) ef_int))))
def m_law_number (c : Nm → Fn) : MS := sSeq (sIf (mB (mI gGe (mV 0) (mI gPow (mC (.int 10)) (mC (.int 18))))) (sRet (mF (mI gDiv (mV 0) (mI gAdd (mC (.int 1)) (mI gMod (mV 1) (mC (.int 7))))))) (sNx))
    (sSeq (sSetF 3 (mI gMod (mI gAdd (mI gMul (mI gAdd (mV 0) (mI gMul (mC (.int 977)) (mV 1))) (mC (.int 48271))) (mV 2)) (mC (.int 2147483647))))
    (sSeq (sSetF 4 (mI gMul (mV 3) (mI gAdd (mI gAdd (mV 0) (mI gMul (mC (.int 31)) (mV 1))) (mC (.int 7)))))
    (sRet (mF (mI gDiv (mI gMul (mI gMul (mV 4) (mI gAdd (mI gAdd (mV 3) (mV 0)) (mC (.int 5)))) (mI gAdd (mI gMul (mV 3) (mV 3)) (mC (.int 11)))) (mI gAdd (mC (.int 1009)) (mV 1)))))))
theorem s_law_number : FnScope ["_law_cell", "_law_at", "_law_whole", "_law_blend", "_law_more"] ["_law_cell", "_law_at", "_law_whole"] (defScope st_law_number) := ⟨rfl, rfl, rfl, by decide +kernel, rfl, by decide +kernel, by decide +kernel⟩
theorem b_law_number {P : Program} {w : World} {K : PySem.W.Frag} {mg : Str → Option Value} {base : Heap} {k : Nat} {c : Nm → Fn} (T : Txt K mg) :
    ESs ⟨P, w, K, mg, base, ["_law_cell", "_law_at", "_law_whole", "_law_blend", "_law_more"], defScope st_law_number, k, fun _ => true⟩ (defBody st_law_number) (m_law_number c) :=
  (ess_cons (es_if (ec_ge (eb_name 0) (ef_pow ef_int.eb ef_int.eb).eb).et (ess_one (es_ret (ef_div (eb_name 0) (ef_add ef_int.eb (ef_mod (eb_name 1) ef_int.eb).eb).eb).ee)) ess_nil)
    (ess_cons (es_setF 3 (ef_mod (ef_add (ef_mul (ef_add (eb_name 0) (ef_mul ef_int.eb (eb_name 1)).eb).eb ef_int.eb).eb (eb_name 2)).eb ef_int.eb) s_law_number.nd)
    (ess_cons (es_setF 4 (ef_mul (eb_name 3) (ef_add (ef_add (eb_name 0) (ef_mul ef_int.eb (eb_name 1)).eb).eb ef_int.eb).eb) s_law_number.nd)
    (ess_one (es_ret (ef_div (ef_mul (ef_mul (eb_name 4) (ef_add (ef_add (eb_name 3) (eb_name 0)).eb ef_int.eb).eb).eb (ef_add (ef_mul (eb_name 3) (eb_name 3)).eb ef_int.eb).eb).eb (ef_add ef_int.eb (eb_name 1)).eb).ee)))))
def m_law_bars_of (c : Nm → Fn) : MS := sSeq (sSetF 2 (mIf (mB (m2 (fun x y => (gNe x y).map Sc.d) (mV 0) (mD (mLst (aN))))) (mD (mSl (mN 0) (oN) (oS (mC (.int 8))))) (mD (mLst (aC (mC (.int 5)) (aN))))))
    (sSeq (sSetF 3 (m2 gIx (mTup (aC (mC (.int 3)) (aC (mC (.int 6)) (aC (mC (.int 30)) (aN))))) (mI gMod (mI gAdd (mA (fun x => (gSum x).map Sc.d) (aC (mV 2) (aN))) (mV 1)) (mC (.int 3)))))
    (sRet (mLc (mEnum (aC (mN 2) (aN))) (gT 2 (gsC (gN 4) (gsC (gN 5) (gsN)))) (tY) (mI gAdd (mC (.int 1)) (mI gMod (mD (mCall (c .law_number) (aC (mN 5) (aC (mI gAdd (mV 4) (mV 1)) (aC (mA (fun x => (gLen x).map Sc.d) (aC (mV 2) (aN))) (aN)))))) (mV 3))) [4, 5])))
theorem s_law_bars_of : FnScope ["_law_script", "_law_by", "_law_cells", "_law_wide", "_law_at", "_law_cell"] ["_law_script", "_law_by"] (defScope st_law_bars_of) := ⟨rfl, rfl, rfl, by decide +kernel, rfl, by decide +kernel, by decide +kernel⟩
theorem b_law_bars_of {P : Program} {w : World} {K : PySem.W.Frag} {mg : Str → Option Value} {base : Heap} {k : Nat} {c : Nm → Fn} (T : Txt K mg) (G_law_number : Def P w K mg base k "_law_number" 3 (c .law_number)) :
    ESs ⟨P, w, K, mg, base, ["_law_script", "_law_by", "_law_cells", "_law_wide", "_law_at", "_law_cell"], defScope st_law_bars_of, k, fun _ => true⟩ (defBody st_law_bars_of) (m_law_bars_of c) :=
  (ess_cons (es_setF 2 (ef_if (ec_ne (eb_name 0) (ee_lst efA_nil).ef.eb).et (ee_slice (ef_name 0) eo_none (eo_some ef_int.eb)).ef (ee_lst (efA ef_int efA_nil)).ef) s_law_bars_of.nd)
    (ess_cons (es_setF 3 (ef_ix (ef_tup (efA ef_int (efA ef_int (efA ef_int efA_nil)))) (ef_mod (ef_add (ef_sum (ebA (eb_name 2) ebA_nil) T.z_sum).eb (eb_name 1)).eb ef_int.eb).eb) s_law_bars_of.nd)
    (ess_one (es_ret (ee_lc (own := [("_law_at", 4), ("_law_cell", 5)]) s_law_bars_of.nd (ei_enum (efA (ef_name 2) efA_nil) T.z_enumerate) (by dsimp only; decide +kernel) (eg_tup (egs_cons (eg_name 4 s_law_bars_of.nd) (egs_cons (eg_name 5 s_law_bars_of.nd) egs_nil))) (by decide) ets_nil (ef_add ef_int.eb (ef_mod (ee_call G_law_number (efA (ef_name 5) (efA (ef_add (eb_name 4) (eb_name 1)) (efA (ef_len (ebA (eb_name 2) ebA_nil) T.z_len) efA_nil)))).ef.eb (eb_name 3)).eb))))))
def m_law_right (c : Nm → Fn) : MS := sSeq (sSetF 3 (mD (mList (aC (mN 0) (aN)))))
    (sSeq (sFor (mRg1 (aC (mC (.int 2)) (aN))) (gN 4) (sSeq (sSetE 5 (mCall (c .laying) (aC (mN 3) (aC (mN 1) (aC (mN 2) (aN))))))
    (sSeq (sIf (tPre 5 (tO (tN (mB (m1 (fun d => isi? d .list) (mV 5)))) (mB (mA (fun x => (gAny x).map Sc.d) (aC (mD (mLc (mIt (mN 5)) (gN 6) (tY) (vO (m1 (fun d => isi? d .bool) (mV 6)) (vN (mCh gLe gLt (mC (.int 0)) (mV 6) (mA (fun x => (gLen x).map Sc.d) (aC (mV 0) (aN)))))) [6])) (aN)))))) (sRet (mF (mC (.bl false)))) (sNx))
    (sSeq (sIf (tPre 5 (tO (mB (m2 (fun x y => (gNe x y).map Sc.d) (mA (fun x => (gSum x).map Sc.d) (aC (mD (mLc (mIt (mN 5)) (gN 6) (tY) (m2 gIx (mN 0) (mV 6)) [6])) (aN))) (mV 1))) (mB (m2 (fun x y => (gNe x y).map Sc.d) (mD (mCall (c .number_in) (aC (mN 3) (aC (mN 1) (aC (mD (mList (aC (mN 5) (aN)))) (aN)))))) (mV 2))))) (sRet (mF (mC (.bl false)))) (sNx))
    (sSeq (sIf (mB (m2 (fun x y => (gNe x y).map Sc.d) (mV 3) (mV 0))) (sRet (mF (mC (.bl false)))) (sNx))
    (sApp 5 (mC (.int 0))))))))
    (sRet (mF (mC (.bl true)))))
theorem s_law_right : FnScope ["_law_bars", "_law_places", "_law_number_here", "_law_handed", "_law_again", "_law_found", "_law_one"] ["_law_bars", "_law_places", "_law_number_here"] (defScope st_law_right) := ⟨rfl, rfl, rfl, by decide +kernel, rfl, by decide +kernel, by decide +kernel⟩
theorem b_law_right {P : Program} {w : World} {K : PySem.W.Frag} {mg : Str → Option Value} {base : Heap} {k : Nat} {c : Nm → Fn} (T : Txt K mg) (G_laying : Def P w K mg base k "laying" 3 (c .laying)) (G_number_in : Def P w K mg base k "number_in" 3 (c .number_in)) :
    ESs ⟨P, w, K, mg, base, ["_law_bars", "_law_places", "_law_number_here", "_law_handed", "_law_again", "_law_found", "_law_one"], defScope st_law_right, k, fun _ => true⟩ (defBody st_law_right) (m_law_right c) :=
  (ess_cons (es_setF 3 (ee_list_of (efA (ef_name 0) efA_nil) T.z_list).ef s_law_right.nd)
    (ess_cons (es_for (ei_rng1 (ebA ef_int.eb ebA_nil) T.z_range) (eg_name 4 s_law_right.nd) (ess_cons (es_setE 5 (ee_call G_laying (efA (ef_name 3) (efA (ef_name 1) (efA (ef_name 2) efA_nil)))) s_law_right.nd)
    (ess_cons (es_if (ET.pre 5 (ew_or (et_not ((ef_isi .list (eb_name 5) T.z_isinstance T.z_list (by decide +kernel)).eb).et) (ew_or1 ((ef_any (ebA (ee_lc (own := [("_law_one", 6)]) s_law_right.nd (ei_list (ef_name 5)) (by dsimp only; decide +kernel) (eg_name 6 s_law_right.nd) (by decide) ets_nil (ef_or (ef_isi .bool (eb_name 6) T.z_isinstance T.z_bool (by decide +kernel)).eb (ef_one (ef_not (ec_lelt ef_int.eb (eb_name 6) (ef_len (ebA (eb_name 0) ebA_nil) T.z_len).eb).ef.eb)))).ef.eb ebA_nil) T.z_any).eb).et)).et) (ess_one (es_ret (ef_bl).ee)) ess_nil)
    (ess_cons (es_if (ET.pre 5 (ew_or (ec_ne (ef_sum (ebA (ee_lc (own := [("_law_one", 6)]) s_law_right.nd (ei_list (ef_name 5)) (by dsimp only; decide +kernel) (eg_name 6 s_law_right.nd) (by decide) ets_nil (ef_ix (ef_name 0) (eb_name 6))).ef.eb ebA_nil) T.z_sum).eb (eb_name 1)).et (ew_or1 (ec_ne (ee_call G_number_in (efA (ef_name 3) (efA (ef_name 1) (efA (ee_list_of (efA (ef_name 5) efA_nil) T.z_list).ef efA_nil)))).ef.eb (eb_name 2)).et)).et) (ess_one (es_ret (ef_bl).ee)) ess_nil)
    (ess_cons (es_if (ec_ne (eb_name 3) (eb_name 0)).et (ess_one (es_ret (ef_bl).ee)) ess_nil)
    (ess_one (es_append 5 ef_int)))))))
    (ess_one (es_ret (ef_bl).ee))))
def m_law (c : Nm → Fn) : MS := sSeq (sSetF 1 (mA (fun x => (gAbs x).map Sc.d) (aC (mA (fun x => (gSum x).map Sc.d) (aC (mD (mSl (mN 0) (oN) (oS (mC (.int 63))))) (aN))) (aN))))
    (sSeq (sFor (mIt (mD (mLst (aC (mC (.int 0)) (aC (mC (.int 1)) (aC (mC (.int 2)) (aN))))))) (gN 2) (sSeq (sSetF 3 (mD (mCall (c .law_bars_of) (aC (mN 0) (aC (mN 2) (aN))))))
    (sFor (mIt (mD (mLst (aC (mIf (mB (m2 (fun x y => (gEq x y).map Sc.d) (mI gMod (mV 1) (mC (.int 16))) (mV 2))) (mI gMod (mV 1) (mC (.int 301))) (mI gMod (mV 1) (mC (.int 31)))) (aC (mI gAdd (mC (.int 1)) (mI gMod (mV 1) (mC (.int 9)))) (aN)))))) (gN 4) (sSeq (sSetF 5 (mD (mCall (c .layings) (aC (mN 3) (aC (mN 4) (aN))))))
    (sSeq (sSetF 6 (mD (mLst (aC (mC (.int 0)) (aC (mI gSub (mV 5) (mC (.int 1))) (aC (mI gDiv (mV 5) (mC (.int 2))) (aC (mI gMod (mV 1) (mA (fun x => (gMax x).map Sc.d) (aC (mC (.int 1)) (aC (mV 5) (aN))))) (aN))))))))
    (sSeq (sSetF 6 (mD (mSortSet (aC (mD (mLc (mIt (mN 6)) (gN 7) (mB (mCh gLe gLt (mC (.int 0)) (mV 7) (mV 5))) (mN 7) [7])) (aN)))))
    (sSeq (sIf (tN (mB (mA (fun x => (gAll x).map Sc.d) (aC (mD (mLc (mIt (mN 6)) (gN 7) (tY) (mD (mCall (c .law_right) (aC (mN 3) (aC (mN 4) (aC (mN 7) (aN)))))) [7])) (aN))))) (sRet (mF (mC (.bl false)))) (sNx))
    (sSeq (sFz 8 (sSetE 8 (mLc (mIt (mN 6)) (gN 7) (tY) (mD (mCall (c .laying) (aC (mN 3) (aC (mN 4) (aC (mN 7) (aN)))))) [7])))
    (sIf (mB (mA (fun x => (gAny x).map Sc.d) (aC (mD (mLc (mZip (aC (mN 8) (aC (mD (mSl (mN 8) (oS (mC (.int 1))) (oN))) (aN)))) (gT 2 (gsC (gN 9) (gsC (gN 10) (gsN)))) (tY) (m2 (fun x y => (gGeL x y).map Sc.d) (mV 9) (mV 10)) [9, 10])) (aN)))) (sRet (mF (mC (.bl false)))) (sNx))))))))))
    (sSeq (sFz 11 (sSetE 11 (mLc (mRg1 (aC (mC (.int 8)) (aN))) (gN 7) (tY) (mD (mCall (c .laying) (aC (mD (mLst (aC (mC (.int 1)) (aC (mC (.int 2)) (aN))))) (aC (mC (.int 5)) (aC (mN 7) (aN)))))) [7])))
    (sSeq (sSetF 12 (mD (mLst (aC (mD (mLst (aC (mC (.int 0)) (aC (mC (.int 0)) (aC (mC (.int 0)) (aC (mC (.int 0)) (aC (mC (.int 0)) (aN)))))))) (aC (mD (mLst (aC (mC (.int 0)) (aC (mC (.int 0)) (aC (mC (.int 0)) (aC (mC (.int 1)) (aN))))))) (aC (mD (mLst (aC (mC (.int 0)) (aC (mC (.int 0)) (aC (mC (.int 1)) (aC (mC (.int 0)) (aN))))))) (aC (mD (mLst (aC (mC (.int 0)) (aC (mC (.int 1)) (aC (mC (.int 0)) (aC (mC (.int 0)) (aN))))))) (aC (mD (mLst (aC (mC (.int 0)) (aC (mC (.int 1)) (aC (mC (.int 1)) (aN)))))) (aC (mD (mLst (aC (mC (.int 1)) (aC (mC (.int 0)) (aC (mC (.int 0)) (aC (mC (.int 0)) (aN))))))) (aC (mD (mLst (aC (mC (.int 1)) (aC (mC (.int 0)) (aC (mC (.int 1)) (aN)))))) (aC (mD (mLst (aC (mC (.int 1)) (aC (mC (.int 1)) (aC (mC (.int 0)) (aN)))))) (aN))))))))))))
    (sRet (mF (vA (m2 (fun x y => (gEq x y).map Sc.d) (mV 11) (mV 12)) (vA (m2 (fun x y => (gEq x y).map Sc.d) (mD (mCall (c .laying) (aC (mD (mLst (aC (mC (.int 3)) (aN)))) (aC (mC (.int 0)) (aC (mC (.int 0)) (aN)))))) (mD (mLst (aN)))) (m2 (fun x y => (gEq x y).map Sc.d) (mD (mCall (c .number_in) (aC (mD (mLst (aC (mC (.int 3)) (aN)))) (aC (mC (.int 0)) (aC (mD (mLst (aN))) (aN)))))) (mC (.int 0))))))))))
theorem s_law : FnScope ["_law_script", "_law_whole", "_law_by", "_law_bars", "_law_places", "_law_many", "_law_numbers", "_law_number_here", "_law_some", "_law_one", "_law_other", "_law_short", "_law_due"] ["_law_script"] (defScope st_law) := ⟨rfl, rfl, rfl, by decide +kernel, rfl, by decide +kernel, by decide +kernel⟩
theorem b_law {P : Program} {w : World} {K : PySem.W.Frag} {mg : Str → Option Value} {base : Heap} {k : Nat} {c : Nm → Fn} (T : Txt K mg) (G_layings : Def P w K mg base k "layings" 2 (c .layings)) (G_laying : Def P w K mg base k "laying" 3 (c .laying)) (G_number_in : Def P w K mg base k "number_in" 3 (c .number_in)) (G_law_bars_of : Def P w K mg base k "_law_bars_of" 2 (c .law_bars_of)) (G_law_right : Def P w K mg base k "_law_right" 3 (c .law_right)) :
    ESs ⟨P, w, K, mg, base, ["_law_script", "_law_whole", "_law_by", "_law_bars", "_law_places", "_law_many", "_law_numbers", "_law_number_here", "_law_some", "_law_one", "_law_other", "_law_short", "_law_due"], defScope st_law, k, fun _ => true⟩ (defBody st_law) (m_law c) :=
  (ess_cons (es_setF 1 (ef_abs (ebA (ef_sum (ebA (ee_slice (ef_name 0) eo_none (eo_some ef_int.eb)).ef.eb ebA_nil) T.z_sum).eb ebA_nil) T.z_abs) s_law.nd)
    (ess_cons (es_for (ei_list (ee_lst (efA ef_int (efA ef_int (efA ef_int efA_nil)))).ef) (eg_name 2 s_law.nd) (ess_cons (es_setF 3 (ee_call G_law_bars_of (efA (ef_name 0) (efA (ef_name 2) efA_nil))).ef s_law.nd)
    (ess_one (es_for (ei_list (ee_lst (efA (ef_if (ec_eq (ef_mod (eb_name 1) ef_int.eb).eb (eb_name 2)).et (ef_mod (eb_name 1) ef_int.eb) (ef_mod (eb_name 1) ef_int.eb)) (efA (ef_add ef_int.eb (ef_mod (eb_name 1) ef_int.eb).eb) efA_nil))).ef) (eg_name 4 s_law.nd) (ess_cons (es_setF 5 (ee_call G_layings (efA (ef_name 3) (efA (ef_name 4) efA_nil))).ef s_law.nd)
    (ess_cons (es_setF 6 (ee_lst (efA ef_int (efA (ef_sub (eb_name 5) ef_int.eb) (efA (ef_div (eb_name 5) ef_int.eb) (efA (ef_mod (eb_name 1) (ef_max2 (ebA ef_int.eb (ebA (eb_name 5) ebA_nil)) T.z_max).eb) efA_nil))))).ef s_law.nd)
    (ess_cons (es_setF 6 (ee_sortSet (efA (ee_lc (own := [("_law_number_here", 7)]) s_law.nd (ei_list (ef_name 6)) (by dsimp only; decide +kernel) (eg_name 7 s_law.nd) (by decide) (ets_one (ec_lelt ef_int.eb (eb_name 7) (eb_name 5)).et) (ef_name 7)).ef efA_nil) T.z_set T.z_sorted).ef s_law.nd)
    (ess_cons (es_if (et_not ((ef_all (ebA (ee_lc (own := [("_law_number_here", 7)]) s_law.nd (ei_list (ef_name 6)) (by dsimp only; decide +kernel) (eg_name 7 s_law.nd) (by decide) ets_nil (ee_call G_law_right (efA (ef_name 3) (efA (ef_name 4) (efA (ef_name 7) efA_nil)))).ef).ef.eb ebA_nil) T.z_all).eb).et) (ess_one (es_ret (ef_bl).ee)) ess_nil)
    (ess_cons (ES.fz 8 (es_setLc 8 (own := [("_law_number_here", 7)]) s_law.nd (ei_list (ef_name 6)) (by dsimp only; decide +kernel) (eg_name 7 s_law.nd) (by decide) ets_nil (ee_call G_laying (efA (ef_name 3) (efA (ef_name 4) (efA (ef_name 7) efA_nil)))).ef))
    (ess_one (es_if ((ef_any (ebA (ee_lc (own := [("_law_one", 9), ("_law_other", 10)]) s_law.nd (ei_zip (efA (ef_name 8) (efA (ee_slice (ef_name 8) (eo_some ef_int.eb) eo_none).ef efA_nil)) T.z_zip) (by dsimp only; decide +kernel) (eg_tup (egs_cons (eg_name 9 s_law.nd) (egs_cons (eg_name 10 s_law.nd) egs_nil))) (by decide) ets_nil (ec_geL (eb_name 9) (eb_name 10)).ef).ef.eb ebA_nil) T.z_any).eb).et (ess_one (es_ret (ef_bl).ee)) ess_nil)))))))))))
    (ess_cons (ES.fz 11 (es_setLc 11 (own := [("_law_number_here", 7)]) s_law.nd (ei_rng1 (ebA ef_int.eb ebA_nil) T.z_range) (by dsimp only; decide +kernel) (eg_name 7 s_law.nd) (by decide) ets_nil (ee_call G_laying (efA (ee_lst (efA ef_int (efA ef_int efA_nil))).ef (efA ef_int (efA (ef_name 7) efA_nil)))).ef))
    (ess_cons (es_setF 12 (ee_lst (efA (ee_lst (efA ef_int (efA ef_int (efA ef_int (efA ef_int (efA ef_int efA_nil)))))).ef (efA (ee_lst (efA ef_int (efA ef_int (efA ef_int (efA ef_int efA_nil))))).ef (efA (ee_lst (efA ef_int (efA ef_int (efA ef_int (efA ef_int efA_nil))))).ef (efA (ee_lst (efA ef_int (efA ef_int (efA ef_int (efA ef_int efA_nil))))).ef (efA (ee_lst (efA ef_int (efA ef_int (efA ef_int efA_nil)))).ef (efA (ee_lst (efA ef_int (efA ef_int (efA ef_int (efA ef_int efA_nil))))).ef (efA (ee_lst (efA ef_int (efA ef_int (efA ef_int efA_nil)))).ef (efA (ee_lst (efA ef_int (efA ef_int (efA ef_int efA_nil)))).ef efA_nil))))))))).ef s_law.nd)
    (ess_one (es_ret (ef_and (ec_eq (eb_name 11) (eb_name 12)).ef.eb (ef_and (ec_eq (ee_call G_laying (efA (ee_lst (efA ef_int efA_nil)).ef (efA ef_int (efA ef_int efA_nil)))).ef.eb (ee_lst efA_nil).ef.eb).ef.eb (ef_one (ec_eq (ee_call G_number_in (efA (ee_lst (efA ef_int efA_nil)).ef (efA ef_int (efA (ee_lst efA_nil).ef efA_nil)))).ef.eb ef_int.eb).ef))).ee))))))
def bodies (c : Nm → Fn) : Nm → Fn
  | .is_number => runS 1 1 (m_is_number c)
  | .is_within => runS 3 3 (m_is_within c)
  | .layings => runS 2 2 (m_layings c)
  | .laying => runS 9 3 (m_laying c)
  | .number_in => runS 7 3 (m_number_in c)
  | .check_strip => runS 2 2 (m_check_strip c)
  | .are_bars => runS 2 1 (m_are_bars c)
  | .is_laying => runS 4 3 (m_is_laying c)
  | .layings_up_to => runS 4 2 (m_layings_up_to c)
  | .begun_with => runS 4 3 (m_begun_with c)
  | .law_number => runS 5 3 (m_law_number c)
  | .law_bars_of => runS 6 2 (m_law_bars_of c)
  | .law_right => runS 7 3 (m_law_right c)
  | .law => runS 13 1 (m_law c)
def sem : Nat → Nm → Fn
  | 0, _ => fun _ => none
  | k + 1, i => bodies (sem k) i
theorem e_is_within (k : Nat) : sem (k + 1) .is_within = runS 3 3 (m_is_within (sem k)) := rfl
theorem e_layings (k : Nat) : sem (k + 1) .layings = runS 2 2 (m_layings (sem k)) := rfl
theorem e_laying (k : Nat) : sem (k + 1) .laying = runS 9 3 (m_laying (sem k)) := rfl
theorem e_number_in (k : Nat) : sem (k + 1) .number_in = runS 7 3 (m_number_in (sem k)) := rfl
theorem e_check_strip (k : Nat) : sem (k + 1) .check_strip = runS 2 2 (m_check_strip (sem k)) := rfl
theorem e_are_bars (k : Nat) : sem (k + 1) .are_bars = runS 2 1 (m_are_bars (sem k)) := rfl
theorem e_is_laying (k : Nat) : sem (k + 1) .is_laying = runS 4 3 (m_is_laying (sem k)) := rfl
theorem e_layings_up_to (k : Nat) : sem (k + 1) .layings_up_to = runS 4 2 (m_layings_up_to (sem k)) := rfl
theorem e_begun_with (k : Nat) : sem (k + 1) .begun_with = runS 4 3 (m_begun_with (sem k)) := rfl
theorem e_law_number (k : Nat) : sem (k + 1) .law_number = runS 5 3 (m_law_number (sem k)) := rfl
theorem e_law_bars_of (k : Nat) : sem (k + 1) .law_bars_of = runS 6 2 (m_law_bars_of (sem k)) := rfl
theorem e_law_right (k : Nat) : sem (k + 1) .law_right = runS 7 3 (m_law_right (sem k)) := rfl
theorem e_law (k : Nat) : sem (k + 1) .law = runS 13 1 (m_law (sem k)) := rfl
structure Ok (P : Program) (w : World) (K : PySem.W.Frag) (mg : Str → Option Value) (base : Heap) (k : Nat) : Prop where
  g_is_number : Def P w K mg base k "is_number" 1 (sem k .is_number)
  g_is_within : Def P w K mg base k "is_within" 3 (sem k .is_within)
  g_layings : Def P w K mg base k "layings" 2 (sem k .layings)
  g_laying : Def P w K mg base k "laying" 3 (sem k .laying)
  g_number_in : Def P w K mg base k "number_in" 3 (sem k .number_in)
  g_check_strip : Def P w K mg base k "check_strip" 2 (sem k .check_strip)
  g_are_bars : Def P w K mg base k "are_bars" 1 (sem k .are_bars)
  g_is_laying : Def P w K mg base k "is_laying" 3 (sem k .is_laying)
  g_layings_up_to : Def P w K mg base k "layings_up_to" 2 (sem k .layings_up_to)
  g_begun_with : Def P w K mg base k "begun_with" 3 (sem k .begun_with)
  g_law_number : Def P w K mg base k "_law_number" 3 (sem k .law_number)
  g_law_bars_of : Def P w K mg base k "_law_bars_of" 2 (sem k .law_bars_of)
  g_law_right : Def P w K mg base k "_law_right" 3 (sem k .law_right)
theorem all_ok {P : Program} {w : World} {K : PySem.W.Frag} {mg : Str → Option Value} {base : Heap} (T : Txt K mg) : ∀ k, Ok P w K mg base k
  | 0 => ⟨def_zero T.d_is_number fun _ => rfl, def_zero T.d_is_within fun _ => rfl, def_zero T.d_layings fun _ => rfl, def_zero T.d_laying fun _ => rfl, def_zero T.d_number_in fun _ => rfl, def_zero T.d_check_strip fun _ => rfl, def_zero T.d_are_bars fun _ => rfl, def_zero T.d_is_laying fun _ => rfl, def_zero T.d_layings_up_to fun _ => rfl, def_zero T.d_begun_with fun _ => rfl, def_zero T.d_law_number fun _ => rfl, def_zero T.d_law_bars_of fun _ => rfl, def_zero T.d_law_right fun _ => rfl⟩
  | k + 1 => have G := all_ok (P := P) (w := w) (base := base) T k
    ⟨def_succ T.d_is_number s_is_number (b_is_number T), def_succ T.d_is_within s_is_within (b_is_within T G.g_is_number), def_succ T.d_layings s_layings (b_layings T G.g_check_strip G.g_layings_up_to), def_succ T.d_laying s_laying (b_laying T G.g_is_within G.g_check_strip G.g_layings_up_to G.g_begun_with), def_succ T.d_number_in s_number_in (b_number_in T G.g_check_strip G.g_is_laying G.g_layings_up_to G.g_begun_with), def_succ T.d_check_strip s_check_strip (b_check_strip T G.g_is_within G.g_are_bars), def_succ T.d_are_bars s_are_bars (b_are_bars T G.g_is_within), def_succ T.d_is_laying s_is_laying (b_is_laying T G.g_is_within), def_succ T.d_layings_up_to s_layings_up_to (b_layings_up_to T G.g_begun_with), def_succ T.d_begun_with s_begun_with (b_begun_with T), def_succ T.d_law_number s_law_number (b_law_number T), def_succ T.d_law_bars_of s_law_bars_of (b_law_bars_of T G.g_law_number), def_succ T.d_law_right s_law_right (b_law_right T G.g_laying G.g_number_in)⟩
theorem law_ok {P : Program} {w : World} {K : PySem.W.Frag} {mg : Str → Option Value} {base : Heap} {fa : Addr} {fd : FuncData} (T : Txt K mg) (F : Fun K "law" "law" st_law fa fd) (k : Nat) : FnOk P w K mg base CX0 (k + 1) fa fd ["_law_script"] (spOf K 1 (sem (k + 1) .law)) :=
  have G := all_ok (P := P) (w := w) (base := base) T k
  fn_ok F s_law (b_law T G.g_layings G.g_laying G.g_number_in G.g_law_bars_of G.g_law_right)
theorem all_mk {P : Program} {w : World} {K : PySem.W.Frag} {h : Heap} {mg : Str → Option Value} {fa : Addr} (X : K.In h) (G : h.Ns mainGlobals mg) (hfa : mg "law" = some (.ref fa))
    {f0 : Addr} {oc0 kV0 dc0 pm0 cd0 ct0 : Value} {od0 an0 : Option Addr} {sl0 : Array (Option Value)}
    (a0 : PySem.W.nsIn K mainGlobals "is_number" = some (some (.ref f0))) (l0 : K.lookup f0 = some ⟨oc0, od0, .func (PySem.W.fnOf "is_number" "is_number" (defArgs st_is_number) (defBody st_is_number) (defScope st_is_number) .none kV0 dc0 pm0 an0 cd0 ct0), sl0⟩) (c0 : PySem.W.codeIn K cd0 "is_number" = true) (k0 : PySem.W.keepIn K (.ref f0) = true)
    {f1 : Addr} {oc1 kV1 dc1 pm1 cd1 ct1 : Value} {od1 an1 : Option Addr} {sl1 : Array (Option Value)}
    (a1 : PySem.W.nsIn K mainGlobals "is_within" = some (some (.ref f1))) (l1 : K.lookup f1 = some ⟨oc1, od1, .func (PySem.W.fnOf "is_within" "is_within" (defArgs st_is_within) (defBody st_is_within) (defScope st_is_within) .none kV1 dc1 pm1 an1 cd1 ct1), sl1⟩) (c1 : PySem.W.codeIn K cd1 "is_within" = true) (k1 : PySem.W.keepIn K (.ref f1) = true)
    {f2 : Addr} {oc2 kV2 dc2 pm2 cd2 ct2 : Value} {od2 an2 : Option Addr} {sl2 : Array (Option Value)}
    (a2 : PySem.W.nsIn K mainGlobals "layings" = some (some (.ref f2))) (l2 : K.lookup f2 = some ⟨oc2, od2, .func (PySem.W.fnOf "layings" "layings" (defArgs st_layings) (defBody st_layings) (defScope st_layings) .none kV2 dc2 pm2 an2 cd2 ct2), sl2⟩) (c2 : PySem.W.codeIn K cd2 "layings" = true) (k2 : PySem.W.keepIn K (.ref f2) = true)
    {f3 : Addr} {oc3 kV3 dc3 pm3 cd3 ct3 : Value} {od3 an3 : Option Addr} {sl3 : Array (Option Value)}
    (a3 : PySem.W.nsIn K mainGlobals "laying" = some (some (.ref f3))) (l3 : K.lookup f3 = some ⟨oc3, od3, .func (PySem.W.fnOf "laying" "laying" (defArgs st_laying) (defBody st_laying) (defScope st_laying) .none kV3 dc3 pm3 an3 cd3 ct3), sl3⟩) (c3 : PySem.W.codeIn K cd3 "laying" = true) (k3 : PySem.W.keepIn K (.ref f3) = true)
    {f4 : Addr} {oc4 kV4 dc4 pm4 cd4 ct4 : Value} {od4 an4 : Option Addr} {sl4 : Array (Option Value)}
    (a4 : PySem.W.nsIn K mainGlobals "number_in" = some (some (.ref f4))) (l4 : K.lookup f4 = some ⟨oc4, od4, .func (PySem.W.fnOf "number_in" "number_in" (defArgs st_number_in) (defBody st_number_in) (defScope st_number_in) .none kV4 dc4 pm4 an4 cd4 ct4), sl4⟩) (c4 : PySem.W.codeIn K cd4 "number_in" = true) (k4 : PySem.W.keepIn K (.ref f4) = true)
    {f5 : Addr} {oc5 kV5 dc5 pm5 cd5 ct5 : Value} {od5 an5 : Option Addr} {sl5 : Array (Option Value)}
    (a5 : PySem.W.nsIn K mainGlobals "check_strip" = some (some (.ref f5))) (l5 : K.lookup f5 = some ⟨oc5, od5, .func (PySem.W.fnOf "check_strip" "check_strip" (defArgs st_check_strip) (defBody st_check_strip) (defScope st_check_strip) .none kV5 dc5 pm5 an5 cd5 ct5), sl5⟩) (c5 : PySem.W.codeIn K cd5 "check_strip" = true) (k5 : PySem.W.keepIn K (.ref f5) = true)
    {f6 : Addr} {oc6 kV6 dc6 pm6 cd6 ct6 : Value} {od6 an6 : Option Addr} {sl6 : Array (Option Value)}
    (a6 : PySem.W.nsIn K mainGlobals "are_bars" = some (some (.ref f6))) (l6 : K.lookup f6 = some ⟨oc6, od6, .func (PySem.W.fnOf "are_bars" "are_bars" (defArgs st_are_bars) (defBody st_are_bars) (defScope st_are_bars) .none kV6 dc6 pm6 an6 cd6 ct6), sl6⟩) (c6 : PySem.W.codeIn K cd6 "are_bars" = true) (k6 : PySem.W.keepIn K (.ref f6) = true)
    {f7 : Addr} {oc7 kV7 dc7 pm7 cd7 ct7 : Value} {od7 an7 : Option Addr} {sl7 : Array (Option Value)}
    (a7 : PySem.W.nsIn K mainGlobals "is_laying" = some (some (.ref f7))) (l7 : K.lookup f7 = some ⟨oc7, od7, .func (PySem.W.fnOf "is_laying" "is_laying" (defArgs st_is_laying) (defBody st_is_laying) (defScope st_is_laying) .none kV7 dc7 pm7 an7 cd7 ct7), sl7⟩) (c7 : PySem.W.codeIn K cd7 "is_laying" = true) (k7 : PySem.W.keepIn K (.ref f7) = true)
    {f8 : Addr} {oc8 kV8 dc8 pm8 cd8 ct8 : Value} {od8 an8 : Option Addr} {sl8 : Array (Option Value)}
    (a8 : PySem.W.nsIn K mainGlobals "layings_up_to" = some (some (.ref f8))) (l8 : K.lookup f8 = some ⟨oc8, od8, .func (PySem.W.fnOf "layings_up_to" "layings_up_to" (defArgs st_layings_up_to) (defBody st_layings_up_to) (defScope st_layings_up_to) .none kV8 dc8 pm8 an8 cd8 ct8), sl8⟩) (c8 : PySem.W.codeIn K cd8 "layings_up_to" = true) (k8 : PySem.W.keepIn K (.ref f8) = true)
    {f9 : Addr} {oc9 kV9 dc9 pm9 cd9 ct9 : Value} {od9 an9 : Option Addr} {sl9 : Array (Option Value)}
    (a9 : PySem.W.nsIn K mainGlobals "begun_with" = some (some (.ref f9))) (l9 : K.lookup f9 = some ⟨oc9, od9, .func (PySem.W.fnOf "begun_with" "begun_with" (defArgs st_begun_with) (defBody st_begun_with) (defScope st_begun_with) .none kV9 dc9 pm9 an9 cd9 ct9), sl9⟩) (c9 : PySem.W.codeIn K cd9 "begun_with" = true) (k9 : PySem.W.keepIn K (.ref f9) = true)
    {f10 : Addr} {oc10 kV10 dc10 pm10 cd10 ct10 : Value} {od10 an10 : Option Addr} {sl10 : Array (Option Value)}
    (a10 : PySem.W.nsIn K mainGlobals "_law_number" = some (some (.ref f10))) (l10 : K.lookup f10 = some ⟨oc10, od10, .func (PySem.W.fnOf "_law_number" "_law_number" (defArgs st_law_number) (defBody st_law_number) (defScope st_law_number) .none kV10 dc10 pm10 an10 cd10 ct10), sl10⟩) (c10 : PySem.W.codeIn K cd10 "_law_number" = true) (k10 : PySem.W.keepIn K (.ref f10) = true)
    {f11 : Addr} {oc11 kV11 dc11 pm11 cd11 ct11 : Value} {od11 an11 : Option Addr} {sl11 : Array (Option Value)}
    (a11 : PySem.W.nsIn K mainGlobals "_law_bars_of" = some (some (.ref f11))) (l11 : K.lookup f11 = some ⟨oc11, od11, .func (PySem.W.fnOf "_law_bars_of" "_law_bars_of" (defArgs st_law_bars_of) (defBody st_law_bars_of) (defScope st_law_bars_of) .none kV11 dc11 pm11 an11 cd11 ct11), sl11⟩) (c11 : PySem.W.codeIn K cd11 "_law_bars_of" = true) (k11 : PySem.W.keepIn K (.ref f11) = true)
    {f12 : Addr} {oc12 kV12 dc12 pm12 cd12 ct12 : Value} {od12 an12 : Option Addr} {sl12 : Array (Option Value)}
    (a12 : PySem.W.nsIn K mainGlobals "_law_right" = some (some (.ref f12))) (l12 : K.lookup f12 = some ⟨oc12, od12, .func (PySem.W.fnOf "_law_right" "_law_right" (defArgs st_law_right) (defBody st_law_right) (defScope st_law_right) .none kV12 dc12 pm12 an12 cd12 ct12), sl12⟩) (c12 : PySem.W.codeIn K cd12 "_law_right" = true) (k12 : PySem.W.keepIn K (.ref f12) = true)
    {f13 : Addr} {oc13 kV13 dc13 pm13 cd13 ct13 : Value} {od13 an13 : Option Addr} {sl13 : Array (Option Value)}
    (a13 : PySem.W.nsIn K mainGlobals "law" = some (some (.ref f13))) (l13 : K.lookup f13 = some ⟨oc13, od13, .func (PySem.W.fnOf "law" "law" (defArgs st_law) (defBody st_law) (defScope st_law) .none kV13 dc13 pm13 an13 cd13 ct13), sl13⟩) (c13 : PySem.W.codeIn K cd13 "law" = true) (k13 : PySem.W.keepIn K (.ref f13) = true)
    (z_abs : PySem.W.nsIn K mainGlobals "abs" = some none)
    (z_all : PySem.W.nsIn K mainGlobals "all" = some none)
    (z_any : PySem.W.nsIn K mainGlobals "any" = some none)
    (z_bool : PySem.W.nsIn K mainGlobals "bool" = some none)
    (z_enumerate : PySem.W.nsIn K mainGlobals "enumerate" = some none)
    (z_int : PySem.W.nsIn K mainGlobals "int" = some none)
    (z_isinstance : PySem.W.nsIn K mainGlobals "isinstance" = some none)
    (z_len : PySem.W.nsIn K mainGlobals "len" = some none)
    (z_list : PySem.W.nsIn K mainGlobals "list" = some none)
    (z_max : PySem.W.nsIn K mainGlobals "max" = some none)
    (z_range : PySem.W.nsIn K mainGlobals "range" = some none)
    (z_set : PySem.W.nsIn K mainGlobals "set" = some none)
    (z_sorted : PySem.W.nsIn K mainGlobals "sorted" = some none)
    (z_sum : PySem.W.nsIn K mainGlobals "sum" = some none)
    (z_zip : PySem.W.nsIn K mainGlobals "zip" = some none)
    {t_MOST_BARS : Tok} (n_MOST_BARS : PySem.W.nsIn K mainGlobals "MOST_BARS" = some (some (.int 8 t_MOST_BARS)))
    {t_MOST_LENGTH : Tok} (n_MOST_LENGTH : PySem.W.nsIn K mainGlobals "MOST_LENGTH" = some (some (.int 30 t_MOST_LENGTH)))
    {t_MOST_PLACES : Tok} (n_MOST_PLACES : PySem.W.nsIn K mainGlobals "MOST_PLACES" = some (some (.int 300 t_MOST_PLACES))) :
    ∃ fd : FuncData, (∀ (s : Shared) (u : Value), BindsTo s fd ⟨[u], []⟩ [("_law_script", u)]) ∧ ∀ base : Heap, K.In base → base.Ns mainGlobals mg → FnOk P w K mg base CX0 60 fa fd ["_law_script"] (spOf K 1 (sem 60 .law)) := by
  have T : Txt K mg := ⟨Vs.txt_none X G z_abs,
    Vs.txt_none X G z_all,
    Vs.txt_none X G z_any,
    Vs.txt_none X G z_bool,
    Vs.txt_none X G z_enumerate,
    Vs.txt_none X G z_int,
    Vs.txt_none X G z_isinstance,
    Vs.txt_none X G z_len,
    Vs.txt_none X G z_list,
    Vs.txt_none X G z_max,
    Vs.txt_none X G z_range,
    Vs.txt_none X G z_set,
    Vs.txt_none X G z_sorted,
    Vs.txt_none X G z_sum,
    Vs.txt_none X G z_zip,
    Vs.txt_int X G n_MOST_BARS,
    Vs.txt_int X G n_MOST_LENGTH,
    Vs.txt_int X G n_MOST_PLACES,
    Vs.txt_def (st := st_is_number) X G a0 l0 c0 k0 (fun _ _ _ _ _ _ us hl => match us, hl with | [_], _ => rfl),
    Vs.txt_def (st := st_is_within) X G a1 l1 c1 k1 (fun _ _ _ _ _ _ us hl => match us, hl with | [_, _, _], _ => rfl),
    Vs.txt_def (st := st_layings) X G a2 l2 c2 k2 (fun _ _ _ _ _ _ us hl => match us, hl with | [_, _], _ => rfl),
    Vs.txt_def (st := st_laying) X G a3 l3 c3 k3 (fun _ _ _ _ _ _ us hl => match us, hl with | [_, _, _], _ => rfl),
    Vs.txt_def (st := st_number_in) X G a4 l4 c4 k4 (fun _ _ _ _ _ _ us hl => match us, hl with | [_, _, _], _ => rfl),
    Vs.txt_def (st := st_check_strip) X G a5 l5 c5 k5 (fun _ _ _ _ _ _ us hl => match us, hl with | [_, _], _ => rfl),
    Vs.txt_def (st := st_are_bars) X G a6 l6 c6 k6 (fun _ _ _ _ _ _ us hl => match us, hl with | [_], _ => rfl),
    Vs.txt_def (st := st_is_laying) X G a7 l7 c7 k7 (fun _ _ _ _ _ _ us hl => match us, hl with | [_, _, _], _ => rfl),
    Vs.txt_def (st := st_layings_up_to) X G a8 l8 c8 k8 (fun _ _ _ _ _ _ us hl => match us, hl with | [_, _], _ => rfl),
    Vs.txt_def (st := st_begun_with) X G a9 l9 c9 k9 (fun _ _ _ _ _ _ us hl => match us, hl with | [_, _, _], _ => rfl),
    Vs.txt_def (st := st_law_number) X G a10 l10 c10 k10 (fun _ _ _ _ _ _ us hl => match us, hl with | [_, _, _], _ => rfl),
    Vs.txt_def (st := st_law_bars_of) X G a11 l11 c11 k11 (fun _ _ _ _ _ _ us hl => match us, hl with | [_, _], _ => rfl),
    Vs.txt_def (st := st_law_right) X G a12 l12 c12 k12 (fun _ _ _ _ _ _ us hl => match us, hl with | [_, _, _], _ => rfl)⟩
  obtain ⟨fd, Fl, hb⟩ := Vs.txt_law (st := st_law) (y := "_law_script") X G hfa a13 l13 c13 k13 (fun _ _ _ _ _ _ _ => rfl)
  exact ⟨fd, hb, fun base _ _ => law_ok T Fl 59⟩

end K18

namespace K18
open PySem PySem.Spec PyProof.Rows L2 Vs
theorem is_number_int (k : Nat) (i : Int) : sem (k+1) .is_number [.int i] = some (.f (.bool true)) := rfl
theorem is_within_int (k : Nat) (v lo hi : Int) : sem (k+2) .is_within [.int v, .int lo, .int hi] = some (.f (.bool (decide (lo ≤ v) && decide (v ≤ hi)))) := by
  rw [e_is_within]
  simp only [xrunS, xstartE, xSeq, xIf, xRet, xSetF, xSetE, xFz, xfrzE, xPre, xtPre, xAsg, xPar, xRetT, xRetV, xDrop, xNx, xBk, xCt, xNo, xFor, xI, xi2, x2, x1, xA, xN, xV, xC, xF, xD, xSc, xB, xCh, xtN, xtA, xtO, xtY, xvN, xvA, xvO, xmIf, xTup, xLst, xList, xCall, xDict, xaN, xaC, xSl, xoN, xoS, xIt, xRg1, xRg2, xEnum, xZip, xLc, xcN, xcF, xgN, xgT, xgsN, xgsC, xat0, xatS, xd1, xd2, xd3, xfz, xAdd, xSub, xLt, xLe, xGt, xGe, xix1, xix2, xlen1, xlen2, xabs, xmax, xsum, xany, xall, xisB, xisNotB, xs1, xs2, xs3, xs4, xsc1, xsc2, xb, xint, xlist, xitems1, xitems2, xkey, xisi1, xisi2, xisi3, xisi4, xisi5, xw0, xw1, xEqI, xNeI, xNeB, xIxO, xl1, xl2, xSort, xat_0, xat_1, xat_2, xk0, xk1, xk2, xk3, xk4, xk5, xk6, xk7, Int.reduceEq, Option.bind_some, Option.map_some, Option.bind_none, Option.map_none, Option.map_map, Function.comp_apply, List.map_nil, List.map_cons, List.length_cons, List.length_nil, List.nil_append, List.cons_append, List.replicate_zero, List.replicate_succ, List.set_cons_zero, List.set_cons_succ, if_true, if_false, Bool.false_eq_true, Bool.not_true, Bool.not_false, Bool.true_and, Bool.and_true, Bool.false_and, Bool.and_false, Bool.true_or, Bool.or_true, Bool.false_or, Bool.or_false, Nat.reduceAdd, Nat.reduceSub, Nat.reduceEqDiff, Nat.reduceLeDiff, Nat.reduceLT, beq_self_eq_true, Int.reduceLT, Int.reduceLE, Int.reduceAdd, Int.reduceSub, Int.reduceNeg, decide_true, decide_false, ite_self, xd4, m_is_within, is_number_int]
  cases decide (lo ≤ v) <;> rfl
theorem law_number_any (k : Nat) {cell at' : Int} (whole : Int) (hb : Builtin.Int.intBits cell ≤ 2 ^ 20) (h0 : 0 ≤ at') (h1 : at' ≤ 1000000) : ∃ n : Int, sem (k+1) .law_number [.int cell, .int at', .int whole] = some (.f (.int n)) := by
  rw [e_law_number]
  have bits_at : Builtin.Int.intBits at' ≤ 64 := intBits_le_64 (by omega) (by omega)
  have bl : ∀ z : Int, 0 ≤ z → z < 2147483647 → Builtin.Int.intBits z ≤ 64 := fun z h h' => intBits_le_64 (by omega) (by omega)
  have b977 : Builtin.Int.intBits (977 * at') ≤ 64 := intBits_le_64 (by omega) (by omega)
  have b31 : Builtin.Int.intBits (31 * at') ≤ 64 := intBits_le_64 (by omega) (by omega)
  have e20 : (2 : Nat) ^ 20 = 1048576 := by decide
  rw [e20] at hb
  have c1 : Builtin.Int.intBits (cell + 977 * at') ≤ 1048577 := Nat.le_trans (bits_add hb b977) (by decide)
  have pw : gPow 10 18 = some (.int (10 ^ 18)) := by
    unfold gPow
    rw [if_pos (by decide)]
    rfl
  have mul : ∀ {a b : Int} {m n : Nat}, Builtin.Int.intBits a ≤ m → Builtin.Int.intBits b ≤ n → m + n ≤ 134217728 → gMul a b = some (.int (a * b)) := fun ha hb h => by
    unfold gMul
    rw [if_pos (by omega)]
  have k1 : gMul 977 at' = some (.int (977 * at')) := mul (m := 64) (n := 64) (intBits_le_64 (by decide) (by decide)) bits_at (by decide)
  have k2 : gMul (cell + 977 * at') 48271 = some (.int ((cell + 977 * at') * 48271)) := mul (m := 1048577) (n := 64) c1 (intBits_le_64 (by decide) (by decide)) (by decide)
  have k3 : gMul 31 at' = some (.int (31 * at')) := mul (m := 64) (n := 64) (intBits_le_64 (by decide) (by decide)) bits_at (by decide)
  by_cases hc : (10 ^ 18 : Int) ≤ cell
  · have d1 : gDiv cell (1 + at' % 7) = some (.int (cell / (1 + at' % 7))) := xDiv (by omega)
    have md : gMod at' 7 = some (.int (at' % 7)) := xMod (by decide)
    refine ⟨cell / (1 + at' % 7), ?_⟩
    simp only [m_law_number, xrunS, xstartE, xSeq, xIf, xRet, xSetF, xSetE, xFz, xfrzE, xPre, xtPre, xAsg, xPar, xRetT, xRetV, xDrop, xNx, xBk, xCt, xNo, xFor, xI, xi2, x2, x1, xA, xN, xV, xC, xF, xD, xSc, xB, xCh, xtN, xtA, xtO, xtY, xvN, xvA, xvO, xmIf, xTup, xLst, xList, xCall, xDict, xaN, xaC, xSl, xoN, xoS, xIt, xRg1, xRg2, xEnum, xZip, xLc, xcN, xcF, xgN, xgT, xgsN, xgsC, xat0, xatS, xd1, xd2, xd3, xfz, xAdd, xSub, xLt, xLe, xGt, xGe, xix1, xix2, xlen1, xlen2, xabs, xmax, xsum, xany, xall, xisB, xisNotB, xs1, xs2, xs3, xs4, xsc1, xsc2, xb, xint, xlist, xitems1, xitems2, xkey, xisi1, xisi2, xisi3, xisi4, xisi5, xw0, xw1, xEqI, xNeI, xNeB, xIxO, xl1, xl2, xSort, xat_0, xat_1, xat_2, xk0, xk1, xk2, xk3, xk4, xk5, xk6, xk7, Int.reduceEq, Option.bind_some, Option.map_some, Option.bind_none, Option.map_none, Option.map_map, Function.comp_apply, List.map_nil, List.map_cons, List.length_cons, List.length_nil, List.nil_append, List.cons_append, List.replicate_zero, List.replicate_succ, List.set_cons_zero, List.set_cons_succ, if_true, if_false, Bool.false_eq_true, Bool.not_true, Bool.not_false, Bool.true_and, Bool.and_true, Bool.false_and, Bool.and_false, Bool.true_or, Bool.or_true, Bool.false_or, Bool.or_false, Nat.reduceAdd, Nat.reduceSub, Nat.reduceEqDiff, Nat.reduceLeDiff, Nat.reduceLT, beq_self_eq_true, Int.reduceLT, Int.reduceLE, Int.reduceAdd, Int.reduceSub, Int.reduceNeg, decide_true, decide_false, ite_self, xd4, pw, hc, md, d1]
  · have md : ∀ z : Int, gMod z 2147483647 = some (.int (z % 2147483647)) := fun z => xMod (by decide)
    generalize hbl : ((cell + 977 * at') * 48271 + whole) % 2147483647 = bl0
    have bl1 : 0 ≤ bl0 ∧ bl0 < 2147483647 := by subst hbl; omega
    have bb := bl bl0 bl1.1 bl1.2
    have c2 : Builtin.Int.intBits (cell + 31 * at' + 7) ≤ 1048578 := Nat.le_trans (bits_add (Nat.le_trans (bits_add hb b31) (by decide : max 1048576 64 + 1 ≤ 1048577)) (intBits_le_64 (k := 7) (by decide) (by decide))) (by decide)
    have k4 : gMul bl0 (cell + 31 * at' + 7) = some (.int (bl0 * (cell + 31 * at' + 7))) := mul (m := 64) (n := 1048578) bb c2 (by decide)
    have c3 : Builtin.Int.intBits (bl0 * (cell + 31 * at' + 7)) ≤ 1048642 := bits_mul bb c2
    have c4 : Builtin.Int.intBits (bl0 + cell + 5) ≤ 1048578 := Nat.le_trans (bits_add (Nat.le_trans (bits_add bb hb) (by decide : max 64 1048576 + 1 ≤ 1048577)) (intBits_le_64 (k := 5) (by decide) (by decide))) (by decide)
    have k5 : gMul (bl0 * (cell + 31 * at' + 7)) (bl0 + cell + 5) = some (.int (bl0 * (cell + 31 * at' + 7) * (bl0 + cell + 5))) := mul c3 c4 (by decide)
    have c5 : Builtin.Int.intBits (bl0 * (cell + 31 * at' + 7) * (bl0 + cell + 5)) ≤ 2097220 := bits_mul c3 c4
    have k6 : gMul bl0 bl0 = some (.int (bl0 * bl0)) := mul bb bb (by decide)
    have c6 : Builtin.Int.intBits (bl0 * bl0 + 11) ≤ 129 := Nat.le_trans (bits_add (bits_mul bb bb) (intBits_le_64 (k := 11) (by decide) (by decide))) (by decide)
    have k7 : gMul (bl0 * (cell + 31 * at' + 7) * (bl0 + cell + 5)) (bl0 * bl0 + 11) = some (.int (bl0 * (cell + 31 * at' + 7) * (bl0 + cell + 5) * (bl0 * bl0 + 11))) := mul c5 c6 (by decide)
    have d1 : ∀ z, gDiv z (1009 + at') = some (.int (z / (1009 + at'))) := fun z => xDiv (by omega)
    refine ⟨bl0 * (cell + 31 * at' + 7) * (bl0 + cell + 5) * (bl0 * bl0 + 11) / (1009 + at'), ?_⟩
    simp only [m_law_number, xrunS, xstartE, xSeq, xIf, xRet, xSetF, xSetE, xFz, xfrzE, xPre, xtPre, xAsg, xPar, xRetT, xRetV, xDrop, xNx, xBk, xCt, xNo, xFor, xI, xi2, x2, x1, xA, xN, xV, xC, xF, xD, xSc, xB, xCh, xtN, xtA, xtO, xtY, xvN, xvA, xvO, xmIf, xTup, xLst, xList, xCall, xDict, xaN, xaC, xSl, xoN, xoS, xIt, xRg1, xRg2, xEnum, xZip, xLc, xcN, xcF, xgN, xgT, xgsN, xgsC, xat0, xatS, xd1, xd2, xd3, xfz, xAdd, xSub, xLt, xLe, xGt, xGe, xix1, xix2, xlen1, xlen2, xabs, xmax, xsum, xany, xall, xisB, xisNotB, xs1, xs2, xs3, xs4, xsc1, xsc2, xb, xint, xlist, xitems1, xitems2, xkey, xisi1, xisi2, xisi3, xisi4, xisi5, xw0, xw1, xEqI, xNeI, xNeB, xIxO, xl1, xl2, xSort, xat_0, xat_1, xat_2, xk0, xk1, xk2, xk3, xk4, xk5, xk6, xk7, Int.reduceEq, Option.bind_some, Option.map_some, Option.bind_none, Option.map_none, Option.map_map, Function.comp_apply, List.map_nil, List.map_cons, List.length_cons, List.length_nil, List.nil_append, List.cons_append, List.replicate_zero, List.replicate_succ, List.set_cons_zero, List.set_cons_succ, if_true, if_false, Bool.false_eq_true, Bool.not_true, Bool.not_false, Bool.true_and, Bool.and_true, Bool.false_and, Bool.and_false, Bool.true_or, Bool.or_true, Bool.false_or, Bool.or_false, Nat.reduceAdd, Nat.reduceSub, Nat.reduceEqDiff, Nat.reduceLeDiff, Nat.reduceLT, beq_self_eq_true, Int.reduceLT, Int.reduceLE, Int.reduceAdd, Int.reduceSub, Int.reduceNeg, decide_true, decide_false, ite_self, xd4, pw, hc, k1, k2, md, hbl, k3, k4, k5, k6, k7, d1]
theorem law_number_ok (k : Nat) {cell at' whole : Int} (hb : Builtin.Int.intBits cell ≤ 2 ^ 20) (h0 : 0 ≤ at') (h1 : at' ≤ 1000000) (g0 : 0 ≤ whole) (g1 : whole ≤ 1000000) : ∃ n : Int, sem (k+1) .law_number [.int cell, .int at', .int whole] = some (.f (.int n)) := law_number_any k whole hb h0 h1
theorem eqv_nil_cons (a : PyData) (r : List PyData) : PyData.eqv (.list (a :: r)) (.list []) = false := by simp [PyData.eqv, PyData.eqvAll]
theorem shaped_nil : SeqAt.shaped (.list []) = true := by decide
theorem ne_nil_ints (ns : List Int) : gNe (.list (ns.map PyData.int)) (.list []) = some (.bl (!ns.isEmpty)) := by
  unfold gNe
  rw [if_pos ⟨shaped_list_ints ns, shaped_nil⟩]
  cases ns with
  | nil => rfl
  | cons n r => rw [List.map_cons, eqv_nil_cons]; rfl
structure BarsOk (bs : List Int) : Prop where
  l1 : 1 ≤ bs.length
  l8 : bs.length ≤ 8
  inr : ∀ l ∈ bs, 1 ≤ l ∧ l ≤ 30
def begL (bs ws : List Int) (r : Int) : List Int := bs.map fun l => if l ≤ r then ws.getD (r - l).toNat 0 else 0
def waysL (bs : List Int) : Nat → List Int
  | 0 => [1]
  | n + 1 => waysL bs n ++ [(begL bs (waysL bs n) ((n : Int) + 1)).sum]
def W (bs : List Int) (n : Nat) : Int := (waysL bs n).getD n 0
theorem waysL_len (bs : List Int) : ∀ n, (waysL bs n).length = n + 1
  | 0 => rfl
  | n + 1 => by rw [waysL, List.length_append, waysL_len bs n]; rfl
theorem waysL_get (bs : List Int) {i : Nat} : ∀ {n : Nat}, i ≤ n → (waysL bs n)[i]? = some (W bs i)
  | 0, h => by
    have : i = 0 := by omega
    subst this
    rfl
  | n + 1, h => by
    by_cases e : i = n + 1
    · subst e
      unfold W
      have : n + 1 < (waysL bs (n + 1)).length := by rw [waysL_len]; omega
      rw [List.getD_eq_getElem?_getD, List.getElem?_eq_getElem this]
      rfl
    · rw [waysL, List.getElem?_append_left (by rw [waysL_len]; omega)]
      exact waysL_get bs (by omega)
theorem waysL_D (bs : List Int) {i n : Nat} (h : i ≤ n) : (waysL bs n).getD i 0 = W bs i := by
  rw [List.getD_eq_getElem?_getD, waysL_get bs h]
  rfl
def Wz (bs : List Int) (n : Int) : Int := if n < 0 then 0 else W bs n.toNat
theorem Wz_neg {bs : List Int} {n : Int} (h : n < 0) : Wz bs n = 0 := if_pos h
theorem Wz_nat {bs : List Int} {n : Int} (h : 0 ≤ n) : Wz bs n = W bs n.toNat := if_neg (by omega)
theorem begL_ways {bs : List Int} {n : Nat} {r : Int} (B : ∀ l ∈ bs, 1 ≤ l) (h : r ≤ (n : Int) + 1) : begL bs (waysL bs n) r = bs.map fun l => Wz bs (r - l) := by
  unfold begL
  refine List.map_congr_left fun l hl => ?_
  have := B l hl
  by_cases e : l ≤ r
  · rw [if_pos e, waysL_D bs (by omega), Wz_nat (by omega)]
  · rw [if_neg e, Wz_neg (by omega)]
theorem W_succ {bs : List Int} (n : Nat) : W bs (n + 1) = (begL bs (waysL bs n) ((n : Int) + 1)).sum := by
  unfold W
  rw [waysL, List.getD_eq_getElem?_getD, List.getElem?_append_right (by rw [waysL_len]; omega), waysL_len]
  simp
theorem Wz_rec {bs : List Int} (B : ∀ l ∈ bs, 1 ≤ l) {n : Int} (h : 1 ≤ n) : Wz bs n = (bs.map fun l => Wz bs (n - l)).sum := by
  obtain ⟨m, rfl⟩ : ∃ m : Nat, n = (m : Int) + 1 := ⟨(n - 1).toNat, by omega⟩
  rw [Wz_nat (by omega), show ((m : Int) + 1).toNat = m + 1 by omega, W_succ, begL_ways B (by omega)]
theorem Wz_zero (bs : List Int) : Wz bs 0 = 1 := rfl
theorem begun_with_ok (k : Nat) {bs ws : List Int} {r : Int} (B : BarsOk bs) (h : r ≤ ws.length) : sem (k+1) .begun_with [.list (bs.map PyData.int), .list (ws.map PyData.int), .int r] = some (.ol ((begL bs ws r).map PyData.int)) := by
  rw [e_begun_with]
  have hl : bs.length ≤ 1000000 := by have := B.l8; omega
  have hc : ∀ ρ : En, ρ = [some (R.f (.list (bs.map PyData.int))), some (R.f (.list (ws.map PyData.int))), some (R.f (.int r)), none] → colD (gN 3) tY (mIf (mB (mI gLe (mV 3) (mV 2))) (m2 gIx (mN 1) (mI gSub (mV 2) (mV 3))) (mC (.int 0))) ρ (bs.map PyData.int) = some ((begL bs ws r).map PyData.int) := by
    intro ρ hρ
    subst hρ
    unfold begL
    rw [List.map_map]
    refine colD_mapE fun l hlb => ?_
    have := B.inr l hlb
    by_cases e : l ≤ r
    · have hg : ws[(r - l).toNat]? = some (ws.getD (r - l).toNat 0) := by
        rw [List.getD_eq_getElem?_getD, List.getElem?_eq_getElem (by omega)]
        rfl
      simp only [xrunS, xstartE, xSeq, xIf, xRet, xSetF, xSetE, xFz, xfrzE, xPre, xtPre, xAsg, xPar, xRetT, xRetV, xDrop, xNx, xBk, xCt, xNo, xFor, xI, xi2, x2, x1, xA, xN, xV, xC, xF, xD, xSc, xB, xCh, xtN, xtA, xtO, xtY, xvN, xvA, xvO, xmIf, xTup, xLst, xList, xCall, xDict, xaN, xaC, xSl, xoN, xoS, xIt, xRg1, xRg2, xEnum, xZip, xLc, xcN, xcF, xgN, xgT, xgsN, xgsC, xat0, xatS, xd1, xd2, xd3, xfz, xAdd, xSub, xLt, xLe, xGt, xGe, xix1, xix2, xlen1, xlen2, xabs, xmax, xsum, xany, xall, xisB, xisNotB, xs1, xs2, xs3, xs4, xsc1, xsc2, xb, xint, xlist, xitems1, xitems2, xkey, xisi1, xisi2, xisi3, xisi4, xisi5, xw0, xw1, xEqI, xNeI, xNeB, xIxO, xl1, xl2, xSort, xat_0, xat_1, xat_2, xk0, xk1, xk2, xk3, xk4, xk5, xk6, xk7, Int.reduceEq, Option.bind_some, Option.map_some, Option.bind_none, Option.map_none, Option.map_map, Function.comp_apply, List.map_nil, List.map_cons, List.length_cons, List.length_nil, List.nil_append, List.cons_append, List.replicate_zero, List.replicate_succ, List.set_cons_zero, List.set_cons_succ, if_true, if_false, Bool.false_eq_true, Bool.not_true, Bool.not_false, Bool.true_and, Bool.and_true, Bool.false_and, Bool.and_false, Bool.true_or, Bool.or_true, Bool.false_or, Bool.or_false, Nat.reduceAdd, Nat.reduceSub, Nat.reduceEqDiff, Nat.reduceLeDiff, Nat.reduceLT, beq_self_eq_true, Int.reduceLT, Int.reduceLE, Int.reduceAdd, Int.reduceSub, Int.reduceNeg, decide_true, decide_false, ite_self, xd4, decide_eq_true e, atI_ints (show 0 ≤ r - l by omega) hg, if_pos e]
    · simp only [xrunS, xstartE, xSeq, xIf, xRet, xSetF, xSetE, xFz, xfrzE, xPre, xtPre, xAsg, xPar, xRetT, xRetV, xDrop, xNx, xBk, xCt, xNo, xFor, xI, xi2, x2, x1, xA, xN, xV, xC, xF, xD, xSc, xB, xCh, xtN, xtA, xtO, xtY, xvN, xvA, xvO, xmIf, xTup, xLst, xList, xCall, xDict, xaN, xaC, xSl, xoN, xoS, xIt, xRg1, xRg2, xEnum, xZip, xLc, xcN, xcF, xgN, xgT, xgsN, xgsC, xat0, xatS, xd1, xd2, xd3, xfz, xAdd, xSub, xLt, xLe, xGt, xGe, xix1, xix2, xlen1, xlen2, xabs, xmax, xsum, xany, xall, xisB, xisNotB, xs1, xs2, xs3, xs4, xsc1, xsc2, xb, xint, xlist, xitems1, xitems2, xkey, xisi1, xisi2, xisi3, xisi4, xisi5, xw0, xw1, xEqI, xNeI, xNeB, xIxO, xl1, xl2, xSort, xat_0, xat_1, xat_2, xk0, xk1, xk2, xk3, xk4, xk5, xk6, xk7, Int.reduceEq, Option.bind_some, Option.map_some, Option.bind_none, Option.map_none, Option.map_map, Function.comp_apply, List.map_nil, List.map_cons, List.length_cons, List.length_nil, List.nil_append, List.cons_append, List.replicate_zero, List.replicate_succ, List.set_cons_zero, List.set_cons_succ, if_true, if_false, Bool.false_eq_true, Bool.not_true, Bool.not_false, Bool.true_and, Bool.and_true, Bool.false_and, Bool.and_false, Bool.true_or, Bool.or_true, Bool.false_or, Bool.or_false, Nat.reduceAdd, Nat.reduceSub, Nat.reduceEqDiff, Nat.reduceLeDiff, Nat.reduceLT, beq_self_eq_true, Int.reduceLT, Int.reduceLE, Int.reduceAdd, Int.reduceSub, Int.reduceNeg, decide_true, decide_false, ite_self, xd4, decide_eq_false e, if_neg e]
  simp only [m_begun_with, xrunS, xstartE, xSeq, xIf, xRet, xSetF, xSetE, xFz, xfrzE, xPre, xtPre, xAsg, xPar, xRetT, xRetV, xDrop, xNx, xBk, xCt, xNo, xFor, xI, xi2, x2, x1, xA, xN, xV, xC, xF, xD, xSc, xB, xCh, xtN, xtA, xtO, xtY, xvN, xvA, xvO, xmIf, xTup, xLst, xList, xCall, xDict, xaN, xaC, xSl, xoN, xoS, xIt, xRg1, xRg2, xEnum, xZip, xLc, xcN, xcF, xgN, xgT, xgsN, xgsC, xat0, xatS, xd1, xd2, xd3, xfz, xAdd, xSub, xLt, xLe, xGt, xGe, xix1, xix2, xlen1, xlen2, xabs, xmax, xsum, xany, xall, xisB, xisNotB, xs1, xs2, xs3, xs4, xsc1, xsc2, xb, xint, xlist, xitems1, xitems2, xkey, xisi1, xisi2, xisi3, xisi4, xisi5, xw0, xw1, xEqI, xNeI, xNeB, xIxO, xl1, xl2, xSort, xat_0, xat_1, xat_2, xk0, xk1, xk2, xk3, xk4, xk5, xk6, xk7, Int.reduceEq, Option.bind_some, Option.map_some, Option.bind_none, Option.map_none, Option.map_map, Function.comp_apply, List.map_nil, List.map_cons, List.length_cons, List.length_nil, List.nil_append, List.cons_append, List.replicate_zero, List.replicate_succ, List.set_cons_zero, List.set_cons_succ, if_true, if_false, Bool.false_eq_true, Bool.not_true, Bool.not_false, Bool.true_and, Bool.and_true, Bool.false_and, Bool.and_false, Bool.true_or, Bool.or_true, Bool.false_or, Bool.or_false, Nat.reduceAdd, Nat.reduceSub, Nat.reduceEqDiff, Nat.reduceLeDiff, Nat.reduceLT, beq_self_eq_true, Int.reduceLT, Int.reduceLE, Int.reduceAdd, Int.reduceSub, Int.reduceNeg, decide_true, decide_false, ite_self, xd4, List.length_map]
  rw [if_pos hl, hc _ rfl]
  rfl
end K18

namespace K18
open PySem PySem.Spec PyProof.Rows L2 Vs
theorem layings_up_to_ok (k : Nat) {bs : List Int} {n : Nat} (B : BarsOk bs) (hn : n ≤ 300) : sem (k+2) .layings_up_to [.list (bs.map PyData.int), .int (n : Nat)] = some (.ol ((waysL bs n).map PyData.int)) := by
  rw [e_layings_up_to]
  refine run_rt rfl ?_
  unfold m_layings_up_to
  have s1 : (sSetE 2 (mLst (aC (mC (.int 1)) (aN))) : MS) (startE 4 [PyData.list (bs.map PyData.int), .int (n : Nat)]) = some (.nx [some (R.f (.list (bs.map PyData.int))), some (R.f (.int (n : Nat))), some (R.ol [.int 1]), none]) := rfl
  rw [seq_nx s1]
  obtain ⟨ρ', e1, hlen, h0, h2⟩ := loopF_inv (l := List.range n) (D := fun i => PyData.int (1 + (i : Nat))) (g := gN 3) (pre := []) (body := sApp 2 (mA (fun x => (gSum x).map Sc.d) (aC (mD (mCallB (sem (k+1) .begun_with) (aC (mV 0) (aC (mV 2) (aC (mV 3) (aN)))))) (aN)))) (I := fun pre ρ => ρ.length = 4 ∧ at' ρ 0 = some (R.f (.list (bs.map PyData.int))) ∧ at' ρ 2 = some (R.ol ((waysL bs pre.length).map PyData.int))) (ρ := [some (R.f (.list (bs.map PyData.int))), some (R.f (.int (n : Nat))), some (R.ol [.int 1]), none]) (fun pre i post ρ e hI => by
    obtain ⟨hlen, h0, h2⟩ := hI
    rw [List.nil_append] at h2
    have hi : i = pre.length ∧ pre.length < n := by
      have h1 : (List.range n)[pre.length]? = some i := by rw [e, List.getElem?_append_right (Nat.le_refl _)]; simp
      have h2 : pre.length < n := by
        have := congrArg List.length e
        rw [List.length_range, List.length_append, List.length_cons] at this
        omega
      rw [List.getElem?_range h2] at h1
      exact ⟨(Option.some.inj h1).symm, h2⟩
    have hb := begun_with_ok k (r := 1 + (i : Nat)) B (ws := waysL bs pre.length) (by rw [waysL_len]; omega)
    have hle : ((waysL bs pre.length).map PyData.int).length ≤ 1000000 := by rw [List.length_map, waysL_len]; omega
    have h2' : at' (ρ.set 3 (some (R.f (.int (1 + (i : Nat)))))) 2 = some (R.ol ((waysL bs pre.length).map PyData.int)) := by
      rw [at_set]; exact h2
    rw [xgN, Option.bind_some, xApp h2']
    simp only [xrunS, xstartE, xSeq, xIf, xRet, xSetF, xSetE, xFz, xfrzE, xPre, xtPre, xAsg, xPar, xRetT, xRetV, xDrop, xNx, xBk, xCt, xNo, xFor, xI, xi2, x2, x1, xA, xN, xV, xC, xF, xD, xSc, xB, xCh, xtN, xtA, xtO, xtY, xvN, xvA, xvO, xmIf, xTup, xLst, xList, xCall, xDict, xaN, xaC, xSl, xoN, xoS, xIt, xRg1, xRg2, xEnum, xZip, xLc, xcN, xcF, xgN, xgT, xgsN, xgsC, xat0, xatS, xd1, xd2, xd3, xfz, xAdd, xSub, xLt, xLe, xGt, xGe, xix1, xix2, xlen1, xlen2, xabs, xmax, xsum, xany, xall, xisB, xisNotB, xs1, xs2, xs3, xs4, xsc1, xsc2, xb, xint, xlist, xitems1, xitems2, xkey, xisi1, xisi2, xisi3, xisi4, xisi5, xw0, xw1, xEqI, xNeI, xNeB, xIxO, xl1, xl2, xSort, xat_0, xat_1, xat_2, xk0, xk1, xk2, xk3, xk4, xk5, xk6, xk7, Int.reduceEq, Option.bind_some, Option.map_some, Option.bind_none, Option.map_none, Option.map_map, Function.comp_apply, List.map_nil, List.map_cons, List.length_cons, List.length_nil, List.nil_append, List.cons_append, List.replicate_zero, List.replicate_succ, if_true, if_false, Bool.false_eq_true, Bool.not_true, Bool.not_false, Bool.true_and, Bool.and_true, Bool.false_and, Bool.and_false, Bool.true_or, Bool.or_true, Bool.false_or, Bool.or_false, Nat.reduceAdd, Nat.reduceSub, Nat.reduceEqDiff, Nat.reduceLeDiff, Nat.reduceLT, beq_self_eq_true, Int.reduceLT, Int.reduceLE, Int.reduceAdd, Int.reduceSub, Int.reduceNeg, decide_true, decide_false, ite_self, xd4, at_set, List.length_set, xCallB, xAug, free_ints, free_int, free_bool, free_dn, h0, h2, hlen, hb, ints?_map]
    rw [if_pos hle]
    refine ⟨_, rfl, ?_⟩
    · refine ⟨by simp only [List.length_set]; exact hlen, by simp only [xrunS, xstartE, xSeq, xIf, xRet, xSetF, xSetE, xFz, xfrzE, xPre, xtPre, xAsg, xPar, xRetT, xRetV, xDrop, xNx, xBk, xCt, xNo, xFor, xI, xi2, x2, x1, xA, xN, xV, xC, xF, xD, xSc, xB, xCh, xtN, xtA, xtO, xtY, xvN, xvA, xvO, xmIf, xTup, xLst, xList, xCall, xDict, xaN, xaC, xSl, xoN, xoS, xIt, xRg1, xRg2, xEnum, xZip, xLc, xcN, xcF, xgN, xgT, xgsN, xgsC, xat0, xatS, xd1, xd2, xd3, xfz, xAdd, xSub, xLt, xLe, xGt, xGe, xix1, xix2, xlen1, xlen2, xabs, xmax, xsum, xany, xall, xisB, xisNotB, xs1, xs2, xs3, xs4, xsc1, xsc2, xb, xint, xlist, xitems1, xitems2, xkey, xisi1, xisi2, xisi3, xisi4, xisi5, xw0, xw1, xEqI, xNeI, xNeB, xIxO, xl1, xl2, xSort, xat_0, xat_1, xat_2, xk0, xk1, xk2, xk3, xk4, xk5, xk6, xk7, Int.reduceEq, Option.bind_some, Option.map_some, Option.bind_none, Option.map_none, Option.map_map, Function.comp_apply, List.map_nil, List.map_cons, List.length_cons, List.length_nil, List.nil_append, List.cons_append, List.replicate_zero, List.replicate_succ, if_true, if_false, Bool.false_eq_true, Bool.not_true, Bool.not_false, Bool.true_and, Bool.and_true, Bool.false_and, Bool.and_false, Bool.true_or, Bool.or_true, Bool.false_or, Bool.or_false, Nat.reduceAdd, Nat.reduceSub, Nat.reduceEqDiff, Nat.reduceLeDiff, Nat.reduceLT, beq_self_eq_true, Int.reduceLT, Int.reduceLE, Int.reduceAdd, Int.reduceSub, Int.reduceNeg, decide_true, decide_false, ite_self, xd4, at_set, List.length_set, xCallB, xAug, free_ints, free_int, free_bool, free_dn]; exact h0, ?_⟩
      simp only [xrunS, xstartE, xSeq, xIf, xRet, xSetF, xSetE, xFz, xfrzE, xPre, xtPre, xAsg, xPar, xRetT, xRetV, xDrop, xNx, xBk, xCt, xNo, xFor, xI, xi2, x2, x1, xA, xN, xV, xC, xF, xD, xSc, xB, xCh, xtN, xtA, xtO, xtY, xvN, xvA, xvO, xmIf, xTup, xLst, xList, xCall, xDict, xaN, xaC, xSl, xoN, xoS, xIt, xRg1, xRg2, xEnum, xZip, xLc, xcN, xcF, xgN, xgT, xgsN, xgsC, xat0, xatS, xd1, xd2, xd3, xfz, xAdd, xSub, xLt, xLe, xGt, xGe, xix1, xix2, xlen1, xlen2, xabs, xmax, xsum, xany, xall, xisB, xisNotB, xs1, xs2, xs3, xs4, xsc1, xsc2, xb, xint, xlist, xitems1, xitems2, xkey, xisi1, xisi2, xisi3, xisi4, xisi5, xw0, xw1, xEqI, xNeI, xNeB, xIxO, xl1, xl2, xSort, xat_0, xat_1, xat_2, xk0, xk1, xk2, xk3, xk4, xk5, xk6, xk7, Int.reduceEq, Option.bind_some, Option.map_some, Option.bind_none, Option.map_none, Option.map_map, Function.comp_apply, List.map_nil, List.map_cons, List.length_cons, List.length_nil, List.nil_append, List.cons_append, List.replicate_zero, List.replicate_succ, if_true, if_false, Bool.false_eq_true, Bool.not_true, Bool.not_false, Bool.true_and, Bool.and_true, Bool.false_and, Bool.and_false, Bool.true_or, Bool.or_true, Bool.false_or, Bool.or_false, Nat.reduceAdd, Nat.reduceSub, Nat.reduceEqDiff, Nat.reduceLeDiff, Nat.reduceLT, beq_self_eq_true, Int.reduceLT, Int.reduceLE, Int.reduceAdd, Int.reduceSub, Int.reduceNeg, decide_true, decide_false, ite_self, xd4, at_set, List.length_set, xCallB, xAug, free_ints, free_int, free_bool, free_dn, hlen, List.length_append]
      rw [waysL, List.map_append]
      congr 3
      simp only [List.map_cons, List.map_nil, List.cons.injEq, PyData.int.injEq, and_true]
      rw [hi.1, Int.add_comm]) ⟨rfl, rfl, rfl⟩
  rw [List.nil_append, List.length_range] at h2
  rw [seq_nx (ρ' := ρ')]
  · rw [xRetV, h2]
    rfl
  · rw [xFor, rg2_int (i := 1) (j := (n : Int) + 1) rfl (by decide) (by omega), Option.bind_some, rngD_map, show ((n : Int) + 1 - 1).toNat = n by omega]
    exact e1
end K18

namespace K18
open PySem PySem.Spec PyProof.Rows L2 Vs
theorem are_bars_ok (k : Nat) {bs : List Int} (B : BarsOk bs) : sem (k+3) .are_bars [.list (bs.map PyData.int)] = some (.f (.bool true)) := by
  rw [e_are_bars]
  have h1 : (decide ((1 : Int) ≤ ((bs.length : Nat) : Int)) && decide (((bs.length : Nat) : Int) ≤ 8)) = true := by have := B.l1; have := B.l8; simp; omega
  have hl : bs.length ≤ 1000000 := by have := B.l8; omega
  have hc : colD (gN 1) tY (mD (mCall (sem (k+2) .is_within) (aC (mN 1) (aC (mC (.int 1)) (aC (mC (.int 30)) (aN)))))) [some (R.f (.list (bs.map PyData.int))), none] (bs.map PyData.int) = some (bs.map fun l => .bool (decide ((1 : Int) ≤ l) && decide (l ≤ 30))) := by
    refine colD_mapE fun l hlb => ?_
    simp only [xrunS, xstartE, xSeq, xIf, xRet, xSetF, xSetE, xFz, xfrzE, xPre, xtPre, xAsg, xPar, xRetT, xRetV, xDrop, xNx, xBk, xCt, xNo, xFor, xI, xi2, x2, x1, xA, xN, xV, xC, xF, xD, xSc, xB, xCh, xtN, xtA, xtO, xtY, xvN, xvA, xvO, xmIf, xTup, xLst, xList, xCall, xDict, xaN, xaC, xSl, xoN, xoS, xIt, xRg1, xRg2, xEnum, xZip, xLc, xcN, xcF, xgN, xgT, xgsN, xgsC, xat0, xatS, xd1, xd2, xd3, xfz, xAdd, xSub, xLt, xLe, xGt, xGe, xix1, xix2, xlen1, xlen2, xabs, xmax, xsum, xany, xall, xisB, xisNotB, xs1, xs2, xs3, xs4, xsc1, xsc2, xb, xint, xlist, xitems1, xitems2, xkey, xisi1, xisi2, xisi3, xisi4, xisi5, xw0, xw1, xEqI, xNeI, xNeB, xIxO, xl1, xl2, xSort, xat_0, xat_1, xat_2, xk0, xk1, xk2, xk3, xk4, xk5, xk6, xk7, Int.reduceEq, Option.bind_some, Option.map_some, Option.bind_none, Option.map_none, Option.map_map, Function.comp_apply, List.map_nil, List.map_cons, List.length_cons, List.length_nil, List.nil_append, List.cons_append, List.replicate_zero, List.replicate_succ, List.set_cons_zero, List.set_cons_succ, if_true, if_false, Bool.false_eq_true, Bool.not_true, Bool.not_false, Bool.true_and, Bool.and_true, Bool.false_and, Bool.and_false, Bool.true_or, Bool.or_true, Bool.false_or, Bool.or_false, Nat.reduceAdd, Nat.reduceSub, Nat.reduceEqDiff, Nat.reduceLeDiff, Nat.reduceLT, beq_self_eq_true, Int.reduceLT, Int.reduceLE, Int.reduceAdd, Int.reduceSub, Int.reduceNeg, decide_true, decide_false, ite_self, xd4, is_within_int]
  have ha : (bs.all fun l => decide ((1 : Int) ≤ l) && decide (l ≤ 30)) = true := by
    refine List.all_eq_true.mpr fun l hl => ?_
    have := B.inr l hl
    simp
    omega
  simp only [m_are_bars, xrunS, xstartE, xSeq, xIf, xRet, xSetF, xSetE, xFz, xfrzE, xPre, xtPre, xAsg, xPar, xRetT, xRetV, xDrop, xNx, xBk, xCt, xNo, xFor, xI, xi2, x2, x1, xA, xN, xV, xC, xF, xD, xSc, xB, xCh, xtN, xtA, xtO, xtY, xvN, xvA, xvO, xmIf, xTup, xLst, xList, xCall, xDict, xaN, xaC, xSl, xoN, xoS, xIt, xRg1, xRg2, xEnum, xZip, xLc, xcN, xcF, xgN, xgT, xgsN, xgsC, xat0, xatS, xd1, xd2, xd3, xfz, xAdd, xSub, xLt, xLe, xGt, xGe, xix1, xix2, xlen1, xlen2, xabs, xmax, xsum, xany, xall, xisB, xisNotB, xs1, xs2, xs3, xs4, xsc1, xsc2, xb, xint, xlist, xitems1, xitems2, xkey, xisi1, xisi2, xisi3, xisi4, xisi5, xw0, xw1, xEqI, xNeI, xNeB, xIxO, xl1, xl2, xSort, xat_0, xat_1, xat_2, xk0, xk1, xk2, xk3, xk4, xk5, xk6, xk7, Int.reduceEq, Option.bind_some, Option.map_some, Option.bind_none, Option.map_none, Option.map_map, Function.comp_apply, List.map_nil, List.map_cons, List.length_cons, List.length_nil, List.nil_append, List.cons_append, List.replicate_zero, List.replicate_succ, List.set_cons_zero, List.set_cons_succ, if_true, if_false, Bool.false_eq_true, Bool.not_true, Bool.not_false, Bool.true_and, Bool.and_true, Bool.false_and, Bool.and_false, Bool.true_or, Bool.or_true, Bool.false_or, Bool.or_false, Nat.reduceAdd, Nat.reduceSub, Nat.reduceEqDiff, Nat.reduceLeDiff, Nat.reduceLT, beq_self_eq_true, Int.reduceLT, Int.reduceLE, Int.reduceAdd, Int.reduceSub, Int.reduceNeg, decide_true, decide_false, ite_self, xd4, is_within_int, List.length_map, h1]
  rw [if_pos hl, hc]
  simp only [xrunS, xstartE, xSeq, xIf, xRet, xSetF, xSetE, xFz, xfrzE, xPre, xtPre, xAsg, xPar, xRetT, xRetV, xDrop, xNx, xBk, xCt, xNo, xFor, xI, xi2, x2, x1, xA, xN, xV, xC, xF, xD, xSc, xB, xCh, xtN, xtA, xtO, xtY, xvN, xvA, xvO, xmIf, xTup, xLst, xList, xCall, xDict, xaN, xaC, xSl, xoN, xoS, xIt, xRg1, xRg2, xEnum, xZip, xLc, xcN, xcF, xgN, xgT, xgsN, xgsC, xat0, xatS, xd1, xd2, xd3, xfz, xAdd, xSub, xLt, xLe, xGt, xGe, xix1, xix2, xlen1, xlen2, xabs, xmax, xsum, xany, xall, xisB, xisNotB, xs1, xs2, xs3, xs4, xsc1, xsc2, xb, xint, xlist, xitems1, xitems2, xkey, xisi1, xisi2, xisi3, xisi4, xisi5, xw0, xw1, xEqI, xNeI, xNeB, xIxO, xl1, xl2, xSort, xat_0, xat_1, xat_2, xk0, xk1, xk2, xk3, xk4, xk5, xk6, xk7, Int.reduceEq, Option.bind_some, Option.map_some, Option.bind_none, Option.map_none, Option.map_map, Function.comp_apply, List.map_nil, List.map_cons, List.length_cons, List.length_nil, List.nil_append, List.cons_append, List.replicate_zero, List.replicate_succ, List.set_cons_zero, List.set_cons_succ, if_true, if_false, Bool.false_eq_true, Bool.not_true, Bool.not_false, Bool.true_and, Bool.and_true, Bool.false_and, Bool.and_false, Bool.true_or, Bool.or_true, Bool.false_or, Bool.or_false, Nat.reduceAdd, Nat.reduceSub, Nat.reduceEqDiff, Nat.reduceLeDiff, Nat.reduceLT, beq_self_eq_true, Int.reduceLT, Int.reduceLE, Int.reduceAdd, Int.reduceSub, Int.reduceNeg, decide_true, decide_false, ite_self, xd4, bls_fun, all_fun, ha]
theorem check_strip_ok (k : Nat) {bs : List Int} {n : Nat} (B : BarsOk bs) (hn : n ≤ 300) : sem (k+4) .check_strip [.list (bs.map PyData.int), .int (n : Nat)] = some (.f .none) := by
  rw [e_check_strip]
  have h1 : (decide ((0 : Int) ≤ (n : Nat)) && decide (((n : Nat) : Int) ≤ 300)) = true := by simp; omega
  simp only [m_check_strip, xrunS, xstartE, xSeq, xIf, xRet, xSetF, xSetE, xFz, xfrzE, xPre, xtPre, xAsg, xPar, xRetT, xRetV, xDrop, xNx, xBk, xCt, xNo, xFor, xI, xi2, x2, x1, xA, xN, xV, xC, xF, xD, xSc, xB, xCh, xtN, xtA, xtO, xtY, xvN, xvA, xvO, xmIf, xTup, xLst, xList, xCall, xDict, xaN, xaC, xSl, xoN, xoS, xIt, xRg1, xRg2, xEnum, xZip, xLc, xcN, xcF, xgN, xgT, xgsN, xgsC, xat0, xatS, xd1, xd2, xd3, xfz, xAdd, xSub, xLt, xLe, xGt, xGe, xix1, xix2, xlen1, xlen2, xabs, xmax, xsum, xany, xall, xisB, xisNotB, xs1, xs2, xs3, xs4, xsc1, xsc2, xb, xint, xlist, xitems1, xitems2, xkey, xisi1, xisi2, xisi3, xisi4, xisi5, xw0, xw1, xEqI, xNeI, xNeB, xIxO, xl1, xl2, xSort, xat_0, xat_1, xat_2, xk0, xk1, xk2, xk3, xk4, xk5, xk6, xk7, Int.reduceEq, Option.bind_some, Option.map_some, Option.bind_none, Option.map_none, Option.map_map, Function.comp_apply, List.map_nil, List.map_cons, List.length_cons, List.length_nil, List.nil_append, List.cons_append, List.replicate_zero, List.replicate_succ, List.set_cons_zero, List.set_cons_succ, if_true, if_false, Bool.false_eq_true, Bool.not_true, Bool.not_false, Bool.true_and, Bool.and_true, Bool.false_and, Bool.and_false, Bool.true_or, Bool.or_true, Bool.false_or, Bool.or_false, Nat.reduceAdd, Nat.reduceSub, Nat.reduceEqDiff, Nat.reduceLeDiff, Nat.reduceLT, beq_self_eq_true, Int.reduceLT, Int.reduceLE, Int.reduceAdd, Int.reduceSub, Int.reduceNeg, decide_true, decide_false, ite_self, xd4, is_within_int, are_bars_ok k B, h1]
theorem layings_ok (k : Nat) {bs : List Int} {n : Nat} (B : BarsOk bs) (hn : n ≤ 300) : sem (k+5) .layings [.list (bs.map PyData.int), .int (n : Nat)] = some (.f (.int (W bs n))) := by
  rw [e_layings]
  have hg : (waysL bs n)[((n : Nat) : Int).toNat]? = some (W bs n) := by rw [Int.toNat_natCast]; exact waysL_get bs (Nat.le_refl _)
  have c1 := check_strip_ok k B hn
  have c2 := layings_up_to_ok (k+2) B hn
  have c3 := atI_ints (show 0 ≤ ((n : Nat) : Int) by omega) hg
  refine run_rt rfl ?_
  unfold m_layings
  have hst : startE 2 [PyData.list (bs.map PyData.int), .int (n : Nat)] = [some (R.f (.list (bs.map PyData.int))), some (R.f (.int (n : Nat)))] := rfl
  rw [hst, seq_nx (ρ' := [some (R.f (.list (bs.map PyData.int))), some (R.f (.int (n : Nat)))])]
  · simp -implicitDefEqProofs only [xrunS, xstartE, xSeq, xIf, xRet, xSetF, xSetE, xFz, xfrzE, xPre, xtPre, xAsg, xPar, xRetT, xRetV, xDrop, xNx, xBk, xCt, xNo, xFor, xI, xi2, x2, x1, xA, xN, xV, xC, xF, xD, xSc, xB, xCh, xtN, xtA, xtO, xtY, xvN, xvA, xvO, xmIf, xTup, xLst, xList, xCall, xDict, xaN, xaC, xSl, xoN, xoS, xIt, xRg1, xRg2, xEnum, xZip, xLc, xcN, xcF, xgN, xgT, xgsN, xgsC, xat0, xatS, xd1, xd2, xd3, xfz, xAdd, xSub, xLt, xLe, xGt, xGe, xix1, xix2, xlen1, xlen2, xabs, xmax, xsum, xany, xall, xisB, xisNotB, xs1, xs2, xs3, xs4, xsc1, xsc2, xb, xint, xlist, xitems1, xitems2, xkey, xisi1, xisi2, xisi3, xisi4, xisi5, xw0, xw1, xEqI, xNeI, xNeB, xIxO, xl1, xl2, xSort, xat_0, xat_1, xat_2, xk0, xk1, xk2, xk3, xk4, xk5, xk6, xk7, Int.reduceEq, Option.bind_some, Option.map_some, Option.bind_none, Option.map_none, Option.map_map, Function.comp_apply, List.map_nil, List.map_cons, List.length_cons, List.length_nil, List.nil_append, List.cons_append, List.replicate_zero, List.replicate_succ, List.set_cons_zero, List.set_cons_succ, if_true, if_false, Bool.false_eq_true, Bool.not_true, Bool.not_false, Bool.true_and, Bool.and_true, Bool.false_and, Bool.and_false, Bool.true_or, Bool.or_true, Bool.false_or, Bool.or_false, Nat.reduceAdd, Nat.reduceSub, Nat.reduceEqDiff, Nat.reduceLeDiff, Nat.reduceLT, beq_self_eq_true, Int.reduceLT, Int.reduceLE, Int.reduceAdd, Int.reduceSub, Int.reduceNeg, decide_true, decide_false, ite_self, xd4, c2, c3]
  · simp only [xrunS, xstartE, xSeq, xIf, xRet, xSetF, xSetE, xFz, xfrzE, xPre, xtPre, xAsg, xPar, xRetT, xRetV, xDrop, xNx, xBk, xCt, xNo, xFor, xI, xi2, x2, x1, xA, xN, xV, xC, xF, xD, xSc, xB, xCh, xtN, xtA, xtO, xtY, xvN, xvA, xvO, xmIf, xTup, xLst, xList, xCall, xDict, xaN, xaC, xSl, xoN, xoS, xIt, xRg1, xRg2, xEnum, xZip, xLc, xcN, xcF, xgN, xgT, xgsN, xgsC, xat0, xatS, xd1, xd2, xd3, xfz, xAdd, xSub, xLt, xLe, xGt, xGe, xix1, xix2, xlen1, xlen2, xabs, xmax, xsum, xany, xall, xisB, xisNotB, xs1, xs2, xs3, xs4, xsc1, xsc2, xb, xint, xlist, xitems1, xitems2, xkey, xisi1, xisi2, xisi3, xisi4, xisi5, xw0, xw1, xEqI, xNeI, xNeB, xIxO, xl1, xl2, xSort, xat_0, xat_1, xat_2, xk0, xk1, xk2, xk3, xk4, xk5, xk6, xk7, Int.reduceEq, Option.bind_some, Option.map_some, Option.bind_none, Option.map_none, Option.map_map, Function.comp_apply, List.map_nil, List.map_cons, List.length_cons, List.length_nil, List.nil_append, List.cons_append, List.replicate_zero, List.replicate_succ, List.set_cons_zero, List.set_cons_succ, if_true, if_false, Bool.false_eq_true, Bool.not_true, Bool.not_false, Bool.true_and, Bool.and_true, Bool.false_and, Bool.and_false, Bool.true_or, Bool.or_true, Bool.false_or, Bool.or_false, Nat.reduceAdd, Nat.reduceSub, Nat.reduceEqDiff, Nat.reduceLeDiff, Nat.reduceLT, beq_self_eq_true, Int.reduceLT, Int.reduceLE, Int.reduceAdd, Int.reduceSub, Int.reduceNeg, decide_true, decide_false, ite_self, xd4, c1]
theorem menuT {a b c : Int} {i : Int} (h0 : 0 ≤ i) (h1 : i < 3) : ∃ t : Int, atI [PyData.int a, .int b, .int c] i = some (.int t) ∧ (t = a ∨ t = b ∨ t = c) := by
  obtain rfl | rfl | rfl : i = 0 ∨ i = 1 ∨ i = 2 := by omega
  · exact ⟨a, rfl, .inl rfl⟩
  · exact ⟨b, rfl, .inr (.inl rfl)⟩
  · exact ⟨c, rfl, .inr (.inr rfl)⟩
theorem law_bars_of_ok (k : Nat) {sc : List Int} {by' : Int} (hl : sc.length ≤ 63) (hb : ∀ i ∈ sc, Builtin.Int.intBits i ≤ 2 ^ 20) (y0 : 0 ≤ by') (y1 : by' ≤ 1000) :
    ∃ bs, BarsOk bs ∧ sem (k+2) .law_bars_of [.list (sc.map PyData.int), .int by'] = some (.ol (bs.map PyData.int)) := by
  rw [e_law_bars_of]
  obtain ⟨cs, hcs, c1, c2, c3⟩ : ∃ cs : List Int, mIf (mB (m2 (fun x y => (gNe x y).map Sc.d) (mV 0) (mD (mLst (aN))))) (mD (mSl (mN 0) (oN) (oS (mC (.int 8))))) (mD (mLst (aC (mC (.int 5)) (aN)))) [some (R.f (.list (sc.map PyData.int))), some (R.f (.int by')), none, none, none, none] = some (.list (cs.map PyData.int)) ∧ 1 ≤ cs.length ∧ cs.length ≤ 8 ∧ ∀ i ∈ cs, Builtin.Int.intBits i ≤ 2 ^ 20 := by
    cases sc with
    | nil =>
      refine ⟨[5], ?_, by simp, by simp, fun i hi => by rw [List.mem_singleton.mp hi]; decide⟩
      simp only [xrunS, xstartE, xSeq, xIf, xRet, xSetF, xSetE, xFz, xfrzE, xPre, xtPre, xAsg, xPar, xRetT, xRetV, xDrop, xNx, xBk, xCt, xNo, xFor, xI, xi2, x2, x1, xA, xN, xV, xC, xF, xD, xSc, xB, xCh, xtN, xtA, xtO, xtY, xvN, xvA, xvO, xmIf, xTup, xLst, xList, xCall, xDict, xaN, xaC, xSl, xoN, xoS, xIt, xRg1, xRg2, xEnum, xZip, xLc, xcN, xcF, xgN, xgT, xgsN, xgsC, xat0, xatS, xd1, xd2, xd3, xfz, xAdd, xSub, xLt, xLe, xGt, xGe, xix1, xix2, xlen1, xlen2, xabs, xmax, xsum, xany, xall, xisB, xisNotB, xs1, xs2, xs3, xs4, xsc1, xsc2, xb, xint, xlist, xitems1, xitems2, xkey, xisi1, xisi2, xisi3, xisi4, xisi5, xw0, xw1, xEqI, xNeI, xNeB, xIxO, xl1, xl2, xSort, xat_0, xat_1, xat_2, xk0, xk1, xk2, xk3, xk4, xk5, xk6, xk7, Int.reduceEq, Option.bind_some, Option.map_some, Option.bind_none, Option.map_none, Option.map_map, Function.comp_apply, List.map_nil, List.map_cons, List.length_cons, List.length_nil, List.nil_append, List.cons_append, List.replicate_zero, List.replicate_succ, List.set_cons_zero, List.set_cons_succ, if_true, if_false, Bool.false_eq_true, Bool.not_true, Bool.not_false, Bool.true_and, Bool.and_true, Bool.false_and, Bool.and_false, Bool.true_or, Bool.or_true, Bool.false_or, Bool.or_false, Nat.reduceAdd, Nat.reduceSub, Nat.reduceEqDiff, Nat.reduceLeDiff, Nat.reduceLT, beq_self_eq_true, Int.reduceLT, Int.reduceLE, Int.reduceAdd, Int.reduceSub, Int.reduceNeg, decide_true, decide_false, ite_self, xd4, ne_nil_ints]
      rfl
    | cons n r =>
      refine ⟨(n :: r).take 8, ?_, ?_, ?_, fun i hi => hb i (List.mem_of_mem_take hi)⟩
      · have hne := ne_nil_ints (n :: r)
        simp only [List.map_cons, List.isEmpty_cons] at hne
        simp only [xrunS, xstartE, xSeq, xIf, xRet, xSetF, xSetE, xFz, xfrzE, xPre, xtPre, xAsg, xPar, xRetT, xRetV, xDrop, xNx, xBk, xCt, xNo, xFor, xI, xi2, x2, x1, xA, xN, xV, xC, xF, xD, xSc, xB, xCh, xtN, xtA, xtO, xtY, xvN, xvA, xvO, xmIf, xTup, xLst, xList, xCall, xDict, xaN, xaC, xSl, xoN, xoS, xIt, xRg1, xRg2, xEnum, xZip, xLc, xcN, xcF, xgN, xgT, xgsN, xgsC, xat0, xatS, xd1, xd2, xd3, xfz, xAdd, xSub, xLt, xLe, xGt, xGe, xix1, xix2, xlen1, xlen2, xabs, xmax, xsum, xany, xall, xisB, xisNotB, xs1, xs2, xs3, xs4, xsc1, xsc2, xb, xint, xlist, xitems1, xitems2, xkey, xisi1, xisi2, xisi3, xisi4, xisi5, xw0, xw1, xEqI, xNeI, xNeB, xIxO, xl1, xl2, xSort, xat_0, xat_1, xat_2, xk0, xk1, xk2, xk3, xk4, xk5, xk6, xk7, Int.reduceEq, Option.bind_some, Option.map_some, Option.bind_none, Option.map_none, Option.map_map, Function.comp_apply, List.map_nil, List.map_cons, List.length_cons, List.length_nil, List.nil_append, List.cons_append, List.replicate_zero, List.replicate_succ, List.set_cons_zero, List.set_cons_succ, if_true, if_false, Bool.false_eq_true, Bool.not_true, Bool.not_false, Bool.true_and, Bool.and_true, Bool.false_and, Bool.and_false, Bool.true_or, Bool.or_true, Bool.false_or, Bool.or_false, Nat.reduceAdd, Nat.reduceSub, Nat.reduceEqDiff, Nat.reduceLeDiff, Nat.reduceLT, beq_self_eq_true, Int.reduceLT, Int.reduceLE, Int.reduceAdd, Int.reduceSub, Int.reduceNeg, decide_true, decide_false, ite_self, xd4, hne, cutD_take (show (0 : Int) ≤ 8 by decide)]
        rw [← List.map_cons (f := PyData.int), ← List.map_take]
        rfl
      · simp only [List.length_take, List.length_cons]; omega
      · simp only [List.length_take]; omega
  obtain ⟨t, ht, t3⟩ := menuT (a := 3) (b := 6) (c := 30) (Int.emod_nonneg (cs.sum + by') (by decide : (3 : Int) ≠ 0)) (Int.emod_lt_of_pos (cs.sum + by') (by decide : (0 : Int) < 3))
  have t0 : 0 < t := by omega
  have q1 : gMod (cs.sum + by') 3 = some (.int ((cs.sum + by') % 3)) := xMod (by decide)
  have hex : ∀ p ∈ cs.zipIdx 0, ∃ n : Int, sem (k+1) .law_number [.int p.1, .int ((p.2 : Nat) + by'), .int (cs.length : Nat)] = some (.f (.int n)) := fun p hp => by
    have hm := zipIdx_mem hp
    exact law_number_ok k (hb := c3 _ hm.1) (by omega) (by omega) (by omega) (by omega)
  obtain ⟨N, hN⟩ : ∃ N : Int × Nat → Int, ∀ p ∈ cs.zipIdx 0, sem (k+1) .law_number [.int p.1, .int ((p.2 : Nat) + by'), .int (cs.length : Nat)] = some (.f (.int (N p))) := by
    classical
    exact ⟨fun p => if h : p ∈ cs.zipIdx 0 then (hex p h).choose else 0, fun p hp => by
      dsimp only
      rw [dif_pos hp]
      exact (hex p hp).choose_spec⟩
  refine ⟨(cs.zipIdx 0).map fun p => 1 + N p % t, ⟨by simpa using c1, by simpa using c2, fun l hl => ?_⟩, ?_⟩
  · obtain ⟨p, hp, rfl⟩ := List.mem_map.mp hl
    have a1 := Int.emod_nonneg (N p) (show t ≠ 0 by omega)
    have a2 := Int.emod_lt_of_pos (N p) t0
    omega
  · have hc : colD (gT 2 (gsC (gN 4) (gsC (gN 5) (gsN)))) tY (mI gAdd (mC (.int 1)) (mI gMod (mD (mCall (sem (k+1) .law_number) (aC (mN 5) (aC (mI gAdd (mV 4) (mV 1)) (aC (mA (fun x => (gLen x).map Sc.d) (aC (mV 2) (aN))) (aN)))))) (mV 3))) [some (R.f (.list (sc.map PyData.int))), some (R.f (.int by')), some (R.f (.list (cs.map PyData.int))), some (R.f (.int t)), none, none] ((cs.zipIdx 0).map fun p : Int × Nat => PyData.tuple [.int (p.2 : Nat), .int p.1]) = some (((cs.zipIdx 0).map fun p => 1 + N p % t).map PyData.int) := by
      rw [List.map_map]
      refine colD_mapE fun p hp => ?_
      have hn := hN p hp
      have q2 : gMod (N p) t = some (.int (N p % t)) := xMod t0
      simp -implicitDefEqProofs only [xrunS, xstartE, xSeq, xIf, xRet, xSetF, xSetE, xFz, xfrzE, xPre, xtPre, xAsg, xPar, xRetT, xRetV, xDrop, xNx, xBk, xCt, xNo, xFor, xI, xi2, x2, x1, xA, xN, xV, xC, xF, xD, xSc, xB, xCh, xtN, xtA, xtO, xtY, xvN, xvA, xvO, xmIf, xTup, xLst, xList, xCall, xDict, xaN, xaC, xSl, xoN, xoS, xIt, xRg1, xRg2, xEnum, xZip, xLc, xcN, xcF, xgN, xgT, xgsN, xgsC, xat0, xatS, xd1, xd2, xd3, xfz, xAdd, xSub, xLt, xLe, xGt, xGe, xix1, xix2, xlen1, xlen2, xabs, xmax, xsum, xany, xall, xisB, xisNotB, xs1, xs2, xs3, xs4, xsc1, xsc2, xb, xint, xlist, xitems1, xitems2, xkey, xisi1, xisi2, xisi3, xisi4, xisi5, xw0, xw1, xEqI, xNeI, xNeB, xIxO, xl1, xl2, xSort, xat_0, xat_1, xat_2, xk0, xk1, xk2, xk3, xk4, xk5, xk6, xk7, Int.reduceEq, Option.bind_some, Option.map_some, Option.bind_none, Option.map_none, Option.map_map, Function.comp_apply, List.map_nil, List.map_cons, List.length_cons, List.length_nil, List.nil_append, List.cons_append, List.replicate_zero, List.replicate_succ, List.set_cons_zero, List.set_cons_succ, if_true, if_false, Bool.false_eq_true, Bool.not_true, Bool.not_false, Bool.true_and, Bool.and_true, Bool.false_and, Bool.and_false, Bool.true_or, Bool.or_true, Bool.false_or, Bool.or_false, Nat.reduceAdd, Nat.reduceSub, Nat.reduceEqDiff, Nat.reduceLeDiff, Nat.reduceLT, beq_self_eq_true, Int.reduceLT, Int.reduceLE, Int.reduceAdd, Int.reduceSub, Int.reduceNeg, decide_true, decide_false, ite_self, xd4, List.length_map, hn, q2]
    have hz : ((cs.zipIdx 0).map fun p : Int × Nat => PyData.tuple [.int (p.2 : Nat), .int p.1]).length ≤ 1000000 := by simp; omega
    refine run_rt rfl ?_
    unfold m_law_bars_of
    have hst : startE 6 [PyData.list (sc.map PyData.int), .int by'] = [some (R.f (.list (sc.map PyData.int))), some (R.f (.int by')), none, none, none, none] := rfl
    rw [hst, seq_nx (ρ' := [some (R.f (.list (sc.map PyData.int))), some (R.f (.int by')), some (R.f (.list (cs.map PyData.int))), none, none, none]), seq_nx (ρ' := [some (R.f (.list (sc.map PyData.int))), some (R.f (.int by')), some (R.f (.list (cs.map PyData.int))), some (R.f (.int t)), none, none])]
    · simp only [xrunS, xstartE, xSeq, xIf, xRet, xSetF, xSetE, xFz, xfrzE, xPre, xtPre, xAsg, xPar, xRetT, xRetV, xDrop, xNx, xBk, xCt, xNo, xFor, xI, xi2, x2, x1, xA, xN, xV, xC, xF, xD, xSc, xB, xCh, xtN, xtA, xtO, xtY, xvN, xvA, xvO, xmIf, xTup, xLst, xList, xCall, xDict, xaN, xaC, xSl, xoN, xoS, xIt, xRg1, xRg2, xEnum, xZip, xLc, xcN, xcF, xgN, xgT, xgsN, xgsC, xat0, xatS, xd1, xd2, xd3, xfz, xAdd, xSub, xLt, xLe, xGt, xGe, xix1, xix2, xlen1, xlen2, xabs, xmax, xsum, xany, xall, xisB, xisNotB, xs1, xs2, xs3, xs4, xsc1, xsc2, xb, xint, xlist, xitems1, xitems2, xkey, xisi1, xisi2, xisi3, xisi4, xisi5, xw0, xw1, xEqI, xNeI, xNeB, xIxO, xl1, xl2, xSort, xat_0, xat_1, xat_2, xk0, xk1, xk2, xk3, xk4, xk5, xk6, xk7, Int.reduceEq, Option.bind_some, Option.map_some, Option.bind_none, Option.map_none, Option.map_map, Function.comp_apply, List.map_nil, List.map_cons, List.length_cons, List.length_nil, List.nil_append, List.cons_append, List.replicate_zero, List.replicate_succ, List.set_cons_zero, List.set_cons_succ, if_true, if_false, Bool.false_eq_true, Bool.not_true, Bool.not_false, Bool.true_and, Bool.and_true, Bool.false_and, Bool.and_false, Bool.true_or, Bool.or_true, Bool.false_or, Bool.or_false, Nat.reduceAdd, Nat.reduceSub, Nat.reduceEqDiff, Nat.reduceLeDiff, Nat.reduceLT, beq_self_eq_true, Int.reduceLT, Int.reduceLE, Int.reduceAdd, Int.reduceSub, Int.reduceNeg, decide_true, decide_false, ite_self, xd4]
      rw [enumD_map, if_pos hz, hc]
      rfl
    · simp only [xrunS, xstartE, xSeq, xIf, xRet, xSetF, xSetE, xFz, xfrzE, xPre, xtPre, xAsg, xPar, xRetT, xRetV, xDrop, xNx, xBk, xCt, xNo, xFor, xI, xi2, x2, x1, xA, xN, xV, xC, xF, xD, xSc, xB, xCh, xtN, xtA, xtO, xtY, xvN, xvA, xvO, xmIf, xTup, xLst, xList, xCall, xDict, xaN, xaC, xSl, xoN, xoS, xIt, xRg1, xRg2, xEnum, xZip, xLc, xcN, xcF, xgN, xgT, xgsN, xgsC, xat0, xatS, xd1, xd2, xd3, xfz, xAdd, xSub, xLt, xLe, xGt, xGe, xix1, xix2, xlen1, xlen2, xabs, xmax, xsum, xany, xall, xisB, xisNotB, xs1, xs2, xs3, xs4, xsc1, xsc2, xb, xint, xlist, xitems1, xitems2, xkey, xisi1, xisi2, xisi3, xisi4, xisi5, xw0, xw1, xEqI, xNeI, xNeB, xIxO, xl1, xl2, xSort, xat_0, xat_1, xat_2, xk0, xk1, xk2, xk3, xk4, xk5, xk6, xk7, Int.reduceEq, Option.bind_some, Option.map_some, Option.bind_none, Option.map_none, Option.map_map, Function.comp_apply, List.map_nil, List.map_cons, List.length_cons, List.length_nil, List.nil_append, List.cons_append, List.replicate_zero, List.replicate_succ, List.set_cons_zero, List.set_cons_succ, if_true, if_false, Bool.false_eq_true, Bool.not_true, Bool.not_false, Bool.true_and, Bool.and_true, Bool.false_and, Bool.and_false, Bool.true_or, Bool.or_true, Bool.false_or, Bool.or_false, Nat.reduceAdd, Nat.reduceSub, Nat.reduceEqDiff, Nat.reduceLeDiff, Nat.reduceLT, beq_self_eq_true, Int.reduceLT, Int.reduceLE, Int.reduceAdd, Int.reduceSub, Int.reduceNeg, decide_true, decide_false, ite_self, xd4, ints?_map, q1, ht]
    · rw [xSetF, hcs]
      rfl
end K18

namespace K18
open PySem PySem.Spec PyProof.Rows L2 Vs
def lyN (bs : List Int) : Nat → Int → List (List Int)
  | 0, n => if n = 0 then [[]] else []
  | f + 1, n => if n = 0 then [[]] else (bs.zipIdx 0).flatMap fun p => if p.1 ≤ n then (lyN bs f (n - p.1)).map (((p.2 : Nat) : Int) :: ·) else []
theorem lyN_neg {bs : List Int} (B : ∀ l ∈ bs, 1 ≤ l) {n : Int} (h : n < 0) : ∀ f, lyN bs f n = []
  | 0 => by rw [lyN, if_neg (by omega)]
  | f + 1 => by
    rw [lyN, if_neg (by omega), List.flatMap_eq_nil_iff]
    intro p hp
    have := B p.1 (by
      obtain ⟨i, hi, he⟩ := List.mem_iff_getElem.mp hp
      rw [List.getElem_zipIdx] at he
      rw [← he]
      exact List.getElem_mem _)
    rw [if_neg (by omega)]
theorem zipI_mem {bs : List Int} {p : Int × Nat} (h : p ∈ bs.zipIdx 0) : bs[p.2]? = some p.1 := by
  obtain ⟨i, hi, he⟩ := List.mem_iff_getElem.mp h
  rw [List.getElem_zipIdx] at he
  rw [← he]
  simp only [List.length_zipIdx] at hi
  rw [Nat.zero_add, List.getElem?_eq_getElem hi]
theorem zipI_fst {bs : List Int} {p : Int × Nat} (h : p ∈ bs.zipIdx 0) : p.1 ∈ bs := List.mem_of_getElem? (zipI_mem h)
theorem sum_len {α : Type} (F : α → List (List Int)) (g : α → Int) : ∀ l : List α, (∀ x ∈ l, ((F x).length : Int) = g x) → ((l.flatMap F).length : Int) = (l.map g).sum
  | [], _ => rfl
  | a :: r, h => by
    rw [List.flatMap_cons, List.length_append, List.map_cons, List.sum_cons, ← h a List.mem_cons_self, ← sum_len F g r fun x hx => h x (List.mem_cons_of_mem _ hx)]
    omega
theorem zipI_map {bs : List Int} {g : Int → Int} (i : Nat) : ((bs.zipIdx i).map fun p => g p.1) = bs.map g := by
  induction bs generalizing i with
  | nil => rfl
  | cons a r ih => rw [List.zipIdx_cons, List.map_cons, List.map_cons, ih]
theorem lyN_len {bs : List Int} (B : ∀ l ∈ bs, 1 ≤ l) : ∀ (f : Nat) (n : Int), n ≤ f → ((lyN bs f n).length : Int) = Wz bs n
  | 0, n, h => by
    rw [lyN]
    by_cases e : n = 0
    · rw [if_pos e, e, Wz_zero]; rfl
    · rw [if_neg e, Wz_neg (by omega)]; rfl
  | f + 1, n, h => by
    by_cases e : n = 0
    · rw [lyN, if_pos e, e, Wz_zero]; rfl
    · by_cases e2 : n < 0
      · rw [lyN_neg B e2, Wz_neg e2]; rfl
      · rw [lyN, if_neg e, Wz_rec B (by omega), sum_len _ (fun p => Wz bs (n - p.1)), zipI_map (g := fun l => Wz bs (n - l))]
        intro p hp
        have := B p.1 (zipI_fst hp)
        by_cases e3 : p.1 ≤ n
        · rw [if_pos e3, List.length_map, lyN_len B f (n - p.1) (by omega)]
        · rw [if_neg e3, Wz_neg (by omega)]; rfl
def IsLay (bs : List Int) : Int → List Int → Prop
  | n, [] => n = 0
  | n, j :: js => ∃ l, 0 ≤ j ∧ bs[j.toNat]? = some l ∧ l ≤ n ∧ IsLay bs (n - l) js
theorem mem_zipI {bs : List Int} {l : Int} {i : Nat} (h : bs[i]? = some l) : (l, i) ∈ bs.zipIdx 0 := by
  obtain ⟨hi, he⟩ := List.getElem?_eq_some_iff.mp h
  refine List.mem_iff_getElem.mpr ⟨i, by rw [List.length_zipIdx]; exact hi, ?_⟩
  rw [List.getElem_zipIdx, he, Nat.zero_add]
theorem mem_lyN {bs : List Int} (B : ∀ l ∈ bs, 1 ≤ l) : ∀ (f : Nat) (n : Int), n ≤ f → ∀ js : List Int, js ∈ lyN bs f n ↔ IsLay bs n js
  | 0, n, h, js => by
    rw [lyN]
    cases js with
    | nil =>
      unfold IsLay
      by_cases e : n = 0 <;> simp [e]
    | cons j js =>
      unfold IsLay
      constructor
      · intro q
        split at q <;> simp at q
      · rintro ⟨l, _, h1, h2, _⟩
        have := B l (List.mem_of_getElem? h1)
        omega
  | f + 1, n, h, js => by
    by_cases e : n = 0
    · rw [lyN, if_pos e]
      cases js with
      | nil => unfold IsLay; simp [e]
      | cons j js =>
        unfold IsLay
        constructor
        · intro q; simp at q
        · rintro ⟨l, _, h1, h2, _⟩
          have := B l (List.mem_of_getElem? h1)
          omega
    · rw [lyN, if_neg e, List.mem_flatMap]
      cases js with
      | nil =>
        unfold IsLay
        constructor
        · rintro ⟨p, hp, q⟩
          split at q
          · simp at q
          · simp at q
        · intro z; exact absurd z e
      | cons j js =>
        unfold IsLay
        constructor
        · rintro ⟨p, hp, q⟩
          split at q
          · rename_i hle
            obtain ⟨x, hx, e1⟩ := List.mem_map.mp q
            injection e1 with e1 e2
            subst e1 e2
            have := B p.1 (zipI_fst hp)
            refine ⟨p.1, by omega, by rw [Int.toNat_natCast]; exact zipI_mem hp, hle, ?_⟩
            exact (mem_lyN B f (n - p.1) (by omega) x).mp hx
          · simp at q
        · rintro ⟨l, j0, h1, h2, h3⟩
          have := B l (List.mem_of_getElem? h1)
          refine ⟨(l, j.toNat), mem_zipI h1, ?_⟩
          dsimp only
          rw [if_pos h2]
          refine List.mem_map.mpr ⟨js, (mem_lyN B f (n - l) (by omega) js).mpr h3, ?_⟩
          rw [show ((j.toNat : Nat) : Int) = j by omega]
theorem lex_flat {α : Type} {F : α → List (List Int)} : ∀ {l : List α}, (∀ x ∈ l, (F x).Pairwise fun a b => HT.lexLt a b = true) → l.Pairwise (fun x y => ∀ a ∈ F x, ∀ b ∈ F y, HT.lexLt a b = true) → (l.flatMap F).Pairwise fun a b => HT.lexLt a b = true
  | [], _, _ => .nil
  | x :: r, h, q => by
    have q := List.pairwise_cons.mp q
    rw [List.flatMap_cons]
    refine List.pairwise_append.mpr ⟨h x List.mem_cons_self, lex_flat (fun y hy => h y (List.mem_cons_of_mem _ hy)) q.2, fun a ha b hb => ?_⟩
    obtain ⟨y, hy, hb⟩ := List.mem_flatMap.mp hb
    exact q.1 y hy a ha b hb
theorem lyN_lex {bs : List Int} : ∀ (f : Nat) (n : Int), (lyN bs f n).Pairwise fun a b => HT.lexLt a b = true
  | 0, n => by rw [lyN]; split <;> simp
  | f + 1, n => by
    rw [lyN]
    split
    · simp
    · refine lex_flat (fun p hp => ?_) ?_
      · split
        · rw [List.pairwise_map]
          refine (lyN_lex f _).imp fun h => ?_
          rw [HT.lexLt_cons, if_pos rfl]
          exact h
        · exact .nil
      · rw [List.pairwise_iff_getElem]
        intro i j hi hj hij a ha b hb
        rw [List.getElem_zipIdx] at ha hb
        dsimp only at ha hb
        split at ha
        · split at hb
          · obtain ⟨x, _, rfl⟩ := List.mem_map.mp ha
            obtain ⟨y, _, rfl⟩ := List.mem_map.mp hb
            rw [HT.lexLt_cons, if_neg (by omega)]
            exact decide_eq_true (by omega)
          · simp at hb
        · simp at ha
end K18

namespace K18
open PySem PySem.Spec PyProof.Rows L2 Vs
def lyF (bs : List Int) (f : Nat) (r : Int) (p : Int × Nat) : List (List Int) := if p.1 ≤ r then (lyN bs f (r - p.1)).map (((p.2 : Nat) : Int) :: ·) else []
theorem lyF_len {bs : List Int} (B : ∀ l ∈ bs, 1 ≤ l) {f : Nat} {r : Int} (h : r ≤ f + 1) {p : Int × Nat} (hp : p ∈ bs.zipIdx 0) : ((lyF bs f r p).length : Int) = Wz bs (r - p.1) := by
  have := B p.1 (zipI_fst hp)
  unfold lyF
  by_cases e3 : p.1 ≤ r
  · rw [if_pos e3, List.length_map, lyN_len B f (r - p.1) (by omega)]
  · rw [if_neg e3, Wz_neg (by omega)]; rfl
structure JL (bs ws : List Int) (ρ : En) : Prop where
  len : ρ.length = 9
  h0 : at' ρ 0 = some (R.f (.list (bs.map PyData.int)))
  h3 : at' ρ 3 = some (R.f (.list (ws.map PyData.int)))
theorem JL.set {bs ws : List Int} {ρ : En} (J : JL bs ws ρ) {i : Nat} (hi : 4 ≤ i) (o : Option R) : JL bs ws (ρ.set i o) := by
  have e : ∀ j, j < 4 → at' (ρ.set i o) j = at' ρ j := fun j hj => by rw [at_set, if_neg (by omega)]
  exact ⟨by rw [List.length_set]; exact J.len, by rw [e 0 (by decide)]; exact J.h0, by rw [e 3 (by decide)]; exact J.h3⟩
abbrev lyIn : MS := (sSeq (sAug 5 gSub (m2 gIx (mV 7) (mV 8))) (sAug 8 gAdd (mC (.int 1))))
theorem laying_inner {bs ws : List Int} {F : Int × Nat → List (List Int)} {zs0 : List (Int × Nat)} {m4 : Option R} {m6 : Option R} : ∀ (zs pre : List (Int × Nat)) (a : Nat) (k : Nat) (ρ : En), zs0 = pre ++ zs → a < (zs.flatMap F).length → zs.length < k → JL bs ws ρ → at' ρ 4 = m4 → at' ρ 6 = m6 → at' ρ 7 = some (R.f (.list ((zs0.map fun x => ((F x).length : Int)).map PyData.int))) → at' ρ 5 = some (R.f (.int (a : Nat))) → at' ρ 8 = some (R.f (.int (pre.length : Nat))) →
    ∃ ρ' x j i, loopW (mB (mI gGe (mV 5) (m2 gIx (mV 7) (mV 8)))) lyIn k ρ = some (.nx ρ') ∧ zs0[i]? = some x ∧ j < (F x).length ∧ (zs.flatMap F)[a]? = (F x)[j]? ∧ JL bs ws ρ' ∧ at' ρ' 4 = m4 ∧ at' ρ' 6 = m6 ∧ at' ρ' 5 = some (R.f (.int (j : Nat))) ∧ at' ρ' 8 = some (R.f (.int (i : Nat)))
  | [], pre, a, k, ρ, e, h, _, _, _, _, _, _, _ => by simp at h
  | x :: zs, pre, a, k, ρ, e, h, hk, J, h4, h6, h7, h5, h8 => by
    have hx : zs0[pre.length]? = some x := by rw [e, List.getElem?_append_right (Nat.le_refl _), Nat.sub_self]; rfl
    have hg : atI ((zs0.map fun x => ((F x).length : Int)).map PyData.int) ((pre.length : Nat) : Int) = some (.int ((F x).length : Nat)) := atI_ints (by omega) (by rw [Int.toNat_natCast, List.getElem?_map, hx]; rfl)
    have hl := J.len
    rw [List.length_cons] at hk
    obtain ⟨k, rfl⟩ : ∃ k', k = k' + 1 := ⟨k - 1, by omega⟩
    rw [List.flatMap_cons] at h ⊢
    have ht : (mB (mI gGe (mV 5) (m2 gIx (mV 7) (mV 8)))) ρ = some (decide (((F x).length : Int) ≤ (a : Nat))) := by
      simp only [xrunS, xstartE, xSeq, xIf, xRet, xSetF, xSetE, xFz, xfrzE, xPre, xtPre, xAsg, xPar, xRetT, xRetV, xDrop, xNx, xBk, xCt, xNo, xFor, xI, xi2, x2, x1, xA, xN, xV, xC, xF, xD, xSc, xB, xCh, xtN, xtA, xtO, xtY, xvN, xvA, xvO, xmIf, xTup, xLst, xList, xCall, xDict, xaN, xaC, xSl, xoN, xoS, xIt, xRg1, xRg2, xEnum, xZip, xLc, xcN, xcF, xgN, xgT, xgsN, xgsC, xat0, xatS, xd1, xd2, xd3, xfz, xAdd, xSub, xLt, xLe, xGt, xGe, xix1, xix2, xlen1, xlen2, xabs, xmax, xsum, xany, xall, xisB, xisNotB, xs1, xs2, xs3, xs4, xsc1, xsc2, xb, xint, xlist, xitems1, xitems2, xkey, xisi1, xisi2, xisi3, xisi4, xisi5, xw0, xw1, xEqI, xNeI, xNeB, xIxO, xl1, xl2, xSort, xat_0, xat_1, xat_2, xk0, xk1, xk2, xk3, xk4, xk5, xk6, xk7, Int.reduceEq, Option.bind_some, Option.map_some, Option.bind_none, Option.map_none, Option.map_map, Function.comp_apply, List.map_nil, List.map_cons, List.length_cons, List.length_nil, List.nil_append, List.cons_append, List.replicate_zero, List.replicate_succ, if_true, if_false, Bool.false_eq_true, Bool.not_true, Bool.not_false, Bool.true_and, Bool.and_true, Bool.false_and, Bool.and_false, Bool.true_or, Bool.or_true, Bool.false_or, Bool.or_false, Nat.reduceAdd, Nat.reduceSub, Nat.reduceEqDiff, Nat.reduceLeDiff, Nat.reduceLT, beq_self_eq_true, Int.reduceLT, Int.reduceLE, Int.reduceAdd, Int.reduceSub, Int.reduceNeg, decide_true, decide_false, ite_self, xd4, at_set, List.length_set, xCallB, xAug, free_ints, free_int, free_bool, free_dn, h5, h7, h8, hg]
      try rfl
    by_cases ha : a < (F x).length
    · refine ⟨ρ, x, a, pre.length, loopW_end (by rw [ht, decide_eq_false (by omega)]), hx, ha, List.getElem?_append_left ha, J, h4, h6, h5, h8⟩
    · rw [List.length_append] at h
      have s1 : (sAug 5 gSub (m2 gIx (mV 7) (mV 8)) : MS) ρ = some (.nx (ρ.set 5 (some (R.f (.int ((a - (F x).length : Nat) : Int)))))) := by
        simp only [xrunS, xstartE, xSeq, xIf, xRet, xSetF, xSetE, xFz, xfrzE, xPre, xtPre, xAsg, xPar, xRetT, xRetV, xDrop, xNx, xBk, xCt, xNo, xFor, xI, xi2, x2, x1, xA, xN, xV, xC, xF, xD, xSc, xB, xCh, xtN, xtA, xtO, xtY, xvN, xvA, xvO, xmIf, xTup, xLst, xList, xCall, xDict, xaN, xaC, xSl, xoN, xoS, xIt, xRg1, xRg2, xEnum, xZip, xLc, xcN, xcF, xgN, xgT, xgsN, xgsC, xat0, xatS, xd1, xd2, xd3, xfz, xAdd, xSub, xLt, xLe, xGt, xGe, xix1, xix2, xlen1, xlen2, xabs, xmax, xsum, xany, xall, xisB, xisNotB, xs1, xs2, xs3, xs4, xsc1, xsc2, xb, xint, xlist, xitems1, xitems2, xkey, xisi1, xisi2, xisi3, xisi4, xisi5, xw0, xw1, xEqI, xNeI, xNeB, xIxO, xl1, xl2, xSort, xat_0, xat_1, xat_2, xk0, xk1, xk2, xk3, xk4, xk5, xk6, xk7, Int.reduceEq, Option.bind_some, Option.map_some, Option.bind_none, Option.map_none, Option.map_map, Function.comp_apply, List.map_nil, List.map_cons, List.length_cons, List.length_nil, List.nil_append, List.cons_append, List.replicate_zero, List.replicate_succ, if_true, if_false, Bool.false_eq_true, Bool.not_true, Bool.not_false, Bool.true_and, Bool.and_true, Bool.false_and, Bool.and_false, Bool.true_or, Bool.or_true, Bool.false_or, Bool.or_false, Nat.reduceAdd, Nat.reduceSub, Nat.reduceEqDiff, Nat.reduceLeDiff, Nat.reduceLT, beq_self_eq_true, Int.reduceLT, Int.reduceLE, Int.reduceAdd, Int.reduceSub, Int.reduceNeg, decide_true, decide_false, ite_self, xd4, at_set, List.length_set, xCallB, xAug, free_ints, free_int, free_bool, free_dn, h5, h7, h8, hg]
        rw [show ((a : Nat) : Int) - ((F x).length : Nat) = ((a - (F x).length : Nat) : Int) by omega]
      have s2 : (sAug 8 gAdd (mC (.int 1)) : MS) (ρ.set 5 (some (R.f (.int ((a - (F x).length : Nat) : Int))))) = some (.nx ((ρ.set 5 (some (R.f (.int ((a - (F x).length : Nat) : Int))))).set 8 (some (R.f (.int ((pre ++ [x]).length : Nat)))))) := by
        simp only [xrunS, xstartE, xSeq, xIf, xRet, xSetF, xSetE, xFz, xfrzE, xPre, xtPre, xAsg, xPar, xRetT, xRetV, xDrop, xNx, xBk, xCt, xNo, xFor, xI, xi2, x2, x1, xA, xN, xV, xC, xF, xD, xSc, xB, xCh, xtN, xtA, xtO, xtY, xvN, xvA, xvO, xmIf, xTup, xLst, xList, xCall, xDict, xaN, xaC, xSl, xoN, xoS, xIt, xRg1, xRg2, xEnum, xZip, xLc, xcN, xcF, xgN, xgT, xgsN, xgsC, xat0, xatS, xd1, xd2, xd3, xfz, xAdd, xSub, xLt, xLe, xGt, xGe, xix1, xix2, xlen1, xlen2, xabs, xmax, xsum, xany, xall, xisB, xisNotB, xs1, xs2, xs3, xs4, xsc1, xsc2, xb, xint, xlist, xitems1, xitems2, xkey, xisi1, xisi2, xisi3, xisi4, xisi5, xw0, xw1, xEqI, xNeI, xNeB, xIxO, xl1, xl2, xSort, xat_0, xat_1, xat_2, xk0, xk1, xk2, xk3, xk4, xk5, xk6, xk7, Int.reduceEq, Option.bind_some, Option.map_some, Option.bind_none, Option.map_none, Option.map_map, Function.comp_apply, List.map_nil, List.map_cons, List.length_cons, List.length_nil, List.nil_append, List.cons_append, List.replicate_zero, List.replicate_succ, if_true, if_false, Bool.false_eq_true, Bool.not_true, Bool.not_false, Bool.true_and, Bool.and_true, Bool.false_and, Bool.and_false, Bool.true_or, Bool.or_true, Bool.false_or, Bool.or_false, Nat.reduceAdd, Nat.reduceSub, Nat.reduceEqDiff, Nat.reduceLeDiff, Nat.reduceLT, beq_self_eq_true, Int.reduceLT, Int.reduceLE, Int.reduceAdd, Int.reduceSub, Int.reduceNeg, decide_true, decide_false, ite_self, xd4, at_set, List.length_set, xCallB, xAug, free_ints, free_int, free_bool, free_dn, h8]
        rw [List.length_append, List.length_singleton]
        rfl
      have hb : lyIn ρ = some (.nx ((ρ.set 5 (some (R.f (.int ((a - (F x).length : Nat) : Int))))).set 8 (some (R.f (.int ((pre ++ [x]).length : Nat)))))) := by
        unfold lyIn
        rw [seq_nx s1, s2]
      obtain ⟨ρ', y, j, i, r1, r2, r3, r4, r5, r6, r7, r8, r9⟩ := laying_inner (F := F) (zs0 := zs0) (m4 := m4) (m6 := m6) zs (pre ++ [x]) (a - (F x).length) k ((ρ.set 5 (some (R.f (.int ((a - (F x).length : Nat) : Int))))).set 8 (some (R.f (.int ((pre ++ [x]).length : Nat))))) (by rw [e]; simp) (by omega) (by omega) ((J.set (by decide) _).set (by decide) _) (by simp only [xrunS, xstartE, xSeq, xIf, xRet, xSetF, xSetE, xFz, xfrzE, xPre, xtPre, xAsg, xPar, xRetT, xRetV, xDrop, xNx, xBk, xCt, xNo, xFor, xI, xi2, x2, x1, xA, xN, xV, xC, xF, xD, xSc, xB, xCh, xtN, xtA, xtO, xtY, xvN, xvA, xvO, xmIf, xTup, xLst, xList, xCall, xDict, xaN, xaC, xSl, xoN, xoS, xIt, xRg1, xRg2, xEnum, xZip, xLc, xcN, xcF, xgN, xgT, xgsN, xgsC, xat0, xatS, xd1, xd2, xd3, xfz, xAdd, xSub, xLt, xLe, xGt, xGe, xix1, xix2, xlen1, xlen2, xabs, xmax, xsum, xany, xall, xisB, xisNotB, xs1, xs2, xs3, xs4, xsc1, xsc2, xb, xint, xlist, xitems1, xitems2, xkey, xisi1, xisi2, xisi3, xisi4, xisi5, xw0, xw1, xEqI, xNeI, xNeB, xIxO, xl1, xl2, xSort, xat_0, xat_1, xat_2, xk0, xk1, xk2, xk3, xk4, xk5, xk6, xk7, Int.reduceEq, Option.bind_some, Option.map_some, Option.bind_none, Option.map_none, Option.map_map, Function.comp_apply, List.map_nil, List.map_cons, List.length_cons, List.length_nil, List.nil_append, List.cons_append, List.replicate_zero, List.replicate_succ, if_true, if_false, Bool.false_eq_true, Bool.not_true, Bool.not_false, Bool.true_and, Bool.and_true, Bool.false_and, Bool.and_false, Bool.true_or, Bool.or_true, Bool.false_or, Bool.or_false, Nat.reduceAdd, Nat.reduceSub, Nat.reduceEqDiff, Nat.reduceLeDiff, Nat.reduceLT, beq_self_eq_true, Int.reduceLT, Int.reduceLE, Int.reduceAdd, Int.reduceSub, Int.reduceNeg, decide_true, decide_false, ite_self, xd4, at_set, List.length_set, xCallB, xAug, free_ints, free_int, free_bool, free_dn, h4]) (by simp only [xrunS, xstartE, xSeq, xIf, xRet, xSetF, xSetE, xFz, xfrzE, xPre, xtPre, xAsg, xPar, xRetT, xRetV, xDrop, xNx, xBk, xCt, xNo, xFor, xI, xi2, x2, x1, xA, xN, xV, xC, xF, xD, xSc, xB, xCh, xtN, xtA, xtO, xtY, xvN, xvA, xvO, xmIf, xTup, xLst, xList, xCall, xDict, xaN, xaC, xSl, xoN, xoS, xIt, xRg1, xRg2, xEnum, xZip, xLc, xcN, xcF, xgN, xgT, xgsN, xgsC, xat0, xatS, xd1, xd2, xd3, xfz, xAdd, xSub, xLt, xLe, xGt, xGe, xix1, xix2, xlen1, xlen2, xabs, xmax, xsum, xany, xall, xisB, xisNotB, xs1, xs2, xs3, xs4, xsc1, xsc2, xb, xint, xlist, xitems1, xitems2, xkey, xisi1, xisi2, xisi3, xisi4, xisi5, xw0, xw1, xEqI, xNeI, xNeB, xIxO, xl1, xl2, xSort, xat_0, xat_1, xat_2, xk0, xk1, xk2, xk3, xk4, xk5, xk6, xk7, Int.reduceEq, Option.bind_some, Option.map_some, Option.bind_none, Option.map_none, Option.map_map, Function.comp_apply, List.map_nil, List.map_cons, List.length_cons, List.length_nil, List.nil_append, List.cons_append, List.replicate_zero, List.replicate_succ, if_true, if_false, Bool.false_eq_true, Bool.not_true, Bool.not_false, Bool.true_and, Bool.and_true, Bool.false_and, Bool.and_false, Bool.true_or, Bool.or_true, Bool.false_or, Bool.or_false, Nat.reduceAdd, Nat.reduceSub, Nat.reduceEqDiff, Nat.reduceLeDiff, Nat.reduceLT, beq_self_eq_true, Int.reduceLT, Int.reduceLE, Int.reduceAdd, Int.reduceSub, Int.reduceNeg, decide_true, decide_false, ite_self, xd4, at_set, List.length_set, xCallB, xAug, free_ints, free_int, free_bool, free_dn, h6]) (by simp only [xrunS, xstartE, xSeq, xIf, xRet, xSetF, xSetE, xFz, xfrzE, xPre, xtPre, xAsg, xPar, xRetT, xRetV, xDrop, xNx, xBk, xCt, xNo, xFor, xI, xi2, x2, x1, xA, xN, xV, xC, xF, xD, xSc, xB, xCh, xtN, xtA, xtO, xtY, xvN, xvA, xvO, xmIf, xTup, xLst, xList, xCall, xDict, xaN, xaC, xSl, xoN, xoS, xIt, xRg1, xRg2, xEnum, xZip, xLc, xcN, xcF, xgN, xgT, xgsN, xgsC, xat0, xatS, xd1, xd2, xd3, xfz, xAdd, xSub, xLt, xLe, xGt, xGe, xix1, xix2, xlen1, xlen2, xabs, xmax, xsum, xany, xall, xisB, xisNotB, xs1, xs2, xs3, xs4, xsc1, xsc2, xb, xint, xlist, xitems1, xitems2, xkey, xisi1, xisi2, xisi3, xisi4, xisi5, xw0, xw1, xEqI, xNeI, xNeB, xIxO, xl1, xl2, xSort, xat_0, xat_1, xat_2, xk0, xk1, xk2, xk3, xk4, xk5, xk6, xk7, Int.reduceEq, Option.bind_some, Option.map_some, Option.bind_none, Option.map_none, Option.map_map, Function.comp_apply, List.map_nil, List.map_cons, List.length_cons, List.length_nil, List.nil_append, List.cons_append, List.replicate_zero, List.replicate_succ, if_true, if_false, Bool.false_eq_true, Bool.not_true, Bool.not_false, Bool.true_and, Bool.and_true, Bool.false_and, Bool.and_false, Bool.true_or, Bool.or_true, Bool.false_or, Bool.or_false, Nat.reduceAdd, Nat.reduceSub, Nat.reduceEqDiff, Nat.reduceLeDiff, Nat.reduceLT, beq_self_eq_true, Int.reduceLT, Int.reduceLE, Int.reduceAdd, Int.reduceSub, Int.reduceNeg, decide_true, decide_false, ite_self, xd4, at_set, List.length_set, xCallB, xAug, free_ints, free_int, free_bool, free_dn, h7]) (by simp only [xrunS, xstartE, xSeq, xIf, xRet, xSetF, xSetE, xFz, xfrzE, xPre, xtPre, xAsg, xPar, xRetT, xRetV, xDrop, xNx, xBk, xCt, xNo, xFor, xI, xi2, x2, x1, xA, xN, xV, xC, xF, xD, xSc, xB, xCh, xtN, xtA, xtO, xtY, xvN, xvA, xvO, xmIf, xTup, xLst, xList, xCall, xDict, xaN, xaC, xSl, xoN, xoS, xIt, xRg1, xRg2, xEnum, xZip, xLc, xcN, xcF, xgN, xgT, xgsN, xgsC, xat0, xatS, xd1, xd2, xd3, xfz, xAdd, xSub, xLt, xLe, xGt, xGe, xix1, xix2, xlen1, xlen2, xabs, xmax, xsum, xany, xall, xisB, xisNotB, xs1, xs2, xs3, xs4, xsc1, xsc2, xb, xint, xlist, xitems1, xitems2, xkey, xisi1, xisi2, xisi3, xisi4, xisi5, xw0, xw1, xEqI, xNeI, xNeB, xIxO, xl1, xl2, xSort, xat_0, xat_1, xat_2, xk0, xk1, xk2, xk3, xk4, xk5, xk6, xk7, Int.reduceEq, Option.bind_some, Option.map_some, Option.bind_none, Option.map_none, Option.map_map, Function.comp_apply, List.map_nil, List.map_cons, List.length_cons, List.length_nil, List.nil_append, List.cons_append, List.replicate_zero, List.replicate_succ, if_true, if_false, Bool.false_eq_true, Bool.not_true, Bool.not_false, Bool.true_and, Bool.and_true, Bool.false_and, Bool.and_false, Bool.true_or, Bool.or_true, Bool.false_or, Bool.or_false, Nat.reduceAdd, Nat.reduceSub, Nat.reduceEqDiff, Nat.reduceLeDiff, Nat.reduceLT, beq_self_eq_true, Int.reduceLT, Int.reduceLE, Int.reduceAdd, Int.reduceSub, Int.reduceNeg, decide_true, decide_false, ite_self, xd4, at_set, List.length_set, xCallB, xAug, free_ints, free_int, free_bool, free_dn, hl]) (by simp only [xrunS, xstartE, xSeq, xIf, xRet, xSetF, xSetE, xFz, xfrzE, xPre, xtPre, xAsg, xPar, xRetT, xRetV, xDrop, xNx, xBk, xCt, xNo, xFor, xI, xi2, x2, x1, xA, xN, xV, xC, xF, xD, xSc, xB, xCh, xtN, xtA, xtO, xtY, xvN, xvA, xvO, xmIf, xTup, xLst, xList, xCall, xDict, xaN, xaC, xSl, xoN, xoS, xIt, xRg1, xRg2, xEnum, xZip, xLc, xcN, xcF, xgN, xgT, xgsN, xgsC, xat0, xatS, xd1, xd2, xd3, xfz, xAdd, xSub, xLt, xLe, xGt, xGe, xix1, xix2, xlen1, xlen2, xabs, xmax, xsum, xany, xall, xisB, xisNotB, xs1, xs2, xs3, xs4, xsc1, xsc2, xb, xint, xlist, xitems1, xitems2, xkey, xisi1, xisi2, xisi3, xisi4, xisi5, xw0, xw1, xEqI, xNeI, xNeB, xIxO, xl1, xl2, xSort, xat_0, xat_1, xat_2, xk0, xk1, xk2, xk3, xk4, xk5, xk6, xk7, Int.reduceEq, Option.bind_some, Option.map_some, Option.bind_none, Option.map_none, Option.map_map, Function.comp_apply, List.map_nil, List.map_cons, List.length_cons, List.length_nil, List.nil_append, List.cons_append, List.replicate_zero, List.replicate_succ, if_true, if_false, Bool.false_eq_true, Bool.not_true, Bool.not_false, Bool.true_and, Bool.and_true, Bool.false_and, Bool.and_false, Bool.true_or, Bool.or_true, Bool.false_or, Bool.or_false, Nat.reduceAdd, Nat.reduceSub, Nat.reduceEqDiff, Nat.reduceLeDiff, Nat.reduceLT, beq_self_eq_true, Int.reduceLT, Int.reduceLE, Int.reduceAdd, Int.reduceSub, Int.reduceNeg, decide_true, decide_false, ite_self, xd4, at_set, List.length_set, xCallB, xAug, free_ints, free_int, free_bool, free_dn, hl])
      refine ⟨ρ', y, j, i, ?_, r2, r3, ?_, r5, r6, r7, r8, r9⟩
      · rw [loopW_go (by rw [ht, decide_eq_true (by omega)]) hb]
        exact r1
      · rw [List.getElem?_append_right (by omega)]
        exact r4
abbrev lyOut (k : Nat) : MS := (sSeq (sSetF 7 (mD (mCall (sem k .begun_with) (aC (mN 0) (aC (mN 3) (aC (mN 6) (aN)))))))
    (sSeq (sSetF 8 (mC (.int 0)))
    (sSeq (loopW (mB (mI gGe (mV 5) (m2 gIx (mV 7) (mV 8)))) lyIn 1000000)
    (sSeq (sApp 4 (mN 8))
    (sAug 6 gSub (m2 gIx (mV 0) (mV 8)))))))
theorem laying_outer (q : Nat) {bs : List Int} (B : BarsOk bs) {n : Nat} (hn : n ≤ 300) : ∀ (f : Nat) (r : Int) (a : Nat) (acc : List Int) (k : Nat) (ρ : En), 0 ≤ r → r ≤ f → r ≤ n → acc.length + f ≤ 1000 → a < (lyN bs f r).length → f < k → JL bs (waysL bs n) ρ → at' ρ 4 = some (R.ol (acc.map PyData.int)) → at' ρ 5 = some (R.f (.int (a : Nat))) → at' ρ 6 = some (R.f (.int r)) →
    ∃ ρ' js, loopW (mB (mI gGt (mV 6) (mC (.int 0)))) (lyOut (q+1)) k ρ = some (.nx ρ') ∧ (lyN bs f r)[a]? = some js ∧ at' ρ' 4 = some (R.ol ((acc ++ js).map PyData.int)) := by
  intro f
  have B1 : ∀ l ∈ bs, 1 ≤ l := fun l hl => (B.inr l hl).1
  induction f with
  | zero =>
    intro r a acc k ρ r0 r1 r2 ha h hk J h4 h5 h6
    have e : r = 0 := by omega
    subst e
    obtain ⟨k, rfl⟩ : ∃ k', k = k' + 1 := ⟨k - 1, by omega⟩
    rw [lyN, if_pos rfl] at h ⊢
    have : a = 0 := by simpa using h
    subst this
    refine ⟨ρ, [], loopW_end ?_, rfl, by rw [List.append_nil]; exact h4⟩
    simp only [xrunS, xstartE, xSeq, xIf, xRet, xSetF, xSetE, xFz, xfrzE, xPre, xtPre, xAsg, xPar, xRetT, xRetV, xDrop, xNx, xBk, xCt, xNo, xFor, xI, xi2, x2, x1, xA, xN, xV, xC, xF, xD, xSc, xB, xCh, xtN, xtA, xtO, xtY, xvN, xvA, xvO, xmIf, xTup, xLst, xList, xCall, xDict, xaN, xaC, xSl, xoN, xoS, xIt, xRg1, xRg2, xEnum, xZip, xLc, xcN, xcF, xgN, xgT, xgsN, xgsC, xat0, xatS, xd1, xd2, xd3, xfz, xAdd, xSub, xLt, xLe, xGt, xGe, xix1, xix2, xlen1, xlen2, xabs, xmax, xsum, xany, xall, xisB, xisNotB, xs1, xs2, xs3, xs4, xsc1, xsc2, xb, xint, xlist, xitems1, xitems2, xkey, xisi1, xisi2, xisi3, xisi4, xisi5, xw0, xw1, xEqI, xNeI, xNeB, xIxO, xl1, xl2, xSort, xat_0, xat_1, xat_2, xk0, xk1, xk2, xk3, xk4, xk5, xk6, xk7, Int.reduceEq, Option.bind_some, Option.map_some, Option.bind_none, Option.map_none, Option.map_map, Function.comp_apply, List.map_nil, List.map_cons, List.length_cons, List.length_nil, List.nil_append, List.cons_append, List.replicate_zero, List.replicate_succ, if_true, if_false, Bool.false_eq_true, Bool.not_true, Bool.not_false, Bool.true_and, Bool.and_true, Bool.false_and, Bool.and_false, Bool.true_or, Bool.or_true, Bool.false_or, Bool.or_false, Nat.reduceAdd, Nat.reduceSub, Nat.reduceEqDiff, Nat.reduceLeDiff, Nat.reduceLT, beq_self_eq_true, Int.reduceLT, Int.reduceLE, Int.reduceAdd, Int.reduceSub, Int.reduceNeg, decide_true, decide_false, ite_self, xd4, at_set, List.length_set, xCallB, xAug, free_ints, free_int, free_bool, free_dn, h6]
  | succ f ih =>
    intro r a acc k ρ r0 r1 r2 ha h hk J h4 h5 h6
    obtain ⟨k, rfl⟩ : ∃ k', k = k' + 1 := ⟨k - 1, by omega⟩
    by_cases e : r = 0
    · subst e
      rw [lyN, if_pos rfl] at h ⊢
      have : a = 0 := by simpa using h
      subst this
      refine ⟨ρ, [], loopW_end ?_, rfl, by rw [List.append_nil]; exact h4⟩
      simp only [xrunS, xstartE, xSeq, xIf, xRet, xSetF, xSetE, xFz, xfrzE, xPre, xtPre, xAsg, xPar, xRetT, xRetV, xDrop, xNx, xBk, xCt, xNo, xFor, xI, xi2, x2, x1, xA, xN, xV, xC, xF, xD, xSc, xB, xCh, xtN, xtA, xtO, xtY, xvN, xvA, xvO, xmIf, xTup, xLst, xList, xCall, xDict, xaN, xaC, xSl, xoN, xoS, xIt, xRg1, xRg2, xEnum, xZip, xLc, xcN, xcF, xgN, xgT, xgsN, xgsC, xat0, xatS, xd1, xd2, xd3, xfz, xAdd, xSub, xLt, xLe, xGt, xGe, xix1, xix2, xlen1, xlen2, xabs, xmax, xsum, xany, xall, xisB, xisNotB, xs1, xs2, xs3, xs4, xsc1, xsc2, xb, xint, xlist, xitems1, xitems2, xkey, xisi1, xisi2, xisi3, xisi4, xisi5, xw0, xw1, xEqI, xNeI, xNeB, xIxO, xl1, xl2, xSort, xat_0, xat_1, xat_2, xk0, xk1, xk2, xk3, xk4, xk5, xk6, xk7, Int.reduceEq, Option.bind_some, Option.map_some, Option.bind_none, Option.map_none, Option.map_map, Function.comp_apply, List.map_nil, List.map_cons, List.length_cons, List.length_nil, List.nil_append, List.cons_append, List.replicate_zero, List.replicate_succ, if_true, if_false, Bool.false_eq_true, Bool.not_true, Bool.not_false, Bool.true_and, Bool.and_true, Bool.false_and, Bool.and_false, Bool.true_or, Bool.or_true, Bool.false_or, Bool.or_false, Nat.reduceAdd, Nat.reduceSub, Nat.reduceEqDiff, Nat.reduceLeDiff, Nat.reduceLT, beq_self_eq_true, Int.reduceLT, Int.reduceLE, Int.reduceAdd, Int.reduceSub, Int.reduceNeg, decide_true, decide_false, ite_self, xd4, at_set, List.length_set, xCallB, xAug, free_ints, free_int, free_bool, free_dn, h6]
    · have hly : lyN bs (f + 1) r = (bs.zipIdx 0).flatMap (lyF bs f r) := by rw [lyN, if_neg e]; rfl
      rw [hly] at h ⊢
      have hl := J.len
      have hbw := begun_with_ok q B (ws := waysL bs n) (r := r) (by rw [waysL_len]; omega)
      have hG : begL bs (waysL bs n) r = (bs.zipIdx 0).map fun x => ((lyF bs f r x).length : Int) := by
        rw [begL_ways B1 (by omega), ← zipI_map (g := fun l => Wz bs (r - l)) 0]
        exact List.map_congr_left fun p hp => (lyF_len B1 (by omega) hp).symm
      rw [hG] at hbw
      generalize hGL : PyData.list (((bs.zipIdx 0).map fun x => ((lyF bs f r x).length : Int)).map PyData.int) = GL at *
      have s1 : (sSetF 7 (mD (mCall (sem (q+1) .begun_with) (aC (mN 0) (aC (mN 3) (aC (mN 6) (aN)))))) : MS) ρ = some (.nx (ρ.set 7 (some (R.f GL)))) := by
        simp -implicitDefEqProofs only [xrunS, xstartE, xSeq, xIf, xRet, xSetF, xSetE, xFz, xfrzE, xPre, xtPre, xAsg, xPar, xRetT, xRetV, xDrop, xNx, xBk, xCt, xNo, xFor, xI, xi2, x2, x1, xA, xN, xV, xC, xF, xD, xSc, xB, xCh, xtN, xtA, xtO, xtY, xvN, xvA, xvO, xmIf, xTup, xLst, xList, xCall, xDict, xaN, xaC, xSl, xoN, xoS, xIt, xRg1, xRg2, xEnum, xZip, xLc, xcN, xcF, xgN, xgT, xgsN, xgsC, xat0, xatS, xd1, xd2, xd3, xfz, xAdd, xSub, xLt, xLe, xGt, xGe, xix1, xix2, xlen1, xlen2, xabs, xmax, xsum, xany, xall, xisB, xisNotB, xs1, xs2, xs3, xs4, xsc1, xsc2, xb, xint, xlist, xitems1, xitems2, xkey, xisi1, xisi2, xisi3, xisi4, xisi5, xw0, xw1, xEqI, xNeI, xNeB, xIxO, xl1, xl2, xSort, xat_0, xat_1, xat_2, xk0, xk1, xk2, xk3, xk4, xk5, xk6, xk7, Int.reduceEq, Option.bind_some, Option.map_some, Option.bind_none, Option.map_none, Option.map_map, Function.comp_apply, List.map_nil, List.map_cons, List.length_cons, List.length_nil, List.nil_append, List.cons_append, List.replicate_zero, List.replicate_succ, if_true, if_false, Bool.false_eq_true, Bool.not_true, Bool.not_false, Bool.true_and, Bool.and_true, Bool.false_and, Bool.and_false, Bool.true_or, Bool.or_true, Bool.false_or, Bool.or_false, Nat.reduceAdd, Nat.reduceSub, Nat.reduceEqDiff, Nat.reduceLeDiff, Nat.reduceLT, beq_self_eq_true, Int.reduceLT, Int.reduceLE, Int.reduceAdd, Int.reduceSub, Int.reduceNeg, decide_true, decide_false, ite_self, xd4, at_set, List.length_set, xCallB, xAug, free_ints, free_int, free_bool, free_dn, J.h0, J.h3, h6, hbw]
        rw [← hGL]
      have s2 : (sSetF 8 (mC (.int 0)) : MS) (ρ.set 7 (some (R.f GL))) = some (.nx ((ρ.set 7 (some (R.f GL))).set 8 (some (R.f (.int 0))))) := by
        simp only [xrunS, xstartE, xSeq, xIf, xRet, xSetF, xSetE, xFz, xfrzE, xPre, xtPre, xAsg, xPar, xRetT, xRetV, xDrop, xNx, xBk, xCt, xNo, xFor, xI, xi2, x2, x1, xA, xN, xV, xC, xF, xD, xSc, xB, xCh, xtN, xtA, xtO, xtY, xvN, xvA, xvO, xmIf, xTup, xLst, xList, xCall, xDict, xaN, xaC, xSl, xoN, xoS, xIt, xRg1, xRg2, xEnum, xZip, xLc, xcN, xcF, xgN, xgT, xgsN, xgsC, xat0, xatS, xd1, xd2, xd3, xfz, xAdd, xSub, xLt, xLe, xGt, xGe, xix1, xix2, xlen1, xlen2, xabs, xmax, xsum, xany, xall, xisB, xisNotB, xs1, xs2, xs3, xs4, xsc1, xsc2, xb, xint, xlist, xitems1, xitems2, xkey, xisi1, xisi2, xisi3, xisi4, xisi5, xw0, xw1, xEqI, xNeI, xNeB, xIxO, xl1, xl2, xSort, xat_0, xat_1, xat_2, xk0, xk1, xk2, xk3, xk4, xk5, xk6, xk7, Int.reduceEq, Option.bind_some, Option.map_some, Option.bind_none, Option.map_none, Option.map_map, Function.comp_apply, List.map_nil, List.map_cons, List.length_cons, List.length_nil, List.nil_append, List.cons_append, List.replicate_zero, List.replicate_succ, if_true, if_false, Bool.false_eq_true, Bool.not_true, Bool.not_false, Bool.true_and, Bool.and_true, Bool.false_and, Bool.and_false, Bool.true_or, Bool.or_true, Bool.false_or, Bool.or_false, Nat.reduceAdd, Nat.reduceSub, Nat.reduceEqDiff, Nat.reduceLeDiff, Nat.reduceLT, beq_self_eq_true, Int.reduceLT, Int.reduceLE, Int.reduceAdd, Int.reduceSub, Int.reduceNeg, decide_true, decide_false, ite_self, xd4, at_set, List.length_set, xCallB, xAug, free_ints, free_int, free_bool, free_dn]
      obtain ⟨ρ1, x, j, i, q1, q2, q3, q4, q5, q6, q7, q8, q9⟩ := laying_inner (bs := bs) (ws := waysL bs n) (F := lyF bs f r) (zs0 := bs.zipIdx 0) (m4 := some (R.ol (acc.map PyData.int))) (m6 := some (R.f (.int r))) (bs.zipIdx 0) [] a 1000000 ((ρ.set 7 (some (R.f GL))).set 8 (some (R.f (.int 0)))) rfl h (by rw [List.length_zipIdx]; have := B.l8; omega) ((J.set (by decide) _).set (by decide) _) (by simp only [xrunS, xstartE, xSeq, xIf, xRet, xSetF, xSetE, xFz, xfrzE, xPre, xtPre, xAsg, xPar, xRetT, xRetV, xDrop, xNx, xBk, xCt, xNo, xFor, xI, xi2, x2, x1, xA, xN, xV, xC, xF, xD, xSc, xB, xCh, xtN, xtA, xtO, xtY, xvN, xvA, xvO, xmIf, xTup, xLst, xList, xCall, xDict, xaN, xaC, xSl, xoN, xoS, xIt, xRg1, xRg2, xEnum, xZip, xLc, xcN, xcF, xgN, xgT, xgsN, xgsC, xat0, xatS, xd1, xd2, xd3, xfz, xAdd, xSub, xLt, xLe, xGt, xGe, xix1, xix2, xlen1, xlen2, xabs, xmax, xsum, xany, xall, xisB, xisNotB, xs1, xs2, xs3, xs4, xsc1, xsc2, xb, xint, xlist, xitems1, xitems2, xkey, xisi1, xisi2, xisi3, xisi4, xisi5, xw0, xw1, xEqI, xNeI, xNeB, xIxO, xl1, xl2, xSort, xat_0, xat_1, xat_2, xk0, xk1, xk2, xk3, xk4, xk5, xk6, xk7, Int.reduceEq, Option.bind_some, Option.map_some, Option.bind_none, Option.map_none, Option.map_map, Function.comp_apply, List.map_nil, List.map_cons, List.length_cons, List.length_nil, List.nil_append, List.cons_append, List.replicate_zero, List.replicate_succ, if_true, if_false, Bool.false_eq_true, Bool.not_true, Bool.not_false, Bool.true_and, Bool.and_true, Bool.false_and, Bool.and_false, Bool.true_or, Bool.or_true, Bool.false_or, Bool.or_false, Nat.reduceAdd, Nat.reduceSub, Nat.reduceEqDiff, Nat.reduceLeDiff, Nat.reduceLT, beq_self_eq_true, Int.reduceLT, Int.reduceLE, Int.reduceAdd, Int.reduceSub, Int.reduceNeg, decide_true, decide_false, ite_self, xd4, at_set, List.length_set, xCallB, xAug, free_ints, free_int, free_bool, free_dn, h4]) (by simp only [xrunS, xstartE, xSeq, xIf, xRet, xSetF, xSetE, xFz, xfrzE, xPre, xtPre, xAsg, xPar, xRetT, xRetV, xDrop, xNx, xBk, xCt, xNo, xFor, xI, xi2, x2, x1, xA, xN, xV, xC, xF, xD, xSc, xB, xCh, xtN, xtA, xtO, xtY, xvN, xvA, xvO, xmIf, xTup, xLst, xList, xCall, xDict, xaN, xaC, xSl, xoN, xoS, xIt, xRg1, xRg2, xEnum, xZip, xLc, xcN, xcF, xgN, xgT, xgsN, xgsC, xat0, xatS, xd1, xd2, xd3, xfz, xAdd, xSub, xLt, xLe, xGt, xGe, xix1, xix2, xlen1, xlen2, xabs, xmax, xsum, xany, xall, xisB, xisNotB, xs1, xs2, xs3, xs4, xsc1, xsc2, xb, xint, xlist, xitems1, xitems2, xkey, xisi1, xisi2, xisi3, xisi4, xisi5, xw0, xw1, xEqI, xNeI, xNeB, xIxO, xl1, xl2, xSort, xat_0, xat_1, xat_2, xk0, xk1, xk2, xk3, xk4, xk5, xk6, xk7, Int.reduceEq, Option.bind_some, Option.map_some, Option.bind_none, Option.map_none, Option.map_map, Function.comp_apply, List.map_nil, List.map_cons, List.length_cons, List.length_nil, List.nil_append, List.cons_append, List.replicate_zero, List.replicate_succ, if_true, if_false, Bool.false_eq_true, Bool.not_true, Bool.not_false, Bool.true_and, Bool.and_true, Bool.false_and, Bool.and_false, Bool.true_or, Bool.or_true, Bool.false_or, Bool.or_false, Nat.reduceAdd, Nat.reduceSub, Nat.reduceEqDiff, Nat.reduceLeDiff, Nat.reduceLT, beq_self_eq_true, Int.reduceLT, Int.reduceLE, Int.reduceAdd, Int.reduceSub, Int.reduceNeg, decide_true, decide_false, ite_self, xd4, at_set, List.length_set, xCallB, xAug, free_ints, free_int, free_bool, free_dn, h6]) (by simp only [xrunS, xstartE, xSeq, xIf, xRet, xSetF, xSetE, xFz, xfrzE, xPre, xtPre, xAsg, xPar, xRetT, xRetV, xDrop, xNx, xBk, xCt, xNo, xFor, xI, xi2, x2, x1, xA, xN, xV, xC, xF, xD, xSc, xB, xCh, xtN, xtA, xtO, xtY, xvN, xvA, xvO, xmIf, xTup, xLst, xList, xCall, xDict, xaN, xaC, xSl, xoN, xoS, xIt, xRg1, xRg2, xEnum, xZip, xLc, xcN, xcF, xgN, xgT, xgsN, xgsC, xat0, xatS, xd1, xd2, xd3, xfz, xAdd, xSub, xLt, xLe, xGt, xGe, xix1, xix2, xlen1, xlen2, xabs, xmax, xsum, xany, xall, xisB, xisNotB, xs1, xs2, xs3, xs4, xsc1, xsc2, xb, xint, xlist, xitems1, xitems2, xkey, xisi1, xisi2, xisi3, xisi4, xisi5, xw0, xw1, xEqI, xNeI, xNeB, xIxO, xl1, xl2, xSort, xat_0, xat_1, xat_2, xk0, xk1, xk2, xk3, xk4, xk5, xk6, xk7, Int.reduceEq, Option.bind_some, Option.map_some, Option.bind_none, Option.map_none, Option.map_map, Function.comp_apply, List.map_nil, List.map_cons, List.length_cons, List.length_nil, List.nil_append, List.cons_append, List.replicate_zero, List.replicate_succ, if_true, if_false, Bool.false_eq_true, Bool.not_true, Bool.not_false, Bool.true_and, Bool.and_true, Bool.false_and, Bool.and_false, Bool.true_or, Bool.or_true, Bool.false_or, Bool.or_false, Nat.reduceAdd, Nat.reduceSub, Nat.reduceEqDiff, Nat.reduceLeDiff, Nat.reduceLT, beq_self_eq_true, Int.reduceLT, Int.reduceLE, Int.reduceAdd, Int.reduceSub, Int.reduceNeg, decide_true, decide_false, ite_self, xd4, at_set, List.length_set, xCallB, xAug, free_ints, free_int, free_bool, free_dn, hl]; rw [hGL]) (by simp only [xrunS, xstartE, xSeq, xIf, xRet, xSetF, xSetE, xFz, xfrzE, xPre, xtPre, xAsg, xPar, xRetT, xRetV, xDrop, xNx, xBk, xCt, xNo, xFor, xI, xi2, x2, x1, xA, xN, xV, xC, xF, xD, xSc, xB, xCh, xtN, xtA, xtO, xtY, xvN, xvA, xvO, xmIf, xTup, xLst, xList, xCall, xDict, xaN, xaC, xSl, xoN, xoS, xIt, xRg1, xRg2, xEnum, xZip, xLc, xcN, xcF, xgN, xgT, xgsN, xgsC, xat0, xatS, xd1, xd2, xd3, xfz, xAdd, xSub, xLt, xLe, xGt, xGe, xix1, xix2, xlen1, xlen2, xabs, xmax, xsum, xany, xall, xisB, xisNotB, xs1, xs2, xs3, xs4, xsc1, xsc2, xb, xint, xlist, xitems1, xitems2, xkey, xisi1, xisi2, xisi3, xisi4, xisi5, xw0, xw1, xEqI, xNeI, xNeB, xIxO, xl1, xl2, xSort, xat_0, xat_1, xat_2, xk0, xk1, xk2, xk3, xk4, xk5, xk6, xk7, Int.reduceEq, Option.bind_some, Option.map_some, Option.bind_none, Option.map_none, Option.map_map, Function.comp_apply, List.map_nil, List.map_cons, List.length_cons, List.length_nil, List.nil_append, List.cons_append, List.replicate_zero, List.replicate_succ, if_true, if_false, Bool.false_eq_true, Bool.not_true, Bool.not_false, Bool.true_and, Bool.and_true, Bool.false_and, Bool.and_false, Bool.true_or, Bool.or_true, Bool.false_or, Bool.or_false, Nat.reduceAdd, Nat.reduceSub, Nat.reduceEqDiff, Nat.reduceLeDiff, Nat.reduceLT, beq_self_eq_true, Int.reduceLT, Int.reduceLE, Int.reduceAdd, Int.reduceSub, Int.reduceNeg, decide_true, decide_false, ite_self, xd4, at_set, List.length_set, xCallB, xAug, free_ints, free_int, free_bool, free_dn, h5]) (by simp only [xrunS, xstartE, xSeq, xIf, xRet, xSetF, xSetE, xFz, xfrzE, xPre, xtPre, xAsg, xPar, xRetT, xRetV, xDrop, xNx, xBk, xCt, xNo, xFor, xI, xi2, x2, x1, xA, xN, xV, xC, xF, xD, xSc, xB, xCh, xtN, xtA, xtO, xtY, xvN, xvA, xvO, xmIf, xTup, xLst, xList, xCall, xDict, xaN, xaC, xSl, xoN, xoS, xIt, xRg1, xRg2, xEnum, xZip, xLc, xcN, xcF, xgN, xgT, xgsN, xgsC, xat0, xatS, xd1, xd2, xd3, xfz, xAdd, xSub, xLt, xLe, xGt, xGe, xix1, xix2, xlen1, xlen2, xabs, xmax, xsum, xany, xall, xisB, xisNotB, xs1, xs2, xs3, xs4, xsc1, xsc2, xb, xint, xlist, xitems1, xitems2, xkey, xisi1, xisi2, xisi3, xisi4, xisi5, xw0, xw1, xEqI, xNeI, xNeB, xIxO, xl1, xl2, xSort, xat_0, xat_1, xat_2, xk0, xk1, xk2, xk3, xk4, xk5, xk6, xk7, Int.reduceEq, Option.bind_some, Option.map_some, Option.bind_none, Option.map_none, Option.map_map, Function.comp_apply, List.map_nil, List.map_cons, List.length_cons, List.length_nil, List.nil_append, List.cons_append, List.replicate_zero, List.replicate_succ, if_true, if_false, Bool.false_eq_true, Bool.not_true, Bool.not_false, Bool.true_and, Bool.and_true, Bool.false_and, Bool.and_false, Bool.true_or, Bool.or_true, Bool.false_or, Bool.or_false, Nat.reduceAdd, Nat.reduceSub, Nat.reduceEqDiff, Nat.reduceLeDiff, Nat.reduceLT, beq_self_eq_true, Int.reduceLT, Int.reduceLE, Int.reduceAdd, Int.reduceSub, Int.reduceNeg, decide_true, decide_false, ite_self, xd4, at_set, List.length_set, xCallB, xAug, free_ints, free_int, free_bool, free_dn, hl]; try rfl)
      have hi : i < bs.length ∧ x.2 = i := by
        obtain ⟨w1, w2⟩ := List.getElem?_eq_some_iff.mp q2
        rw [List.length_zipIdx] at w1
        rw [List.getElem_zipIdx] at w2
        exact ⟨w1, by rw [← w2]; simp⟩
      have hxm := List.mem_of_getElem? q2
      have hxb := zipI_mem hxm
      rw [hi.2] at hxb
      have hle : x.1 ≤ r := by
        by_cases z : x.1 ≤ r
        · exact z
        · unfold lyF at q3; rw [if_neg z] at q3; simp at q3
      have x1 := B1 x.1 (zipI_fst hxm)
      have hF : lyF bs f r x = (lyN bs f (r - x.1)).map (((i : Nat) : Int) :: ·) := by unfold lyF; rw [if_pos hle, hi.2]
      rw [hF, List.length_map] at q3
      have l1 := q5.len
      have s3 : (sApp 4 (mN 8) : MS) ρ1 = some (.nx (ρ1.set 4 (some (R.ol ((acc ++ [((i : Nat) : Int)]).map PyData.int))))) := by
        rw [xApp q6]
        simp only [xrunS, xstartE, xSeq, xIf, xRet, xSetF, xSetE, xFz, xfrzE, xPre, xtPre, xAsg, xPar, xRetT, xRetV, xDrop, xNx, xBk, xCt, xNo, xFor, xI, xi2, x2, x1, xA, xN, xV, xC, xF, xD, xSc, xB, xCh, xtN, xtA, xtO, xtY, xvN, xvA, xvO, xmIf, xTup, xLst, xList, xCall, xDict, xaN, xaC, xSl, xoN, xoS, xIt, xRg1, xRg2, xEnum, xZip, xLc, xcN, xcF, xgN, xgT, xgsN, xgsC, xat0, xatS, xd1, xd2, xd3, xfz, xAdd, xSub, xLt, xLe, xGt, xGe, xix1, xix2, xlen1, xlen2, xabs, xmax, xsum, xany, xall, xisB, xisNotB, xs1, xs2, xs3, xs4, xsc1, xsc2, xb, xint, xlist, xitems1, xitems2, xkey, xisi1, xisi2, xisi3, xisi4, xisi5, xw0, xw1, xEqI, xNeI, xNeB, xIxO, xl1, xl2, xSort, xat_0, xat_1, xat_2, xk0, xk1, xk2, xk3, xk4, xk5, xk6, xk7, Int.reduceEq, Option.bind_some, Option.map_some, Option.bind_none, Option.map_none, Option.map_map, Function.comp_apply, List.map_nil, List.map_cons, List.length_cons, List.length_nil, List.nil_append, List.cons_append, List.replicate_zero, List.replicate_succ, if_true, if_false, Bool.false_eq_true, Bool.not_true, Bool.not_false, Bool.true_and, Bool.and_true, Bool.false_and, Bool.and_false, Bool.true_or, Bool.or_true, Bool.false_or, Bool.or_false, Nat.reduceAdd, Nat.reduceSub, Nat.reduceEqDiff, Nat.reduceLeDiff, Nat.reduceLT, beq_self_eq_true, Int.reduceLT, Int.reduceLE, Int.reduceAdd, Int.reduceSub, Int.reduceNeg, decide_true, decide_false, ite_self, xd4, at_set, List.length_set, xCallB, xAug, free_ints, free_int, free_bool, free_dn, q9]
        rw [if_pos (by rw [List.length_map]; omega)]
        simp only [List.map_append, List.map_cons, List.map_nil]
      have hbi : atI (bs.map PyData.int) ((i : Nat) : Int) = some (.int x.1) := atI_ints (by omega) (by rw [Int.toNat_natCast]; exact hxb)
      generalize hρ2 : ρ1.set 4 (some (R.ol ((acc ++ [((i : Nat) : Int)]).map PyData.int))) = ρ2 at s3
      have J2 : JL bs (waysL bs n) ρ2 := by subst hρ2; exact q5.set (by decide) _
      have b4 : at' ρ2 4 = some (R.ol ((acc ++ [((i : Nat) : Int)]).map PyData.int)) := by subst hρ2; simp only [xrunS, xstartE, xSeq, xIf, xRet, xSetF, xSetE, xFz, xfrzE, xPre, xtPre, xAsg, xPar, xRetT, xRetV, xDrop, xNx, xBk, xCt, xNo, xFor, xI, xi2, x2, x1, xA, xN, xV, xC, xF, xD, xSc, xB, xCh, xtN, xtA, xtO, xtY, xvN, xvA, xvO, xmIf, xTup, xLst, xList, xCall, xDict, xaN, xaC, xSl, xoN, xoS, xIt, xRg1, xRg2, xEnum, xZip, xLc, xcN, xcF, xgN, xgT, xgsN, xgsC, xat0, xatS, xd1, xd2, xd3, xfz, xAdd, xSub, xLt, xLe, xGt, xGe, xix1, xix2, xlen1, xlen2, xabs, xmax, xsum, xany, xall, xisB, xisNotB, xs1, xs2, xs3, xs4, xsc1, xsc2, xb, xint, xlist, xitems1, xitems2, xkey, xisi1, xisi2, xisi3, xisi4, xisi5, xw0, xw1, xEqI, xNeI, xNeB, xIxO, xl1, xl2, xSort, xat_0, xat_1, xat_2, xk0, xk1, xk2, xk3, xk4, xk5, xk6, xk7, Int.reduceEq, Option.bind_some, Option.map_some, Option.bind_none, Option.map_none, Option.map_map, Function.comp_apply, List.map_nil, List.map_cons, List.length_cons, List.length_nil, List.nil_append, List.cons_append, List.replicate_zero, List.replicate_succ, if_true, if_false, Bool.false_eq_true, Bool.not_true, Bool.not_false, Bool.true_and, Bool.and_true, Bool.false_and, Bool.and_false, Bool.true_or, Bool.or_true, Bool.false_or, Bool.or_false, Nat.reduceAdd, Nat.reduceSub, Nat.reduceEqDiff, Nat.reduceLeDiff, Nat.reduceLT, beq_self_eq_true, Int.reduceLT, Int.reduceLE, Int.reduceAdd, Int.reduceSub, Int.reduceNeg, decide_true, decide_false, ite_self, xd4, at_set, List.length_set, xCallB, xAug, free_ints, free_int, free_bool, free_dn, l1]
      have b5 : at' ρ2 5 = some (R.f (.int (j : Nat))) := by subst hρ2; simp only [xrunS, xstartE, xSeq, xIf, xRet, xSetF, xSetE, xFz, xfrzE, xPre, xtPre, xAsg, xPar, xRetT, xRetV, xDrop, xNx, xBk, xCt, xNo, xFor, xI, xi2, x2, x1, xA, xN, xV, xC, xF, xD, xSc, xB, xCh, xtN, xtA, xtO, xtY, xvN, xvA, xvO, xmIf, xTup, xLst, xList, xCall, xDict, xaN, xaC, xSl, xoN, xoS, xIt, xRg1, xRg2, xEnum, xZip, xLc, xcN, xcF, xgN, xgT, xgsN, xgsC, xat0, xatS, xd1, xd2, xd3, xfz, xAdd, xSub, xLt, xLe, xGt, xGe, xix1, xix2, xlen1, xlen2, xabs, xmax, xsum, xany, xall, xisB, xisNotB, xs1, xs2, xs3, xs4, xsc1, xsc2, xb, xint, xlist, xitems1, xitems2, xkey, xisi1, xisi2, xisi3, xisi4, xisi5, xw0, xw1, xEqI, xNeI, xNeB, xIxO, xl1, xl2, xSort, xat_0, xat_1, xat_2, xk0, xk1, xk2, xk3, xk4, xk5, xk6, xk7, Int.reduceEq, Option.bind_some, Option.map_some, Option.bind_none, Option.map_none, Option.map_map, Function.comp_apply, List.map_nil, List.map_cons, List.length_cons, List.length_nil, List.nil_append, List.cons_append, List.replicate_zero, List.replicate_succ, if_true, if_false, Bool.false_eq_true, Bool.not_true, Bool.not_false, Bool.true_and, Bool.and_true, Bool.false_and, Bool.and_false, Bool.true_or, Bool.or_true, Bool.false_or, Bool.or_false, Nat.reduceAdd, Nat.reduceSub, Nat.reduceEqDiff, Nat.reduceLeDiff, Nat.reduceLT, beq_self_eq_true, Int.reduceLT, Int.reduceLE, Int.reduceAdd, Int.reduceSub, Int.reduceNeg, decide_true, decide_false, ite_self, xd4, at_set, List.length_set, xCallB, xAug, free_ints, free_int, free_bool, free_dn, q8]
      have b6 : at' ρ2 6 = some (R.f (.int r)) := by subst hρ2; simp only [xrunS, xstartE, xSeq, xIf, xRet, xSetF, xSetE, xFz, xfrzE, xPre, xtPre, xAsg, xPar, xRetT, xRetV, xDrop, xNx, xBk, xCt, xNo, xFor, xI, xi2, x2, x1, xA, xN, xV, xC, xF, xD, xSc, xB, xCh, xtN, xtA, xtO, xtY, xvN, xvA, xvO, xmIf, xTup, xLst, xList, xCall, xDict, xaN, xaC, xSl, xoN, xoS, xIt, xRg1, xRg2, xEnum, xZip, xLc, xcN, xcF, xgN, xgT, xgsN, xgsC, xat0, xatS, xd1, xd2, xd3, xfz, xAdd, xSub, xLt, xLe, xGt, xGe, xix1, xix2, xlen1, xlen2, xabs, xmax, xsum, xany, xall, xisB, xisNotB, xs1, xs2, xs3, xs4, xsc1, xsc2, xb, xint, xlist, xitems1, xitems2, xkey, xisi1, xisi2, xisi3, xisi4, xisi5, xw0, xw1, xEqI, xNeI, xNeB, xIxO, xl1, xl2, xSort, xat_0, xat_1, xat_2, xk0, xk1, xk2, xk3, xk4, xk5, xk6, xk7, Int.reduceEq, Option.bind_some, Option.map_some, Option.bind_none, Option.map_none, Option.map_map, Function.comp_apply, List.map_nil, List.map_cons, List.length_cons, List.length_nil, List.nil_append, List.cons_append, List.replicate_zero, List.replicate_succ, if_true, if_false, Bool.false_eq_true, Bool.not_true, Bool.not_false, Bool.true_and, Bool.and_true, Bool.false_and, Bool.and_false, Bool.true_or, Bool.or_true, Bool.false_or, Bool.or_false, Nat.reduceAdd, Nat.reduceSub, Nat.reduceEqDiff, Nat.reduceLeDiff, Nat.reduceLT, beq_self_eq_true, Int.reduceLT, Int.reduceLE, Int.reduceAdd, Int.reduceSub, Int.reduceNeg, decide_true, decide_false, ite_self, xd4, at_set, List.length_set, xCallB, xAug, free_ints, free_int, free_bool, free_dn, q7]
      have b8 : at' ρ2 8 = some (R.f (.int (i : Nat))) := by subst hρ2; simp only [xrunS, xstartE, xSeq, xIf, xRet, xSetF, xSetE, xFz, xfrzE, xPre, xtPre, xAsg, xPar, xRetT, xRetV, xDrop, xNx, xBk, xCt, xNo, xFor, xI, xi2, x2, x1, xA, xN, xV, xC, xF, xD, xSc, xB, xCh, xtN, xtA, xtO, xtY, xvN, xvA, xvO, xmIf, xTup, xLst, xList, xCall, xDict, xaN, xaC, xSl, xoN, xoS, xIt, xRg1, xRg2, xEnum, xZip, xLc, xcN, xcF, xgN, xgT, xgsN, xgsC, xat0, xatS, xd1, xd2, xd3, xfz, xAdd, xSub, xLt, xLe, xGt, xGe, xix1, xix2, xlen1, xlen2, xabs, xmax, xsum, xany, xall, xisB, xisNotB, xs1, xs2, xs3, xs4, xsc1, xsc2, xb, xint, xlist, xitems1, xitems2, xkey, xisi1, xisi2, xisi3, xisi4, xisi5, xw0, xw1, xEqI, xNeI, xNeB, xIxO, xl1, xl2, xSort, xat_0, xat_1, xat_2, xk0, xk1, xk2, xk3, xk4, xk5, xk6, xk7, Int.reduceEq, Option.bind_some, Option.map_some, Option.bind_none, Option.map_none, Option.map_map, Function.comp_apply, List.map_nil, List.map_cons, List.length_cons, List.length_nil, List.nil_append, List.cons_append, List.replicate_zero, List.replicate_succ, if_true, if_false, Bool.false_eq_true, Bool.not_true, Bool.not_false, Bool.true_and, Bool.and_true, Bool.false_and, Bool.and_false, Bool.true_or, Bool.or_true, Bool.false_or, Bool.or_false, Nat.reduceAdd, Nat.reduceSub, Nat.reduceEqDiff, Nat.reduceLeDiff, Nat.reduceLT, beq_self_eq_true, Int.reduceLT, Int.reduceLE, Int.reduceAdd, Int.reduceSub, Int.reduceNeg, decide_true, decide_false, ite_self, xd4, at_set, List.length_set, xCallB, xAug, free_ints, free_int, free_bool, free_dn, q9]
      have l2 := J2.len
      have s4 : (sAug 6 gSub (m2 gIx (mV 0) (mV 8)) : MS) ρ2 = some (.nx (ρ2.set 6 (some (R.f (.int (r - x.1)))))) := by
        simp only [xrunS, xstartE, xSeq, xIf, xRet, xSetF, xSetE, xFz, xfrzE, xPre, xtPre, xAsg, xPar, xRetT, xRetV, xDrop, xNx, xBk, xCt, xNo, xFor, xI, xi2, x2, x1, xA, xN, xV, xC, xF, xD, xSc, xB, xCh, xtN, xtA, xtO, xtY, xvN, xvA, xvO, xmIf, xTup, xLst, xList, xCall, xDict, xaN, xaC, xSl, xoN, xoS, xIt, xRg1, xRg2, xEnum, xZip, xLc, xcN, xcF, xgN, xgT, xgsN, xgsC, xat0, xatS, xd1, xd2, xd3, xfz, xAdd, xSub, xLt, xLe, xGt, xGe, xix1, xix2, xlen1, xlen2, xabs, xmax, xsum, xany, xall, xisB, xisNotB, xs1, xs2, xs3, xs4, xsc1, xsc2, xb, xint, xlist, xitems1, xitems2, xkey, xisi1, xisi2, xisi3, xisi4, xisi5, xw0, xw1, xEqI, xNeI, xNeB, xIxO, xl1, xl2, xSort, xat_0, xat_1, xat_2, xk0, xk1, xk2, xk3, xk4, xk5, xk6, xk7, Int.reduceEq, Option.bind_some, Option.map_some, Option.bind_none, Option.map_none, Option.map_map, Function.comp_apply, List.map_nil, List.map_cons, List.length_cons, List.length_nil, List.nil_append, List.cons_append, List.replicate_zero, List.replicate_succ, if_true, if_false, Bool.false_eq_true, Bool.not_true, Bool.not_false, Bool.true_and, Bool.and_true, Bool.false_and, Bool.and_false, Bool.true_or, Bool.or_true, Bool.false_or, Bool.or_false, Nat.reduceAdd, Nat.reduceSub, Nat.reduceEqDiff, Nat.reduceLeDiff, Nat.reduceLT, beq_self_eq_true, Int.reduceLT, Int.reduceLE, Int.reduceAdd, Int.reduceSub, Int.reduceNeg, decide_true, decide_false, ite_self, xd4, at_set, List.length_set, xCallB, xAug, free_ints, free_int, free_bool, free_dn, b6, b8, J2.h0, hbi]
      have hb : lyOut (q+1) ρ = some (.nx (ρ2.set 6 (some (R.f (.int (r - x.1)))))) := by
        unfold lyOut
        rw [seq_nx s1, seq_nx s2, seq_nx q1, seq_nx s3, s4]
      obtain ⟨ρ', js, e1, e2, e3⟩ := ih (r - x.1) j (acc ++ [((i : Nat) : Int)]) k (ρ2.set 6 (some (R.f (.int (r - x.1))))) (by omega) (by omega) (by omega) (by rw [List.length_append, List.length_singleton]; omega) q3 (by omega) (J2.set (by decide) _) (by simp only [xrunS, xstartE, xSeq, xIf, xRet, xSetF, xSetE, xFz, xfrzE, xPre, xtPre, xAsg, xPar, xRetT, xRetV, xDrop, xNx, xBk, xCt, xNo, xFor, xI, xi2, x2, x1, xA, xN, xV, xC, xF, xD, xSc, xB, xCh, xtN, xtA, xtO, xtY, xvN, xvA, xvO, xmIf, xTup, xLst, xList, xCall, xDict, xaN, xaC, xSl, xoN, xoS, xIt, xRg1, xRg2, xEnum, xZip, xLc, xcN, xcF, xgN, xgT, xgsN, xgsC, xat0, xatS, xd1, xd2, xd3, xfz, xAdd, xSub, xLt, xLe, xGt, xGe, xix1, xix2, xlen1, xlen2, xabs, xmax, xsum, xany, xall, xisB, xisNotB, xs1, xs2, xs3, xs4, xsc1, xsc2, xb, xint, xlist, xitems1, xitems2, xkey, xisi1, xisi2, xisi3, xisi4, xisi5, xw0, xw1, xEqI, xNeI, xNeB, xIxO, xl1, xl2, xSort, xat_0, xat_1, xat_2, xk0, xk1, xk2, xk3, xk4, xk5, xk6, xk7, Int.reduceEq, Option.bind_some, Option.map_some, Option.bind_none, Option.map_none, Option.map_map, Function.comp_apply, List.map_nil, List.map_cons, List.length_cons, List.length_nil, List.nil_append, List.cons_append, List.replicate_zero, List.replicate_succ, if_true, if_false, Bool.false_eq_true, Bool.not_true, Bool.not_false, Bool.true_and, Bool.and_true, Bool.false_and, Bool.and_false, Bool.true_or, Bool.or_true, Bool.false_or, Bool.or_false, Nat.reduceAdd, Nat.reduceSub, Nat.reduceEqDiff, Nat.reduceLeDiff, Nat.reduceLT, beq_self_eq_true, Int.reduceLT, Int.reduceLE, Int.reduceAdd, Int.reduceSub, Int.reduceNeg, decide_true, decide_false, ite_self, xd4, at_set, List.length_set, xCallB, xAug, free_ints, free_int, free_bool, free_dn, b4]) (by simp only [xrunS, xstartE, xSeq, xIf, xRet, xSetF, xSetE, xFz, xfrzE, xPre, xtPre, xAsg, xPar, xRetT, xRetV, xDrop, xNx, xBk, xCt, xNo, xFor, xI, xi2, x2, x1, xA, xN, xV, xC, xF, xD, xSc, xB, xCh, xtN, xtA, xtO, xtY, xvN, xvA, xvO, xmIf, xTup, xLst, xList, xCall, xDict, xaN, xaC, xSl, xoN, xoS, xIt, xRg1, xRg2, xEnum, xZip, xLc, xcN, xcF, xgN, xgT, xgsN, xgsC, xat0, xatS, xd1, xd2, xd3, xfz, xAdd, xSub, xLt, xLe, xGt, xGe, xix1, xix2, xlen1, xlen2, xabs, xmax, xsum, xany, xall, xisB, xisNotB, xs1, xs2, xs3, xs4, xsc1, xsc2, xb, xint, xlist, xitems1, xitems2, xkey, xisi1, xisi2, xisi3, xisi4, xisi5, xw0, xw1, xEqI, xNeI, xNeB, xIxO, xl1, xl2, xSort, xat_0, xat_1, xat_2, xk0, xk1, xk2, xk3, xk4, xk5, xk6, xk7, Int.reduceEq, Option.bind_some, Option.map_some, Option.bind_none, Option.map_none, Option.map_map, Function.comp_apply, List.map_nil, List.map_cons, List.length_cons, List.length_nil, List.nil_append, List.cons_append, List.replicate_zero, List.replicate_succ, if_true, if_false, Bool.false_eq_true, Bool.not_true, Bool.not_false, Bool.true_and, Bool.and_true, Bool.false_and, Bool.and_false, Bool.true_or, Bool.or_true, Bool.false_or, Bool.or_false, Nat.reduceAdd, Nat.reduceSub, Nat.reduceEqDiff, Nat.reduceLeDiff, Nat.reduceLT, beq_self_eq_true, Int.reduceLT, Int.reduceLE, Int.reduceAdd, Int.reduceSub, Int.reduceNeg, decide_true, decide_false, ite_self, xd4, at_set, List.length_set, xCallB, xAug, free_ints, free_int, free_bool, free_dn, b5]) (by simp only [xrunS, xstartE, xSeq, xIf, xRet, xSetF, xSetE, xFz, xfrzE, xPre, xtPre, xAsg, xPar, xRetT, xRetV, xDrop, xNx, xBk, xCt, xNo, xFor, xI, xi2, x2, x1, xA, xN, xV, xC, xF, xD, xSc, xB, xCh, xtN, xtA, xtO, xtY, xvN, xvA, xvO, xmIf, xTup, xLst, xList, xCall, xDict, xaN, xaC, xSl, xoN, xoS, xIt, xRg1, xRg2, xEnum, xZip, xLc, xcN, xcF, xgN, xgT, xgsN, xgsC, xat0, xatS, xd1, xd2, xd3, xfz, xAdd, xSub, xLt, xLe, xGt, xGe, xix1, xix2, xlen1, xlen2, xabs, xmax, xsum, xany, xall, xisB, xisNotB, xs1, xs2, xs3, xs4, xsc1, xsc2, xb, xint, xlist, xitems1, xitems2, xkey, xisi1, xisi2, xisi3, xisi4, xisi5, xw0, xw1, xEqI, xNeI, xNeB, xIxO, xl1, xl2, xSort, xat_0, xat_1, xat_2, xk0, xk1, xk2, xk3, xk4, xk5, xk6, xk7, Int.reduceEq, Option.bind_some, Option.map_some, Option.bind_none, Option.map_none, Option.map_map, Function.comp_apply, List.map_nil, List.map_cons, List.length_cons, List.length_nil, List.nil_append, List.cons_append, List.replicate_zero, List.replicate_succ, if_true, if_false, Bool.false_eq_true, Bool.not_true, Bool.not_false, Bool.true_and, Bool.and_true, Bool.false_and, Bool.and_false, Bool.true_or, Bool.or_true, Bool.false_or, Bool.or_false, Nat.reduceAdd, Nat.reduceSub, Nat.reduceEqDiff, Nat.reduceLeDiff, Nat.reduceLT, beq_self_eq_true, Int.reduceLT, Int.reduceLE, Int.reduceAdd, Int.reduceSub, Int.reduceNeg, decide_true, decide_false, ite_self, xd4, at_set, List.length_set, xCallB, xAug, free_ints, free_int, free_bool, free_dn, l2])
      refine ⟨ρ', ((i : Nat) : Int) :: js, ?_, ?_, by rw [e3]; simp only [List.append_assoc, List.singleton_append]⟩
      · rw [loopW_go ?_ hb]
        · exact e1
        · simp only [xrunS, xstartE, xSeq, xIf, xRet, xSetF, xSetE, xFz, xfrzE, xPre, xtPre, xAsg, xPar, xRetT, xRetV, xDrop, xNx, xBk, xCt, xNo, xFor, xI, xi2, x2, x1, xA, xN, xV, xC, xF, xD, xSc, xB, xCh, xtN, xtA, xtO, xtY, xvN, xvA, xvO, xmIf, xTup, xLst, xList, xCall, xDict, xaN, xaC, xSl, xoN, xoS, xIt, xRg1, xRg2, xEnum, xZip, xLc, xcN, xcF, xgN, xgT, xgsN, xgsC, xat0, xatS, xd1, xd2, xd3, xfz, xAdd, xSub, xLt, xLe, xGt, xGe, xix1, xix2, xlen1, xlen2, xabs, xmax, xsum, xany, xall, xisB, xisNotB, xs1, xs2, xs3, xs4, xsc1, xsc2, xb, xint, xlist, xitems1, xitems2, xkey, xisi1, xisi2, xisi3, xisi4, xisi5, xw0, xw1, xEqI, xNeI, xNeB, xIxO, xl1, xl2, xSort, xat_0, xat_1, xat_2, xk0, xk1, xk2, xk3, xk4, xk5, xk6, xk7, Int.reduceEq, Option.bind_some, Option.map_some, Option.bind_none, Option.map_none, Option.map_map, Function.comp_apply, List.map_nil, List.map_cons, List.length_cons, List.length_nil, List.nil_append, List.cons_append, List.replicate_zero, List.replicate_succ, if_true, if_false, Bool.false_eq_true, Bool.not_true, Bool.not_false, Bool.true_and, Bool.and_true, Bool.false_and, Bool.and_false, Bool.true_or, Bool.or_true, Bool.false_or, Bool.or_false, Nat.reduceAdd, Nat.reduceSub, Nat.reduceEqDiff, Nat.reduceLeDiff, Nat.reduceLT, beq_self_eq_true, Int.reduceLT, Int.reduceLE, Int.reduceAdd, Int.reduceSub, Int.reduceNeg, decide_true, decide_false, ite_self, xd4, at_set, List.length_set, xCallB, xAug, free_ints, free_int, free_bool, free_dn, h6]
          rw [decide_eq_true (by omega)]
      · rw [q4, hF, List.getElem?_map, e2]
        rfl
theorem laying_ok (k : Nat) {bs : List Int} (B : BarsOk bs) {n : Nat} (hn : n ≤ 300) {a : Nat} (h : a < (lyN bs n n).length) : ∃ js, (lyN bs n n)[a]? = some js ∧ sem (k+5) .laying [.list (bs.map PyData.int), .int (n : Nat), .int (a : Nat)] = some (.ol (js.map PyData.int)) := by
  have B1 : ∀ l ∈ bs, 1 ≤ l := fun l hl => (B.inr l hl).1
  have c1 := check_strip_ok k B (n := n) hn
  have c2 := layings_up_to_ok (k+2) B (n := n) hn
  have c3 := is_within_int (k+2) (a : Nat) 0 (W bs n - 1)
  have hW : ((lyN bs n n).length : Int) = W bs n := by
    rw [lyN_len B1 n n (by omega), Wz_nat (by omega), Int.toNat_natCast]
  have hat : atI ((waysL bs n).map PyData.int) (n : Nat) = some (.int (W bs n)) := atI_ints (by omega) (by rw [Int.toNat_natCast]; exact waysL_get bs (Nat.le_refl n))
  have hwi : (decide ((0 : Int) ≤ (a : Nat)) && decide (((a : Nat) : Int) ≤ W bs n - 1)) = true := by
    rw [Bool.and_eq_true]
    exact ⟨decide_eq_true (by omega), decide_eq_true (by omega)⟩
  obtain ⟨ρ', js, e1, e2, e3⟩ := laying_outer (k+3) B hn n n a [] 1000000 [some (R.f (.list (bs.map PyData.int))), some (R.f (.int (n : Nat))), some (R.f (.int (a : Nat))), some (R.f (.list ((waysL bs n).map PyData.int))), some (R.ol []), some (R.f (.int (a : Nat))), some (R.f (.int (n : Nat))), none, none] (by omega) (by omega) (by omega) (by simp; omega) h (by omega) ⟨rfl, rfl, rfl⟩ rfl rfl rfl
  refine ⟨js, e2, ?_⟩
  rw [e_laying]
  refine run_rt rfl ?_
  unfold m_laying
  have hst : startE 9 [PyData.list (bs.map PyData.int), .int (n : Nat), .int (a : Nat)] = [some (R.f (.list (bs.map PyData.int))), some (R.f (.int (n : Nat))), some (R.f (.int (a : Nat))), none, none, none, none, none, none] := rfl
  rw [hst]
  have s0 : (sDrop (mCall (sem (k+4) .check_strip) (aC (mN 0) (aC (mN 1) (aN)))) : MS) [some (R.f (.list (bs.map PyData.int))), some (R.f (.int (n : Nat))), some (R.f (.int (a : Nat))), none, none, none, none, none, none] = some (.nx [some (R.f (.list (bs.map PyData.int))), some (R.f (.int (n : Nat))), some (R.f (.int (a : Nat))), none, none, none, none, none, none]) := by
    simp -implicitDefEqProofs only [xrunS, xstartE, xSeq, xIf, xRet, xSetF, xSetE, xFz, xfrzE, xPre, xtPre, xAsg, xPar, xRetT, xRetV, xDrop, xNx, xBk, xCt, xNo, xFor, xI, xi2, x2, x1, xA, xN, xV, xC, xF, xD, xSc, xB, xCh, xtN, xtA, xtO, xtY, xvN, xvA, xvO, xmIf, xTup, xLst, xList, xCall, xDict, xaN, xaC, xSl, xoN, xoS, xIt, xRg1, xRg2, xEnum, xZip, xLc, xcN, xcF, xgN, xgT, xgsN, xgsC, xat0, xatS, xd1, xd2, xd3, xfz, xAdd, xSub, xLt, xLe, xGt, xGe, xix1, xix2, xlen1, xlen2, xabs, xmax, xsum, xany, xall, xisB, xisNotB, xs1, xs2, xs3, xs4, xsc1, xsc2, xb, xint, xlist, xitems1, xitems2, xkey, xisi1, xisi2, xisi3, xisi4, xisi5, xw0, xw1, xEqI, xNeI, xNeB, xIxO, xl1, xl2, xSort, xat_0, xat_1, xat_2, xk0, xk1, xk2, xk3, xk4, xk5, xk6, xk7, Int.reduceEq, Option.bind_some, Option.map_some, Option.bind_none, Option.map_none, Option.map_map, Function.comp_apply, List.map_nil, List.map_cons, List.length_cons, List.length_nil, List.nil_append, List.cons_append, List.replicate_zero, List.replicate_succ, List.set_cons_zero, List.set_cons_succ, if_true, if_false, Bool.false_eq_true, Bool.not_true, Bool.not_false, Bool.true_and, Bool.and_true, Bool.false_and, Bool.and_false, Bool.true_or, Bool.or_true, Bool.false_or, Bool.or_false, Nat.reduceAdd, Nat.reduceSub, Nat.reduceEqDiff, Nat.reduceLeDiff, Nat.reduceLT, beq_self_eq_true, Int.reduceLT, Int.reduceLE, Int.reduceAdd, Int.reduceSub, Int.reduceNeg, decide_true, decide_false, ite_self, xd4, c1]
  have s1 : (sSetF 3 (mD (mCall (sem (k+4) .layings_up_to) (aC (mN 0) (aC (mN 1) (aN))))) : MS) [some (R.f (.list (bs.map PyData.int))), some (R.f (.int (n : Nat))), some (R.f (.int (a : Nat))), none, none, none, none, none, none] = some (.nx [some (R.f (.list (bs.map PyData.int))), some (R.f (.int (n : Nat))), some (R.f (.int (a : Nat))), some (R.f (.list ((waysL bs n).map PyData.int))), none, none, none, none, none]) := by
    simp -implicitDefEqProofs only [xrunS, xstartE, xSeq, xIf, xRet, xSetF, xSetE, xFz, xfrzE, xPre, xtPre, xAsg, xPar, xRetT, xRetV, xDrop, xNx, xBk, xCt, xNo, xFor, xI, xi2, x2, x1, xA, xN, xV, xC, xF, xD, xSc, xB, xCh, xtN, xtA, xtO, xtY, xvN, xvA, xvO, xmIf, xTup, xLst, xList, xCall, xDict, xaN, xaC, xSl, xoN, xoS, xIt, xRg1, xRg2, xEnum, xZip, xLc, xcN, xcF, xgN, xgT, xgsN, xgsC, xat0, xatS, xd1, xd2, xd3, xfz, xAdd, xSub, xLt, xLe, xGt, xGe, xix1, xix2, xlen1, xlen2, xabs, xmax, xsum, xany, xall, xisB, xisNotB, xs1, xs2, xs3, xs4, xsc1, xsc2, xb, xint, xlist, xitems1, xitems2, xkey, xisi1, xisi2, xisi3, xisi4, xisi5, xw0, xw1, xEqI, xNeI, xNeB, xIxO, xl1, xl2, xSort, xat_0, xat_1, xat_2, xk0, xk1, xk2, xk3, xk4, xk5, xk6, xk7, Int.reduceEq, Option.bind_some, Option.map_some, Option.bind_none, Option.map_none, Option.map_map, Function.comp_apply, List.map_nil, List.map_cons, List.length_cons, List.length_nil, List.nil_append, List.cons_append, List.replicate_zero, List.replicate_succ, List.set_cons_zero, List.set_cons_succ, if_true, if_false, Bool.false_eq_true, Bool.not_true, Bool.not_false, Bool.true_and, Bool.and_true, Bool.false_and, Bool.and_false, Bool.true_or, Bool.or_true, Bool.false_or, Bool.or_false, Nat.reduceAdd, Nat.reduceSub, Nat.reduceEqDiff, Nat.reduceLeDiff, Nat.reduceLT, beq_self_eq_true, Int.reduceLT, Int.reduceLE, Int.reduceAdd, Int.reduceSub, Int.reduceNeg, decide_true, decide_false, ite_self, xd4, c2]
  have s2 : (sIf (tN (mB (mD (mCall (sem (k+4) .is_within) (aC (mN 2) (aC (mC (.int 0)) (aC (mI gSub (m2 gIx (mV 3) (mV 1)) (mC (.int 1))) (aN)))))))) (sNo) (sNx) : MS) [some (R.f (.list (bs.map PyData.int))), some (R.f (.int (n : Nat))), some (R.f (.int (a : Nat))), some (R.f (.list ((waysL bs n).map PyData.int))), none, none, none, none, none] = some (.nx [some (R.f (.list (bs.map PyData.int))), some (R.f (.int (n : Nat))), some (R.f (.int (a : Nat))), some (R.f (.list ((waysL bs n).map PyData.int))), none, none, none, none, none]) := by
    simp -implicitDefEqProofs only [xrunS, xstartE, xSeq, xIf, xRet, xSetF, xSetE, xFz, xfrzE, xPre, xtPre, xAsg, xPar, xRetT, xRetV, xDrop, xNx, xBk, xCt, xNo, xFor, xI, xi2, x2, x1, xA, xN, xV, xC, xF, xD, xSc, xB, xCh, xtN, xtA, xtO, xtY, xvN, xvA, xvO, xmIf, xTup, xLst, xList, xCall, xDict, xaN, xaC, xSl, xoN, xoS, xIt, xRg1, xRg2, xEnum, xZip, xLc, xcN, xcF, xgN, xgT, xgsN, xgsC, xat0, xatS, xd1, xd2, xd3, xfz, xAdd, xSub, xLt, xLe, xGt, xGe, xix1, xix2, xlen1, xlen2, xabs, xmax, xsum, xany, xall, xisB, xisNotB, xs1, xs2, xs3, xs4, xsc1, xsc2, xb, xint, xlist, xitems1, xitems2, xkey, xisi1, xisi2, xisi3, xisi4, xisi5, xw0, xw1, xEqI, xNeI, xNeB, xIxO, xl1, xl2, xSort, xat_0, xat_1, xat_2, xk0, xk1, xk2, xk3, xk4, xk5, xk6, xk7, Int.reduceEq, Option.bind_some, Option.map_some, Option.bind_none, Option.map_none, Option.map_map, Function.comp_apply, List.map_nil, List.map_cons, List.length_cons, List.length_nil, List.nil_append, List.cons_append, List.replicate_zero, List.replicate_succ, List.set_cons_zero, List.set_cons_succ, if_true, if_false, Bool.false_eq_true, Bool.not_true, Bool.not_false, Bool.true_and, Bool.and_true, Bool.false_and, Bool.and_false, Bool.true_or, Bool.or_true, Bool.false_or, Bool.or_false, Nat.reduceAdd, Nat.reduceSub, Nat.reduceEqDiff, Nat.reduceLeDiff, Nat.reduceLT, beq_self_eq_true, Int.reduceLT, Int.reduceLE, Int.reduceAdd, Int.reduceSub, Int.reduceNeg, decide_true, decide_false, ite_self, xd4, hat, c3, hwi]
  rw [seq_nx s0, seq_nx s1, seq_nx s2]
  generalize hWL : PyData.list ((waysL bs n).map PyData.int) = WL at *
  rw [seq_nx (ρ' := [some (R.f (.list (bs.map PyData.int))), some (R.f (.int (n : Nat))), some (R.f (.int (a : Nat))), some (R.f WL), some (R.ol []), none, none, none, none]) rfl]
  rw [seq_nx (ρ' := [some (R.f (.list (bs.map PyData.int))), some (R.f (.int (n : Nat))), some (R.f (.int (a : Nat))), some (R.f WL), some (R.ol []), some (R.f (.int (a : Nat))), none, none, none]) rfl]
  rw [seq_nx (ρ' := [some (R.f (.list (bs.map PyData.int))), some (R.f (.int (n : Nat))), some (R.f (.int (a : Nat))), some (R.f WL), some (R.ol []), some (R.f (.int (a : Nat))), some (R.f (.int (n : Nat))), none, none]) rfl]
  rw [seq_nx (ρ' := ρ')]
  · rw [xRetV, e3]
    rfl
  · exact e1
end K18

namespace K18
open PySem PySem.Spec PyProof.Rows L2 Vs
theorem isLay_mem {bs : List Int} : ∀ {js : List Int} {n : Int}, IsLay bs n js → ∀ j ∈ js, 0 ≤ j ∧ ∃ l, bs[j.toNat]? = some l
  | [], _, _, j, hj => by simp at hj
  | i :: js, n, h, j, hj => by
    unfold IsLay at h
    obtain ⟨l, h1, h2, _, h4⟩ := h
    rcases List.mem_cons.mp hj with rfl | hj
    · exact ⟨h1, l, h2⟩
    · exact isLay_mem h4 j hj
theorem isLay_sum {bs : List Int} : ∀ {js : List Int} {n : Int}, IsLay bs n js → (js.map fun j => bs.getD j.toNat 0).sum = n
  | [], n, h => by unfold IsLay at h; rw [h]; rfl
  | i :: js, n, h => by
    unfold IsLay at h
    obtain ⟨l, h1, h2, _, h4⟩ := h
    rw [List.map_cons, List.sum_cons, isLay_sum h4, List.getD_eq_getElem?_getD, h2]
    simp only [Option.getD_some]
    omega
theorem isLay_len {bs : List Int} (B : ∀ l ∈ bs, 1 ≤ l) : ∀ {js : List Int} {n : Int}, IsLay bs n js → (js.length : Int) ≤ n
  | [], n, h => by unfold IsLay at h; rw [h]; decide
  | i :: js, n, h => by
    unfold IsLay at h
    obtain ⟨l, h1, h2, _, h4⟩ := h
    have := B l (List.mem_of_getElem? h2)
    have := isLay_len B h4
    rw [List.length_cons]
    omega
theorem is_laying_ok (k : Nat) {bs : List Int} (B : BarsOk bs) {n : Nat} (hn : n ≤ 300) {js : List Int} (h : IsLay bs n js) : sem (k+3) .is_laying [.list (bs.map PyData.int), .int (n : Nat), .list (js.map PyData.int)] = some (.f (.bool true)) := by
  rw [e_is_laying]
  have hj := isLay_len (fun l hl => (B.inr l hl).1) h
  have hl : js.length ≤ 1000000 := by omega
  have hm := isLay_mem h
  have hs := isLay_sum h
  have hc : colD (gN 3) tY (mD (mCall (sem (k+2) .is_within) (aC (mN 3) (aC (mC (.int 0)) (aC (mI gSub (mA (fun x => (gLen x).map Sc.d) (aC (mV 0) (aN))) (mC (.int 1))) (aN)))))) [some (R.f (.list (bs.map PyData.int))), some (R.f (.int (n : Nat))), some (R.f (.list (js.map PyData.int))), none] (js.map PyData.int) = some (js.map fun j => .bool (decide ((0 : Int) ≤ j) && decide (j ≤ (bs.length : Nat) - 1))) := by
    refine colD_mapE fun j hj => ?_
    simp only [xrunS, xstartE, xSeq, xIf, xRet, xSetF, xSetE, xFz, xfrzE, xPre, xtPre, xAsg, xPar, xRetT, xRetV, xDrop, xNx, xBk, xCt, xNo, xFor, xI, xi2, x2, x1, xA, xN, xV, xC, xF, xD, xSc, xB, xCh, xtN, xtA, xtO, xtY, xvN, xvA, xvO, xmIf, xTup, xLst, xList, xCall, xDict, xaN, xaC, xSl, xoN, xoS, xIt, xRg1, xRg2, xEnum, xZip, xLc, xcN, xcF, xgN, xgT, xgsN, xgsC, xat0, xatS, xd1, xd2, xd3, xfz, xAdd, xSub, xLt, xLe, xGt, xGe, xix1, xix2, xlen1, xlen2, xabs, xmax, xsum, xany, xall, xisB, xisNotB, xs1, xs2, xs3, xs4, xsc1, xsc2, xb, xint, xlist, xitems1, xitems2, xkey, xisi1, xisi2, xisi3, xisi4, xisi5, xw0, xw1, xEqI, xNeI, xNeB, xIxO, xl1, xl2, xSort, xat_0, xat_1, xat_2, xk0, xk1, xk2, xk3, xk4, xk5, xk6, xk7, Int.reduceEq, Option.bind_some, Option.map_some, Option.bind_none, Option.map_none, Option.map_map, Function.comp_apply, List.map_nil, List.map_cons, List.length_cons, List.length_nil, List.nil_append, List.cons_append, List.replicate_zero, List.replicate_succ, List.set_cons_zero, List.set_cons_succ, if_true, if_false, Bool.false_eq_true, Bool.not_true, Bool.not_false, Bool.true_and, Bool.and_true, Bool.false_and, Bool.and_false, Bool.true_or, Bool.or_true, Bool.false_or, Bool.or_false, Nat.reduceAdd, Nat.reduceSub, Nat.reduceEqDiff, Nat.reduceLeDiff, Nat.reduceLT, beq_self_eq_true, Int.reduceLT, Int.reduceLE, Int.reduceAdd, Int.reduceSub, Int.reduceNeg, decide_true, decide_false, ite_self, xd4, is_within_int, List.length_map]
  have hc2 : colD (gN 3) tY (m2 gIx (mN 0) (mV 3)) [some (R.f (.list (bs.map PyData.int))), some (R.f (.int (n : Nat))), some (R.f (.list (js.map PyData.int))), none] (js.map PyData.int) = some ((js.map fun j => bs.getD j.toNat 0).map PyData.int) := by
    rw [List.map_map]
    refine colD_mapE fun j hj => ?_
    obtain ⟨j0, l, hl⟩ := hm j hj
    have hg : atI (bs.map PyData.int) j = some (.int (bs.getD j.toNat 0)) := atI_ints j0 (by rw [List.getD_eq_getElem?_getD, hl]; rfl)
    simp only [xrunS, xstartE, xSeq, xIf, xRet, xSetF, xSetE, xFz, xfrzE, xPre, xtPre, xAsg, xPar, xRetT, xRetV, xDrop, xNx, xBk, xCt, xNo, xFor, xI, xi2, x2, x1, xA, xN, xV, xC, xF, xD, xSc, xB, xCh, xtN, xtA, xtO, xtY, xvN, xvA, xvO, xmIf, xTup, xLst, xList, xCall, xDict, xaN, xaC, xSl, xoN, xoS, xIt, xRg1, xRg2, xEnum, xZip, xLc, xcN, xcF, xgN, xgT, xgsN, xgsC, xat0, xatS, xd1, xd2, xd3, xfz, xAdd, xSub, xLt, xLe, xGt, xGe, xix1, xix2, xlen1, xlen2, xabs, xmax, xsum, xany, xall, xisB, xisNotB, xs1, xs2, xs3, xs4, xsc1, xsc2, xb, xint, xlist, xitems1, xitems2, xkey, xisi1, xisi2, xisi3, xisi4, xisi5, xw0, xw1, xEqI, xNeI, xNeB, xIxO, xl1, xl2, xSort, xat_0, xat_1, xat_2, xk0, xk1, xk2, xk3, xk4, xk5, xk6, xk7, Int.reduceEq, Option.bind_some, Option.map_some, Option.bind_none, Option.map_none, Option.map_map, Function.comp_apply, List.map_nil, List.map_cons, List.length_cons, List.length_nil, List.nil_append, List.cons_append, List.replicate_zero, List.replicate_succ, List.set_cons_zero, List.set_cons_succ, if_true, if_false, Bool.false_eq_true, Bool.not_true, Bool.not_false, Bool.true_and, Bool.and_true, Bool.false_and, Bool.and_false, Bool.true_or, Bool.or_true, Bool.false_or, Bool.or_false, Nat.reduceAdd, Nat.reduceSub, Nat.reduceEqDiff, Nat.reduceLeDiff, Nat.reduceLT, beq_self_eq_true, Int.reduceLT, Int.reduceLE, Int.reduceAdd, Int.reduceSub, Int.reduceNeg, decide_true, decide_false, ite_self, xd4, hg]
    try rfl
  have ha : (js.all fun j => decide ((0 : Int) ≤ j) && decide (j ≤ (bs.length : Nat) - 1)) = true := by
    refine List.all_eq_true.mpr fun j hj => ?_
    obtain ⟨j0, l, hl⟩ := hm j hj
    obtain ⟨hlt, _⟩ := List.getElem?_eq_some_iff.mp hl
    simp
    omega
  simp only [m_is_laying, xrunS, xstartE, xSeq, xIf, xRet, xSetF, xSetE, xFz, xfrzE, xPre, xtPre, xAsg, xPar, xRetT, xRetV, xDrop, xNx, xBk, xCt, xNo, xFor, xI, xi2, x2, x1, xA, xN, xV, xC, xF, xD, xSc, xB, xCh, xtN, xtA, xtO, xtY, xvN, xvA, xvO, xmIf, xTup, xLst, xList, xCall, xDict, xaN, xaC, xSl, xoN, xoS, xIt, xRg1, xRg2, xEnum, xZip, xLc, xcN, xcF, xgN, xgT, xgsN, xgsC, xat0, xatS, xd1, xd2, xd3, xfz, xAdd, xSub, xLt, xLe, xGt, xGe, xix1, xix2, xlen1, xlen2, xabs, xmax, xsum, xany, xall, xisB, xisNotB, xs1, xs2, xs3, xs4, xsc1, xsc2, xb, xint, xlist, xitems1, xitems2, xkey, xisi1, xisi2, xisi3, xisi4, xisi5, xw0, xw1, xEqI, xNeI, xNeB, xIxO, xl1, xl2, xSort, xat_0, xat_1, xat_2, xk0, xk1, xk2, xk3, xk4, xk5, xk6, xk7, Int.reduceEq, Option.bind_some, Option.map_some, Option.bind_none, Option.map_none, Option.map_map, Function.comp_apply, List.map_nil, List.map_cons, List.length_cons, List.length_nil, List.nil_append, List.cons_append, List.replicate_zero, List.replicate_succ, List.set_cons_zero, List.set_cons_succ, if_true, if_false, Bool.false_eq_true, Bool.not_true, Bool.not_false, Bool.true_and, Bool.and_true, Bool.false_and, Bool.and_false, Bool.true_or, Bool.or_true, Bool.false_or, Bool.or_false, Nat.reduceAdd, Nat.reduceSub, Nat.reduceEqDiff, Nat.reduceLeDiff, Nat.reduceLT, beq_self_eq_true, Int.reduceLT, Int.reduceLE, Int.reduceAdd, Int.reduceSub, Int.reduceNeg, decide_true, decide_false, ite_self, xd4, List.length_map]
  rw [if_pos hl, hc]
  simp only [xrunS, xstartE, xSeq, xIf, xRet, xSetF, xSetE, xFz, xfrzE, xPre, xtPre, xAsg, xPar, xRetT, xRetV, xDrop, xNx, xBk, xCt, xNo, xFor, xI, xi2, x2, x1, xA, xN, xV, xC, xF, xD, xSc, xB, xCh, xtN, xtA, xtO, xtY, xvN, xvA, xvO, xmIf, xTup, xLst, xList, xCall, xDict, xaN, xaC, xSl, xoN, xoS, xIt, xRg1, xRg2, xEnum, xZip, xLc, xcN, xcF, xgN, xgT, xgsN, xgsC, xat0, xatS, xd1, xd2, xd3, xfz, xAdd, xSub, xLt, xLe, xGt, xGe, xix1, xix2, xlen1, xlen2, xabs, xmax, xsum, xany, xall, xisB, xisNotB, xs1, xs2, xs3, xs4, xsc1, xsc2, xb, xint, xlist, xitems1, xitems2, xkey, xisi1, xisi2, xisi3, xisi4, xisi5, xw0, xw1, xEqI, xNeI, xNeB, xIxO, xl1, xl2, xSort, xat_0, xat_1, xat_2, xk0, xk1, xk2, xk3, xk4, xk5, xk6, xk7, Int.reduceEq, Option.bind_some, Option.map_some, Option.bind_none, Option.map_none, Option.map_map, Function.comp_apply, List.map_nil, List.map_cons, List.length_cons, List.length_nil, List.nil_append, List.cons_append, List.replicate_zero, List.replicate_succ, List.set_cons_zero, List.set_cons_succ, if_true, if_false, Bool.false_eq_true, Bool.not_true, Bool.not_false, Bool.true_and, Bool.and_true, Bool.false_and, Bool.and_false, Bool.true_or, Bool.or_true, Bool.false_or, Bool.or_false, Nat.reduceAdd, Nat.reduceSub, Nat.reduceEqDiff, Nat.reduceLeDiff, Nat.reduceLT, beq_self_eq_true, Int.reduceLT, Int.reduceLE, Int.reduceAdd, Int.reduceSub, Int.reduceNeg, decide_true, decide_false, ite_self, xd4, bls_fun, all_fun, ha]
  rw [hc2, List.length_map, if_pos hl]
  simp only [xrunS, xstartE, xSeq, xIf, xRet, xSetF, xSetE, xFz, xfrzE, xPre, xtPre, xAsg, xPar, xRetT, xRetV, xDrop, xNx, xBk, xCt, xNo, xFor, xI, xi2, x2, x1, xA, xN, xV, xC, xF, xD, xSc, xB, xCh, xtN, xtA, xtO, xtY, xvN, xvA, xvO, xmIf, xTup, xLst, xList, xCall, xDict, xaN, xaC, xSl, xoN, xoS, xIt, xRg1, xRg2, xEnum, xZip, xLc, xcN, xcF, xgN, xgT, xgsN, xgsC, xat0, xatS, xd1, xd2, xd3, xfz, xAdd, xSub, xLt, xLe, xGt, xGe, xix1, xix2, xlen1, xlen2, xabs, xmax, xsum, xany, xall, xisB, xisNotB, xs1, xs2, xs3, xs4, xsc1, xsc2, xb, xint, xlist, xitems1, xitems2, xkey, xisi1, xisi2, xisi3, xisi4, xisi5, xw0, xw1, xEqI, xNeI, xNeB, xIxO, xl1, xl2, xSort, xat_0, xat_1, xat_2, xk0, xk1, xk2, xk3, xk4, xk5, xk6, xk7, Int.reduceEq, Option.bind_some, Option.map_some, Option.bind_none, Option.map_none, Option.map_map, Function.comp_apply, List.map_nil, List.map_cons, List.length_cons, List.length_nil, List.nil_append, List.cons_append, List.replicate_zero, List.replicate_succ, List.set_cons_zero, List.set_cons_succ, if_true, if_false, Bool.false_eq_true, Bool.not_true, Bool.not_false, Bool.true_and, Bool.and_true, Bool.false_and, Bool.and_false, Bool.true_or, Bool.or_true, Bool.false_or, Bool.or_false, Nat.reduceAdd, Nat.reduceSub, Nat.reduceEqDiff, Nat.reduceLeDiff, Nat.reduceLT, beq_self_eq_true, Int.reduceLT, Int.reduceLE, Int.reduceAdd, Int.reduceSub, Int.reduceNeg, decide_true, decide_false, ite_self, xd4, ints?_map, hs, decide_true]
theorem flat_split {α : Type} (F : α → List (List Int)) : ∀ (zs : List α) (a : Nat) (y : List Int), (zs.flatMap F)[a]? = some y → ∃ i x j, zs[i]? = some x ∧ (F x)[j]? = some y ∧ (a : Int) = ((zs.map fun x => ((F x).length : Int)).take i).sum + (j : Nat)
  | [], a, y, h => by simp at h
  | x :: zs, a, y, h => by
    rw [List.flatMap_cons] at h
    by_cases ha : a < (F x).length
    · rw [List.getElem?_append_left ha] at h
      exact ⟨0, x, a, rfl, h, by simp⟩
    · rw [List.getElem?_append_right (by omega)] at h
      obtain ⟨i, x', j, h1, h2, h3⟩ := flat_split F zs _ y h
      refine ⟨i + 1, x', j, by simpa using h1, h2, ?_⟩
      rw [List.map_cons, List.take_succ_cons, List.sum_cons]
      omega
abbrev nmB (k : Nat) : MS := (sSeq (sAug 4 gAdd (mA (fun x => (gSum x).map Sc.d) (aC (mD (mSl (mD (mCall (sem k .begun_with) (aC (mN 0) (aC (mN 3) (aC (mN 5) (aN)))))) (oN) (oS (mV 6)))) (aN))))
    (sAug 5 gSub (m2 gIx (mV 0) (mV 6))))
theorem num_loop (q : Nat) {bs : List Int} (B : BarsOk bs) {n : Nat} (hn : n ≤ 300) : ∀ (f : Nat) (r : Int) (a : Nat) (js : List Int) (acc : Int) (ρ : En), 0 ≤ r → r ≤ f → r ≤ n → (lyN bs f r)[a]? = some js → ρ.length = 7 → at' ρ 0 = some (R.f (.list (bs.map PyData.int))) → at' ρ 3 = some (R.f (.list ((waysL bs n).map PyData.int))) → at' ρ 4 = some (R.f (.int acc)) → at' ρ 5 = some (R.f (.int r)) →
    ∃ ρ', loopF (gN 6) (nmB (q+1)) (js.map PyData.int) ρ = some (.nx ρ') ∧ at' ρ' 4 = some (R.f (.int (acc + (a : Nat)))) := by
  intro f
  have B1 : ∀ l ∈ bs, 1 ≤ l := fun l hl => (B.inr l hl).1
  have z : ∀ (a : Nat) (js : List Int) (acc : Int) (ρ : En), ([[]] : List (List Int))[a]? = some js → at' ρ 4 = some (R.f (.int acc)) → ∃ ρ', loopF (gN 6) (nmB (q+1)) (js.map PyData.int) ρ = some (.nx ρ') ∧ at' ρ' 4 = some (R.f (.int (acc + (a : Nat)))) := by
    intro a js acc ρ h h4
    have ha : a = 0 := by
      obtain ⟨h1, _⟩ := List.getElem?_eq_some_iff.mp h
      simpa using h1
    subst ha
    cases h
    exact ⟨ρ, rfl, by rw [h4]; simp⟩
  induction f with
  | zero =>
    intro r a js acc ρ r0 r1 r2 h hl h0 h3 h4 h5
    have e : r = 0 := by omega
    subst e
    rw [lyN, if_pos rfl] at h
    exact z a js acc ρ h h4
  | succ f ih =>
    intro r a js acc ρ r0 r1 r2 h hl h0 h3 h4 h5
    by_cases e : r = 0
    · subst e
      rw [lyN, if_pos rfl] at h
      exact z a js acc ρ h h4
    · have hly : lyN bs (f + 1) r = (bs.zipIdx 0).flatMap (lyF bs f r) := by rw [lyN, if_neg e]; rfl
      rw [hly] at h
      obtain ⟨i, x, j, q2, q4, hsum⟩ := flat_split _ _ a js h
      have hbw := begun_with_ok q B (ws := waysL bs n) (r := r) (by rw [waysL_len]; omega)
      have hG : begL bs (waysL bs n) r = (bs.zipIdx 0).map fun x => ((lyF bs f r x).length : Int) := by
        rw [begL_ways B1 (by omega), ← zipI_map (g := fun l => Wz bs (r - l)) 0]
        exact List.map_congr_left fun p hp => (lyF_len B1 (by omega) hp).symm
      rw [hG] at hbw
      have hi : i < bs.length ∧ x.2 = i := by
        obtain ⟨w1, w2⟩ := List.getElem?_eq_some_iff.mp q2
        rw [List.length_zipIdx] at w1
        rw [List.getElem_zipIdx] at w2
        exact ⟨w1, by rw [← w2]; simp⟩
      have hxm := List.mem_of_getElem? q2
      have hxb := zipI_mem hxm
      rw [hi.2] at hxb
      have hle : x.1 ≤ r := by
        by_cases z : x.1 ≤ r
        · exact z
        · unfold lyF at q4; rw [if_neg z] at q4; simp at q4
      have x1 := B1 x.1 (zipI_fst hxm)
      have hF : lyF bs f r x = (lyN bs f (r - x.1)).map (((i : Nat) : Int) :: ·) := by unfold lyF; rw [if_pos hle, hi.2]
      rw [hF, List.getElem?_map] at q4
      obtain ⟨js', q5, rfl⟩ := Option.map_eq_some_iff.mp q4
      generalize hS : (((bs.zipIdx 0).map fun x => ((lyF bs f r x).length : Int)).take i).sum = S at hsum
      generalize hGL : ((bs.zipIdx 0).map fun x => ((lyF bs f r x).length : Int)) = gl at hbw hS
      have hbi : atI (bs.map PyData.int) ((i : Nat) : Int) = some (.int x.1) := atI_ints (by omega) (by rw [Int.toNat_natCast]; exact hxb)
      rw [List.map_cons]
      generalize hρ1 : ρ.set 6 (some (R.f (.int ((i : Nat) : Int)))) = ρ1
      have l1 : ρ1.length = 7 := by subst hρ1; simp only [List.length_set, hl]
      have a0 : at' ρ1 0 = some (R.f (.list (bs.map PyData.int))) := by subst hρ1; simp only [xrunS, xstartE, xSeq, xIf, xRet, xSetF, xSetE, xFz, xfrzE, xPre, xtPre, xAsg, xPar, xRetT, xRetV, xDrop, xNx, xBk, xCt, xNo, xFor, xI, xi2, x2, x1, xA, xN, xV, xC, xF, xD, xSc, xB, xCh, xtN, xtA, xtO, xtY, xvN, xvA, xvO, xmIf, xTup, xLst, xList, xCall, xDict, xaN, xaC, xSl, xoN, xoS, xIt, xRg1, xRg2, xEnum, xZip, xLc, xcN, xcF, xgN, xgT, xgsN, xgsC, xat0, xatS, xd1, xd2, xd3, xfz, xAdd, xSub, xLt, xLe, xGt, xGe, xix1, xix2, xlen1, xlen2, xabs, xmax, xsum, xany, xall, xisB, xisNotB, xs1, xs2, xs3, xs4, xsc1, xsc2, xb, xint, xlist, xitems1, xitems2, xkey, xisi1, xisi2, xisi3, xisi4, xisi5, xw0, xw1, xEqI, xNeI, xNeB, xIxO, xl1, xl2, xSort, xat_0, xat_1, xat_2, xk0, xk1, xk2, xk3, xk4, xk5, xk6, xk7, Int.reduceEq, Option.bind_some, Option.map_some, Option.bind_none, Option.map_none, Option.map_map, Function.comp_apply, List.map_nil, List.map_cons, List.length_cons, List.length_nil, List.nil_append, List.cons_append, List.replicate_zero, List.replicate_succ, if_true, if_false, Bool.false_eq_true, Bool.not_true, Bool.not_false, Bool.true_and, Bool.and_true, Bool.false_and, Bool.and_false, Bool.true_or, Bool.or_true, Bool.false_or, Bool.or_false, Nat.reduceAdd, Nat.reduceSub, Nat.reduceEqDiff, Nat.reduceLeDiff, Nat.reduceLT, beq_self_eq_true, Int.reduceLT, Int.reduceLE, Int.reduceAdd, Int.reduceSub, Int.reduceNeg, decide_true, decide_false, ite_self, xd4, at_set, List.length_set, xCallB, xAug, free_ints, free_int, free_bool, free_dn, h0]
      have a3 : at' ρ1 3 = some (R.f (.list ((waysL bs n).map PyData.int))) := by subst hρ1; simp only [xrunS, xstartE, xSeq, xIf, xRet, xSetF, xSetE, xFz, xfrzE, xPre, xtPre, xAsg, xPar, xRetT, xRetV, xDrop, xNx, xBk, xCt, xNo, xFor, xI, xi2, x2, x1, xA, xN, xV, xC, xF, xD, xSc, xB, xCh, xtN, xtA, xtO, xtY, xvN, xvA, xvO, xmIf, xTup, xLst, xList, xCall, xDict, xaN, xaC, xSl, xoN, xoS, xIt, xRg1, xRg2, xEnum, xZip, xLc, xcN, xcF, xgN, xgT, xgsN, xgsC, xat0, xatS, xd1, xd2, xd3, xfz, xAdd, xSub, xLt, xLe, xGt, xGe, xix1, xix2, xlen1, xlen2, xabs, xmax, xsum, xany, xall, xisB, xisNotB, xs1, xs2, xs3, xs4, xsc1, xsc2, xb, xint, xlist, xitems1, xitems2, xkey, xisi1, xisi2, xisi3, xisi4, xisi5, xw0, xw1, xEqI, xNeI, xNeB, xIxO, xl1, xl2, xSort, xat_0, xat_1, xat_2, xk0, xk1, xk2, xk3, xk4, xk5, xk6, xk7, Int.reduceEq, Option.bind_some, Option.map_some, Option.bind_none, Option.map_none, Option.map_map, Function.comp_apply, List.map_nil, List.map_cons, List.length_cons, List.length_nil, List.nil_append, List.cons_append, List.replicate_zero, List.replicate_succ, if_true, if_false, Bool.false_eq_true, Bool.not_true, Bool.not_false, Bool.true_and, Bool.and_true, Bool.false_and, Bool.and_false, Bool.true_or, Bool.or_true, Bool.false_or, Bool.or_false, Nat.reduceAdd, Nat.reduceSub, Nat.reduceEqDiff, Nat.reduceLeDiff, Nat.reduceLT, beq_self_eq_true, Int.reduceLT, Int.reduceLE, Int.reduceAdd, Int.reduceSub, Int.reduceNeg, decide_true, decide_false, ite_self, xd4, at_set, List.length_set, xCallB, xAug, free_ints, free_int, free_bool, free_dn, h3]
      have a4 : at' ρ1 4 = some (R.f (.int acc)) := by subst hρ1; simp only [xrunS, xstartE, xSeq, xIf, xRet, xSetF, xSetE, xFz, xfrzE, xPre, xtPre, xAsg, xPar, xRetT, xRetV, xDrop, xNx, xBk, xCt, xNo, xFor, xI, xi2, x2, x1, xA, xN, xV, xC, xF, xD, xSc, xB, xCh, xtN, xtA, xtO, xtY, xvN, xvA, xvO, xmIf, xTup, xLst, xList, xCall, xDict, xaN, xaC, xSl, xoN, xoS, xIt, xRg1, xRg2, xEnum, xZip, xLc, xcN, xcF, xgN, xgT, xgsN, xgsC, xat0, xatS, xd1, xd2, xd3, xfz, xAdd, xSub, xLt, xLe, xGt, xGe, xix1, xix2, xlen1, xlen2, xabs, xmax, xsum, xany, xall, xisB, xisNotB, xs1, xs2, xs3, xs4, xsc1, xsc2, xb, xint, xlist, xitems1, xitems2, xkey, xisi1, xisi2, xisi3, xisi4, xisi5, xw0, xw1, xEqI, xNeI, xNeB, xIxO, xl1, xl2, xSort, xat_0, xat_1, xat_2, xk0, xk1, xk2, xk3, xk4, xk5, xk6, xk7, Int.reduceEq, Option.bind_some, Option.map_some, Option.bind_none, Option.map_none, Option.map_map, Function.comp_apply, List.map_nil, List.map_cons, List.length_cons, List.length_nil, List.nil_append, List.cons_append, List.replicate_zero, List.replicate_succ, if_true, if_false, Bool.false_eq_true, Bool.not_true, Bool.not_false, Bool.true_and, Bool.and_true, Bool.false_and, Bool.and_false, Bool.true_or, Bool.or_true, Bool.false_or, Bool.or_false, Nat.reduceAdd, Nat.reduceSub, Nat.reduceEqDiff, Nat.reduceLeDiff, Nat.reduceLT, beq_self_eq_true, Int.reduceLT, Int.reduceLE, Int.reduceAdd, Int.reduceSub, Int.reduceNeg, decide_true, decide_false, ite_self, xd4, at_set, List.length_set, xCallB, xAug, free_ints, free_int, free_bool, free_dn, h4]
      have a5 : at' ρ1 5 = some (R.f (.int r)) := by subst hρ1; simp only [xrunS, xstartE, xSeq, xIf, xRet, xSetF, xSetE, xFz, xfrzE, xPre, xtPre, xAsg, xPar, xRetT, xRetV, xDrop, xNx, xBk, xCt, xNo, xFor, xI, xi2, x2, x1, xA, xN, xV, xC, xF, xD, xSc, xB, xCh, xtN, xtA, xtO, xtY, xvN, xvA, xvO, xmIf, xTup, xLst, xList, xCall, xDict, xaN, xaC, xSl, xoN, xoS, xIt, xRg1, xRg2, xEnum, xZip, xLc, xcN, xcF, xgN, xgT, xgsN, xgsC, xat0, xatS, xd1, xd2, xd3, xfz, xAdd, xSub, xLt, xLe, xGt, xGe, xix1, xix2, xlen1, xlen2, xabs, xmax, xsum, xany, xall, xisB, xisNotB, xs1, xs2, xs3, xs4, xsc1, xsc2, xb, xint, xlist, xitems1, xitems2, xkey, xisi1, xisi2, xisi3, xisi4, xisi5, xw0, xw1, xEqI, xNeI, xNeB, xIxO, xl1, xl2, xSort, xat_0, xat_1, xat_2, xk0, xk1, xk2, xk3, xk4, xk5, xk6, xk7, Int.reduceEq, Option.bind_some, Option.map_some, Option.bind_none, Option.map_none, Option.map_map, Function.comp_apply, List.map_nil, List.map_cons, List.length_cons, List.length_nil, List.nil_append, List.cons_append, List.replicate_zero, List.replicate_succ, if_true, if_false, Bool.false_eq_true, Bool.not_true, Bool.not_false, Bool.true_and, Bool.and_true, Bool.false_and, Bool.and_false, Bool.true_or, Bool.or_true, Bool.false_or, Bool.or_false, Nat.reduceAdd, Nat.reduceSub, Nat.reduceEqDiff, Nat.reduceLeDiff, Nat.reduceLT, beq_self_eq_true, Int.reduceLT, Int.reduceLE, Int.reduceAdd, Int.reduceSub, Int.reduceNeg, decide_true, decide_false, ite_self, xd4, at_set, List.length_set, xCallB, xAug, free_ints, free_int, free_bool, free_dn, h5]
      have a6 : at' ρ1 6 = some (R.f (.int ((i : Nat) : Int))) := by subst hρ1; simp only [xrunS, xstartE, xSeq, xIf, xRet, xSetF, xSetE, xFz, xfrzE, xPre, xtPre, xAsg, xPar, xRetT, xRetV, xDrop, xNx, xBk, xCt, xNo, xFor, xI, xi2, x2, x1, xA, xN, xV, xC, xF, xD, xSc, xB, xCh, xtN, xtA, xtO, xtY, xvN, xvA, xvO, xmIf, xTup, xLst, xList, xCall, xDict, xaN, xaC, xSl, xoN, xoS, xIt, xRg1, xRg2, xEnum, xZip, xLc, xcN, xcF, xgN, xgT, xgsN, xgsC, xat0, xatS, xd1, xd2, xd3, xfz, xAdd, xSub, xLt, xLe, xGt, xGe, xix1, xix2, xlen1, xlen2, xabs, xmax, xsum, xany, xall, xisB, xisNotB, xs1, xs2, xs3, xs4, xsc1, xsc2, xb, xint, xlist, xitems1, xitems2, xkey, xisi1, xisi2, xisi3, xisi4, xisi5, xw0, xw1, xEqI, xNeI, xNeB, xIxO, xl1, xl2, xSort, xat_0, xat_1, xat_2, xk0, xk1, xk2, xk3, xk4, xk5, xk6, xk7, Int.reduceEq, Option.bind_some, Option.map_some, Option.bind_none, Option.map_none, Option.map_map, Function.comp_apply, List.map_nil, List.map_cons, List.length_cons, List.length_nil, List.nil_append, List.cons_append, List.replicate_zero, List.replicate_succ, if_true, if_false, Bool.false_eq_true, Bool.not_true, Bool.not_false, Bool.true_and, Bool.and_true, Bool.false_and, Bool.and_false, Bool.true_or, Bool.or_true, Bool.false_or, Bool.or_false, Nat.reduceAdd, Nat.reduceSub, Nat.reduceEqDiff, Nat.reduceLeDiff, Nat.reduceLT, beq_self_eq_true, Int.reduceLT, Int.reduceLE, Int.reduceAdd, Int.reduceSub, Int.reduceNeg, decide_true, decide_false, ite_self, xd4, at_set, List.length_set, xCallB, xAug, free_ints, free_int, free_bool, free_dn, hl]
      have t1 : (sAug 4 gAdd (mA (fun x => (gSum x).map Sc.d) (aC (mD (mSl (mD (mCall (sem (q+1) .begun_with) (aC (mN 0) (aC (mN 3) (aC (mN 5) (aN)))))) (oN) (oS (mV 6)))) (aN))) : MS) ρ1 = some (.nx (ρ1.set 4 (some (R.f (.int (acc + S)))))) := by
        simp -implicitDefEqProofs only [xrunS, xstartE, xSeq, xIf, xRet, xSetF, xSetE, xFz, xfrzE, xPre, xtPre, xAsg, xPar, xRetT, xRetV, xDrop, xNx, xBk, xCt, xNo, xFor, xI, xi2, x2, x1, xA, xN, xV, xC, xF, xD, xSc, xB, xCh, xtN, xtA, xtO, xtY, xvN, xvA, xvO, xmIf, xTup, xLst, xList, xCall, xDict, xaN, xaC, xSl, xoN, xoS, xIt, xRg1, xRg2, xEnum, xZip, xLc, xcN, xcF, xgN, xgT, xgsN, xgsC, xat0, xatS, xd1, xd2, xd3, xfz, xAdd, xSub, xLt, xLe, xGt, xGe, xix1, xix2, xlen1, xlen2, xabs, xmax, xsum, xany, xall, xisB, xisNotB, xs1, xs2, xs3, xs4, xsc1, xsc2, xb, xint, xlist, xitems1, xitems2, xkey, xisi1, xisi2, xisi3, xisi4, xisi5, xw0, xw1, xEqI, xNeI, xNeB, xIxO, xl1, xl2, xSort, xat_0, xat_1, xat_2, xk0, xk1, xk2, xk3, xk4, xk5, xk6, xk7, Int.reduceEq, Option.bind_some, Option.map_some, Option.bind_none, Option.map_none, Option.map_map, Function.comp_apply, List.map_nil, List.map_cons, List.length_cons, List.length_nil, List.nil_append, List.cons_append, List.replicate_zero, List.replicate_succ, if_true, if_false, Bool.false_eq_true, Bool.not_true, Bool.not_false, Bool.true_and, Bool.and_true, Bool.false_and, Bool.and_false, Bool.true_or, Bool.or_true, Bool.false_or, Bool.or_false, Nat.reduceAdd, Nat.reduceSub, Nat.reduceEqDiff, Nat.reduceLeDiff, Nat.reduceLT, beq_self_eq_true, Int.reduceLT, Int.reduceLE, Int.reduceAdd, Int.reduceSub, Int.reduceNeg, decide_true, decide_false, ite_self, xd4, at_set, List.length_set, xCallB, xAug, free_ints, free_int, free_bool, free_dn, a0, a3, a4, a5, a6, hbw, cutD_take (show (0 : Int) ≤ ((i : Nat) : Int) by omega), Int.toNat_natCast, ← List.map_take, ints?_map, hS]
      have t2 : (sAug 5 gSub (m2 gIx (mV 0) (mV 6)) : MS) (ρ1.set 4 (some (R.f (.int (acc + S))))) = some (.nx ((ρ1.set 4 (some (R.f (.int (acc + S))))).set 5 (some (R.f (.int (r - x.1)))))) := by
        simp only [xrunS, xstartE, xSeq, xIf, xRet, xSetF, xSetE, xFz, xfrzE, xPre, xtPre, xAsg, xPar, xRetT, xRetV, xDrop, xNx, xBk, xCt, xNo, xFor, xI, xi2, x2, x1, xA, xN, xV, xC, xF, xD, xSc, xB, xCh, xtN, xtA, xtO, xtY, xvN, xvA, xvO, xmIf, xTup, xLst, xList, xCall, xDict, xaN, xaC, xSl, xoN, xoS, xIt, xRg1, xRg2, xEnum, xZip, xLc, xcN, xcF, xgN, xgT, xgsN, xgsC, xat0, xatS, xd1, xd2, xd3, xfz, xAdd, xSub, xLt, xLe, xGt, xGe, xix1, xix2, xlen1, xlen2, xabs, xmax, xsum, xany, xall, xisB, xisNotB, xs1, xs2, xs3, xs4, xsc1, xsc2, xb, xint, xlist, xitems1, xitems2, xkey, xisi1, xisi2, xisi3, xisi4, xisi5, xw0, xw1, xEqI, xNeI, xNeB, xIxO, xl1, xl2, xSort, xat_0, xat_1, xat_2, xk0, xk1, xk2, xk3, xk4, xk5, xk6, xk7, Int.reduceEq, Option.bind_some, Option.map_some, Option.bind_none, Option.map_none, Option.map_map, Function.comp_apply, List.map_nil, List.map_cons, List.length_cons, List.length_nil, List.nil_append, List.cons_append, List.replicate_zero, List.replicate_succ, if_true, if_false, Bool.false_eq_true, Bool.not_true, Bool.not_false, Bool.true_and, Bool.and_true, Bool.false_and, Bool.and_false, Bool.true_or, Bool.or_true, Bool.false_or, Bool.or_false, Nat.reduceAdd, Nat.reduceSub, Nat.reduceEqDiff, Nat.reduceLeDiff, Nat.reduceLT, beq_self_eq_true, Int.reduceLT, Int.reduceLE, Int.reduceAdd, Int.reduceSub, Int.reduceNeg, decide_true, decide_false, ite_self, xd4, at_set, List.length_set, xCallB, xAug, free_ints, free_int, free_bool, free_dn, a0, a5, a6, hbi]
      have hb : nmB (q+1) ρ1 = some (.nx ((ρ1.set 4 (some (R.f (.int (acc + S))))).set 5 (some (R.f (.int (r - x.1)))))) := by
        unfold nmB
        rw [seq_nx t1, t2]
      obtain ⟨ρ', e1, e2⟩ := ih (r - x.1) j js' (acc + S) ((ρ1.set 4 (some (R.f (.int (acc + S))))).set 5 (some (R.f (.int (r - x.1))))) (by omega) (by omega) (by omega) q5 (by simp only [List.length_set, l1]) (by simp only [xrunS, xstartE, xSeq, xIf, xRet, xSetF, xSetE, xFz, xfrzE, xPre, xtPre, xAsg, xPar, xRetT, xRetV, xDrop, xNx, xBk, xCt, xNo, xFor, xI, xi2, x2, x1, xA, xN, xV, xC, xF, xD, xSc, xB, xCh, xtN, xtA, xtO, xtY, xvN, xvA, xvO, xmIf, xTup, xLst, xList, xCall, xDict, xaN, xaC, xSl, xoN, xoS, xIt, xRg1, xRg2, xEnum, xZip, xLc, xcN, xcF, xgN, xgT, xgsN, xgsC, xat0, xatS, xd1, xd2, xd3, xfz, xAdd, xSub, xLt, xLe, xGt, xGe, xix1, xix2, xlen1, xlen2, xabs, xmax, xsum, xany, xall, xisB, xisNotB, xs1, xs2, xs3, xs4, xsc1, xsc2, xb, xint, xlist, xitems1, xitems2, xkey, xisi1, xisi2, xisi3, xisi4, xisi5, xw0, xw1, xEqI, xNeI, xNeB, xIxO, xl1, xl2, xSort, xat_0, xat_1, xat_2, xk0, xk1, xk2, xk3, xk4, xk5, xk6, xk7, Int.reduceEq, Option.bind_some, Option.map_some, Option.bind_none, Option.map_none, Option.map_map, Function.comp_apply, List.map_nil, List.map_cons, List.length_cons, List.length_nil, List.nil_append, List.cons_append, List.replicate_zero, List.replicate_succ, if_true, if_false, Bool.false_eq_true, Bool.not_true, Bool.not_false, Bool.true_and, Bool.and_true, Bool.false_and, Bool.and_false, Bool.true_or, Bool.or_true, Bool.false_or, Bool.or_false, Nat.reduceAdd, Nat.reduceSub, Nat.reduceEqDiff, Nat.reduceLeDiff, Nat.reduceLT, beq_self_eq_true, Int.reduceLT, Int.reduceLE, Int.reduceAdd, Int.reduceSub, Int.reduceNeg, decide_true, decide_false, ite_self, xd4, at_set, List.length_set, xCallB, xAug, free_ints, free_int, free_bool, free_dn, a0]) (by simp only [xrunS, xstartE, xSeq, xIf, xRet, xSetF, xSetE, xFz, xfrzE, xPre, xtPre, xAsg, xPar, xRetT, xRetV, xDrop, xNx, xBk, xCt, xNo, xFor, xI, xi2, x2, x1, xA, xN, xV, xC, xF, xD, xSc, xB, xCh, xtN, xtA, xtO, xtY, xvN, xvA, xvO, xmIf, xTup, xLst, xList, xCall, xDict, xaN, xaC, xSl, xoN, xoS, xIt, xRg1, xRg2, xEnum, xZip, xLc, xcN, xcF, xgN, xgT, xgsN, xgsC, xat0, xatS, xd1, xd2, xd3, xfz, xAdd, xSub, xLt, xLe, xGt, xGe, xix1, xix2, xlen1, xlen2, xabs, xmax, xsum, xany, xall, xisB, xisNotB, xs1, xs2, xs3, xs4, xsc1, xsc2, xb, xint, xlist, xitems1, xitems2, xkey, xisi1, xisi2, xisi3, xisi4, xisi5, xw0, xw1, xEqI, xNeI, xNeB, xIxO, xl1, xl2, xSort, xat_0, xat_1, xat_2, xk0, xk1, xk2, xk3, xk4, xk5, xk6, xk7, Int.reduceEq, Option.bind_some, Option.map_some, Option.bind_none, Option.map_none, Option.map_map, Function.comp_apply, List.map_nil, List.map_cons, List.length_cons, List.length_nil, List.nil_append, List.cons_append, List.replicate_zero, List.replicate_succ, if_true, if_false, Bool.false_eq_true, Bool.not_true, Bool.not_false, Bool.true_and, Bool.and_true, Bool.false_and, Bool.and_false, Bool.true_or, Bool.or_true, Bool.false_or, Bool.or_false, Nat.reduceAdd, Nat.reduceSub, Nat.reduceEqDiff, Nat.reduceLeDiff, Nat.reduceLT, beq_self_eq_true, Int.reduceLT, Int.reduceLE, Int.reduceAdd, Int.reduceSub, Int.reduceNeg, decide_true, decide_false, ite_self, xd4, at_set, List.length_set, xCallB, xAug, free_ints, free_int, free_bool, free_dn, a3]) (by simp only [xrunS, xstartE, xSeq, xIf, xRet, xSetF, xSetE, xFz, xfrzE, xPre, xtPre, xAsg, xPar, xRetT, xRetV, xDrop, xNx, xBk, xCt, xNo, xFor, xI, xi2, x2, x1, xA, xN, xV, xC, xF, xD, xSc, xB, xCh, xtN, xtA, xtO, xtY, xvN, xvA, xvO, xmIf, xTup, xLst, xList, xCall, xDict, xaN, xaC, xSl, xoN, xoS, xIt, xRg1, xRg2, xEnum, xZip, xLc, xcN, xcF, xgN, xgT, xgsN, xgsC, xat0, xatS, xd1, xd2, xd3, xfz, xAdd, xSub, xLt, xLe, xGt, xGe, xix1, xix2, xlen1, xlen2, xabs, xmax, xsum, xany, xall, xisB, xisNotB, xs1, xs2, xs3, xs4, xsc1, xsc2, xb, xint, xlist, xitems1, xitems2, xkey, xisi1, xisi2, xisi3, xisi4, xisi5, xw0, xw1, xEqI, xNeI, xNeB, xIxO, xl1, xl2, xSort, xat_0, xat_1, xat_2, xk0, xk1, xk2, xk3, xk4, xk5, xk6, xk7, Int.reduceEq, Option.bind_some, Option.map_some, Option.bind_none, Option.map_none, Option.map_map, Function.comp_apply, List.map_nil, List.map_cons, List.length_cons, List.length_nil, List.nil_append, List.cons_append, List.replicate_zero, List.replicate_succ, if_true, if_false, Bool.false_eq_true, Bool.not_true, Bool.not_false, Bool.true_and, Bool.and_true, Bool.false_and, Bool.and_false, Bool.true_or, Bool.or_true, Bool.false_or, Bool.or_false, Nat.reduceAdd, Nat.reduceSub, Nat.reduceEqDiff, Nat.reduceLeDiff, Nat.reduceLT, beq_self_eq_true, Int.reduceLT, Int.reduceLE, Int.reduceAdd, Int.reduceSub, Int.reduceNeg, decide_true, decide_false, ite_self, xd4, at_set, List.length_set, xCallB, xAug, free_ints, free_int, free_bool, free_dn, l1]) (by simp only [xrunS, xstartE, xSeq, xIf, xRet, xSetF, xSetE, xFz, xfrzE, xPre, xtPre, xAsg, xPar, xRetT, xRetV, xDrop, xNx, xBk, xCt, xNo, xFor, xI, xi2, x2, x1, xA, xN, xV, xC, xF, xD, xSc, xB, xCh, xtN, xtA, xtO, xtY, xvN, xvA, xvO, xmIf, xTup, xLst, xList, xCall, xDict, xaN, xaC, xSl, xoN, xoS, xIt, xRg1, xRg2, xEnum, xZip, xLc, xcN, xcF, xgN, xgT, xgsN, xgsC, xat0, xatS, xd1, xd2, xd3, xfz, xAdd, xSub, xLt, xLe, xGt, xGe, xix1, xix2, xlen1, xlen2, xabs, xmax, xsum, xany, xall, xisB, xisNotB, xs1, xs2, xs3, xs4, xsc1, xsc2, xb, xint, xlist, xitems1, xitems2, xkey, xisi1, xisi2, xisi3, xisi4, xisi5, xw0, xw1, xEqI, xNeI, xNeB, xIxO, xl1, xl2, xSort, xat_0, xat_1, xat_2, xk0, xk1, xk2, xk3, xk4, xk5, xk6, xk7, Int.reduceEq, Option.bind_some, Option.map_some, Option.bind_none, Option.map_none, Option.map_map, Function.comp_apply, List.map_nil, List.map_cons, List.length_cons, List.length_nil, List.nil_append, List.cons_append, List.replicate_zero, List.replicate_succ, if_true, if_false, Bool.false_eq_true, Bool.not_true, Bool.not_false, Bool.true_and, Bool.and_true, Bool.false_and, Bool.and_false, Bool.true_or, Bool.or_true, Bool.false_or, Bool.or_false, Nat.reduceAdd, Nat.reduceSub, Nat.reduceEqDiff, Nat.reduceLeDiff, Nat.reduceLT, beq_self_eq_true, Int.reduceLT, Int.reduceLE, Int.reduceAdd, Int.reduceSub, Int.reduceNeg, decide_true, decide_false, ite_self, xd4, at_set, List.length_set, xCallB, xAug, free_ints, free_int, free_bool, free_dn, l1])
      refine ⟨ρ', ?_, by rw [e2, hsum, Int.add_assoc]⟩
      rw [loopF, xgN, Option.bind_some, hρ1, hb]
      exact e1
end K18

namespace K18
open PySem PySem.Spec PyProof.Rows L2 Vs
theorem number_in_ok (k : Nat) {bs : List Int} (B : BarsOk bs) {n : Nat} (hn : n ≤ 300) {a : Nat} {js : List Int} (h : (lyN bs n n)[a]? = some js) : sem (k+5) .number_in [.list (bs.map PyData.int), .int (n : Nat), .list (js.map PyData.int)] = some (.f (.int (a : Nat))) := by
  have B1 : ∀ l ∈ bs, 1 ≤ l := fun l hl => (B.inr l hl).1
  have hlay : IsLay bs n js := (mem_lyN B1 n n (by omega) js).mp (List.mem_of_getElem? h)
  have c1 := check_strip_ok k B (n := n) hn
  have c2 := is_laying_ok (k+1) B hn hlay
  have c3 := layings_up_to_ok (k+2) B (n := n) hn
  generalize hJ : PyData.list (js.map PyData.int) = J at c2 ⊢
  generalize hWL : PyData.list ((waysL bs n).map PyData.int) = WL at *
  obtain ⟨ρ', e1, e2⟩ := num_loop (k+3) B hn n n a js 0 [some (R.f (.list (bs.map PyData.int))), some (R.f (.int (n : Nat))), some (R.f J), some (R.f (.list ((waysL bs n).map PyData.int))), some (R.f (.int 0)), some (R.f (.int (n : Nat))), none] (by omega) (by omega) (by omega) h rfl rfl rfl rfl rfl
  rw [hWL] at e1
  rw [e_number_in]
  refine run_rt rfl ?_
  unfold m_number_in
  have hst : startE 7 [PyData.list (bs.map PyData.int), .int (n : Nat), J] = [some (R.f (.list (bs.map PyData.int))), some (R.f (.int (n : Nat))), some (R.f J), none, none, none, none] := rfl
  rw [hst]
  have s0 : (sDrop (mCall (sem (k+4) .check_strip) (aC (mN 0) (aC (mN 1) (aN)))) : MS) [some (R.f (.list (bs.map PyData.int))), some (R.f (.int (n : Nat))), some (R.f J), none, none, none, none] = some (.nx [some (R.f (.list (bs.map PyData.int))), some (R.f (.int (n : Nat))), some (R.f J), none, none, none, none]) := by
    simp -implicitDefEqProofs only [xrunS, xstartE, xSeq, xIf, xRet, xSetF, xSetE, xFz, xfrzE, xPre, xtPre, xAsg, xPar, xRetT, xRetV, xDrop, xNx, xBk, xCt, xNo, xFor, xI, xi2, x2, x1, xA, xN, xV, xC, xF, xD, xSc, xB, xCh, xtN, xtA, xtO, xtY, xvN, xvA, xvO, xmIf, xTup, xLst, xList, xCall, xDict, xaN, xaC, xSl, xoN, xoS, xIt, xRg1, xRg2, xEnum, xZip, xLc, xcN, xcF, xgN, xgT, xgsN, xgsC, xat0, xatS, xd1, xd2, xd3, xfz, xAdd, xSub, xLt, xLe, xGt, xGe, xix1, xix2, xlen1, xlen2, xabs, xmax, xsum, xany, xall, xisB, xisNotB, xs1, xs2, xs3, xs4, xsc1, xsc2, xb, xint, xlist, xitems1, xitems2, xkey, xisi1, xisi2, xisi3, xisi4, xisi5, xw0, xw1, xEqI, xNeI, xNeB, xIxO, xl1, xl2, xSort, xat_0, xat_1, xat_2, xk0, xk1, xk2, xk3, xk4, xk5, xk6, xk7, Int.reduceEq, Option.bind_some, Option.map_some, Option.bind_none, Option.map_none, Option.map_map, Function.comp_apply, List.map_nil, List.map_cons, List.length_cons, List.length_nil, List.nil_append, List.cons_append, List.replicate_zero, List.replicate_succ, List.set_cons_zero, List.set_cons_succ, if_true, if_false, Bool.false_eq_true, Bool.not_true, Bool.not_false, Bool.true_and, Bool.and_true, Bool.false_and, Bool.and_false, Bool.true_or, Bool.or_true, Bool.false_or, Bool.or_false, Nat.reduceAdd, Nat.reduceSub, Nat.reduceEqDiff, Nat.reduceLeDiff, Nat.reduceLT, beq_self_eq_true, Int.reduceLT, Int.reduceLE, Int.reduceAdd, Int.reduceSub, Int.reduceNeg, decide_true, decide_false, ite_self, xd4, c1]
  have s1 : (sIf (tN (mB (mD (mCall (sem (k+4) .is_laying) (aC (mN 0) (aC (mN 1) (aC (mN 2) (aN)))))))) (sNo) (sNx) : MS) [some (R.f (.list (bs.map PyData.int))), some (R.f (.int (n : Nat))), some (R.f J), none, none, none, none] = some (.nx [some (R.f (.list (bs.map PyData.int))), some (R.f (.int (n : Nat))), some (R.f J), none, none, none, none]) := by
    simp -implicitDefEqProofs only [xrunS, xstartE, xSeq, xIf, xRet, xSetF, xSetE, xFz, xfrzE, xPre, xtPre, xAsg, xPar, xRetT, xRetV, xDrop, xNx, xBk, xCt, xNo, xFor, xI, xi2, x2, x1, xA, xN, xV, xC, xF, xD, xSc, xB, xCh, xtN, xtA, xtO, xtY, xvN, xvA, xvO, xmIf, xTup, xLst, xList, xCall, xDict, xaN, xaC, xSl, xoN, xoS, xIt, xRg1, xRg2, xEnum, xZip, xLc, xcN, xcF, xgN, xgT, xgsN, xgsC, xat0, xatS, xd1, xd2, xd3, xfz, xAdd, xSub, xLt, xLe, xGt, xGe, xix1, xix2, xlen1, xlen2, xabs, xmax, xsum, xany, xall, xisB, xisNotB, xs1, xs2, xs3, xs4, xsc1, xsc2, xb, xint, xlist, xitems1, xitems2, xkey, xisi1, xisi2, xisi3, xisi4, xisi5, xw0, xw1, xEqI, xNeI, xNeB, xIxO, xl1, xl2, xSort, xat_0, xat_1, xat_2, xk0, xk1, xk2, xk3, xk4, xk5, xk6, xk7, Int.reduceEq, Option.bind_some, Option.map_some, Option.bind_none, Option.map_none, Option.map_map, Function.comp_apply, List.map_nil, List.map_cons, List.length_cons, List.length_nil, List.nil_append, List.cons_append, List.replicate_zero, List.replicate_succ, List.set_cons_zero, List.set_cons_succ, if_true, if_false, Bool.false_eq_true, Bool.not_true, Bool.not_false, Bool.true_and, Bool.and_true, Bool.false_and, Bool.and_false, Bool.true_or, Bool.or_true, Bool.false_or, Bool.or_false, Nat.reduceAdd, Nat.reduceSub, Nat.reduceEqDiff, Nat.reduceLeDiff, Nat.reduceLT, beq_self_eq_true, Int.reduceLT, Int.reduceLE, Int.reduceAdd, Int.reduceSub, Int.reduceNeg, decide_true, decide_false, ite_self, xd4, c2]
  have s2 : (sSetF 3 (mD (mCall (sem (k+4) .layings_up_to) (aC (mN 0) (aC (mN 1) (aN))))) : MS) [some (R.f (.list (bs.map PyData.int))), some (R.f (.int (n : Nat))), some (R.f J), none, none, none, none] = some (.nx [some (R.f (.list (bs.map PyData.int))), some (R.f (.int (n : Nat))), some (R.f J), some (R.f WL), none, none, none]) := by
    simp -implicitDefEqProofs only [xrunS, xstartE, xSeq, xIf, xRet, xSetF, xSetE, xFz, xfrzE, xPre, xtPre, xAsg, xPar, xRetT, xRetV, xDrop, xNx, xBk, xCt, xNo, xFor, xI, xi2, x2, x1, xA, xN, xV, xC, xF, xD, xSc, xB, xCh, xtN, xtA, xtO, xtY, xvN, xvA, xvO, xmIf, xTup, xLst, xList, xCall, xDict, xaN, xaC, xSl, xoN, xoS, xIt, xRg1, xRg2, xEnum, xZip, xLc, xcN, xcF, xgN, xgT, xgsN, xgsC, xat0, xatS, xd1, xd2, xd3, xfz, xAdd, xSub, xLt, xLe, xGt, xGe, xix1, xix2, xlen1, xlen2, xabs, xmax, xsum, xany, xall, xisB, xisNotB, xs1, xs2, xs3, xs4, xsc1, xsc2, xb, xint, xlist, xitems1, xitems2, xkey, xisi1, xisi2, xisi3, xisi4, xisi5, xw0, xw1, xEqI, xNeI, xNeB, xIxO, xl1, xl2, xSort, xat_0, xat_1, xat_2, xk0, xk1, xk2, xk3, xk4, xk5, xk6, xk7, Int.reduceEq, Option.bind_some, Option.map_some, Option.bind_none, Option.map_none, Option.map_map, Function.comp_apply, List.map_nil, List.map_cons, List.length_cons, List.length_nil, List.nil_append, List.cons_append, List.replicate_zero, List.replicate_succ, List.set_cons_zero, List.set_cons_succ, if_true, if_false, Bool.false_eq_true, Bool.not_true, Bool.not_false, Bool.true_and, Bool.and_true, Bool.false_and, Bool.and_false, Bool.true_or, Bool.or_true, Bool.false_or, Bool.or_false, Nat.reduceAdd, Nat.reduceSub, Nat.reduceEqDiff, Nat.reduceLeDiff, Nat.reduceLT, beq_self_eq_true, Int.reduceLT, Int.reduceLE, Int.reduceAdd, Int.reduceSub, Int.reduceNeg, decide_true, decide_false, ite_self, xd4, c3]
    rw [← hWL]
  rw [seq_nx s0, seq_nx s1, seq_nx s2]
  rw [seq_nx (ρ' := [some (R.f (.list (bs.map PyData.int))), some (R.f (.int (n : Nat))), some (R.f J), some (R.f WL), some (R.f (.int 0)), none, none]) rfl]
  rw [seq_nx (ρ' := [some (R.f (.list (bs.map PyData.int))), some (R.f (.int (n : Nat))), some (R.f J), some (R.f WL), some (R.f (.int 0)), some (R.f (.int (n : Nat))), none]) rfl]
  rw [seq_nx (ρ' := ρ')]
  · simp only [xrunS, xstartE, xSeq, xIf, xRet, xSetF, xSetE, xFz, xfrzE, xPre, xtPre, xAsg, xPar, xRetT, xRetV, xDrop, xNx, xBk, xCt, xNo, xFor, xI, xi2, x2, x1, xA, xN, xV, xC, xF, xD, xSc, xB, xCh, xtN, xtA, xtO, xtY, xvN, xvA, xvO, xmIf, xTup, xLst, xList, xCall, xDict, xaN, xaC, xSl, xoN, xoS, xIt, xRg1, xRg2, xEnum, xZip, xLc, xcN, xcF, xgN, xgT, xgsN, xgsC, xat0, xatS, xd1, xd2, xd3, xfz, xAdd, xSub, xLt, xLe, xGt, xGe, xix1, xix2, xlen1, xlen2, xabs, xmax, xsum, xany, xall, xisB, xisNotB, xs1, xs2, xs3, xs4, xsc1, xsc2, xb, xint, xlist, xitems1, xitems2, xkey, xisi1, xisi2, xisi3, xisi4, xisi5, xw0, xw1, xEqI, xNeI, xNeB, xIxO, xl1, xl2, xSort, xat_0, xat_1, xat_2, xk0, xk1, xk2, xk3, xk4, xk5, xk6, xk7, Int.reduceEq, Option.bind_some, Option.map_some, Option.bind_none, Option.map_none, Option.map_map, Function.comp_apply, List.map_nil, List.map_cons, List.length_cons, List.length_nil, List.nil_append, List.cons_append, List.replicate_zero, List.replicate_succ, if_true, if_false, Bool.false_eq_true, Bool.not_true, Bool.not_false, Bool.true_and, Bool.and_true, Bool.false_and, Bool.and_false, Bool.true_or, Bool.or_true, Bool.false_or, Bool.or_false, Nat.reduceAdd, Nat.reduceSub, Nat.reduceEqDiff, Nat.reduceLeDiff, Nat.reduceLT, beq_self_eq_true, Int.reduceLT, Int.reduceLE, Int.reduceAdd, Int.reduceSub, Int.reduceNeg, decide_true, decide_false, ite_self, xd4, at_set, List.length_set, xCallB, xAug, free_ints, free_int, free_bool, free_dn, e2, Int.zero_add]
  · rw [xFor]
    subst hJ
    exact e1
structure JR (bs : List Int) (n a : Nat) (ρ : En) : Prop where
  len : ρ.length = 7
  h0 : at' ρ 0 = some (R.f (.list (bs.map PyData.int)))
  h1 : at' ρ 1 = some (R.f (.int (n : Nat)))
  h2 : at' ρ 2 = some (R.f (.int (a : Nat)))
  h3 : at' ρ 3 = some (R.f (.list (bs.map PyData.int)))
theorem JR.set {bs : List Int} {n a : Nat} {ρ : En} (J : JR bs n a ρ) {i : Nat} (hi : 4 ≤ i) (o : Option R) : JR bs n a (ρ.set i o) := by
  have e : ∀ j, j < 4 → at' (ρ.set i o) j = at' ρ j := fun j hj => by rw [at_set, if_neg (by omega)]
  exact ⟨by rw [List.length_set]; exact J.len, by rw [e 0 (by decide)]; exact J.h0, by rw [e 1 (by decide)]; exact J.h1, by rw [e 2 (by decide)]; exact J.h2, by rw [e 3 (by decide)]; exact J.h3⟩
theorem ne_ints_self (ns : List Int) : gNe (.list (ns.map PyData.int)) (.list (ns.map PyData.int)) = some (.bl false) := (shaped_refl (shaped_list_ints ns)).1
abbrev t18a : M Bool := (tPre 5 (tO (tN (mB (m1 (fun d => isi? d .list) (mV 5)))) (mB (mA (fun x => (gAny x).map Sc.d) (aC (mD (mLc (mIt (mN 5)) (gN 6) (tY) (vO (m1 (fun d => isi? d .bool) (mV 6)) (vN (mCh gLe gLt (mC (.int 0)) (mV 6) (mA (fun x => (gLen x).map Sc.d) (aC (mV 0) (aN)))))) [6])) (aN))))))
abbrev t18b (k : Nat) : M Bool := (tPre 5 (tO (mB (m2 (fun x y => (gNe x y).map Sc.d) (mA (fun x => (gSum x).map Sc.d) (aC (mD (mLc (mIt (mN 5)) (gN 6) (tY) (m2 gIx (mN 0) (mV 6)) [6])) (aN))) (mV 1))) (mB (m2 (fun x y => (gNe x y).map Sc.d) (mD (mCall (sem k .number_in) (aC (mN 3) (aC (mN 1) (aC (mD (mList (aC (mN 5) (aN)))) (aN)))))) (mV 2)))))
theorem t18a_ok {bs js : List Int} {n a : Nat} (hl : js.length ≤ 1000000) (hm : ∀ j ∈ js, 0 ≤ j ∧ j < (bs.length : Nat)) {ρ : En} (J : JR bs n a ρ) (h5 : at' ρ 5 = some (R.ol (js.map PyData.int))) : t18a ρ = some false := by
  have hlen := J.len
  have hf : frzE 5 ρ = some (ρ.set 5 (some (R.f (.list (js.map PyData.int))))) := by
    unfold frzE
    rw [h5]
    try rfl
  have J2 := J.set (i := 5) (by decide) (some (R.f (.list (js.map PyData.int))))
  have g5 : at' (ρ.set 5 (some (R.f (.list (js.map PyData.int))))) 5 = some (R.f (.list (js.map PyData.int))) := by simp only [xrunS, xstartE, xSeq, xIf, xRet, xSetF, xSetE, xFz, xfrzE, xPre, xtPre, xAsg, xPar, xRetT, xRetV, xDrop, xNx, xBk, xCt, xNo, xFor, xI, xi2, x2, x1, xA, xN, xV, xC, xF, xD, xSc, xB, xCh, xtN, xtA, xtO, xtY, xvN, xvA, xvO, xmIf, xTup, xLst, xList, xCall, xDict, xaN, xaC, xSl, xoN, xoS, xIt, xRg1, xRg2, xEnum, xZip, xLc, xcN, xcF, xgN, xgT, xgsN, xgsC, xat0, xatS, xd1, xd2, xd3, xfz, xAdd, xSub, xLt, xLe, xGt, xGe, xix1, xix2, xlen1, xlen2, xabs, xmax, xsum, xany, xall, xisB, xisNotB, xs1, xs2, xs3, xs4, xsc1, xsc2, xb, xint, xlist, xitems1, xitems2, xkey, xisi1, xisi2, xisi3, xisi4, xisi5, xw0, xw1, xEqI, xNeI, xNeB, xIxO, xl1, xl2, xSort, xat_0, xat_1, xat_2, xk0, xk1, xk2, xk3, xk4, xk5, xk6, xk7, Int.reduceEq, Option.bind_some, Option.map_some, Option.bind_none, Option.map_none, Option.map_map, Function.comp_apply, List.map_nil, List.map_cons, List.length_cons, List.length_nil, List.nil_append, List.cons_append, List.replicate_zero, List.replicate_succ, if_true, if_false, Bool.false_eq_true, Bool.not_true, Bool.not_false, Bool.true_and, Bool.and_true, Bool.false_and, Bool.and_false, Bool.true_or, Bool.or_true, Bool.false_or, Bool.or_false, Nat.reduceAdd, Nat.reduceSub, Nat.reduceEqDiff, Nat.reduceLeDiff, Nat.reduceLT, beq_self_eq_true, Int.reduceLT, Int.reduceLE, Int.reduceAdd, Int.reduceSub, Int.reduceNeg, decide_true, decide_false, ite_self, xd4, at_set, List.length_set, xCallB, xAug, free_ints, free_int, free_bool, free_dn, hlen]
  unfold t18a
  rw [xtPre, hf, Option.bind_some]
  generalize ρ.set 5 (some (R.f (.list (js.map PyData.int)))) = ρ2 at *
  have l2 := J2.len
  have hc : colD (gN 6) tY (vO (m1 (fun d => isi? d .bool) (mV 6)) (vN (mCh gLe gLt (mC (.int 0)) (mV 6) (mA (fun x => (gLen x).map Sc.d) (aC (mV 0) (aN)))))) (ρ2.set 6 none) (js.map PyData.int) = some (js.map fun j => .bool false) := by
    refine colD_mapE fun j hj => ?_
    obtain ⟨j0, j1⟩ := hm j hj
    simp only [xrunS, xstartE, xSeq, xIf, xRet, xSetF, xSetE, xFz, xfrzE, xPre, xtPre, xAsg, xPar, xRetT, xRetV, xDrop, xNx, xBk, xCt, xNo, xFor, xI, xi2, x2, x1, xA, xN, xV, xC, xF, xD, xSc, xB, xCh, xtN, xtA, xtO, xtY, xvN, xvA, xvO, xmIf, xTup, xLst, xList, xCall, xDict, xaN, xaC, xSl, xoN, xoS, xIt, xRg1, xRg2, xEnum, xZip, xLc, xcN, xcF, xgN, xgT, xgsN, xgsC, xat0, xatS, xd1, xd2, xd3, xfz, xAdd, xSub, xLt, xLe, xGt, xGe, xix1, xix2, xlen1, xlen2, xabs, xmax, xsum, xany, xall, xisB, xisNotB, xs1, xs2, xs3, xs4, xsc1, xsc2, xb, xint, xlist, xitems1, xitems2, xkey, xisi1, xisi2, xisi3, xisi4, xisi5, xw0, xw1, xEqI, xNeI, xNeB, xIxO, xl1, xl2, xSort, xat_0, xat_1, xat_2, xk0, xk1, xk2, xk3, xk4, xk5, xk6, xk7, Int.reduceEq, Option.bind_some, Option.map_some, Option.bind_none, Option.map_none, Option.map_map, Function.comp_apply, List.map_nil, List.map_cons, List.length_cons, List.length_nil, List.nil_append, List.cons_append, List.replicate_zero, List.replicate_succ, if_true, if_false, Bool.false_eq_true, Bool.not_true, Bool.not_false, Bool.true_and, Bool.and_true, Bool.false_and, Bool.and_false, Bool.true_or, Bool.or_true, Bool.false_or, Bool.or_false, Nat.reduceAdd, Nat.reduceSub, Nat.reduceEqDiff, Nat.reduceLeDiff, Nat.reduceLT, beq_self_eq_true, Int.reduceLT, Int.reduceLE, Int.reduceAdd, Int.reduceSub, Int.reduceNeg, decide_true, decide_false, ite_self, xd4, at_set, List.length_set, xCallB, xAug, free_ints, free_int, free_bool, free_dn, l2, J2.h0, List.length_map, decide_eq_true j0, decide_eq_true j1]
    try rfl
  have ha : (js.any fun _ => false) = false := by simp
  simp only [xrunS, xstartE, xSeq, xIf, xRet, xSetF, xSetE, xFz, xfrzE, xPre, xtPre, xAsg, xPar, xRetT, xRetV, xDrop, xNx, xBk, xCt, xNo, xFor, xI, xi2, x2, x1, xA, xN, xV, xC, xF, xD, xSc, xB, xCh, xtN, xtA, xtO, xtY, xvN, xvA, xvO, xmIf, xTup, xLst, xList, xCall, xDict, xaN, xaC, xSl, xoN, xoS, xIt, xRg1, xRg2, xEnum, xZip, xLc, xcN, xcF, xgN, xgT, xgsN, xgsC, xat0, xatS, xd1, xd2, xd3, xfz, xAdd, xSub, xLt, xLe, xGt, xGe, xix1, xix2, xlen1, xlen2, xabs, xmax, xsum, xany, xall, xisB, xisNotB, xs1, xs2, xs3, xs4, xsc1, xsc2, xb, xint, xlist, xitems1, xitems2, xkey, xisi1, xisi2, xisi3, xisi4, xisi5, xw0, xw1, xEqI, xNeI, xNeB, xIxO, xl1, xl2, xSort, xat_0, xat_1, xat_2, xk0, xk1, xk2, xk3, xk4, xk5, xk6, xk7, Int.reduceEq, Option.bind_some, Option.map_some, Option.bind_none, Option.map_none, Option.map_map, Function.comp_apply, List.map_nil, List.map_cons, List.length_cons, List.length_nil, List.nil_append, List.cons_append, List.replicate_zero, List.replicate_succ, if_true, if_false, Bool.false_eq_true, Bool.not_true, Bool.not_false, Bool.true_and, Bool.and_true, Bool.false_and, Bool.and_false, Bool.true_or, Bool.or_true, Bool.false_or, Bool.or_false, Nat.reduceAdd, Nat.reduceSub, Nat.reduceEqDiff, Nat.reduceLeDiff, Nat.reduceLT, beq_self_eq_true, Int.reduceLT, Int.reduceLE, Int.reduceAdd, Int.reduceSub, Int.reduceNeg, decide_true, decide_false, ite_self, xd4, at_set, List.length_set, xCallB, xAug, free_ints, free_int, free_bool, free_dn, g5, List.length_map]
  rw [if_pos hl, hc]
  simp only [xrunS, xstartE, xSeq, xIf, xRet, xSetF, xSetE, xFz, xfrzE, xPre, xtPre, xAsg, xPar, xRetT, xRetV, xDrop, xNx, xBk, xCt, xNo, xFor, xI, xi2, x2, x1, xA, xN, xV, xC, xF, xD, xSc, xB, xCh, xtN, xtA, xtO, xtY, xvN, xvA, xvO, xmIf, xTup, xLst, xList, xCall, xDict, xaN, xaC, xSl, xoN, xoS, xIt, xRg1, xRg2, xEnum, xZip, xLc, xcN, xcF, xgN, xgT, xgsN, xgsC, xat0, xatS, xd1, xd2, xd3, xfz, xAdd, xSub, xLt, xLe, xGt, xGe, xix1, xix2, xlen1, xlen2, xabs, xmax, xsum, xany, xall, xisB, xisNotB, xs1, xs2, xs3, xs4, xsc1, xsc2, xb, xint, xlist, xitems1, xitems2, xkey, xisi1, xisi2, xisi3, xisi4, xisi5, xw0, xw1, xEqI, xNeI, xNeB, xIxO, xl1, xl2, xSort, xat_0, xat_1, xat_2, xk0, xk1, xk2, xk3, xk4, xk5, xk6, xk7, Int.reduceEq, Option.bind_some, Option.map_some, Option.bind_none, Option.map_none, Option.map_map, Function.comp_apply, List.map_nil, List.map_cons, List.length_cons, List.length_nil, List.nil_append, List.cons_append, List.replicate_zero, List.replicate_succ, List.set_cons_zero, List.set_cons_succ, if_true, if_false, Bool.false_eq_true, Bool.not_true, Bool.not_false, Bool.true_and, Bool.and_true, Bool.false_and, Bool.and_false, Bool.true_or, Bool.or_true, Bool.false_or, Bool.or_false, Nat.reduceAdd, Nat.reduceSub, Nat.reduceEqDiff, Nat.reduceLeDiff, Nat.reduceLT, beq_self_eq_true, Int.reduceLT, Int.reduceLE, Int.reduceAdd, Int.reduceSub, Int.reduceNeg, decide_true, decide_false, ite_self, xd4, bls_fun, any_fun, ha]
end K18

namespace K18
open PySem PySem.Spec PyProof.Rows L2 Vs
theorem t18b_ok (k : Nat) {bs js : List Int} {n a : Nat} (hl : js.length ≤ 1000000) (hm : ∀ j ∈ js, 0 ≤ j ∧ ∃ l, bs[j.toNat]? = some l) (hs : (js.map fun j => bs.getD j.toNat 0).sum = n) (hn : sem k .number_in [.list (bs.map PyData.int), .int (n : Nat), .list (js.map PyData.int)] = some (.f (.int (a : Nat)))) {ρ : En} (J : JR bs n a ρ) (h5 : at' ρ 5 = some (R.ol (js.map PyData.int))) : t18b k ρ = some false := by
  have hlen := J.len
  have hf : frzE 5 ρ = some (ρ.set 5 (some (R.f (.list (js.map PyData.int))))) := by
    unfold frzE
    rw [h5]
    try rfl
  have J2 := J.set (i := 5) (by decide) (some (R.f (.list (js.map PyData.int))))
  have g5 : at' (ρ.set 5 (some (R.f (.list (js.map PyData.int))))) 5 = some (R.f (.list (js.map PyData.int))) := by simp only [xrunS, xstartE, xSeq, xIf, xRet, xSetF, xSetE, xFz, xfrzE, xPre, xtPre, xAsg, xPar, xRetT, xRetV, xDrop, xNx, xBk, xCt, xNo, xFor, xI, xi2, x2, x1, xA, xN, xV, xC, xF, xD, xSc, xB, xCh, xtN, xtA, xtO, xtY, xvN, xvA, xvO, xmIf, xTup, xLst, xList, xCall, xDict, xaN, xaC, xSl, xoN, xoS, xIt, xRg1, xRg2, xEnum, xZip, xLc, xcN, xcF, xgN, xgT, xgsN, xgsC, xat0, xatS, xd1, xd2, xd3, xfz, xAdd, xSub, xLt, xLe, xGt, xGe, xix1, xix2, xlen1, xlen2, xabs, xmax, xsum, xany, xall, xisB, xisNotB, xs1, xs2, xs3, xs4, xsc1, xsc2, xb, xint, xlist, xitems1, xitems2, xkey, xisi1, xisi2, xisi3, xisi4, xisi5, xw0, xw1, xEqI, xNeI, xNeB, xIxO, xl1, xl2, xSort, xat_0, xat_1, xat_2, xk0, xk1, xk2, xk3, xk4, xk5, xk6, xk7, Int.reduceEq, Option.bind_some, Option.map_some, Option.bind_none, Option.map_none, Option.map_map, Function.comp_apply, List.map_nil, List.map_cons, List.length_cons, List.length_nil, List.nil_append, List.cons_append, List.replicate_zero, List.replicate_succ, if_true, if_false, Bool.false_eq_true, Bool.not_true, Bool.not_false, Bool.true_and, Bool.and_true, Bool.false_and, Bool.and_false, Bool.true_or, Bool.or_true, Bool.false_or, Bool.or_false, Nat.reduceAdd, Nat.reduceSub, Nat.reduceEqDiff, Nat.reduceLeDiff, Nat.reduceLT, beq_self_eq_true, Int.reduceLT, Int.reduceLE, Int.reduceAdd, Int.reduceSub, Int.reduceNeg, decide_true, decide_false, ite_self, xd4, at_set, List.length_set, xCallB, xAug, free_ints, free_int, free_bool, free_dn, hlen]
  unfold t18b
  rw [xtPre, hf, Option.bind_some]
  generalize ρ.set 5 (some (R.f (.list (js.map PyData.int)))) = ρ2 at *
  have l2 := J2.len
  have hc : colD (gN 6) tY (m2 gIx (mN 0) (mV 6)) (ρ2.set 6 none) (js.map PyData.int) = some ((js.map fun j => bs.getD j.toNat 0).map PyData.int) := by
    rw [List.map_map]
    refine colD_mapE fun j hj => ?_
    obtain ⟨j0, l, hl⟩ := hm j hj
    have hg : atI (bs.map PyData.int) j = some (.int (bs.getD j.toNat 0)) := atI_ints j0 (by rw [List.getD_eq_getElem?_getD, hl]; rfl)
    simp only [xrunS, xstartE, xSeq, xIf, xRet, xSetF, xSetE, xFz, xfrzE, xPre, xtPre, xAsg, xPar, xRetT, xRetV, xDrop, xNx, xBk, xCt, xNo, xFor, xI, xi2, x2, x1, xA, xN, xV, xC, xF, xD, xSc, xB, xCh, xtN, xtA, xtO, xtY, xvN, xvA, xvO, xmIf, xTup, xLst, xList, xCall, xDict, xaN, xaC, xSl, xoN, xoS, xIt, xRg1, xRg2, xEnum, xZip, xLc, xcN, xcF, xgN, xgT, xgsN, xgsC, xat0, xatS, xd1, xd2, xd3, xfz, xAdd, xSub, xLt, xLe, xGt, xGe, xix1, xix2, xlen1, xlen2, xabs, xmax, xsum, xany, xall, xisB, xisNotB, xs1, xs2, xs3, xs4, xsc1, xsc2, xb, xint, xlist, xitems1, xitems2, xkey, xisi1, xisi2, xisi3, xisi4, xisi5, xw0, xw1, xEqI, xNeI, xNeB, xIxO, xl1, xl2, xSort, xat_0, xat_1, xat_2, xk0, xk1, xk2, xk3, xk4, xk5, xk6, xk7, Int.reduceEq, Option.bind_some, Option.map_some, Option.bind_none, Option.map_none, Option.map_map, Function.comp_apply, List.map_nil, List.map_cons, List.length_cons, List.length_nil, List.nil_append, List.cons_append, List.replicate_zero, List.replicate_succ, if_true, if_false, Bool.false_eq_true, Bool.not_true, Bool.not_false, Bool.true_and, Bool.and_true, Bool.false_and, Bool.and_false, Bool.true_or, Bool.or_true, Bool.false_or, Bool.or_false, Nat.reduceAdd, Nat.reduceSub, Nat.reduceEqDiff, Nat.reduceLeDiff, Nat.reduceLT, beq_self_eq_true, Int.reduceLT, Int.reduceLE, Int.reduceAdd, Int.reduceSub, Int.reduceNeg, decide_true, decide_false, ite_self, xd4, at_set, List.length_set, xCallB, xAug, free_ints, free_int, free_bool, free_dn, l2, J2.h0, hg]
    try rfl
  simp -implicitDefEqProofs only [xrunS, xstartE, xSeq, xIf, xRet, xSetF, xSetE, xFz, xfrzE, xPre, xtPre, xAsg, xPar, xRetT, xRetV, xDrop, xNx, xBk, xCt, xNo, xFor, xI, xi2, x2, x1, xA, xN, xV, xC, xF, xD, xSc, xB, xCh, xtN, xtA, xtO, xtY, xvN, xvA, xvO, xmIf, xTup, xLst, xList, xCall, xDict, xaN, xaC, xSl, xoN, xoS, xIt, xRg1, xRg2, xEnum, xZip, xLc, xcN, xcF, xgN, xgT, xgsN, xgsC, xat0, xatS, xd1, xd2, xd3, xfz, xAdd, xSub, xLt, xLe, xGt, xGe, xix1, xix2, xlen1, xlen2, xabs, xmax, xsum, xany, xall, xisB, xisNotB, xs1, xs2, xs3, xs4, xsc1, xsc2, xb, xint, xlist, xitems1, xitems2, xkey, xisi1, xisi2, xisi3, xisi4, xisi5, xw0, xw1, xEqI, xNeI, xNeB, xIxO, xl1, xl2, xSort, xat_0, xat_1, xat_2, xk0, xk1, xk2, xk3, xk4, xk5, xk6, xk7, Int.reduceEq, Option.bind_some, Option.map_some, Option.bind_none, Option.map_none, Option.map_map, Function.comp_apply, List.map_nil, List.map_cons, List.length_cons, List.length_nil, List.nil_append, List.cons_append, List.replicate_zero, List.replicate_succ, if_true, if_false, Bool.false_eq_true, Bool.not_true, Bool.not_false, Bool.true_and, Bool.and_true, Bool.false_and, Bool.and_false, Bool.true_or, Bool.or_true, Bool.false_or, Bool.or_false, Nat.reduceAdd, Nat.reduceSub, Nat.reduceEqDiff, Nat.reduceLeDiff, Nat.reduceLT, beq_self_eq_true, Int.reduceLT, Int.reduceLE, Int.reduceAdd, Int.reduceSub, Int.reduceNeg, decide_true, decide_false, ite_self, xd4, at_set, List.length_set, xCallB, xAug, free_ints, free_int, free_bool, free_dn, g5, J2.h0, J2.h1, J2.h2, J2.h3, List.length_map, hn]
  rw [if_pos hl, hc]
  simp -implicitDefEqProofs only [xrunS, xstartE, xSeq, xIf, xRet, xSetF, xSetE, xFz, xfrzE, xPre, xtPre, xAsg, xPar, xRetT, xRetV, xDrop, xNx, xBk, xCt, xNo, xFor, xI, xi2, x2, x1, xA, xN, xV, xC, xF, xD, xSc, xB, xCh, xtN, xtA, xtO, xtY, xvN, xvA, xvO, xmIf, xTup, xLst, xList, xCall, xDict, xaN, xaC, xSl, xoN, xoS, xIt, xRg1, xRg2, xEnum, xZip, xLc, xcN, xcF, xgN, xgT, xgsN, xgsC, xat0, xatS, xd1, xd2, xd3, xfz, xAdd, xSub, xLt, xLe, xGt, xGe, xix1, xix2, xlen1, xlen2, xabs, xmax, xsum, xany, xall, xisB, xisNotB, xs1, xs2, xs3, xs4, xsc1, xsc2, xb, xint, xlist, xitems1, xitems2, xkey, xisi1, xisi2, xisi3, xisi4, xisi5, xw0, xw1, xEqI, xNeI, xNeB, xIxO, xl1, xl2, xSort, xat_0, xat_1, xat_2, xk0, xk1, xk2, xk3, xk4, xk5, xk6, xk7, Int.reduceEq, Option.bind_some, Option.map_some, Option.bind_none, Option.map_none, Option.map_map, Function.comp_apply, List.map_nil, List.map_cons, List.length_cons, List.length_nil, List.nil_append, List.cons_append, List.replicate_zero, List.replicate_succ, if_true, if_false, Bool.false_eq_true, Bool.not_true, Bool.not_false, Bool.true_and, Bool.and_true, Bool.false_and, Bool.and_false, Bool.true_or, Bool.or_true, Bool.false_or, Bool.or_false, Nat.reduceAdd, Nat.reduceSub, Nat.reduceEqDiff, Nat.reduceLeDiff, Nat.reduceLT, beq_self_eq_true, Int.reduceLT, Int.reduceLE, Int.reduceAdd, Int.reduceSub, Int.reduceNeg, decide_true, decide_false, ite_self, xd4, at_set, List.length_set, xCallB, xAug, free_ints, free_int, free_bool, free_dn, ints?_map, hs, decide_true]
abbrev b18 (k : Nat) : MS := (sSeq (sSetE 5 (mCall (sem k .laying) (aC (mN 3) (aC (mN 1) (aC (mN 2) (aN))))))
    (sSeq (sIf t18a (sRet (mF (mC (.bl false)))) (sNx))
    (sSeq (sIf (t18b k) (sRet (mF (mC (.bl false)))) (sNx))
    (sSeq (sIf (mB (m2 (fun x y => (gNe x y).map Sc.d) (mV 3) (mV 0))) (sRet (mF (mC (.bl false)))) (sNx))
    (sApp 5 (mC (.int 0)))))))
theorem b18_ok (k : Nat) {bs js : List Int} {n a : Nat} (hl : js.length ≤ 300) (hm : ∀ j ∈ js, 0 ≤ j ∧ ∃ l, bs[j.toNat]? = some l) (hs : (js.map fun j => bs.getD j.toNat 0).sum = n) (hn : sem k .number_in [.list (bs.map PyData.int), .int (n : Nat), .list (js.map PyData.int)] = some (.f (.int (a : Nat))))
    (hy : sem k .laying [.list (bs.map PyData.int), .int (n : Nat), .int (a : Nat)] = some (.ol (js.map PyData.int))) {ρ : En} (J : JR bs n a ρ) : ∃ ρ', b18 k ρ = some (.nx ρ') ∧ JR bs n a ρ' := by
  have hlen := J.len
  have s1 : (sSetE 5 (mCall (sem k .laying) (aC (mN 3) (aC (mN 1) (aC (mN 2) (aN))))) : MS) ρ = some (.nx (ρ.set 5 (some (R.ol (js.map PyData.int))))) := by
    simp -implicitDefEqProofs only [xrunS, xstartE, xSeq, xIf, xRet, xSetF, xSetE, xFz, xfrzE, xPre, xtPre, xAsg, xPar, xRetT, xRetV, xDrop, xNx, xBk, xCt, xNo, xFor, xI, xi2, x2, x1, xA, xN, xV, xC, xF, xD, xSc, xB, xCh, xtN, xtA, xtO, xtY, xvN, xvA, xvO, xmIf, xTup, xLst, xList, xCall, xDict, xaN, xaC, xSl, xoN, xoS, xIt, xRg1, xRg2, xEnum, xZip, xLc, xcN, xcF, xgN, xgT, xgsN, xgsC, xat0, xatS, xd1, xd2, xd3, xfz, xAdd, xSub, xLt, xLe, xGt, xGe, xix1, xix2, xlen1, xlen2, xabs, xmax, xsum, xany, xall, xisB, xisNotB, xs1, xs2, xs3, xs4, xsc1, xsc2, xb, xint, xlist, xitems1, xitems2, xkey, xisi1, xisi2, xisi3, xisi4, xisi5, xw0, xw1, xEqI, xNeI, xNeB, xIxO, xl1, xl2, xSort, xat_0, xat_1, xat_2, xk0, xk1, xk2, xk3, xk4, xk5, xk6, xk7, Int.reduceEq, Option.bind_some, Option.map_some, Option.bind_none, Option.map_none, Option.map_map, Function.comp_apply, List.map_nil, List.map_cons, List.length_cons, List.length_nil, List.nil_append, List.cons_append, List.replicate_zero, List.replicate_succ, if_true, if_false, Bool.false_eq_true, Bool.not_true, Bool.not_false, Bool.true_and, Bool.and_true, Bool.false_and, Bool.and_false, Bool.true_or, Bool.or_true, Bool.false_or, Bool.or_false, Nat.reduceAdd, Nat.reduceSub, Nat.reduceEqDiff, Nat.reduceLeDiff, Nat.reduceLT, beq_self_eq_true, Int.reduceLT, Int.reduceLE, Int.reduceAdd, Int.reduceSub, Int.reduceNeg, decide_true, decide_false, ite_self, xd4, at_set, List.length_set, xCallB, xAug, free_ints, free_int, free_bool, free_dn, J.h1, J.h2, J.h3, hy]
  have J1 := J.set (i := 5) (by decide) (some (R.ol (js.map PyData.int)))
  have g5 : at' (ρ.set 5 (some (R.ol (js.map PyData.int)))) 5 = some (R.ol (js.map PyData.int)) := by simp only [xrunS, xstartE, xSeq, xIf, xRet, xSetF, xSetE, xFz, xfrzE, xPre, xtPre, xAsg, xPar, xRetT, xRetV, xDrop, xNx, xBk, xCt, xNo, xFor, xI, xi2, x2, x1, xA, xN, xV, xC, xF, xD, xSc, xB, xCh, xtN, xtA, xtO, xtY, xvN, xvA, xvO, xmIf, xTup, xLst, xList, xCall, xDict, xaN, xaC, xSl, xoN, xoS, xIt, xRg1, xRg2, xEnum, xZip, xLc, xcN, xcF, xgN, xgT, xgsN, xgsC, xat0, xatS, xd1, xd2, xd3, xfz, xAdd, xSub, xLt, xLe, xGt, xGe, xix1, xix2, xlen1, xlen2, xabs, xmax, xsum, xany, xall, xisB, xisNotB, xs1, xs2, xs3, xs4, xsc1, xsc2, xb, xint, xlist, xitems1, xitems2, xkey, xisi1, xisi2, xisi3, xisi4, xisi5, xw0, xw1, xEqI, xNeI, xNeB, xIxO, xl1, xl2, xSort, xat_0, xat_1, xat_2, xk0, xk1, xk2, xk3, xk4, xk5, xk6, xk7, Int.reduceEq, Option.bind_some, Option.map_some, Option.bind_none, Option.map_none, Option.map_map, Function.comp_apply, List.map_nil, List.map_cons, List.length_cons, List.length_nil, List.nil_append, List.cons_append, List.replicate_zero, List.replicate_succ, if_true, if_false, Bool.false_eq_true, Bool.not_true, Bool.not_false, Bool.true_and, Bool.and_true, Bool.false_and, Bool.and_false, Bool.true_or, Bool.or_true, Bool.false_or, Bool.or_false, Nat.reduceAdd, Nat.reduceSub, Nat.reduceEqDiff, Nat.reduceLeDiff, Nat.reduceLT, beq_self_eq_true, Int.reduceLT, Int.reduceLE, Int.reduceAdd, Int.reduceSub, Int.reduceNeg, decide_true, decide_false, ite_self, xd4, at_set, List.length_set, xCallB, xAug, free_ints, free_int, free_bool, free_dn, hlen]
  have hm' : ∀ j ∈ js, 0 ≤ j ∧ j < (bs.length : Nat) := fun j hj => by
    obtain ⟨h1, l, h2⟩ := hm j hj
    obtain ⟨h3, _⟩ := List.getElem?_eq_some_iff.mp h2
    exact ⟨h1, by omega⟩
  have ta := t18a_ok (n := n) (a := a) (by omega) hm' J1 g5
  have tb := t18b_ok k (by omega) hm hs hn J1 g5
  generalize ρ.set 5 (some (R.ol (js.map PyData.int))) = ρ1 at *
  have hns := ne_ints_self bs
  have s2 : (sIf t18a (sRet (mF (mC (.bl false)))) (sNx) : MS) ρ1 = some (.nx ρ1) := by
    rw [xIf, ta]
    rfl
  have s3 : (sIf (t18b k) (sRet (mF (mC (.bl false)))) (sNx) : MS) ρ1 = some (.nx ρ1) := by
    rw [xIf, tb]
    rfl
  have s4 : (sIf (mB (m2 (fun x y => (gNe x y).map Sc.d) (mV 3) (mV 0))) (sRet (mF (mC (.bl false)))) (sNx) : MS) ρ1 = some (.nx ρ1) := by
    simp only [xrunS, xstartE, xSeq, xIf, xRet, xSetF, xSetE, xFz, xfrzE, xPre, xtPre, xAsg, xPar, xRetT, xRetV, xDrop, xNx, xBk, xCt, xNo, xFor, xI, xi2, x2, x1, xA, xN, xV, xC, xF, xD, xSc, xB, xCh, xtN, xtA, xtO, xtY, xvN, xvA, xvO, xmIf, xTup, xLst, xList, xCall, xDict, xaN, xaC, xSl, xoN, xoS, xIt, xRg1, xRg2, xEnum, xZip, xLc, xcN, xcF, xgN, xgT, xgsN, xgsC, xat0, xatS, xd1, xd2, xd3, xfz, xAdd, xSub, xLt, xLe, xGt, xGe, xix1, xix2, xlen1, xlen2, xabs, xmax, xsum, xany, xall, xisB, xisNotB, xs1, xs2, xs3, xs4, xsc1, xsc2, xb, xint, xlist, xitems1, xitems2, xkey, xisi1, xisi2, xisi3, xisi4, xisi5, xw0, xw1, xEqI, xNeI, xNeB, xIxO, xl1, xl2, xSort, xat_0, xat_1, xat_2, xk0, xk1, xk2, xk3, xk4, xk5, xk6, xk7, Int.reduceEq, Option.bind_some, Option.map_some, Option.bind_none, Option.map_none, Option.map_map, Function.comp_apply, List.map_nil, List.map_cons, List.length_cons, List.length_nil, List.nil_append, List.cons_append, List.replicate_zero, List.replicate_succ, if_true, if_false, Bool.false_eq_true, Bool.not_true, Bool.not_false, Bool.true_and, Bool.and_true, Bool.false_and, Bool.and_false, Bool.true_or, Bool.or_true, Bool.false_or, Bool.or_false, Nat.reduceAdd, Nat.reduceSub, Nat.reduceEqDiff, Nat.reduceLeDiff, Nat.reduceLT, beq_self_eq_true, Int.reduceLT, Int.reduceLE, Int.reduceAdd, Int.reduceSub, Int.reduceNeg, decide_true, decide_false, ite_self, xd4, at_set, List.length_set, xCallB, xAug, free_ints, free_int, free_bool, free_dn, J1.h0, J1.h3, hns]
  have s5 : (sApp 5 (mC (.int 0)) : MS) ρ1 = some (.nx (ρ1.set 5 (some (R.ol ((js ++ [0]).map PyData.int))))) := by
    rw [xApp g5]
    simp only [xrunS, xstartE, xSeq, xIf, xRet, xSetF, xSetE, xFz, xfrzE, xPre, xtPre, xAsg, xPar, xRetT, xRetV, xDrop, xNx, xBk, xCt, xNo, xFor, xI, xi2, x2, x1, xA, xN, xV, xC, xF, xD, xSc, xB, xCh, xtN, xtA, xtO, xtY, xvN, xvA, xvO, xmIf, xTup, xLst, xList, xCall, xDict, xaN, xaC, xSl, xoN, xoS, xIt, xRg1, xRg2, xEnum, xZip, xLc, xcN, xcF, xgN, xgT, xgsN, xgsC, xat0, xatS, xd1, xd2, xd3, xfz, xAdd, xSub, xLt, xLe, xGt, xGe, xix1, xix2, xlen1, xlen2, xabs, xmax, xsum, xany, xall, xisB, xisNotB, xs1, xs2, xs3, xs4, xsc1, xsc2, xb, xint, xlist, xitems1, xitems2, xkey, xisi1, xisi2, xisi3, xisi4, xisi5, xw0, xw1, xEqI, xNeI, xNeB, xIxO, xl1, xl2, xSort, xat_0, xat_1, xat_2, xk0, xk1, xk2, xk3, xk4, xk5, xk6, xk7, Int.reduceEq, Option.bind_some, Option.map_some, Option.bind_none, Option.map_none, Option.map_map, Function.comp_apply, List.map_nil, List.map_cons, List.length_cons, List.length_nil, List.nil_append, List.cons_append, List.replicate_zero, List.replicate_succ, if_true, if_false, Bool.false_eq_true, Bool.not_true, Bool.not_false, Bool.true_and, Bool.and_true, Bool.false_and, Bool.and_false, Bool.true_or, Bool.or_true, Bool.false_or, Bool.or_false, Nat.reduceAdd, Nat.reduceSub, Nat.reduceEqDiff, Nat.reduceLeDiff, Nat.reduceLT, beq_self_eq_true, Int.reduceLT, Int.reduceLE, Int.reduceAdd, Int.reduceSub, Int.reduceNeg, decide_true, decide_false, ite_self, xd4, at_set, List.length_set, xCallB, xAug, free_ints, free_int, free_bool, free_dn]
    rw [if_pos (by rw [List.length_map]; omega)]
    simp only [List.map_append, List.map_cons, List.map_nil]
  refine ⟨_, ?_, J1.set (i := 5) (by decide) (some (R.ol ((js ++ [0]).map PyData.int)))⟩
  unfold b18
  rw [seq_nx s1, seq_nx s2, seq_nx s3, seq_nx s4, s5]
theorem law_right_ok (k : Nat) {bs : List Int} (B : BarsOk bs) {n : Nat} (hn : n ≤ 300) {a : Nat} (h : a < (lyN bs n n).length) : sem (k+6) .law_right [.list (bs.map PyData.int), .int (n : Nat), .int (a : Nat)] = some (.f (.bool true)) := by
  have B1 : ∀ l ∈ bs, 1 ≤ l := fun l hl => (B.inr l hl).1
  obtain ⟨js, hj, hy⟩ := laying_ok k B hn h
  have hlay : IsLay bs n js := (mem_lyN B1 n n (by omega) js).mp (List.mem_of_getElem? hj)
  have hlen := isLay_len B1 hlay
  have hnum := number_in_ok k B hn hj
  rw [e_law_right]
  refine run_rt rfl ?_
  unfold m_law_right
  have s1 : (sSetF 3 (mD (mList (aC (mN 0) (aN)))) : MS) (startE 7 [PyData.list (bs.map PyData.int), .int (n : Nat), .int (a : Nat)]) = some (.nx [some (R.f (.list (bs.map PyData.int))), some (R.f (.int (n : Nat))), some (R.f (.int (a : Nat))), some (R.f (.list (bs.map PyData.int))), none, none, none]) := by
    simp only [xrunS, xstartE, xSeq, xIf, xRet, xSetF, xSetE, xFz, xfrzE, xPre, xtPre, xAsg, xPar, xRetT, xRetV, xDrop, xNx, xBk, xCt, xNo, xFor, xI, xi2, x2, x1, xA, xN, xV, xC, xF, xD, xSc, xB, xCh, xtN, xtA, xtO, xtY, xvN, xvA, xvO, xmIf, xTup, xLst, xList, xCall, xDict, xaN, xaC, xSl, xoN, xoS, xIt, xRg1, xRg2, xEnum, xZip, xLc, xcN, xcF, xgN, xgT, xgsN, xgsC, xat0, xatS, xd1, xd2, xd3, xfz, xAdd, xSub, xLt, xLe, xGt, xGe, xix1, xix2, xlen1, xlen2, xabs, xmax, xsum, xany, xall, xisB, xisNotB, xs1, xs2, xs3, xs4, xsc1, xsc2, xb, xint, xlist, xitems1, xitems2, xkey, xisi1, xisi2, xisi3, xisi4, xisi5, xw0, xw1, xEqI, xNeI, xNeB, xIxO, xl1, xl2, xSort, xat_0, xat_1, xat_2, xk0, xk1, xk2, xk3, xk4, xk5, xk6, xk7, Int.reduceEq, Option.bind_some, Option.map_some, Option.bind_none, Option.map_none, Option.map_map, Function.comp_apply, List.map_nil, List.map_cons, List.length_cons, List.length_nil, List.nil_append, List.cons_append, List.replicate_zero, List.replicate_succ, List.set_cons_zero, List.set_cons_succ, if_true, if_false, Bool.false_eq_true, Bool.not_true, Bool.not_false, Bool.true_and, Bool.and_true, Bool.false_and, Bool.and_false, Bool.true_or, Bool.or_true, Bool.false_or, Bool.or_false, Nat.reduceAdd, Nat.reduceSub, Nat.reduceEqDiff, Nat.reduceLeDiff, Nat.reduceLT, beq_self_eq_true, Int.reduceLT, Int.reduceLE, Int.reduceAdd, Int.reduceSub, Int.reduceNeg, decide_true, decide_false, ite_self, xd4]
    try rfl
  rw [seq_nx s1]
  obtain ⟨ρ', e1, J'⟩ := loopF_all (l := ([0, 1] : List Int)) (D := PyData.int) (g := gN 4) (body := b18 (k+5)) (I := JR bs n a) (ρ := [some (R.f (.list (bs.map PyData.int))), some (R.f (.int (n : Nat))), some (R.f (.int (a : Nat))), some (R.f (.list (bs.map PyData.int))), none, none, none]) (fun y hy' ρ J => by
    rw [xgN, Option.bind_some]
    exact b18_ok (k+5) (by omega) (isLay_mem hlay) (isLay_sum hlay) hnum hy (J.set (by decide) _)) ⟨rfl, rfl, rfl, rfl, rfl⟩
  rw [seq_nx (ρ' := ρ')]
  · simp only [xrunS, xstartE, xSeq, xIf, xRet, xSetF, xSetE, xFz, xfrzE, xPre, xtPre, xAsg, xPar, xRetT, xRetV, xDrop, xNx, xBk, xCt, xNo, xFor, xI, xi2, x2, x1, xA, xN, xV, xC, xF, xD, xSc, xB, xCh, xtN, xtA, xtO, xtY, xvN, xvA, xvO, xmIf, xTup, xLst, xList, xCall, xDict, xaN, xaC, xSl, xoN, xoS, xIt, xRg1, xRg2, xEnum, xZip, xLc, xcN, xcF, xgN, xgT, xgsN, xgsC, xat0, xatS, xd1, xd2, xd3, xfz, xAdd, xSub, xLt, xLe, xGt, xGe, xix1, xix2, xlen1, xlen2, xabs, xmax, xsum, xany, xall, xisB, xisNotB, xs1, xs2, xs3, xs4, xsc1, xsc2, xb, xint, xlist, xitems1, xitems2, xkey, xisi1, xisi2, xisi3, xisi4, xisi5, xw0, xw1, xEqI, xNeI, xNeB, xIxO, xl1, xl2, xSort, xat_0, xat_1, xat_2, xk0, xk1, xk2, xk3, xk4, xk5, xk6, xk7, Int.reduceEq, Option.bind_some, Option.map_some, Option.bind_none, Option.map_none, Option.map_map, Function.comp_apply, List.map_nil, List.map_cons, List.length_cons, List.length_nil, List.nil_append, List.cons_append, List.replicate_zero, List.replicate_succ, if_true, if_false, Bool.false_eq_true, Bool.not_true, Bool.not_false, Bool.true_and, Bool.and_true, Bool.false_and, Bool.and_false, Bool.true_or, Bool.or_true, Bool.false_or, Bool.or_false, Nat.reduceAdd, Nat.reduceSub, Nat.reduceEqDiff, Nat.reduceLeDiff, Nat.reduceLT, beq_self_eq_true, Int.reduceLT, Int.reduceLE, Int.reduceAdd, Int.reduceSub, Int.reduceNeg, decide_true, decide_false, ite_self, xd4, at_set, List.length_set, xCallB, xAug, free_ints, free_int, free_bool, free_dn]
  · rw [xFor, rg1_int (j := 2) rfl (by decide) (by decide), Option.bind_some]
    exact e1
end K18

namespace K18
open PySem PySem.Spec PyProof.Rows L2 Vs
theorem cutD_drop {ds : List PyData} {n : Int} (h : 0 ≤ n) : Vs.cutD ds (some n) none = ds.drop n.toNat := by
  unfold Vs.cutD
  simp only [HT.sIx]
  rw [if_neg (by omega)]
  rcases Nat.le_total n.toNat ds.length with q | q
  · rw [Nat.min_eq_left q, List.take_of_length_le (by rw [List.length_drop]; omega)]
  · rw [Nat.min_eq_right q, List.drop_of_length_le q, List.drop_of_length_le (Nat.le_refl _), List.take_nil]
theorem xSortSet {n : M (List PyData)} {ρ : En} : mSortSet n ρ = (n ρ).bind fun ds => match ds with | [d] => gSortSet d | _ => none := rfl
theorem gSort_ints {ns : List Int} (h : ns.length < 64) : gSortSet (.list (ns.map PyData.int)) = some (.ol ((sortI (ddI ns)).map PyData.int)) := by
  unfold gSortSet
  simp only [list?, Option.bind_some, ints?_map]
  rw [if_pos h]
def fourL (m w : Int) : List Int := [0, m - 1, m / 2, w % (if m > 1 then m else 1)]
def keptL (m w : Int) : List Int := (fourL m w).filter fun x => decide (0 ≤ x) && decide (x < m)
def askL (m w : Int) : List Int := sortI (ddI (keptL m w))
theorem kept_len (m w : Int) : (keptL m w).length < 64 := Nat.lt_of_le_of_lt (List.length_filter_le _ _) (show (4 : Nat) < 64 by decide)
theorem ask_mem {m w z : Int} (h : z ∈ askL m w) : 0 ≤ z ∧ z < m := by
  have h2 := (List.mem_filter.mp (mem_ssI.mp h)).2
  simp only [Bool.and_eq_true, decide_eq_true_eq] at h2
  exact h2
theorem ask_len (m w : Int) : (askL m w).length ≤ 1000000 := by
  unfold askL
  rw [(sortI_perm _).length_eq]
  have := ddI_len (keptL m w)
  have := kept_len m w
  omega
def lyA (bs : List Int) (n : Nat) (z : Int) : List Int := ((lyN bs n n)[z.toNat]?).getD []
theorem lyA_lt {bs : List Int} {n : Nat} {y z : Int} (h0 : 0 ≤ y) (h : y < z) (hz : z < ((lyN bs n n).length : Int)) : HT.lexLt (lyA bs n y) (lyA bs n z) = true := by
  have hp := List.pairwise_iff_getElem.mp (lyN_lex (bs := bs) n n) y.toNat z.toNat (by omega) (by omega) (by omega)
  unfold lyA
  rw [List.getElem?_eq_getElem (by omega), List.getElem?_eq_getElem (by omega)]
  exact hp
theorem zip_up {f : Int → PyData} : ∀ zs : List Int, zipD (zs.map f) ((zs.map f).drop 1) = (zs.zip (zs.drop 1)).map fun p => .tuple [f p.1, f p.2]
  | [] => rfl
  | [a] => rfl
  | a :: b :: r => by
    have := zip_up (f := f) (b :: r)
    simp only [List.map_cons, List.drop_succ_cons, List.drop_zero, List.zip_cons_cons] at this ⊢
    unfold zipD
    rw [this]
theorem zip_lt : ∀ {zs : List Int}, zs.Pairwise (· < ·) → ∀ p ∈ zs.zip (zs.drop 1), p.1 < p.2 ∧ p.1 ∈ zs ∧ p.2 ∈ zs
  | [], _, p, hp => by simp at hp
  | [a], _, p, hp => by simp at hp
  | a :: b :: r, h, p, hp => by
    have h1 := List.pairwise_cons.mp h
    simp only [List.drop_succ_cons, List.drop_zero, List.zip_cons_cons] at hp
    rcases List.mem_cons.mp hp with rfl | hp
    · exact ⟨h1.1 b List.mem_cons_self, List.mem_cons_self, List.mem_cons_of_mem _ List.mem_cons_self⟩
    · have := zip_lt h1.2 p (by simpa using hp)
      exact ⟨this.1, List.mem_cons_of_mem _ this.2.1, List.mem_cons_of_mem _ this.2.2⟩
structure J18 (s : PyData) (w : Int) (bs : List Int) (ρ : En) : Prop where
  len : ρ.length = 13
  h0 : at' ρ 0 = some (R.f s)
  h1 : at' ρ 1 = some (R.f (.int w))
  h3 : at' ρ 3 = some (R.f (.list (bs.map PyData.int)))
theorem J18.set {s : PyData} {w : Int} {bs : List Int} {ρ : En} (J : J18 s w bs ρ) {i : Nat} (hi : 4 ≤ i) (o : Option R) : J18 s w bs (ρ.set i o) := by
  have e : ∀ j, j < 4 → at' (ρ.set i o) j = at' ρ j := fun j hj => by rw [at_set, if_neg (by omega)]
  exact ⟨by rw [List.length_set]; exact J.len, by rw [e 0 (by decide)]; exact J.h0, by rw [e 1 (by decide)]; exact J.h1, by rw [e 3 (by decide)]; exact J.h3⟩
abbrev i18 (k : Nat) : MS := (sSeq (sSetF 5 (mD (mCall (sem k .layings) (aC (mN 3) (aC (mN 4) (aN))))))
    (sSeq (sSetF 6 (mD (mLst (aC (mC (.int 0)) (aC (mI gSub (mV 5) (mC (.int 1))) (aC (mI gDiv (mV 5) (mC (.int 2))) (aC (mI gMod (mV 1) (mA (fun x => (gMax x).map Sc.d) (aC (mC (.int 1)) (aC (mV 5) (aN))))) (aN))))))))
    (sSeq (sSetF 6 (mD (mSortSet (aC (mD (mLc (mIt (mN 6)) (gN 7) (mB (mCh gLe gLt (mC (.int 0)) (mV 7) (mV 5))) (mN 7) [7])) (aN)))))
    (sSeq (sIf (tN (mB (mA (fun x => (gAll x).map Sc.d) (aC (mD (mLc (mIt (mN 6)) (gN 7) (tY) (mD (mCall (sem k .law_right) (aC (mN 3) (aC (mN 4) (aC (mN 7) (aN)))))) [7])) (aN))))) (sRet (mF (mC (.bl false)))) (sNx))
    (sSeq (sFz 8 (sSetE 8 (mLc (mIt (mN 6)) (gN 7) (tY) (mD (mCall (sem k .laying) (aC (mN 3) (aC (mN 4) (aC (mN 7) (aN)))))) [7])))
    (sIf (mB (mA (fun x => (gAny x).map Sc.d) (aC (mD (mLc (mZip (aC (mN 8) (aC (mD (mSl (mN 8) (oS (mC (.int 1))) (oN))) (aN)))) (gT 2 (gsC (gN 9) (gsC (gN 10) (gsN)))) (tY) (m2 (fun x y => (gGeL x y).map Sc.d) (mV 9) (mV 10)) [9, 10])) (aN)))) (sRet (mF (mC (.bl false)))) (sNx)))))))
theorem i18_ok (k : Nat) {s : PyData} {w : Int} {bs : List Int} {n : Nat} (B : BarsOk bs) (hn : n ≤ 300) {ρ : En} (J : J18 s w bs ρ) (h4 : at' ρ 4 = some (R.f (.int (n : Nat)))) : ∃ ρ', i18 (k+6) ρ = some (.nx ρ') ∧ J18 s w bs ρ' := by
  have B1 : ∀ l ∈ bs, 1 ≤ l := fun l hl => (B.inr l hl).1
  have c1 := layings_ok (k+1) B hn
  have hW : ((lyN bs n n).length : Int) = W bs n := by
    rw [lyN_len B1 n n (by omega), Wz_nat (by omega), Int.toNat_natCast]
  generalize W bs n = m at c1 hW
  have hlen := J.len
  have s1 : (sSetF 5 (mD (mCall (sem (k+6) .layings) (aC (mN 3) (aC (mN 4) (aN))))) : MS) ρ = some (.nx (ρ.set 5 (some (R.f (.int m))))) := by
    simp -implicitDefEqProofs only [xrunS, xstartE, xSeq, xIf, xRet, xSetF, xSetE, xFz, xfrzE, xPre, xtPre, xAsg, xPar, xRetT, xRetV, xDrop, xNx, xBk, xCt, xNo, xFor, xI, xi2, x2, x1, xA, xN, xV, xC, xF, xD, xSc, xB, xCh, xtN, xtA, xtO, xtY, xvN, xvA, xvO, xmIf, xTup, xLst, xList, xCall, xDict, xaN, xaC, xSl, xoN, xoS, xIt, xRg1, xRg2, xEnum, xZip, xLc, xcN, xcF, xgN, xgT, xgsN, xgsC, xat0, xatS, xd1, xd2, xd3, xfz, xAdd, xSub, xLt, xLe, xGt, xGe, xix1, xix2, xlen1, xlen2, xabs, xmax, xsum, xany, xall, xisB, xisNotB, xs1, xs2, xs3, xs4, xsc1, xsc2, xb, xint, xlist, xitems1, xitems2, xkey, xisi1, xisi2, xisi3, xisi4, xisi5, xw0, xw1, xEqI, xNeI, xNeB, xIxO, xl1, xl2, xSort, xat_0, xat_1, xat_2, xk0, xk1, xk2, xk3, xk4, xk5, xk6, xk7, Int.reduceEq, Option.bind_some, Option.map_some, Option.bind_none, Option.map_none, Option.map_map, Function.comp_apply, List.map_nil, List.map_cons, List.length_cons, List.length_nil, List.nil_append, List.cons_append, List.replicate_zero, List.replicate_succ, if_true, if_false, Bool.false_eq_true, Bool.not_true, Bool.not_false, Bool.true_and, Bool.and_true, Bool.false_and, Bool.and_false, Bool.true_or, Bool.or_true, Bool.false_or, Bool.or_false, Nat.reduceAdd, Nat.reduceSub, Nat.reduceEqDiff, Nat.reduceLeDiff, Nat.reduceLT, beq_self_eq_true, Int.reduceLT, Int.reduceLE, Int.reduceAdd, Int.reduceSub, Int.reduceNeg, decide_true, decide_false, ite_self, xd4, at_set, List.length_set, xCallB, xAug, free_ints, free_int, free_bool, free_dn, J.h3, h4, c1]
  have J1 := J.set (i := 5) (by decide) (some (R.f (.int m)))
  have a4 : at' (ρ.set 5 (some (R.f (.int m)))) 4 = some (R.f (.int (n : Nat))) := by simp only [xrunS, xstartE, xSeq, xIf, xRet, xSetF, xSetE, xFz, xfrzE, xPre, xtPre, xAsg, xPar, xRetT, xRetV, xDrop, xNx, xBk, xCt, xNo, xFor, xI, xi2, x2, x1, xA, xN, xV, xC, xF, xD, xSc, xB, xCh, xtN, xtA, xtO, xtY, xvN, xvA, xvO, xmIf, xTup, xLst, xList, xCall, xDict, xaN, xaC, xSl, xoN, xoS, xIt, xRg1, xRg2, xEnum, xZip, xLc, xcN, xcF, xgN, xgT, xgsN, xgsC, xat0, xatS, xd1, xd2, xd3, xfz, xAdd, xSub, xLt, xLe, xGt, xGe, xix1, xix2, xlen1, xlen2, xabs, xmax, xsum, xany, xall, xisB, xisNotB, xs1, xs2, xs3, xs4, xsc1, xsc2, xb, xint, xlist, xitems1, xitems2, xkey, xisi1, xisi2, xisi3, xisi4, xisi5, xw0, xw1, xEqI, xNeI, xNeB, xIxO, xl1, xl2, xSort, xat_0, xat_1, xat_2, xk0, xk1, xk2, xk3, xk4, xk5, xk6, xk7, Int.reduceEq, Option.bind_some, Option.map_some, Option.bind_none, Option.map_none, Option.map_map, Function.comp_apply, List.map_nil, List.map_cons, List.length_cons, List.length_nil, List.nil_append, List.cons_append, List.replicate_zero, List.replicate_succ, if_true, if_false, Bool.false_eq_true, Bool.not_true, Bool.not_false, Bool.true_and, Bool.and_true, Bool.false_and, Bool.and_false, Bool.true_or, Bool.or_true, Bool.false_or, Bool.or_false, Nat.reduceAdd, Nat.reduceSub, Nat.reduceEqDiff, Nat.reduceLeDiff, Nat.reduceLT, beq_self_eq_true, Int.reduceLT, Int.reduceLE, Int.reduceAdd, Int.reduceSub, Int.reduceNeg, decide_true, decide_false, ite_self, xd4, at_set, List.length_set, xCallB, xAug, free_ints, free_int, free_bool, free_dn, h4]
  have a5 : at' (ρ.set 5 (some (R.f (.int m)))) 5 = some (R.f (.int m)) := by simp only [xrunS, xstartE, xSeq, xIf, xRet, xSetF, xSetE, xFz, xfrzE, xPre, xtPre, xAsg, xPar, xRetT, xRetV, xDrop, xNx, xBk, xCt, xNo, xFor, xI, xi2, x2, x1, xA, xN, xV, xC, xF, xD, xSc, xB, xCh, xtN, xtA, xtO, xtY, xvN, xvA, xvO, xmIf, xTup, xLst, xList, xCall, xDict, xaN, xaC, xSl, xoN, xoS, xIt, xRg1, xRg2, xEnum, xZip, xLc, xcN, xcF, xgN, xgT, xgsN, xgsC, xat0, xatS, xd1, xd2, xd3, xfz, xAdd, xSub, xLt, xLe, xGt, xGe, xix1, xix2, xlen1, xlen2, xabs, xmax, xsum, xany, xall, xisB, xisNotB, xs1, xs2, xs3, xs4, xsc1, xsc2, xb, xint, xlist, xitems1, xitems2, xkey, xisi1, xisi2, xisi3, xisi4, xisi5, xw0, xw1, xEqI, xNeI, xNeB, xIxO, xl1, xl2, xSort, xat_0, xat_1, xat_2, xk0, xk1, xk2, xk3, xk4, xk5, xk6, xk7, Int.reduceEq, Option.bind_some, Option.map_some, Option.bind_none, Option.map_none, Option.map_map, Function.comp_apply, List.map_nil, List.map_cons, List.length_cons, List.length_nil, List.nil_append, List.cons_append, List.replicate_zero, List.replicate_succ, if_true, if_false, Bool.false_eq_true, Bool.not_true, Bool.not_false, Bool.true_and, Bool.and_true, Bool.false_and, Bool.and_false, Bool.true_or, Bool.or_true, Bool.false_or, Bool.or_false, Nat.reduceAdd, Nat.reduceSub, Nat.reduceEqDiff, Nat.reduceLeDiff, Nat.reduceLT, beq_self_eq_true, Int.reduceLT, Int.reduceLE, Int.reduceAdd, Int.reduceSub, Int.reduceNeg, decide_true, decide_false, ite_self, xd4, at_set, List.length_set, xCallB, xAug, free_ints, free_int, free_bool, free_dn, hlen]
  generalize ρ.set 5 (some (R.f (.int m))) = ρ1 at *
  have l1 := J1.len
  have q1 : gDiv m 2 = some (.int (m / 2)) := xDiv (by decide)
  have q2 : gMod w (if m > 1 then m else 1) = some (.int (w % (if m > 1 then m else 1))) := xMod (by split <;> omega)
  have s2 : (sSetF 6 (mD (mLst (aC (mC (.int 0)) (aC (mI gSub (mV 5) (mC (.int 1))) (aC (mI gDiv (mV 5) (mC (.int 2))) (aC (mI gMod (mV 1) (mA (fun x => (gMax x).map Sc.d) (aC (mC (.int 1)) (aC (mV 5) (aN))))) (aN))))))) : MS) ρ1 = some (.nx (ρ1.set 6 (some (R.f (.list ((fourL m w).map PyData.int)))))) := by
    simp only [xrunS, xstartE, xSeq, xIf, xRet, xSetF, xSetE, xFz, xfrzE, xPre, xtPre, xAsg, xPar, xRetT, xRetV, xDrop, xNx, xBk, xCt, xNo, xFor, xI, xi2, x2, x1, xA, xN, xV, xC, xF, xD, xSc, xB, xCh, xtN, xtA, xtO, xtY, xvN, xvA, xvO, xmIf, xTup, xLst, xList, xCall, xDict, xaN, xaC, xSl, xoN, xoS, xIt, xRg1, xRg2, xEnum, xZip, xLc, xcN, xcF, xgN, xgT, xgsN, xgsC, xat0, xatS, xd1, xd2, xd3, xfz, xAdd, xSub, xLt, xLe, xGt, xGe, xix1, xix2, xlen1, xlen2, xabs, xmax, xsum, xany, xall, xisB, xisNotB, xs1, xs2, xs3, xs4, xsc1, xsc2, xb, xint, xlist, xitems1, xitems2, xkey, xisi1, xisi2, xisi3, xisi4, xisi5, xw0, xw1, xEqI, xNeI, xNeB, xIxO, xl1, xl2, xSort, xat_0, xat_1, xat_2, xk0, xk1, xk2, xk3, xk4, xk5, xk6, xk7, Int.reduceEq, Option.bind_some, Option.map_some, Option.bind_none, Option.map_none, Option.map_map, Function.comp_apply, List.map_nil, List.map_cons, List.length_cons, List.length_nil, List.nil_append, List.cons_append, List.replicate_zero, List.replicate_succ, if_true, if_false, Bool.false_eq_true, Bool.not_true, Bool.not_false, Bool.true_and, Bool.and_true, Bool.false_and, Bool.and_false, Bool.true_or, Bool.or_true, Bool.false_or, Bool.or_false, Nat.reduceAdd, Nat.reduceSub, Nat.reduceEqDiff, Nat.reduceLeDiff, Nat.reduceLT, beq_self_eq_true, Int.reduceLT, Int.reduceLE, Int.reduceAdd, Int.reduceSub, Int.reduceNeg, decide_true, decide_false, ite_self, xd4, at_set, List.length_set, xCallB, xAug, free_ints, free_int, free_bool, free_dn, J1.h1, a5, q1, q2]
    rfl
  have J2 := J1.set (i := 6) (by decide) (some (R.f (.list ((fourL m w).map PyData.int))))
  have b4 : at' (ρ1.set 6 (some (R.f (.list ((fourL m w).map PyData.int))))) 4 = some (R.f (.int (n : Nat))) := by simp only [xrunS, xstartE, xSeq, xIf, xRet, xSetF, xSetE, xFz, xfrzE, xPre, xtPre, xAsg, xPar, xRetT, xRetV, xDrop, xNx, xBk, xCt, xNo, xFor, xI, xi2, x2, x1, xA, xN, xV, xC, xF, xD, xSc, xB, xCh, xtN, xtA, xtO, xtY, xvN, xvA, xvO, xmIf, xTup, xLst, xList, xCall, xDict, xaN, xaC, xSl, xoN, xoS, xIt, xRg1, xRg2, xEnum, xZip, xLc, xcN, xcF, xgN, xgT, xgsN, xgsC, xat0, xatS, xd1, xd2, xd3, xfz, xAdd, xSub, xLt, xLe, xGt, xGe, xix1, xix2, xlen1, xlen2, xabs, xmax, xsum, xany, xall, xisB, xisNotB, xs1, xs2, xs3, xs4, xsc1, xsc2, xb, xint, xlist, xitems1, xitems2, xkey, xisi1, xisi2, xisi3, xisi4, xisi5, xw0, xw1, xEqI, xNeI, xNeB, xIxO, xl1, xl2, xSort, xat_0, xat_1, xat_2, xk0, xk1, xk2, xk3, xk4, xk5, xk6, xk7, Int.reduceEq, Option.bind_some, Option.map_some, Option.bind_none, Option.map_none, Option.map_map, Function.comp_apply, List.map_nil, List.map_cons, List.length_cons, List.length_nil, List.nil_append, List.cons_append, List.replicate_zero, List.replicate_succ, if_true, if_false, Bool.false_eq_true, Bool.not_true, Bool.not_false, Bool.true_and, Bool.and_true, Bool.false_and, Bool.and_false, Bool.true_or, Bool.or_true, Bool.false_or, Bool.or_false, Nat.reduceAdd, Nat.reduceSub, Nat.reduceEqDiff, Nat.reduceLeDiff, Nat.reduceLT, beq_self_eq_true, Int.reduceLT, Int.reduceLE, Int.reduceAdd, Int.reduceSub, Int.reduceNeg, decide_true, decide_false, ite_self, xd4, at_set, List.length_set, xCallB, xAug, free_ints, free_int, free_bool, free_dn, a4]
  have b5 : at' (ρ1.set 6 (some (R.f (.list ((fourL m w).map PyData.int))))) 5 = some (R.f (.int m)) := by simp only [xrunS, xstartE, xSeq, xIf, xRet, xSetF, xSetE, xFz, xfrzE, xPre, xtPre, xAsg, xPar, xRetT, xRetV, xDrop, xNx, xBk, xCt, xNo, xFor, xI, xi2, x2, x1, xA, xN, xV, xC, xF, xD, xSc, xB, xCh, xtN, xtA, xtO, xtY, xvN, xvA, xvO, xmIf, xTup, xLst, xList, xCall, xDict, xaN, xaC, xSl, xoN, xoS, xIt, xRg1, xRg2, xEnum, xZip, xLc, xcN, xcF, xgN, xgT, xgsN, xgsC, xat0, xatS, xd1, xd2, xd3, xfz, xAdd, xSub, xLt, xLe, xGt, xGe, xix1, xix2, xlen1, xlen2, xabs, xmax, xsum, xany, xall, xisB, xisNotB, xs1, xs2, xs3, xs4, xsc1, xsc2, xb, xint, xlist, xitems1, xitems2, xkey, xisi1, xisi2, xisi3, xisi4, xisi5, xw0, xw1, xEqI, xNeI, xNeB, xIxO, xl1, xl2, xSort, xat_0, xat_1, xat_2, xk0, xk1, xk2, xk3, xk4, xk5, xk6, xk7, Int.reduceEq, Option.bind_some, Option.map_some, Option.bind_none, Option.map_none, Option.map_map, Function.comp_apply, List.map_nil, List.map_cons, List.length_cons, List.length_nil, List.nil_append, List.cons_append, List.replicate_zero, List.replicate_succ, if_true, if_false, Bool.false_eq_true, Bool.not_true, Bool.not_false, Bool.true_and, Bool.and_true, Bool.false_and, Bool.and_false, Bool.true_or, Bool.or_true, Bool.false_or, Bool.or_false, Nat.reduceAdd, Nat.reduceSub, Nat.reduceEqDiff, Nat.reduceLeDiff, Nat.reduceLT, beq_self_eq_true, Int.reduceLT, Int.reduceLE, Int.reduceAdd, Int.reduceSub, Int.reduceNeg, decide_true, decide_false, ite_self, xd4, at_set, List.length_set, xCallB, xAug, free_ints, free_int, free_bool, free_dn, a5]
  have b6 : at' (ρ1.set 6 (some (R.f (.list ((fourL m w).map PyData.int))))) 6 = some (R.f (.list ((fourL m w).map PyData.int))) := by simp only [xrunS, xstartE, xSeq, xIf, xRet, xSetF, xSetE, xFz, xfrzE, xPre, xtPre, xAsg, xPar, xRetT, xRetV, xDrop, xNx, xBk, xCt, xNo, xFor, xI, xi2, x2, x1, xA, xN, xV, xC, xF, xD, xSc, xB, xCh, xtN, xtA, xtO, xtY, xvN, xvA, xvO, xmIf, xTup, xLst, xList, xCall, xDict, xaN, xaC, xSl, xoN, xoS, xIt, xRg1, xRg2, xEnum, xZip, xLc, xcN, xcF, xgN, xgT, xgsN, xgsC, xat0, xatS, xd1, xd2, xd3, xfz, xAdd, xSub, xLt, xLe, xGt, xGe, xix1, xix2, xlen1, xlen2, xabs, xmax, xsum, xany, xall, xisB, xisNotB, xs1, xs2, xs3, xs4, xsc1, xsc2, xb, xint, xlist, xitems1, xitems2, xkey, xisi1, xisi2, xisi3, xisi4, xisi5, xw0, xw1, xEqI, xNeI, xNeB, xIxO, xl1, xl2, xSort, xat_0, xat_1, xat_2, xk0, xk1, xk2, xk3, xk4, xk5, xk6, xk7, Int.reduceEq, Option.bind_some, Option.map_some, Option.bind_none, Option.map_none, Option.map_map, Function.comp_apply, List.map_nil, List.map_cons, List.length_cons, List.length_nil, List.nil_append, List.cons_append, List.replicate_zero, List.replicate_succ, if_true, if_false, Bool.false_eq_true, Bool.not_true, Bool.not_false, Bool.true_and, Bool.and_true, Bool.false_and, Bool.and_false, Bool.true_or, Bool.or_true, Bool.false_or, Bool.or_false, Nat.reduceAdd, Nat.reduceSub, Nat.reduceEqDiff, Nat.reduceLeDiff, Nat.reduceLT, beq_self_eq_true, Int.reduceLT, Int.reduceLE, Int.reduceAdd, Int.reduceSub, Int.reduceNeg, decide_true, decide_false, ite_self, xd4, at_set, List.length_set, xCallB, xAug, free_ints, free_int, free_bool, free_dn, l1]
  generalize ρ1.set 6 (some (R.f (.list ((fourL m w).map PyData.int)))) = ρ2 at *
  have l2 := J2.len
  have hc3 : colD (gN 7) (mB (mCh gLe gLt (mC (.int 0)) (mV 7) (mV 5))) (mN 7) (ρ2.set 7 none) ((fourL m w).map PyData.int) = some ((keptL m w).map PyData.int) := by
    refine colD_filtE (fun x hx => ?_) fun x hx hp => ?_
    · by_cases x0 : 0 ≤ x
      · simp only [xrunS, xstartE, xSeq, xIf, xRet, xSetF, xSetE, xFz, xfrzE, xPre, xtPre, xAsg, xPar, xRetT, xRetV, xDrop, xNx, xBk, xCt, xNo, xFor, xI, xi2, x2, x1, xA, xN, xV, xC, xF, xD, xSc, xB, xCh, xtN, xtA, xtO, xtY, xvN, xvA, xvO, xmIf, xTup, xLst, xList, xCall, xDict, xaN, xaC, xSl, xoN, xoS, xIt, xRg1, xRg2, xEnum, xZip, xLc, xcN, xcF, xgN, xgT, xgsN, xgsC, xat0, xatS, xd1, xd2, xd3, xfz, xAdd, xSub, xLt, xLe, xGt, xGe, xix1, xix2, xlen1, xlen2, xabs, xmax, xsum, xany, xall, xisB, xisNotB, xs1, xs2, xs3, xs4, xsc1, xsc2, xb, xint, xlist, xitems1, xitems2, xkey, xisi1, xisi2, xisi3, xisi4, xisi5, xw0, xw1, xEqI, xNeI, xNeB, xIxO, xl1, xl2, xSort, xat_0, xat_1, xat_2, xk0, xk1, xk2, xk3, xk4, xk5, xk6, xk7, Int.reduceEq, Option.bind_some, Option.map_some, Option.bind_none, Option.map_none, Option.map_map, Function.comp_apply, List.map_nil, List.map_cons, List.length_cons, List.length_nil, List.nil_append, List.cons_append, List.replicate_zero, List.replicate_succ, if_true, if_false, Bool.false_eq_true, Bool.not_true, Bool.not_false, Bool.true_and, Bool.and_true, Bool.false_and, Bool.and_false, Bool.true_or, Bool.or_true, Bool.false_or, Bool.or_false, Nat.reduceAdd, Nat.reduceSub, Nat.reduceEqDiff, Nat.reduceLeDiff, Nat.reduceLT, beq_self_eq_true, Int.reduceLT, Int.reduceLE, Int.reduceAdd, Int.reduceSub, Int.reduceNeg, decide_true, decide_false, ite_self, xd4, at_set, List.length_set, xCallB, xAug, free_ints, free_int, free_bool, free_dn, l2, b5, decide_eq_true x0, Bool.true_and]
        try rfl
      · simp only [xrunS, xstartE, xSeq, xIf, xRet, xSetF, xSetE, xFz, xfrzE, xPre, xtPre, xAsg, xPar, xRetT, xRetV, xDrop, xNx, xBk, xCt, xNo, xFor, xI, xi2, x2, x1, xA, xN, xV, xC, xF, xD, xSc, xB, xCh, xtN, xtA, xtO, xtY, xvN, xvA, xvO, xmIf, xTup, xLst, xList, xCall, xDict, xaN, xaC, xSl, xoN, xoS, xIt, xRg1, xRg2, xEnum, xZip, xLc, xcN, xcF, xgN, xgT, xgsN, xgsC, xat0, xatS, xd1, xd2, xd3, xfz, xAdd, xSub, xLt, xLe, xGt, xGe, xix1, xix2, xlen1, xlen2, xabs, xmax, xsum, xany, xall, xisB, xisNotB, xs1, xs2, xs3, xs4, xsc1, xsc2, xb, xint, xlist, xitems1, xitems2, xkey, xisi1, xisi2, xisi3, xisi4, xisi5, xw0, xw1, xEqI, xNeI, xNeB, xIxO, xl1, xl2, xSort, xat_0, xat_1, xat_2, xk0, xk1, xk2, xk3, xk4, xk5, xk6, xk7, Int.reduceEq, Option.bind_some, Option.map_some, Option.bind_none, Option.map_none, Option.map_map, Function.comp_apply, List.map_nil, List.map_cons, List.length_cons, List.length_nil, List.nil_append, List.cons_append, List.replicate_zero, List.replicate_succ, if_true, if_false, Bool.false_eq_true, Bool.not_true, Bool.not_false, Bool.true_and, Bool.and_true, Bool.false_and, Bool.and_false, Bool.true_or, Bool.or_true, Bool.false_or, Bool.or_false, Nat.reduceAdd, Nat.reduceSub, Nat.reduceEqDiff, Nat.reduceLeDiff, Nat.reduceLT, beq_self_eq_true, Int.reduceLT, Int.reduceLE, Int.reduceAdd, Int.reduceSub, Int.reduceNeg, decide_true, decide_false, ite_self, xd4, at_set, List.length_set, xCallB, xAug, free_ints, free_int, free_bool, free_dn, l2, b5, decide_eq_false x0, Bool.false_and]
        try rfl
    · simp only [xrunS, xstartE, xSeq, xIf, xRet, xSetF, xSetE, xFz, xfrzE, xPre, xtPre, xAsg, xPar, xRetT, xRetV, xDrop, xNx, xBk, xCt, xNo, xFor, xI, xi2, x2, x1, xA, xN, xV, xC, xF, xD, xSc, xB, xCh, xtN, xtA, xtO, xtY, xvN, xvA, xvO, xmIf, xTup, xLst, xList, xCall, xDict, xaN, xaC, xSl, xoN, xoS, xIt, xRg1, xRg2, xEnum, xZip, xLc, xcN, xcF, xgN, xgT, xgsN, xgsC, xat0, xatS, xd1, xd2, xd3, xfz, xAdd, xSub, xLt, xLe, xGt, xGe, xix1, xix2, xlen1, xlen2, xabs, xmax, xsum, xany, xall, xisB, xisNotB, xs1, xs2, xs3, xs4, xsc1, xsc2, xb, xint, xlist, xitems1, xitems2, xkey, xisi1, xisi2, xisi3, xisi4, xisi5, xw0, xw1, xEqI, xNeI, xNeB, xIxO, xl1, xl2, xSort, xat_0, xat_1, xat_2, xk0, xk1, xk2, xk3, xk4, xk5, xk6, xk7, Int.reduceEq, Option.bind_some, Option.map_some, Option.bind_none, Option.map_none, Option.map_map, Function.comp_apply, List.map_nil, List.map_cons, List.length_cons, List.length_nil, List.nil_append, List.cons_append, List.replicate_zero, List.replicate_succ, if_true, if_false, Bool.false_eq_true, Bool.not_true, Bool.not_false, Bool.true_and, Bool.and_true, Bool.false_and, Bool.and_false, Bool.true_or, Bool.or_true, Bool.false_or, Bool.or_false, Nat.reduceAdd, Nat.reduceSub, Nat.reduceEqDiff, Nat.reduceLeDiff, Nat.reduceLT, beq_self_eq_true, Int.reduceLT, Int.reduceLE, Int.reduceAdd, Int.reduceSub, Int.reduceNeg, decide_true, decide_false, ite_self, xd4, at_set, List.length_set, xCallB, xAug, free_ints, free_int, free_bool, free_dn, l2]
  have f4 : (fourL m w).length ≤ 1000000 := by show 4 ≤ 1000000; decide
  have s3 : (sSetF 6 (mD (mSortSet (aC (mD (mLc (mIt (mN 6)) (gN 7) (mB (mCh gLe gLt (mC (.int 0)) (mV 7) (mV 5))) (mN 7) [7])) (aN)))) : MS) ρ2 = some (.nx (ρ2.set 6 (some (R.f (.list ((askL m w).map PyData.int)))))) := by
    simp only [xrunS, xstartE, xSeq, xIf, xRet, xSetF, xSetE, xFz, xfrzE, xPre, xtPre, xAsg, xPar, xRetT, xRetV, xDrop, xNx, xBk, xCt, xNo, xFor, xI, xi2, x2, x1, xA, xN, xV, xC, xF, xD, xSc, xB, xCh, xtN, xtA, xtO, xtY, xvN, xvA, xvO, xmIf, xTup, xLst, xList, xCall, xDict, xaN, xaC, xSl, xoN, xoS, xIt, xRg1, xRg2, xEnum, xZip, xLc, xcN, xcF, xgN, xgT, xgsN, xgsC, xat0, xatS, xd1, xd2, xd3, xfz, xAdd, xSub, xLt, xLe, xGt, xGe, xix1, xix2, xlen1, xlen2, xabs, xmax, xsum, xany, xall, xisB, xisNotB, xs1, xs2, xs3, xs4, xsc1, xsc2, xb, xint, xlist, xitems1, xitems2, xkey, xisi1, xisi2, xisi3, xisi4, xisi5, xw0, xw1, xEqI, xNeI, xNeB, xIxO, xl1, xl2, xSort, xat_0, xat_1, xat_2, xk0, xk1, xk2, xk3, xk4, xk5, xk6, xk7, Int.reduceEq, Option.bind_some, Option.map_some, Option.bind_none, Option.map_none, Option.map_map, Function.comp_apply, List.map_nil, List.map_cons, List.length_cons, List.length_nil, List.nil_append, List.cons_append, List.replicate_zero, List.replicate_succ, if_true, if_false, Bool.false_eq_true, Bool.not_true, Bool.not_false, Bool.true_and, Bool.and_true, Bool.false_and, Bool.and_false, Bool.true_or, Bool.or_true, Bool.false_or, Bool.or_false, Nat.reduceAdd, Nat.reduceSub, Nat.reduceEqDiff, Nat.reduceLeDiff, Nat.reduceLT, beq_self_eq_true, Int.reduceLT, Int.reduceLE, Int.reduceAdd, Int.reduceSub, Int.reduceNeg, decide_true, decide_false, ite_self, xd4, at_set, List.length_set, xCallB, xAug, free_ints, free_int, free_bool, free_dn, b6, xSortSet, List.length_map]
    rw [if_pos f4, hc3]
    simp only [xrunS, xstartE, xSeq, xIf, xRet, xSetF, xSetE, xFz, xfrzE, xPre, xtPre, xAsg, xPar, xRetT, xRetV, xDrop, xNx, xBk, xCt, xNo, xFor, xI, xi2, x2, x1, xA, xN, xV, xC, xF, xD, xSc, xB, xCh, xtN, xtA, xtO, xtY, xvN, xvA, xvO, xmIf, xTup, xLst, xList, xCall, xDict, xaN, xaC, xSl, xoN, xoS, xIt, xRg1, xRg2, xEnum, xZip, xLc, xcN, xcF, xgN, xgT, xgsN, xgsC, xat0, xatS, xd1, xd2, xd3, xfz, xAdd, xSub, xLt, xLe, xGt, xGe, xix1, xix2, xlen1, xlen2, xabs, xmax, xsum, xany, xall, xisB, xisNotB, xs1, xs2, xs3, xs4, xsc1, xsc2, xb, xint, xlist, xitems1, xitems2, xkey, xisi1, xisi2, xisi3, xisi4, xisi5, xw0, xw1, xEqI, xNeI, xNeB, xIxO, xl1, xl2, xSort, xat_0, xat_1, xat_2, xk0, xk1, xk2, xk3, xk4, xk5, xk6, xk7, Int.reduceEq, Option.bind_some, Option.map_some, Option.bind_none, Option.map_none, Option.map_map, Function.comp_apply, List.map_nil, List.map_cons, List.length_cons, List.length_nil, List.nil_append, List.cons_append, List.replicate_zero, List.replicate_succ, if_true, if_false, Bool.false_eq_true, Bool.not_true, Bool.not_false, Bool.true_and, Bool.and_true, Bool.false_and, Bool.and_false, Bool.true_or, Bool.or_true, Bool.false_or, Bool.or_false, Nat.reduceAdd, Nat.reduceSub, Nat.reduceEqDiff, Nat.reduceLeDiff, Nat.reduceLT, beq_self_eq_true, Int.reduceLT, Int.reduceLE, Int.reduceAdd, Int.reduceSub, Int.reduceNeg, decide_true, decide_false, ite_self, xd4, at_set, List.length_set, xCallB, xAug, free_ints, free_int, free_bool, free_dn, gSort_ints (kept_len m w)]
    rfl
  have J3 := J2.set (i := 6) (by decide) (some (R.f (.list ((askL m w).map PyData.int))))
  have d4 : at' (ρ2.set 6 (some (R.f (.list ((askL m w).map PyData.int))))) 4 = some (R.f (.int (n : Nat))) := by simp only [xrunS, xstartE, xSeq, xIf, xRet, xSetF, xSetE, xFz, xfrzE, xPre, xtPre, xAsg, xPar, xRetT, xRetV, xDrop, xNx, xBk, xCt, xNo, xFor, xI, xi2, x2, x1, xA, xN, xV, xC, xF, xD, xSc, xB, xCh, xtN, xtA, xtO, xtY, xvN, xvA, xvO, xmIf, xTup, xLst, xList, xCall, xDict, xaN, xaC, xSl, xoN, xoS, xIt, xRg1, xRg2, xEnum, xZip, xLc, xcN, xcF, xgN, xgT, xgsN, xgsC, xat0, xatS, xd1, xd2, xd3, xfz, xAdd, xSub, xLt, xLe, xGt, xGe, xix1, xix2, xlen1, xlen2, xabs, xmax, xsum, xany, xall, xisB, xisNotB, xs1, xs2, xs3, xs4, xsc1, xsc2, xb, xint, xlist, xitems1, xitems2, xkey, xisi1, xisi2, xisi3, xisi4, xisi5, xw0, xw1, xEqI, xNeI, xNeB, xIxO, xl1, xl2, xSort, xat_0, xat_1, xat_2, xk0, xk1, xk2, xk3, xk4, xk5, xk6, xk7, Int.reduceEq, Option.bind_some, Option.map_some, Option.bind_none, Option.map_none, Option.map_map, Function.comp_apply, List.map_nil, List.map_cons, List.length_cons, List.length_nil, List.nil_append, List.cons_append, List.replicate_zero, List.replicate_succ, if_true, if_false, Bool.false_eq_true, Bool.not_true, Bool.not_false, Bool.true_and, Bool.and_true, Bool.false_and, Bool.and_false, Bool.true_or, Bool.or_true, Bool.false_or, Bool.or_false, Nat.reduceAdd, Nat.reduceSub, Nat.reduceEqDiff, Nat.reduceLeDiff, Nat.reduceLT, beq_self_eq_true, Int.reduceLT, Int.reduceLE, Int.reduceAdd, Int.reduceSub, Int.reduceNeg, decide_true, decide_false, ite_self, xd4, at_set, List.length_set, xCallB, xAug, free_ints, free_int, free_bool, free_dn, b4]
  have d6 : at' (ρ2.set 6 (some (R.f (.list ((askL m w).map PyData.int))))) 6 = some (R.f (.list ((askL m w).map PyData.int))) := by simp only [xrunS, xstartE, xSeq, xIf, xRet, xSetF, xSetE, xFz, xfrzE, xPre, xtPre, xAsg, xPar, xRetT, xRetV, xDrop, xNx, xBk, xCt, xNo, xFor, xI, xi2, x2, x1, xA, xN, xV, xC, xF, xD, xSc, xB, xCh, xtN, xtA, xtO, xtY, xvN, xvA, xvO, xmIf, xTup, xLst, xList, xCall, xDict, xaN, xaC, xSl, xoN, xoS, xIt, xRg1, xRg2, xEnum, xZip, xLc, xcN, xcF, xgN, xgT, xgsN, xgsC, xat0, xatS, xd1, xd2, xd3, xfz, xAdd, xSub, xLt, xLe, xGt, xGe, xix1, xix2, xlen1, xlen2, xabs, xmax, xsum, xany, xall, xisB, xisNotB, xs1, xs2, xs3, xs4, xsc1, xsc2, xb, xint, xlist, xitems1, xitems2, xkey, xisi1, xisi2, xisi3, xisi4, xisi5, xw0, xw1, xEqI, xNeI, xNeB, xIxO, xl1, xl2, xSort, xat_0, xat_1, xat_2, xk0, xk1, xk2, xk3, xk4, xk5, xk6, xk7, Int.reduceEq, Option.bind_some, Option.map_some, Option.bind_none, Option.map_none, Option.map_map, Function.comp_apply, List.map_nil, List.map_cons, List.length_cons, List.length_nil, List.nil_append, List.cons_append, List.replicate_zero, List.replicate_succ, if_true, if_false, Bool.false_eq_true, Bool.not_true, Bool.not_false, Bool.true_and, Bool.and_true, Bool.false_and, Bool.and_false, Bool.true_or, Bool.or_true, Bool.false_or, Bool.or_false, Nat.reduceAdd, Nat.reduceSub, Nat.reduceEqDiff, Nat.reduceLeDiff, Nat.reduceLT, beq_self_eq_true, Int.reduceLT, Int.reduceLE, Int.reduceAdd, Int.reduceSub, Int.reduceNeg, decide_true, decide_false, ite_self, xd4, at_set, List.length_set, xCallB, xAug, free_ints, free_int, free_bool, free_dn, l2]
  generalize ρ2.set 6 (some (R.f (.list ((askL m w).map PyData.int)))) = ρ3 at *
  have l3 := J3.len
  have hz : ∀ z ∈ askL m w, z.toNat < (lyN bs n n).length ∧ ((z.toNat : Nat) : Int) = z := fun z hz => by
    have := ask_mem hz
    omega
  have al := ask_len m w
  have up := ssI_up (keptL m w)
  have hc4 : colD (gN 7) tY (mD (mCall (sem (k+6) .law_right) (aC (mN 3) (aC (mN 4) (aC (mN 7) (aN)))))) (ρ3.set 7 none) ((askL m w).map PyData.int) = some ((askL m w).map fun _ => .bool true) := by
    refine colD_mapE fun z hz' => ?_
    obtain ⟨z1, z2⟩ := hz z hz'
    have c := law_right_ok k B hn z1
    rw [z2] at c
    simp -implicitDefEqProofs only [xrunS, xstartE, xSeq, xIf, xRet, xSetF, xSetE, xFz, xfrzE, xPre, xtPre, xAsg, xPar, xRetT, xRetV, xDrop, xNx, xBk, xCt, xNo, xFor, xI, xi2, x2, x1, xA, xN, xV, xC, xF, xD, xSc, xB, xCh, xtN, xtA, xtO, xtY, xvN, xvA, xvO, xmIf, xTup, xLst, xList, xCall, xDict, xaN, xaC, xSl, xoN, xoS, xIt, xRg1, xRg2, xEnum, xZip, xLc, xcN, xcF, xgN, xgT, xgsN, xgsC, xat0, xatS, xd1, xd2, xd3, xfz, xAdd, xSub, xLt, xLe, xGt, xGe, xix1, xix2, xlen1, xlen2, xabs, xmax, xsum, xany, xall, xisB, xisNotB, xs1, xs2, xs3, xs4, xsc1, xsc2, xb, xint, xlist, xitems1, xitems2, xkey, xisi1, xisi2, xisi3, xisi4, xisi5, xw0, xw1, xEqI, xNeI, xNeB, xIxO, xl1, xl2, xSort, xat_0, xat_1, xat_2, xk0, xk1, xk2, xk3, xk4, xk5, xk6, xk7, Int.reduceEq, Option.bind_some, Option.map_some, Option.bind_none, Option.map_none, Option.map_map, Function.comp_apply, List.map_nil, List.map_cons, List.length_cons, List.length_nil, List.nil_append, List.cons_append, List.replicate_zero, List.replicate_succ, if_true, if_false, Bool.false_eq_true, Bool.not_true, Bool.not_false, Bool.true_and, Bool.and_true, Bool.false_and, Bool.and_false, Bool.true_or, Bool.or_true, Bool.false_or, Bool.or_false, Nat.reduceAdd, Nat.reduceSub, Nat.reduceEqDiff, Nat.reduceLeDiff, Nat.reduceLT, beq_self_eq_true, Int.reduceLT, Int.reduceLE, Int.reduceAdd, Int.reduceSub, Int.reduceNeg, decide_true, decide_false, ite_self, xd4, at_set, List.length_set, xCallB, xAug, free_ints, free_int, free_bool, free_dn, l3, J3.h3, d4, c]
  have s4 : (sIf (tN (mB (mA (fun x => (gAll x).map Sc.d) (aC (mD (mLc (mIt (mN 6)) (gN 7) (tY) (mD (mCall (sem (k+6) .law_right) (aC (mN 3) (aC (mN 4) (aC (mN 7) (aN)))))) [7])) (aN))))) (sRet (mF (mC (.bl false)))) (sNx) : MS) ρ3 = some (.nx ρ3) := by
    have ha : ((askL m w).all fun _ => true) = true := by simp
    simp -implicitDefEqProofs only [xrunS, xstartE, xSeq, xIf, xRet, xSetF, xSetE, xFz, xfrzE, xPre, xtPre, xAsg, xPar, xRetT, xRetV, xDrop, xNx, xBk, xCt, xNo, xFor, xI, xi2, x2, x1, xA, xN, xV, xC, xF, xD, xSc, xB, xCh, xtN, xtA, xtO, xtY, xvN, xvA, xvO, xmIf, xTup, xLst, xList, xCall, xDict, xaN, xaC, xSl, xoN, xoS, xIt, xRg1, xRg2, xEnum, xZip, xLc, xcN, xcF, xgN, xgT, xgsN, xgsC, xat0, xatS, xd1, xd2, xd3, xfz, xAdd, xSub, xLt, xLe, xGt, xGe, xix1, xix2, xlen1, xlen2, xabs, xmax, xsum, xany, xall, xisB, xisNotB, xs1, xs2, xs3, xs4, xsc1, xsc2, xb, xint, xlist, xitems1, xitems2, xkey, xisi1, xisi2, xisi3, xisi4, xisi5, xw0, xw1, xEqI, xNeI, xNeB, xIxO, xl1, xl2, xSort, xat_0, xat_1, xat_2, xk0, xk1, xk2, xk3, xk4, xk5, xk6, xk7, Int.reduceEq, Option.bind_some, Option.map_some, Option.bind_none, Option.map_none, Option.map_map, Function.comp_apply, List.map_nil, List.map_cons, List.length_cons, List.length_nil, List.nil_append, List.cons_append, List.replicate_zero, List.replicate_succ, if_true, if_false, Bool.false_eq_true, Bool.not_true, Bool.not_false, Bool.true_and, Bool.and_true, Bool.false_and, Bool.and_false, Bool.true_or, Bool.or_true, Bool.false_or, Bool.or_false, Nat.reduceAdd, Nat.reduceSub, Nat.reduceEqDiff, Nat.reduceLeDiff, Nat.reduceLT, beq_self_eq_true, Int.reduceLT, Int.reduceLE, Int.reduceAdd, Int.reduceSub, Int.reduceNeg, decide_true, decide_false, ite_self, xd4, at_set, List.length_set, xCallB, xAug, free_ints, free_int, free_bool, free_dn, d6, List.length_map]
    rw [if_pos al, hc4]
    simp only [xrunS, xstartE, xSeq, xIf, xRet, xSetF, xSetE, xFz, xfrzE, xPre, xtPre, xAsg, xPar, xRetT, xRetV, xDrop, xNx, xBk, xCt, xNo, xFor, xI, xi2, x2, x1, xA, xN, xV, xC, xF, xD, xSc, xB, xCh, xtN, xtA, xtO, xtY, xvN, xvA, xvO, xmIf, xTup, xLst, xList, xCall, xDict, xaN, xaC, xSl, xoN, xoS, xIt, xRg1, xRg2, xEnum, xZip, xLc, xcN, xcF, xgN, xgT, xgsN, xgsC, xat0, xatS, xd1, xd2, xd3, xfz, xAdd, xSub, xLt, xLe, xGt, xGe, xix1, xix2, xlen1, xlen2, xabs, xmax, xsum, xany, xall, xisB, xisNotB, xs1, xs2, xs3, xs4, xsc1, xsc2, xb, xint, xlist, xitems1, xitems2, xkey, xisi1, xisi2, xisi3, xisi4, xisi5, xw0, xw1, xEqI, xNeI, xNeB, xIxO, xl1, xl2, xSort, xat_0, xat_1, xat_2, xk0, xk1, xk2, xk3, xk4, xk5, xk6, xk7, Int.reduceEq, Option.bind_some, Option.map_some, Option.bind_none, Option.map_none, Option.map_map, Function.comp_apply, List.map_nil, List.map_cons, List.length_cons, List.length_nil, List.nil_append, List.cons_append, List.replicate_zero, List.replicate_succ, if_true, if_false, Bool.false_eq_true, Bool.not_true, Bool.not_false, Bool.true_and, Bool.and_true, Bool.false_and, Bool.and_false, Bool.true_or, Bool.or_true, Bool.false_or, Bool.or_false, Nat.reduceAdd, Nat.reduceSub, Nat.reduceEqDiff, Nat.reduceLeDiff, Nat.reduceLT, beq_self_eq_true, Int.reduceLT, Int.reduceLE, Int.reduceAdd, Int.reduceSub, Int.reduceNeg, decide_true, decide_false, ite_self, xd4, at_set, List.length_set, xCallB, xAug, free_ints, free_int, free_bool, free_dn, bls_fun, all_fun, ha]
  have hc5 : colD (gN 7) tY (mD (mCall (sem (k+6) .laying) (aC (mN 3) (aC (mN 4) (aC (mN 7) (aN)))))) (ρ3.set 7 none) ((askL m w).map PyData.int) = some ((askL m w).map fun z => lisD (lyA bs n z)) := by
    refine colD_mapE fun z hz' => ?_
    obtain ⟨z1, z2⟩ := hz z hz'
    obtain ⟨js, hj, c⟩ := laying_ok (k+1) B hn z1
    rw [z2] at c
    have e : lyA bs n z = js := by unfold lyA; rw [hj]; rfl
    simp -implicitDefEqProofs only [xrunS, xstartE, xSeq, xIf, xRet, xSetF, xSetE, xFz, xfrzE, xPre, xtPre, xAsg, xPar, xRetT, xRetV, xDrop, xNx, xBk, xCt, xNo, xFor, xI, xi2, x2, x1, xA, xN, xV, xC, xF, xD, xSc, xB, xCh, xtN, xtA, xtO, xtY, xvN, xvA, xvO, xmIf, xTup, xLst, xList, xCall, xDict, xaN, xaC, xSl, xoN, xoS, xIt, xRg1, xRg2, xEnum, xZip, xLc, xcN, xcF, xgN, xgT, xgsN, xgsC, xat0, xatS, xd1, xd2, xd3, xfz, xAdd, xSub, xLt, xLe, xGt, xGe, xix1, xix2, xlen1, xlen2, xabs, xmax, xsum, xany, xall, xisB, xisNotB, xs1, xs2, xs3, xs4, xsc1, xsc2, xb, xint, xlist, xitems1, xitems2, xkey, xisi1, xisi2, xisi3, xisi4, xisi5, xw0, xw1, xEqI, xNeI, xNeB, xIxO, xl1, xl2, xSort, xat_0, xat_1, xat_2, xk0, xk1, xk2, xk3, xk4, xk5, xk6, xk7, Int.reduceEq, Option.bind_some, Option.map_some, Option.bind_none, Option.map_none, Option.map_map, Function.comp_apply, List.map_nil, List.map_cons, List.length_cons, List.length_nil, List.nil_append, List.cons_append, List.replicate_zero, List.replicate_succ, if_true, if_false, Bool.false_eq_true, Bool.not_true, Bool.not_false, Bool.true_and, Bool.and_true, Bool.false_and, Bool.and_false, Bool.true_or, Bool.or_true, Bool.false_or, Bool.or_false, Nat.reduceAdd, Nat.reduceSub, Nat.reduceEqDiff, Nat.reduceLeDiff, Nat.reduceLT, beq_self_eq_true, Int.reduceLT, Int.reduceLE, Int.reduceAdd, Int.reduceSub, Int.reduceNeg, decide_true, decide_false, ite_self, xd4, at_set, List.length_set, xCallB, xAug, free_ints, free_int, free_bool, free_dn, l3, J3.h3, d4, c]
    rw [e]
    rfl
  have s5 : (sFz 8 (sSetE 8 (mLc (mIt (mN 6)) (gN 7) (tY) (mD (mCall (sem (k+6) .laying) (aC (mN 3) (aC (mN 4) (aC (mN 7) (aN)))))) [7])) : MS) ρ3 = some (.nx (ρ3.set 8 (some (R.f (.list ((askL m w).map fun z => lisD (lyA bs n z))))))) := by
    simp -implicitDefEqProofs only [xrunS, xstartE, xSeq, xIf, xRet, xSetF, xSetE, xFz, xfrzE, xPre, xtPre, xAsg, xPar, xRetT, xRetV, xDrop, xNx, xBk, xCt, xNo, xFor, xI, xi2, x2, x1, xA, xN, xV, xC, xF, xD, xSc, xB, xCh, xtN, xtA, xtO, xtY, xvN, xvA, xvO, xmIf, xTup, xLst, xList, xCall, xDict, xaN, xaC, xSl, xoN, xoS, xIt, xRg1, xRg2, xEnum, xZip, xLc, xcN, xcF, xgN, xgT, xgsN, xgsC, xat0, xatS, xd1, xd2, xd3, xfz, xAdd, xSub, xLt, xLe, xGt, xGe, xix1, xix2, xlen1, xlen2, xabs, xmax, xsum, xany, xall, xisB, xisNotB, xs1, xs2, xs3, xs4, xsc1, xsc2, xb, xint, xlist, xitems1, xitems2, xkey, xisi1, xisi2, xisi3, xisi4, xisi5, xw0, xw1, xEqI, xNeI, xNeB, xIxO, xl1, xl2, xSort, xat_0, xat_1, xat_2, xk0, xk1, xk2, xk3, xk4, xk5, xk6, xk7, Int.reduceEq, Option.bind_some, Option.map_some, Option.bind_none, Option.map_none, Option.map_map, Function.comp_apply, List.map_nil, List.map_cons, List.length_cons, List.length_nil, List.nil_append, List.cons_append, List.replicate_zero, List.replicate_succ, if_true, if_false, Bool.false_eq_true, Bool.not_true, Bool.not_false, Bool.true_and, Bool.and_true, Bool.false_and, Bool.and_false, Bool.true_or, Bool.or_true, Bool.false_or, Bool.or_false, Nat.reduceAdd, Nat.reduceSub, Nat.reduceEqDiff, Nat.reduceLeDiff, Nat.reduceLT, beq_self_eq_true, Int.reduceLT, Int.reduceLE, Int.reduceAdd, Int.reduceSub, Int.reduceNeg, decide_true, decide_false, ite_self, xd4, at_set, List.length_set, xCallB, xAug, free_ints, free_int, free_bool, free_dn, d6, List.length_map]
    rw [if_pos al, hc5]
    simp only [xrunS, xstartE, xSeq, xIf, xRet, xSetF, xSetE, xFz, xfrzE, xPre, xtPre, xAsg, xPar, xRetT, xRetV, xDrop, xNx, xBk, xCt, xNo, xFor, xI, xi2, x2, x1, xA, xN, xV, xC, xF, xD, xSc, xB, xCh, xtN, xtA, xtO, xtY, xvN, xvA, xvO, xmIf, xTup, xLst, xList, xCall, xDict, xaN, xaC, xSl, xoN, xoS, xIt, xRg1, xRg2, xEnum, xZip, xLc, xcN, xcF, xgN, xgT, xgsN, xgsC, xat0, xatS, xd1, xd2, xd3, xfz, xAdd, xSub, xLt, xLe, xGt, xGe, xix1, xix2, xlen1, xlen2, xabs, xmax, xsum, xany, xall, xisB, xisNotB, xs1, xs2, xs3, xs4, xsc1, xsc2, xb, xint, xlist, xitems1, xitems2, xkey, xisi1, xisi2, xisi3, xisi4, xisi5, xw0, xw1, xEqI, xNeI, xNeB, xIxO, xl1, xl2, xSort, xat_0, xat_1, xat_2, xk0, xk1, xk2, xk3, xk4, xk5, xk6, xk7, Int.reduceEq, Option.bind_some, Option.map_some, Option.bind_none, Option.map_none, Option.map_map, Function.comp_apply, List.map_nil, List.map_cons, List.length_cons, List.length_nil, List.nil_append, List.cons_append, List.replicate_zero, List.replicate_succ, if_true, if_false, Bool.false_eq_true, Bool.not_true, Bool.not_false, Bool.true_and, Bool.and_true, Bool.false_and, Bool.and_false, Bool.true_or, Bool.or_true, Bool.false_or, Bool.or_false, Nat.reduceAdd, Nat.reduceSub, Nat.reduceEqDiff, Nat.reduceLeDiff, Nat.reduceLT, beq_self_eq_true, Int.reduceLT, Int.reduceLE, Int.reduceAdd, Int.reduceSub, Int.reduceNeg, decide_true, decide_false, ite_self, xd4, at_set, List.length_set, xCallB, xAug, free_ints, free_int, free_bool, free_dn, l3]
    rw [List.set_set]
  have J4 := J3.set (i := 8) (by decide) (some (R.f (.list ((askL m w).map fun z => lisD (lyA bs n z)))))
  have g8 : at' (ρ3.set 8 (some (R.f (.list ((askL m w).map fun z => lisD (lyA bs n z)))))) 8 = some (R.f (.list ((askL m w).map fun z => lisD (lyA bs n z)))) := by simp only [xrunS, xstartE, xSeq, xIf, xRet, xSetF, xSetE, xFz, xfrzE, xPre, xtPre, xAsg, xPar, xRetT, xRetV, xDrop, xNx, xBk, xCt, xNo, xFor, xI, xi2, x2, x1, xA, xN, xV, xC, xF, xD, xSc, xB, xCh, xtN, xtA, xtO, xtY, xvN, xvA, xvO, xmIf, xTup, xLst, xList, xCall, xDict, xaN, xaC, xSl, xoN, xoS, xIt, xRg1, xRg2, xEnum, xZip, xLc, xcN, xcF, xgN, xgT, xgsN, xgsC, xat0, xatS, xd1, xd2, xd3, xfz, xAdd, xSub, xLt, xLe, xGt, xGe, xix1, xix2, xlen1, xlen2, xabs, xmax, xsum, xany, xall, xisB, xisNotB, xs1, xs2, xs3, xs4, xsc1, xsc2, xb, xint, xlist, xitems1, xitems2, xkey, xisi1, xisi2, xisi3, xisi4, xisi5, xw0, xw1, xEqI, xNeI, xNeB, xIxO, xl1, xl2, xSort, xat_0, xat_1, xat_2, xk0, xk1, xk2, xk3, xk4, xk5, xk6, xk7, Int.reduceEq, Option.bind_some, Option.map_some, Option.bind_none, Option.map_none, Option.map_map, Function.comp_apply, List.map_nil, List.map_cons, List.length_cons, List.length_nil, List.nil_append, List.cons_append, List.replicate_zero, List.replicate_succ, if_true, if_false, Bool.false_eq_true, Bool.not_true, Bool.not_false, Bool.true_and, Bool.and_true, Bool.false_and, Bool.and_false, Bool.true_or, Bool.or_true, Bool.false_or, Bool.or_false, Nat.reduceAdd, Nat.reduceSub, Nat.reduceEqDiff, Nat.reduceLeDiff, Nat.reduceLT, beq_self_eq_true, Int.reduceLT, Int.reduceLE, Int.reduceAdd, Int.reduceSub, Int.reduceNeg, decide_true, decide_false, ite_self, xd4, at_set, List.length_set, xCallB, xAug, free_ints, free_int, free_bool, free_dn, l3]
  generalize ρ3.set 8 (some (R.f (.list ((askL m w).map fun z => lisD (lyA bs n z))))) = ρ4 at *
  have l4 := J4.len
  have zu := zip_up (f := fun z => lisD (lyA bs n z)) (askL m w)
  have zl := zip_lt up
  have hlz : ((askL m w).zip ((askL m w).drop 1)).length ≤ 1000000 := by rw [List.length_zip]; omega
  have hc6 : colD (gT 2 (gsC (gN 9) (gsC (gN 10) (gsN)))) tY (m2 (fun x y => (gGeL x y).map Sc.d) (mV 9) (mV 10)) ((ρ4.set 10 none).set 9 none) (((askL m w).zip ((askL m w).drop 1)).map fun p => .tuple [lisD (lyA bs n p.1), lisD (lyA bs n p.2)]) = some (((askL m w).zip ((askL m w).drop 1)).map fun _ => .bool false) := by
    refine colD_mapE fun p hp => ?_
    obtain ⟨p1, p2, p3⟩ := zl p hp
    have y1 := ask_mem p2
    have y2 := ask_mem p3
    have hlt := lyA_lt (bs := bs) (n := n) y1.1 p1 (by omega)
    have hge : gGeL (lisD (lyA bs n p.1)) (lisD (lyA bs n p.2)) = some (.bl false) := by
      unfold lisD
      rw [xGeL, hlt]
      rfl
    generalize lisD (lyA bs n p.1) = u at *
    generalize lisD (lyA bs n p.2) = v at *
    simp only [xrunS, xstartE, xSeq, xIf, xRet, xSetF, xSetE, xFz, xfrzE, xPre, xtPre, xAsg, xPar, xRetT, xRetV, xDrop, xNx, xBk, xCt, xNo, xFor, xI, xi2, x2, x1, xA, xN, xV, xC, xF, xD, xSc, xB, xCh, xtN, xtA, xtO, xtY, xvN, xvA, xvO, xmIf, xTup, xLst, xList, xCall, xDict, xaN, xaC, xSl, xoN, xoS, xIt, xRg1, xRg2, xEnum, xZip, xLc, xcN, xcF, xgN, xgT, xgsN, xgsC, xat0, xatS, xd1, xd2, xd3, xfz, xAdd, xSub, xLt, xLe, xGt, xGe, xix1, xix2, xlen1, xlen2, xabs, xmax, xsum, xany, xall, xisB, xisNotB, xs1, xs2, xs3, xs4, xsc1, xsc2, xb, xint, xlist, xitems1, xitems2, xkey, xisi1, xisi2, xisi3, xisi4, xisi5, xw0, xw1, xEqI, xNeI, xNeB, xIxO, xl1, xl2, xSort, xat_0, xat_1, xat_2, xk0, xk1, xk2, xk3, xk4, xk5, xk6, xk7, Int.reduceEq, Option.bind_some, Option.map_some, Option.bind_none, Option.map_none, Option.map_map, Function.comp_apply, List.map_nil, List.map_cons, List.length_cons, List.length_nil, List.nil_append, List.cons_append, List.replicate_zero, List.replicate_succ, if_true, if_false, Bool.false_eq_true, Bool.not_true, Bool.not_false, Bool.true_and, Bool.and_true, Bool.false_and, Bool.and_false, Bool.true_or, Bool.or_true, Bool.false_or, Bool.or_false, Nat.reduceAdd, Nat.reduceSub, Nat.reduceEqDiff, Nat.reduceLeDiff, Nat.reduceLT, beq_self_eq_true, Int.reduceLT, Int.reduceLE, Int.reduceAdd, Int.reduceSub, Int.reduceNeg, decide_true, decide_false, ite_self, xd4, at_set, List.length_set, xCallB, xAug, free_ints, free_int, free_bool, free_dn, l4, hge]
    try rfl
  have s6 : (sIf (mB (mA (fun x => (gAny x).map Sc.d) (aC (mD (mLc (mZip (aC (mN 8) (aC (mD (mSl (mN 8) (oS (mC (.int 1))) (oN))) (aN)))) (gT 2 (gsC (gN 9) (gsC (gN 10) (gsN)))) (tY) (m2 (fun x y => (gGeL x y).map Sc.d) (mV 9) (mV 10)) [9, 10])) (aN)))) (sRet (mF (mC (.bl false)))) (sNx) : MS) ρ4 = some (.nx ρ4) := by
    have ha : (((askL m w).zip ((askL m w).drop 1)).any fun _ => false) = false := by simp
    simp only [xrunS, xstartE, xSeq, xIf, xRet, xSetF, xSetE, xFz, xfrzE, xPre, xtPre, xAsg, xPar, xRetT, xRetV, xDrop, xNx, xBk, xCt, xNo, xFor, xI, xi2, x2, x1, xA, xN, xV, xC, xF, xD, xSc, xB, xCh, xtN, xtA, xtO, xtY, xvN, xvA, xvO, xmIf, xTup, xLst, xList, xCall, xDict, xaN, xaC, xSl, xoN, xoS, xIt, xRg1, xRg2, xEnum, xZip, xLc, xcN, xcF, xgN, xgT, xgsN, xgsC, xat0, xatS, xd1, xd2, xd3, xfz, xAdd, xSub, xLt, xLe, xGt, xGe, xix1, xix2, xlen1, xlen2, xabs, xmax, xsum, xany, xall, xisB, xisNotB, xs1, xs2, xs3, xs4, xsc1, xsc2, xb, xint, xlist, xitems1, xitems2, xkey, xisi1, xisi2, xisi3, xisi4, xisi5, xw0, xw1, xEqI, xNeI, xNeB, xIxO, xl1, xl2, xSort, xat_0, xat_1, xat_2, xk0, xk1, xk2, xk3, xk4, xk5, xk6, xk7, Int.reduceEq, Option.bind_some, Option.map_some, Option.bind_none, Option.map_none, Option.map_map, Function.comp_apply, List.map_nil, List.map_cons, List.length_cons, List.length_nil, List.nil_append, List.cons_append, List.replicate_zero, List.replicate_succ, if_true, if_false, Bool.false_eq_true, Bool.not_true, Bool.not_false, Bool.true_and, Bool.and_true, Bool.false_and, Bool.and_false, Bool.true_or, Bool.or_true, Bool.false_or, Bool.or_false, Nat.reduceAdd, Nat.reduceSub, Nat.reduceEqDiff, Nat.reduceLeDiff, Nat.reduceLT, beq_self_eq_true, Int.reduceLT, Int.reduceLE, Int.reduceAdd, Int.reduceSub, Int.reduceNeg, decide_true, decide_false, ite_self, xd4, at_set, List.length_set, xCallB, xAug, free_ints, free_int, free_bool, free_dn, g8, cutD_drop (show (0 : Int) ≤ 1 by decide), show (1 : Int).toNat = 1 from rfl, zu, List.length_map]
    rw [if_pos hlz, hc6]
    simp only [xrunS, xstartE, xSeq, xIf, xRet, xSetF, xSetE, xFz, xfrzE, xPre, xtPre, xAsg, xPar, xRetT, xRetV, xDrop, xNx, xBk, xCt, xNo, xFor, xI, xi2, x2, x1, xA, xN, xV, xC, xF, xD, xSc, xB, xCh, xtN, xtA, xtO, xtY, xvN, xvA, xvO, xmIf, xTup, xLst, xList, xCall, xDict, xaN, xaC, xSl, xoN, xoS, xIt, xRg1, xRg2, xEnum, xZip, xLc, xcN, xcF, xgN, xgT, xgsN, xgsC, xat0, xatS, xd1, xd2, xd3, xfz, xAdd, xSub, xLt, xLe, xGt, xGe, xix1, xix2, xlen1, xlen2, xabs, xmax, xsum, xany, xall, xisB, xisNotB, xs1, xs2, xs3, xs4, xsc1, xsc2, xb, xint, xlist, xitems1, xitems2, xkey, xisi1, xisi2, xisi3, xisi4, xisi5, xw0, xw1, xEqI, xNeI, xNeB, xIxO, xl1, xl2, xSort, xat_0, xat_1, xat_2, xk0, xk1, xk2, xk3, xk4, xk5, xk6, xk7, Int.reduceEq, Option.bind_some, Option.map_some, Option.bind_none, Option.map_none, Option.map_map, Function.comp_apply, List.map_nil, List.map_cons, List.length_cons, List.length_nil, List.nil_append, List.cons_append, List.replicate_zero, List.replicate_succ, if_true, if_false, Bool.false_eq_true, Bool.not_true, Bool.not_false, Bool.true_and, Bool.and_true, Bool.false_and, Bool.and_false, Bool.true_or, Bool.or_true, Bool.false_or, Bool.or_false, Nat.reduceAdd, Nat.reduceSub, Nat.reduceEqDiff, Nat.reduceLeDiff, Nat.reduceLT, beq_self_eq_true, Int.reduceLT, Int.reduceLE, Int.reduceAdd, Int.reduceSub, Int.reduceNeg, decide_true, decide_false, ite_self, xd4, at_set, List.length_set, xCallB, xAug, free_ints, free_int, free_bool, free_dn, bls_fun, any_fun, ha]
  refine ⟨ρ4, ?_, J4⟩
  unfold i18
  rw [seq_nx s1, seq_nx s2, seq_nx s3, seq_nx s4, seq_nx s5, s6]
end K18

namespace K18
open PySem PySem.Spec PyProof.Rows L2 Vs
abbrev o18 (k : Nat) : MS := (sSeq (sSetF 3 (mD (mCall (sem k .law_bars_of) (aC (mN 0) (aC (mN 2) (aN))))))
    (sFor (mIt (mD (mLst (aC (mIf (mB (m2 (fun x y => (gEq x y).map Sc.d) (mI gMod (mV 1) (mC (.int 16))) (mV 2))) (mI gMod (mV 1) (mC (.int 301))) (mI gMod (mV 1) (mC (.int 31)))) (aC (mI gAdd (mC (.int 1)) (mI gMod (mV 1) (mC (.int 9)))) (aN)))))) (gN 4) (i18 k)))
theorem o18_ok (k : Nat) {sc : List Int} (hl : sc.length ≤ 63) (hb : ∀ i ∈ sc, Builtin.Int.intBits i ≤ 2 ^ 20) {w y : Int} (w0 : 0 ≤ w) (y0 : 0 ≤ y) (y1 : y ≤ 2) {ρ : En} (hlen : ρ.length = 13) (h0 : at' ρ 0 = some (R.f (.list (sc.map PyData.int)))) (h1 : at' ρ 1 = some (R.f (.int w))) :
    ∃ ρ', (gN 2 (.int y) ρ).bind (o18 (k+59)) = some (.nx ρ') ∧ ρ'.length = 13 ∧ at' ρ' 0 = some (R.f (.list (sc.map PyData.int))) ∧ at' ρ' 1 = some (R.f (.int w)) := by
  obtain ⟨bs, B, hbs⟩ := law_bars_of_ok (k+57) (by' := y) hl hb y0 (by omega)
  have q1 : gMod w 16 = some (.int (w % 16)) := xMod (by decide)
  have q2 : gMod w 301 = some (.int (w % 301)) := xMod (by decide)
  have q3 : gMod w 31 = some (.int (w % 31)) := xMod (by decide)
  have q4 : gMod w 9 = some (.int (w % 9)) := xMod (by decide)
  obtain ⟨n1, hn1, hif⟩ : ∃ n : Nat, n ≤ 300 ∧ (if w % 16 = y then w % 301 else w % 31) = (n : Nat) := by
    have a1 := Int.emod_nonneg w (by decide : (301 : Int) ≠ 0)
    have a2 := Int.emod_lt_of_pos w (by decide : (0 : Int) < 301)
    have a3 := Int.emod_nonneg w (by decide : (31 : Int) ≠ 0)
    have a4 := Int.emod_lt_of_pos w (by decide : (0 : Int) < 31)
    split
    · exact ⟨(w % 301).toNat, by omega, by omega⟩
    · exact ⟨(w % 31).toNat, by omega, by omega⟩
  obtain ⟨n2, hn2, he2⟩ : ∃ n : Nat, n ≤ 300 ∧ 1 + w % 9 = (n : Nat) := by
    have a1 := Int.emod_nonneg w (by decide : (9 : Int) ≠ 0)
    have a2 := Int.emod_lt_of_pos w (by decide : (0 : Int) < 9)
    exact ⟨(1 + w % 9).toNat, by omega, by omega⟩
  rw [xgN, Option.bind_some]
  unfold o18
  have s1 : (sSetF 3 (mD (mCall (sem (k+59) .law_bars_of) (aC (mN 0) (aC (mN 2) (aN))))) : MS) (ρ.set 2 (some (R.f (.int y)))) = some (.nx ((ρ.set 2 (some (R.f (.int y)))).set 3 (some (R.f (.list (bs.map PyData.int)))))) := by
    simp -implicitDefEqProofs only [xrunS, xstartE, xSeq, xIf, xRet, xSetF, xSetE, xFz, xfrzE, xPre, xtPre, xAsg, xPar, xRetT, xRetV, xDrop, xNx, xBk, xCt, xNo, xFor, xI, xi2, x2, x1, xA, xN, xV, xC, xF, xD, xSc, xB, xCh, xtN, xtA, xtO, xtY, xvN, xvA, xvO, xmIf, xTup, xLst, xList, xCall, xDict, xaN, xaC, xSl, xoN, xoS, xIt, xRg1, xRg2, xEnum, xZip, xLc, xcN, xcF, xgN, xgT, xgsN, xgsC, xat0, xatS, xd1, xd2, xd3, xfz, xAdd, xSub, xLt, xLe, xGt, xGe, xix1, xix2, xlen1, xlen2, xabs, xmax, xsum, xany, xall, xisB, xisNotB, xs1, xs2, xs3, xs4, xsc1, xsc2, xb, xint, xlist, xitems1, xitems2, xkey, xisi1, xisi2, xisi3, xisi4, xisi5, xw0, xw1, xEqI, xNeI, xNeB, xIxO, xl1, xl2, xSort, xat_0, xat_1, xat_2, xk0, xk1, xk2, xk3, xk4, xk5, xk6, xk7, Int.reduceEq, Option.bind_some, Option.map_some, Option.bind_none, Option.map_none, Option.map_map, Function.comp_apply, List.map_nil, List.map_cons, List.length_cons, List.length_nil, List.nil_append, List.cons_append, List.replicate_zero, List.replicate_succ, if_true, if_false, Bool.false_eq_true, Bool.not_true, Bool.not_false, Bool.true_and, Bool.and_true, Bool.false_and, Bool.and_false, Bool.true_or, Bool.or_true, Bool.false_or, Bool.or_false, Nat.reduceAdd, Nat.reduceSub, Nat.reduceEqDiff, Nat.reduceLeDiff, Nat.reduceLT, beq_self_eq_true, Int.reduceLT, Int.reduceLE, Int.reduceAdd, Int.reduceSub, Int.reduceNeg, decide_true, decide_false, ite_self, xd4, at_set, List.length_set, xCallB, xAug, free_ints, free_int, free_bool, free_dn, hlen, h0, hbs]
  rw [seq_nx s1]
  generalize hρ2 : (ρ.set 2 (some (R.f (.int y)))).set 3 (some (R.f (.list (bs.map PyData.int)))) = ρ2
  have J : J18 (.list (sc.map PyData.int)) w bs ρ2 := by subst hρ2; exact ⟨by simp only [List.length_set, hlen], by simp only [xrunS, xstartE, xSeq, xIf, xRet, xSetF, xSetE, xFz, xfrzE, xPre, xtPre, xAsg, xPar, xRetT, xRetV, xDrop, xNx, xBk, xCt, xNo, xFor, xI, xi2, x2, x1, xA, xN, xV, xC, xF, xD, xSc, xB, xCh, xtN, xtA, xtO, xtY, xvN, xvA, xvO, xmIf, xTup, xLst, xList, xCall, xDict, xaN, xaC, xSl, xoN, xoS, xIt, xRg1, xRg2, xEnum, xZip, xLc, xcN, xcF, xgN, xgT, xgsN, xgsC, xat0, xatS, xd1, xd2, xd3, xfz, xAdd, xSub, xLt, xLe, xGt, xGe, xix1, xix2, xlen1, xlen2, xabs, xmax, xsum, xany, xall, xisB, xisNotB, xs1, xs2, xs3, xs4, xsc1, xsc2, xb, xint, xlist, xitems1, xitems2, xkey, xisi1, xisi2, xisi3, xisi4, xisi5, xw0, xw1, xEqI, xNeI, xNeB, xIxO, xl1, xl2, xSort, xat_0, xat_1, xat_2, xk0, xk1, xk2, xk3, xk4, xk5, xk6, xk7, Int.reduceEq, Option.bind_some, Option.map_some, Option.bind_none, Option.map_none, Option.map_map, Function.comp_apply, List.map_nil, List.map_cons, List.length_cons, List.length_nil, List.nil_append, List.cons_append, List.replicate_zero, List.replicate_succ, if_true, if_false, Bool.false_eq_true, Bool.not_true, Bool.not_false, Bool.true_and, Bool.and_true, Bool.false_and, Bool.and_false, Bool.true_or, Bool.or_true, Bool.false_or, Bool.or_false, Nat.reduceAdd, Nat.reduceSub, Nat.reduceEqDiff, Nat.reduceLeDiff, Nat.reduceLT, beq_self_eq_true, Int.reduceLT, Int.reduceLE, Int.reduceAdd, Int.reduceSub, Int.reduceNeg, decide_true, decide_false, ite_self, xd4, at_set, List.length_set, xCallB, xAug, free_ints, free_int, free_bool, free_dn, h0], by simp only [xrunS, xstartE, xSeq, xIf, xRet, xSetF, xSetE, xFz, xfrzE, xPre, xtPre, xAsg, xPar, xRetT, xRetV, xDrop, xNx, xBk, xCt, xNo, xFor, xI, xi2, x2, x1, xA, xN, xV, xC, xF, xD, xSc, xB, xCh, xtN, xtA, xtO, xtY, xvN, xvA, xvO, xmIf, xTup, xLst, xList, xCall, xDict, xaN, xaC, xSl, xoN, xoS, xIt, xRg1, xRg2, xEnum, xZip, xLc, xcN, xcF, xgN, xgT, xgsN, xgsC, xat0, xatS, xd1, xd2, xd3, xfz, xAdd, xSub, xLt, xLe, xGt, xGe, xix1, xix2, xlen1, xlen2, xabs, xmax, xsum, xany, xall, xisB, xisNotB, xs1, xs2, xs3, xs4, xsc1, xsc2, xb, xint, xlist, xitems1, xitems2, xkey, xisi1, xisi2, xisi3, xisi4, xisi5, xw0, xw1, xEqI, xNeI, xNeB, xIxO, xl1, xl2, xSort, xat_0, xat_1, xat_2, xk0, xk1, xk2, xk3, xk4, xk5, xk6, xk7, Int.reduceEq, Option.bind_some, Option.map_some, Option.bind_none, Option.map_none, Option.map_map, Function.comp_apply, List.map_nil, List.map_cons, List.length_cons, List.length_nil, List.nil_append, List.cons_append, List.replicate_zero, List.replicate_succ, if_true, if_false, Bool.false_eq_true, Bool.not_true, Bool.not_false, Bool.true_and, Bool.and_true, Bool.false_and, Bool.and_false, Bool.true_or, Bool.or_true, Bool.false_or, Bool.or_false, Nat.reduceAdd, Nat.reduceSub, Nat.reduceEqDiff, Nat.reduceLeDiff, Nat.reduceLT, beq_self_eq_true, Int.reduceLT, Int.reduceLE, Int.reduceAdd, Int.reduceSub, Int.reduceNeg, decide_true, decide_false, ite_self, xd4, at_set, List.length_set, xCallB, xAug, free_ints, free_int, free_bool, free_dn, h1], by simp only [xrunS, xstartE, xSeq, xIf, xRet, xSetF, xSetE, xFz, xfrzE, xPre, xtPre, xAsg, xPar, xRetT, xRetV, xDrop, xNx, xBk, xCt, xNo, xFor, xI, xi2, x2, x1, xA, xN, xV, xC, xF, xD, xSc, xB, xCh, xtN, xtA, xtO, xtY, xvN, xvA, xvO, xmIf, xTup, xLst, xList, xCall, xDict, xaN, xaC, xSl, xoN, xoS, xIt, xRg1, xRg2, xEnum, xZip, xLc, xcN, xcF, xgN, xgT, xgsN, xgsC, xat0, xatS, xd1, xd2, xd3, xfz, xAdd, xSub, xLt, xLe, xGt, xGe, xix1, xix2, xlen1, xlen2, xabs, xmax, xsum, xany, xall, xisB, xisNotB, xs1, xs2, xs3, xs4, xsc1, xsc2, xb, xint, xlist, xitems1, xitems2, xkey, xisi1, xisi2, xisi3, xisi4, xisi5, xw0, xw1, xEqI, xNeI, xNeB, xIxO, xl1, xl2, xSort, xat_0, xat_1, xat_2, xk0, xk1, xk2, xk3, xk4, xk5, xk6, xk7, Int.reduceEq, Option.bind_some, Option.map_some, Option.bind_none, Option.map_none, Option.map_map, Function.comp_apply, List.map_nil, List.map_cons, List.length_cons, List.length_nil, List.nil_append, List.cons_append, List.replicate_zero, List.replicate_succ, if_true, if_false, Bool.false_eq_true, Bool.not_true, Bool.not_false, Bool.true_and, Bool.and_true, Bool.false_and, Bool.and_false, Bool.true_or, Bool.or_true, Bool.false_or, Bool.or_false, Nat.reduceAdd, Nat.reduceSub, Nat.reduceEqDiff, Nat.reduceLeDiff, Nat.reduceLT, beq_self_eq_true, Int.reduceLT, Int.reduceLE, Int.reduceAdd, Int.reduceSub, Int.reduceNeg, decide_true, decide_false, ite_self, xd4, at_set, List.length_set, xCallB, xAug, free_ints, free_int, free_bool, free_dn, hlen, List.length_set]⟩
  have g2 : at' ρ2 2 = some (R.f (.int y)) := by subst hρ2; simp only [xrunS, xstartE, xSeq, xIf, xRet, xSetF, xSetE, xFz, xfrzE, xPre, xtPre, xAsg, xPar, xRetT, xRetV, xDrop, xNx, xBk, xCt, xNo, xFor, xI, xi2, x2, x1, xA, xN, xV, xC, xF, xD, xSc, xB, xCh, xtN, xtA, xtO, xtY, xvN, xvA, xvO, xmIf, xTup, xLst, xList, xCall, xDict, xaN, xaC, xSl, xoN, xoS, xIt, xRg1, xRg2, xEnum, xZip, xLc, xcN, xcF, xgN, xgT, xgsN, xgsC, xat0, xatS, xd1, xd2, xd3, xfz, xAdd, xSub, xLt, xLe, xGt, xGe, xix1, xix2, xlen1, xlen2, xabs, xmax, xsum, xany, xall, xisB, xisNotB, xs1, xs2, xs3, xs4, xsc1, xsc2, xb, xint, xlist, xitems1, xitems2, xkey, xisi1, xisi2, xisi3, xisi4, xisi5, xw0, xw1, xEqI, xNeI, xNeB, xIxO, xl1, xl2, xSort, xat_0, xat_1, xat_2, xk0, xk1, xk2, xk3, xk4, xk5, xk6, xk7, Int.reduceEq, Option.bind_some, Option.map_some, Option.bind_none, Option.map_none, Option.map_map, Function.comp_apply, List.map_nil, List.map_cons, List.length_cons, List.length_nil, List.nil_append, List.cons_append, List.replicate_zero, List.replicate_succ, if_true, if_false, Bool.false_eq_true, Bool.not_true, Bool.not_false, Bool.true_and, Bool.and_true, Bool.false_and, Bool.and_false, Bool.true_or, Bool.or_true, Bool.false_or, Bool.or_false, Nat.reduceAdd, Nat.reduceSub, Nat.reduceEqDiff, Nat.reduceLeDiff, Nat.reduceLT, beq_self_eq_true, Int.reduceLT, Int.reduceLE, Int.reduceAdd, Int.reduceSub, Int.reduceNeg, decide_true, decide_false, ite_self, xd4, at_set, List.length_set, xCallB, xAug, free_ints, free_int, free_bool, free_dn, hlen]
  have hit : (mIt (mD (mLst (aC (mIf (mB (m2 (fun x y => (gEq x y).map Sc.d) (mI gMod (mV 1) (mC (.int 16))) (mV 2))) (mI gMod (mV 1) (mC (.int 301))) (mI gMod (mV 1) (mC (.int 31)))) (aC (mI gAdd (mC (.int 1)) (mI gMod (mV 1) (mC (.int 9)))) (aN))))) : M (List PyData)) ρ2 = some (([n1, n2] : List Nat).map fun p => PyData.int (p : Nat)) := by
    by_cases c : w % 16 = y
    · rw [if_pos c] at hif
      simp only [xrunS, xstartE, xSeq, xIf, xRet, xSetF, xSetE, xFz, xfrzE, xPre, xtPre, xAsg, xPar, xRetT, xRetV, xDrop, xNx, xBk, xCt, xNo, xFor, xI, xi2, x2, x1, xA, xN, xV, xC, xF, xD, xSc, xB, xCh, xtN, xtA, xtO, xtY, xvN, xvA, xvO, xmIf, xTup, xLst, xList, xCall, xDict, xaN, xaC, xSl, xoN, xoS, xIt, xRg1, xRg2, xEnum, xZip, xLc, xcN, xcF, xgN, xgT, xgsN, xgsC, xat0, xatS, xd1, xd2, xd3, xfz, xAdd, xSub, xLt, xLe, xGt, xGe, xix1, xix2, xlen1, xlen2, xabs, xmax, xsum, xany, xall, xisB, xisNotB, xs1, xs2, xs3, xs4, xsc1, xsc2, xb, xint, xlist, xitems1, xitems2, xkey, xisi1, xisi2, xisi3, xisi4, xisi5, xw0, xw1, xEqI, xNeI, xNeB, xIxO, xl1, xl2, xSort, xat_0, xat_1, xat_2, xk0, xk1, xk2, xk3, xk4, xk5, xk6, xk7, Int.reduceEq, Option.bind_some, Option.map_some, Option.bind_none, Option.map_none, Option.map_map, Function.comp_apply, List.map_nil, List.map_cons, List.length_cons, List.length_nil, List.nil_append, List.cons_append, List.replicate_zero, List.replicate_succ, if_true, if_false, Bool.false_eq_true, Bool.not_true, Bool.not_false, Bool.true_and, Bool.and_true, Bool.false_and, Bool.and_false, Bool.true_or, Bool.or_true, Bool.false_or, Bool.or_false, Nat.reduceAdd, Nat.reduceSub, Nat.reduceEqDiff, Nat.reduceLeDiff, Nat.reduceLT, beq_self_eq_true, Int.reduceLT, Int.reduceLE, Int.reduceAdd, Int.reduceSub, Int.reduceNeg, decide_true, decide_false, ite_self, xd4, at_set, List.length_set, xCallB, xAug, free_ints, free_int, free_bool, free_dn, J.h1, g2, q1, q2, q3, q4, decide_eq_true c, hif, he2]
      try rfl
    · rw [if_neg c] at hif
      simp only [xrunS, xstartE, xSeq, xIf, xRet, xSetF, xSetE, xFz, xfrzE, xPre, xtPre, xAsg, xPar, xRetT, xRetV, xDrop, xNx, xBk, xCt, xNo, xFor, xI, xi2, x2, x1, xA, xN, xV, xC, xF, xD, xSc, xB, xCh, xtN, xtA, xtO, xtY, xvN, xvA, xvO, xmIf, xTup, xLst, xList, xCall, xDict, xaN, xaC, xSl, xoN, xoS, xIt, xRg1, xRg2, xEnum, xZip, xLc, xcN, xcF, xgN, xgT, xgsN, xgsC, xat0, xatS, xd1, xd2, xd3, xfz, xAdd, xSub, xLt, xLe, xGt, xGe, xix1, xix2, xlen1, xlen2, xabs, xmax, xsum, xany, xall, xisB, xisNotB, xs1, xs2, xs3, xs4, xsc1, xsc2, xb, xint, xlist, xitems1, xitems2, xkey, xisi1, xisi2, xisi3, xisi4, xisi5, xw0, xw1, xEqI, xNeI, xNeB, xIxO, xl1, xl2, xSort, xat_0, xat_1, xat_2, xk0, xk1, xk2, xk3, xk4, xk5, xk6, xk7, Int.reduceEq, Option.bind_some, Option.map_some, Option.bind_none, Option.map_none, Option.map_map, Function.comp_apply, List.map_nil, List.map_cons, List.length_cons, List.length_nil, List.nil_append, List.cons_append, List.replicate_zero, List.replicate_succ, if_true, if_false, Bool.false_eq_true, Bool.not_true, Bool.not_false, Bool.true_and, Bool.and_true, Bool.false_and, Bool.and_false, Bool.true_or, Bool.or_true, Bool.false_or, Bool.or_false, Nat.reduceAdd, Nat.reduceSub, Nat.reduceEqDiff, Nat.reduceLeDiff, Nat.reduceLT, beq_self_eq_true, Int.reduceLT, Int.reduceLE, Int.reduceAdd, Int.reduceSub, Int.reduceNeg, decide_true, decide_false, ite_self, xd4, at_set, List.length_set, xCallB, xAug, free_ints, free_int, free_bool, free_dn, J.h1, g2, q1, q2, q3, q4, decide_eq_false c, hif, he2]
      try rfl
  obtain ⟨ρ', r1, J'⟩ := loopF_all (l := ([n1, n2] : List Nat)) (D := fun p => PyData.int (p : Nat)) (g := gN 4) (body := i18 (k+59)) (I := J18 (.list (sc.map PyData.int)) w bs) (fun p hp ρ J => by
    have hp : p ≤ 300 := by
      simp only [List.mem_cons, List.not_mem_nil, or_false] at hp
      omega
    have hl := J.len
    rw [xgN, Option.bind_some]
    exact i18_ok (k+53) B hp (J.set (by decide) _) (by simp only [xrunS, xstartE, xSeq, xIf, xRet, xSetF, xSetE, xFz, xfrzE, xPre, xtPre, xAsg, xPar, xRetT, xRetV, xDrop, xNx, xBk, xCt, xNo, xFor, xI, xi2, x2, x1, xA, xN, xV, xC, xF, xD, xSc, xB, xCh, xtN, xtA, xtO, xtY, xvN, xvA, xvO, xmIf, xTup, xLst, xList, xCall, xDict, xaN, xaC, xSl, xoN, xoS, xIt, xRg1, xRg2, xEnum, xZip, xLc, xcN, xcF, xgN, xgT, xgsN, xgsC, xat0, xatS, xd1, xd2, xd3, xfz, xAdd, xSub, xLt, xLe, xGt, xGe, xix1, xix2, xlen1, xlen2, xabs, xmax, xsum, xany, xall, xisB, xisNotB, xs1, xs2, xs3, xs4, xsc1, xsc2, xb, xint, xlist, xitems1, xitems2, xkey, xisi1, xisi2, xisi3, xisi4, xisi5, xw0, xw1, xEqI, xNeI, xNeB, xIxO, xl1, xl2, xSort, xat_0, xat_1, xat_2, xk0, xk1, xk2, xk3, xk4, xk5, xk6, xk7, Int.reduceEq, Option.bind_some, Option.map_some, Option.bind_none, Option.map_none, Option.map_map, Function.comp_apply, List.map_nil, List.map_cons, List.length_cons, List.length_nil, List.nil_append, List.cons_append, List.replicate_zero, List.replicate_succ, if_true, if_false, Bool.false_eq_true, Bool.not_true, Bool.not_false, Bool.true_and, Bool.and_true, Bool.false_and, Bool.and_false, Bool.true_or, Bool.or_true, Bool.false_or, Bool.or_false, Nat.reduceAdd, Nat.reduceSub, Nat.reduceEqDiff, Nat.reduceLeDiff, Nat.reduceLT, beq_self_eq_true, Int.reduceLT, Int.reduceLE, Int.reduceAdd, Int.reduceSub, Int.reduceNeg, decide_true, decide_false, ite_self, xd4, at_set, List.length_set, xCallB, xAug, free_ints, free_int, free_bool, free_dn, hl])) J
  refine ⟨ρ', ?_, J'.len, J'.h0, J'.h1⟩
  rw [xFor, hit, Option.bind_some]
  exact r1
def d8 : List (List Int) := [[0, 0, 0, 0, 0], [0, 0, 0, 1], [0, 0, 1, 0], [0, 1, 0, 0], [0, 1, 1], [1, 0, 0, 0], [1, 0, 1], [1, 1, 0]]
theorem ly12 : lyN [1, 2] 5 ((5 : Nat) : Int) = d8 := by decide +kernel
theorem pure_lawk (k : Nat) (ns : List Int) (hl : ns.length ≤ 63) (hb : ∀ i ∈ ns, Builtin.Int.intBits i ≤ 2 ^ 20) : sem (k+60) .law [.list (ns.map PyData.int)] = some (.f (.bool true)) := by
  rw [e_law]
  generalize hw : (if (ns.take 63).sum < 0 then -(ns.take 63).sum else (ns.take 63).sum) = w
  have w0 : 0 ≤ w := by subst hw; split <;> omega
  refine run_rt rfl ?_
  unfold m_law
  have s1 : (sSetF 1 (mA (fun x => (gAbs x).map Sc.d) (aC (mA (fun x => (gSum x).map Sc.d) (aC (mD (mSl (mN 0) (oN) (oS (mC (.int 63))))) (aN))) (aN))) : MS) (startE 13 [PyData.list (ns.map PyData.int)]) = some (.nx [some (R.f (.list (ns.map PyData.int))), some (R.f (.int w)), none, none, none, none, none, none, none, none, none, none, none]) := by
    simp only [xrunS, xstartE, xSeq, xIf, xRet, xSetF, xSetE, xFz, xfrzE, xPre, xtPre, xAsg, xPar, xRetT, xRetV, xDrop, xNx, xBk, xCt, xNo, xFor, xI, xi2, x2, x1, xA, xN, xV, xC, xF, xD, xSc, xB, xCh, xtN, xtA, xtO, xtY, xvN, xvA, xvO, xmIf, xTup, xLst, xList, xCall, xDict, xaN, xaC, xSl, xoN, xoS, xIt, xRg1, xRg2, xEnum, xZip, xLc, xcN, xcF, xgN, xgT, xgsN, xgsC, xat0, xatS, xd1, xd2, xd3, xfz, xAdd, xSub, xLt, xLe, xGt, xGe, xix1, xix2, xlen1, xlen2, xabs, xmax, xsum, xany, xall, xisB, xisNotB, xs1, xs2, xs3, xs4, xsc1, xsc2, xb, xint, xlist, xitems1, xitems2, xkey, xisi1, xisi2, xisi3, xisi4, xisi5, xw0, xw1, xEqI, xNeI, xNeB, xIxO, xl1, xl2, xSort, xat_0, xat_1, xat_2, xk0, xk1, xk2, xk3, xk4, xk5, xk6, xk7, Int.reduceEq, Option.bind_some, Option.map_some, Option.bind_none, Option.map_none, Option.map_map, Function.comp_apply, List.map_nil, List.map_cons, List.length_cons, List.length_nil, List.nil_append, List.cons_append, List.replicate_zero, List.replicate_succ, List.set_cons_zero, List.set_cons_succ, if_true, if_false, Bool.false_eq_true, Bool.not_true, Bool.not_false, Bool.true_and, Bool.and_true, Bool.false_and, Bool.and_false, Bool.true_or, Bool.or_true, Bool.false_or, Bool.or_false, Nat.reduceAdd, Nat.reduceSub, Nat.reduceEqDiff, Nat.reduceLeDiff, Nat.reduceLT, beq_self_eq_true, Int.reduceLT, Int.reduceLE, Int.reduceAdd, Int.reduceSub, Int.reduceNeg, decide_true, decide_false, ite_self, xd4, cutD_take (show (0 : Int) ≤ 63 by decide), show (63 : Int).toNat = 63 from rfl, ← List.map_take, ints?_map, hw]
  rw [seq_nx s1]
  obtain ⟨ρ', e1, l1, _⟩ := loopF_all (l := [(0 : Int), 1, 2]) (D := PyData.int) (g := gN 2) (body := o18 (k+59)) (I := fun ρ => ρ.length = 13 ∧ at' ρ 0 = some (R.f (.list (ns.map PyData.int))) ∧ at' ρ 1 = some (R.f (.int w))) (ρ := [some (R.f (.list (ns.map PyData.int))), some (R.f (.int w)), none, none, none, none, none, none, none, none, none, none, none]) (fun y hy ρ hI => by
    have hy : y = 0 ∨ y = 1 ∨ y = 2 := by simpa using hy
    exact o18_ok k hl hb w0 (by omega) (by omega) hI.1 hI.2.1 hI.2.2) ⟨rfl, rfl, rfl⟩
  rw [seq_nx (ρ' := ρ')]
  · have B3 : BarsOk [3] := ⟨by decide, by decide, by decide⟩
    have B12 : BarsOk [1, 2] := ⟨by decide, by decide, by decide⟩
    have a1 : sem (k+59) .laying [.list [.int 3], .int 0, .int 0] = some (.ol []) := by
      obtain ⟨js, h1, h2⟩ := laying_ok (k+54) B3 (n := 0) (by decide) (a := 0) (by decide)
      cases h1
      exact h2
    have a2 : sem (k+59) .number_in [.list [.int 3], .int 0, .list []] = some (.f (.int 0)) := number_in_ok (k+54) B3 (n := 0) (by decide) (a := 0) (js := []) rfl
    have hc : colD (gN 7) tY (mD (mCall (sem (k+59) .laying) (aC (mD (mLst (aC (mC (.int 1)) (aC (mC (.int 2)) (aN))))) (aC (mC (.int 5)) (aC (mN 7) (aN)))))) (ρ'.set 7 none) ((List.range 8).map fun (i : Nat) => .int ((0 : Int) + (i : Int))) = some ((List.range 8).map fun i => lisD (d8.getD i [])) := by
      refine colD_mapE fun i hi => ?_
      have hi : i < 8 := List.mem_range.mp hi
      obtain ⟨js, h1, h2⟩ := laying_ok (k+54) B12 (n := 5) (by decide) (a := i) (by rw [ly12]; exact hi)
      rw [ly12] at h1
      have ej : d8.getD i [] = js := by rw [List.getD_eq_getElem?_getD, h1]; rfl
      have h2' : sem (k+59) .laying [.list [.int 1, .int 2], .int 5, .int (i : Nat)] = some (.ol (js.map PyData.int)) := h2
      rw [ej, Int.zero_add]
      simp -implicitDefEqProofs only [xrunS, xstartE, xSeq, xIf, xRet, xSetF, xSetE, xFz, xfrzE, xPre, xtPre, xAsg, xPar, xRetT, xRetV, xDrop, xNx, xBk, xCt, xNo, xFor, xI, xi2, x2, x1, xA, xN, xV, xC, xF, xD, xSc, xB, xCh, xtN, xtA, xtO, xtY, xvN, xvA, xvO, xmIf, xTup, xLst, xList, xCall, xDict, xaN, xaC, xSl, xoN, xoS, xIt, xRg1, xRg2, xEnum, xZip, xLc, xcN, xcF, xgN, xgT, xgsN, xgsC, xat0, xatS, xd1, xd2, xd3, xfz, xAdd, xSub, xLt, xLe, xGt, xGe, xix1, xix2, xlen1, xlen2, xabs, xmax, xsum, xany, xall, xisB, xisNotB, xs1, xs2, xs3, xs4, xsc1, xsc2, xb, xint, xlist, xitems1, xitems2, xkey, xisi1, xisi2, xisi3, xisi4, xisi5, xw0, xw1, xEqI, xNeI, xNeB, xIxO, xl1, xl2, xSort, xat_0, xat_1, xat_2, xk0, xk1, xk2, xk3, xk4, xk5, xk6, xk7, Int.reduceEq, Option.bind_some, Option.map_some, Option.bind_none, Option.map_none, Option.map_map, Function.comp_apply, List.map_nil, List.map_cons, List.length_cons, List.length_nil, List.nil_append, List.cons_append, List.replicate_zero, List.replicate_succ, if_true, if_false, Bool.false_eq_true, Bool.not_true, Bool.not_false, Bool.true_and, Bool.and_true, Bool.false_and, Bool.and_false, Bool.true_or, Bool.or_true, Bool.false_or, Bool.or_false, Nat.reduceAdd, Nat.reduceSub, Nat.reduceEqDiff, Nat.reduceLeDiff, Nat.reduceLT, beq_self_eq_true, Int.reduceLT, Int.reduceLE, Int.reduceAdd, Int.reduceSub, Int.reduceNeg, decide_true, decide_false, ite_self, xd4, at_set, List.length_set, xCallB, xAug, free_ints, free_int, free_bool, free_dn, l1, h2']
      rfl
    have s2 : (sFz 11 (sSetE 11 (mLc (mRg1 (aC (mC (.int 8)) (aN))) (gN 7) (tY) (mD (mCall (sem (k+59) .laying) (aC (mD (mLst (aC (mC (.int 1)) (aC (mC (.int 2)) (aN))))) (aC (mC (.int 5)) (aC (mN 7) (aN)))))) [7])) : MS) ρ' = some (.nx (ρ'.set 11 (some (R.f (.list (d8.map lisD)))))) := by
      rw [xFz, xSetE, xLc, rg1_int (j := 8) rfl (by decide) (by decide), Option.bind_some, rngD_map, show (8 : Int).toNat = 8 from rfl, if_pos (by simp), show wip ρ' [7] = ρ'.set 7 none from rfl, hc]
      simp only [xrunS, xstartE, xSeq, xIf, xRet, xSetF, xSetE, xFz, xfrzE, xPre, xtPre, xAsg, xPar, xRetT, xRetV, xDrop, xNx, xBk, xCt, xNo, xFor, xI, xi2, x2, x1, xA, xN, xV, xC, xF, xD, xSc, xB, xCh, xtN, xtA, xtO, xtY, xvN, xvA, xvO, xmIf, xTup, xLst, xList, xCall, xDict, xaN, xaC, xSl, xoN, xoS, xIt, xRg1, xRg2, xEnum, xZip, xLc, xcN, xcF, xgN, xgT, xgsN, xgsC, xat0, xatS, xd1, xd2, xd3, xfz, xAdd, xSub, xLt, xLe, xGt, xGe, xix1, xix2, xlen1, xlen2, xabs, xmax, xsum, xany, xall, xisB, xisNotB, xs1, xs2, xs3, xs4, xsc1, xsc2, xb, xint, xlist, xitems1, xitems2, xkey, xisi1, xisi2, xisi3, xisi4, xisi5, xw0, xw1, xEqI, xNeI, xNeB, xIxO, xl1, xl2, xSort, xat_0, xat_1, xat_2, xk0, xk1, xk2, xk3, xk4, xk5, xk6, xk7, Int.reduceEq, Option.bind_some, Option.map_some, Option.bind_none, Option.map_none, Option.map_map, Function.comp_apply, List.map_nil, List.map_cons, List.length_cons, List.length_nil, List.nil_append, List.cons_append, List.replicate_zero, List.replicate_succ, if_true, if_false, Bool.false_eq_true, Bool.not_true, Bool.not_false, Bool.true_and, Bool.and_true, Bool.false_and, Bool.and_false, Bool.true_or, Bool.or_true, Bool.false_or, Bool.or_false, Nat.reduceAdd, Nat.reduceSub, Nat.reduceEqDiff, Nat.reduceLeDiff, Nat.reduceLT, beq_self_eq_true, Int.reduceLT, Int.reduceLE, Int.reduceAdd, Int.reduceSub, Int.reduceNeg, decide_true, decide_false, ite_self, xd4, at_set, List.length_set, xCallB, xAug, free_ints, free_int, free_bool, free_dn, l1]
      rw [List.set_set]
      rfl
    rw [seq_nx s2]
    have g11 : at' (ρ'.set 11 (some (R.f (.list (d8.map lisD))))) 11 = some (R.f (.list (d8.map lisD))) := by simp only [xrunS, xstartE, xSeq, xIf, xRet, xSetF, xSetE, xFz, xfrzE, xPre, xtPre, xAsg, xPar, xRetT, xRetV, xDrop, xNx, xBk, xCt, xNo, xFor, xI, xi2, x2, x1, xA, xN, xV, xC, xF, xD, xSc, xB, xCh, xtN, xtA, xtO, xtY, xvN, xvA, xvO, xmIf, xTup, xLst, xList, xCall, xDict, xaN, xaC, xSl, xoN, xoS, xIt, xRg1, xRg2, xEnum, xZip, xLc, xcN, xcF, xgN, xgT, xgsN, xgsC, xat0, xatS, xd1, xd2, xd3, xfz, xAdd, xSub, xLt, xLe, xGt, xGe, xix1, xix2, xlen1, xlen2, xabs, xmax, xsum, xany, xall, xisB, xisNotB, xs1, xs2, xs3, xs4, xsc1, xsc2, xb, xint, xlist, xitems1, xitems2, xkey, xisi1, xisi2, xisi3, xisi4, xisi5, xw0, xw1, xEqI, xNeI, xNeB, xIxO, xl1, xl2, xSort, xat_0, xat_1, xat_2, xk0, xk1, xk2, xk3, xk4, xk5, xk6, xk7, Int.reduceEq, Option.bind_some, Option.map_some, Option.bind_none, Option.map_none, Option.map_map, Function.comp_apply, List.map_nil, List.map_cons, List.length_cons, List.length_nil, List.nil_append, List.cons_append, List.replicate_zero, List.replicate_succ, if_true, if_false, Bool.false_eq_true, Bool.not_true, Bool.not_false, Bool.true_and, Bool.and_true, Bool.false_and, Bool.and_false, Bool.true_or, Bool.or_true, Bool.false_or, Bool.or_false, Nat.reduceAdd, Nat.reduceSub, Nat.reduceEqDiff, Nat.reduceLeDiff, Nat.reduceLT, beq_self_eq_true, Int.reduceLT, Int.reduceLE, Int.reduceAdd, Int.reduceSub, Int.reduceNeg, decide_true, decide_false, ite_self, xd4, at_set, List.length_set, xCallB, xAug, free_ints, free_int, free_bool, free_dn, l1]
    have l2 : (ρ'.set 11 (some (R.f (.list (d8.map lisD))))).length = 13 := by rw [List.length_set]; exact l1
    generalize ρ'.set 11 (some (R.f (.list (d8.map lisD)))) = ρ2 at g11 l2 ⊢
    rw [seq_nx (ρ' := ρ2.set 12 (some (R.f (.list (d8.map lisD))))) rfl]
    have r1 : gEq (.list (d8.map lisD)) (.list (d8.map lisD)) = some (.bl true) := (shaped_refl (by decide +kernel)).2
    have r2 : gEq (.list []) (.list []) = some (.bl true) := rfl
    generalize PyData.list (d8.map lisD) = dd at *
    simp -implicitDefEqProofs only [xrunS, xstartE, xSeq, xIf, xRet, xSetF, xSetE, xFz, xfrzE, xPre, xtPre, xAsg, xPar, xRetT, xRetV, xDrop, xNx, xBk, xCt, xNo, xFor, xI, xi2, x2, x1, xA, xN, xV, xC, xF, xD, xSc, xB, xCh, xtN, xtA, xtO, xtY, xvN, xvA, xvO, xmIf, xTup, xLst, xList, xCall, xDict, xaN, xaC, xSl, xoN, xoS, xIt, xRg1, xRg2, xEnum, xZip, xLc, xcN, xcF, xgN, xgT, xgsN, xgsC, xat0, xatS, xd1, xd2, xd3, xfz, xAdd, xSub, xLt, xLe, xGt, xGe, xix1, xix2, xlen1, xlen2, xabs, xmax, xsum, xany, xall, xisB, xisNotB, xs1, xs2, xs3, xs4, xsc1, xsc2, xb, xint, xlist, xitems1, xitems2, xkey, xisi1, xisi2, xisi3, xisi4, xisi5, xw0, xw1, xEqI, xNeI, xNeB, xIxO, xl1, xl2, xSort, xat_0, xat_1, xat_2, xk0, xk1, xk2, xk3, xk4, xk5, xk6, xk7, Int.reduceEq, Option.bind_some, Option.map_some, Option.bind_none, Option.map_none, Option.map_map, Function.comp_apply, List.map_nil, List.map_cons, List.length_cons, List.length_nil, List.nil_append, List.cons_append, List.replicate_zero, List.replicate_succ, if_true, if_false, Bool.false_eq_true, Bool.not_true, Bool.not_false, Bool.true_and, Bool.and_true, Bool.false_and, Bool.and_false, Bool.true_or, Bool.or_true, Bool.false_or, Bool.or_false, Nat.reduceAdd, Nat.reduceSub, Nat.reduceEqDiff, Nat.reduceLeDiff, Nat.reduceLT, beq_self_eq_true, Int.reduceLT, Int.reduceLE, Int.reduceAdd, Int.reduceSub, Int.reduceNeg, decide_true, decide_false, ite_self, xd4, at_set, List.length_set, xCallB, xAug, free_ints, free_int, free_bool, free_dn, g11, l2, a1, a2, r1, r2]
    try rfl
  · rw [xFor]
    exact e1
theorem pure_law (ns : List Int) (hl : ns.length ≤ 63) (hb : ∀ i ∈ ns, Builtin.Int.intBits i ≤ 2 ^ 20) : sem 60 .law [.list (ns.map PyData.int)] = some (.f (.bool true)) := pure_lawk 0 ns hl hb
end K18

open PySem PySem.W PyProof.Rows L2 Vs K18
set_option maxRecDepth 100000 in
set_option maxHeartbeats 0 in
theorem PySem.Challenge.cw_undocover_k18_whole_laying_numbers_holds : PySem.Challenge.rw_undocover_k18_whole_laying_numbers.Holds := by
  w_on; o_law; k_head; (case hw => w_witness2)
  k_fill
  refine Vs.walk_b (l := PySem.Challenge.rw_undocover_k18_whole_laying_numbers) (n := 63) (k := 60) (f := sem 60 .law) (x := "_law_script") (ts := []) rfl (by decide) rfl ⟨rfl, by decide, by decide⟩ (fun w h Y => ⟨PySem.W.kIn_of Y, fun q hq => nomatch hq⟩) ?TK (by decide) ?TB ?F pure_law
  case TK => exact fun w q hq => nomatch hq
  case TB =>
    intro w mg h KX G H hH
    refine' Vs.tabs_two (a := "least_had") (b := "cheapest") rfl (Vs.tabs_no KX G ?t_least_had) (Vs.tabs_no KX G ?t_cheapest)
    (case t_least_had => k_is)
    (case t_cheapest => k_is)
  case F =>
    intro w mg fa h KX G hmg
    refine' all_mk KX G hmg ?a0 ?l0 ?c0 ?k0 ?a1 ?l1 ?c1 ?k1 ?a2 ?l2 ?c2 ?k2 ?a3 ?l3 ?c3 ?k3 ?a4 ?l4 ?c4 ?k4 ?a5 ?l5 ?c5 ?k5 ?a6 ?l6 ?c6 ?k6 ?a7 ?l7 ?c7 ?k7 ?a8 ?l8 ?c8 ?k8 ?a9 ?l9 ?c9 ?k9 ?a10 ?l10 ?c10 ?k10 ?a11 ?l11 ?c11 ?k11 ?a12 ?l12 ?c12 ?k12 ?a13 ?l13 ?c13 ?k13 ?z_abs ?z_all ?z_any ?z_bool ?z_enumerate ?z_int ?z_isinstance ?z_len ?z_list ?z_max ?z_range ?z_set ?z_sorted ?z_sum ?z_zip ?n_MOST_BARS ?n_MOST_LENGTH ?n_MOST_PLACES
    (case a0 => k_is); (case l0 => k_is); (case c0 => k_is); (case k0 => k_is); (case a1 => k_is); (case l1 => k_is)
    (case c1 => k_is); (case k1 => k_is); (case a2 => k_is); (case l2 => k_is); (case c2 => k_is); (case k2 => k_is)
    (case a3 => k_is); (case l3 => k_is); (case c3 => k_is); (case k3 => k_is); (case a4 => k_is); (case l4 => k_is)
    (case c4 => k_is); (case k4 => k_is); (case a5 => k_is); (case l5 => k_is); (case c5 => k_is); (case k5 => k_is)
    (case a6 => k_is); (case l6 => k_is); (case c6 => k_is); (case k6 => k_is); (case a7 => k_is); (case l7 => k_is)
    (case c7 => k_is); (case k7 => k_is); (case a8 => k_is); (case l8 => k_is); (case c8 => k_is); (case k8 => k_is)
    (case a9 => k_is); (case l9 => k_is); (case c9 => k_is); (case k9 => k_is); (case a10 => k_is); (case l10 => k_is)
    (case c10 => k_is); (case k10 => k_is); (case a11 => k_is); (case l11 => k_is); (case c11 => k_is); (case k11 => k_is)
    (case a12 => k_is); (case l12 => k_is); (case c12 => k_is); (case k12 => k_is); (case a13 => k_is); (case l13 => k_is)
    (case c13 => k_is); (case k13 => k_is); (case z_abs => k_is); (case z_all => k_is); (case z_any => k_is); (case z_bool => k_is)
    (case z_enumerate => k_is); (case z_int => k_is); (case z_isinstance => k_is); (case z_len => k_is); (case z_list => k_is); (case z_max => k_is)
    (case z_range => k_is); (case z_set => k_is); (case z_sorted => k_is); (case z_sum => k_is); (case z_zip => k_is); (case n_MOST_BARS => k_is)
    (case n_MOST_LENGTH => k_is); (case n_MOST_PLACES => k_is)
