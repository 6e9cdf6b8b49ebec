import PyProof.Rows.All
import Wide.All
import OpenK.AllK
import Wide.FinOn
import Lean
import PyProof.EqAt
import PyProof.EqKinds
import PyProof.TupleCall
import KE.KTryMore
import PyProof.NsDelKeeps
import KE.KSortAsk
import PySem.SetTable
import PySem.SetOps
import KE.KSortTup
import PyProof.Rows.SetFrom
import PyProof.TupleKey
import PyProof.Rows.TupAdd
import PyProof.ConsumeWalk
import KE.KIsNot
import KE.KIsAll
import PyProof.ExcArgs
import KE.KRevSl
import PyProof.P3Eq
import PyProof.ListRange
import KE.KIntText
import PySem.Challenge.RW_markslide_k20_whole_trees
abbrev Pins := List (PySem.Addr × PySem.Obj)
abbrev MgT := PySem.Str → Option PySem.Value
abbrev VSP := PySem.Value → PySem.Shared → Prop
abbrev LLI := List (List Int)
abbrev LPD := List PySem.PyData
abbrev Dbg (x : PySem.Str) : Prop := (x == ("__debug__" : PySem.Str)) = false
abbrev Cdt (x : PySem.Str) : Prop := (x == ("__classdict__" : PySem.Str)) = false
local macro_rules | `(tactic| fail $s:str) => if s.getString == "o" then `(tactic| first | lia | omega) else Lean.Macro.throwUnsupported
set_option Elab.async false
set_option linter.all false
set_option maxRecDepth 100000
/-! THE HAND LAYER, for ints, bools, texts, own classes, LISTS and tuples (index, slices, in, append, pop ..), calls, loops. Paste it whole ahead of your own text; what your proof does not reach may be deleted. -/
namespace L2
open PySem PySem.Spec PyProof.Rows
abbrev Key := Sum Int Str
def keyIs : Key → Value → Bool
  | .inl k, v => Value.isInt k v
  | .inr x, v => Value.isStrOf x v
def keyH (w : World) : Key → Int
  | .inl k => hashInt k
  | .inr x => hashStr w x
theorem keyIs_shape : ∀ {k : Key} {v : Value}, keyIs k v = true → (∃ i t, k = Sum.inl i ∧ v = Value.int i t) ∨ (∃ x t, k = Sum.inr x ∧ v = Value.str x t)
  | .inl i, v, h => by
    obtain ⟨t, e⟩ := Value.isInt_shape (k := i) (v := v) h; exact .inl ⟨i, t, rfl, e⟩
  | .inr x, v, h => by
    obtain ⟨t, e⟩ := Value.isStrOf_shape (x := x) (v := v) h; exact .inr ⟨x, t, rfl, e⟩
theorem key_ll (a b : Int) : decide ((Sum.inl a : Key) = Sum.inl b) = (a == b) := by
  by_cases e : a = b
  · subst e; simp
  · have h : ¬ (Sum.inl a : Key) = Sum.inl b := fun q => e (Sum.inl.inj q)
    rw [decide_eq_false h]; exact (beq_eq_false_iff_ne.mpr e).symm
theorem key_rr (a b : Str) : decide ((Sum.inr a : Key) = Sum.inr b) = decide (a = b) := by
  by_cases e : a = b
  · subst e; simp
  · have h : ¬ (Sum.inr a : Key) = Sum.inr b := fun q => e (Sum.inr.inj q)
    rw [decide_eq_false h, decide_eq_false e]
theorem key_lr (a : Int) (b : Str) : decide ((Sum.inl a : Key) = Sum.inr b) = false := decide_eq_false (fun q => nomatch q)
theorem key_rl (a : Str) (b : Int) : decide ((Sum.inr a : Key) = Sum.inl b) = false := decide_eq_false (fun q => nomatch q)
def mixKind (prog : Program) (w : World) : PySem.KeyKind prog w Key where
  is := keyIs
  hash := keyH w
  inj := fun v a b ha hb => by
    rcases keyIs_shape ha with ⟨i, t, rfl, rfl⟩ | ⟨x, t, rfl, rfl⟩
    · rcases keyIs_shape hb with ⟨j, u, rfl, e⟩ | ⟨y, u, rfl, e⟩
      · injection e with e1 _; rw [e1]
      · exact nomatch e
    · rcases keyIs_shape hb with ⟨j, u, rfl, e⟩ | ⟨y, u, rfl, e⟩
      · exact nomatch e
      · injection e with e1 _; rw [e1]
  byValue := fun k v h => by
    rcases keyIs_shape h with ⟨i, t, rfl, rfl⟩ | ⟨x, t, rfl, rfl⟩ <;> rfl
  pyHash := fun hv h => by
    rcases keyIs_shape hv with ⟨i, t, rfl, rfl⟩ | ⟨x, t, rfl, rfl⟩
    · exact wpAny_pyHash_int h
    · exact wpAny_pyHash_str h
  eqBool := fun hu hv h => by
    rcases keyIs_shape hu with ⟨i, t, rfl, rfl⟩ | ⟨x, t, rfl, rfl⟩
    · rcases keyIs_shape hv with ⟨j, u, rfl, rfl⟩ | ⟨y, u, rfl, rfl⟩
      · rw [key_ll] at h; exact wpAny_eqBool_int h
      · rw [key_lr] at h; exact SeqAt.EqAt.int_str i t y u _ _ _ _ h
    · rcases keyIs_shape hv with ⟨j, u, rfl, rfl⟩ | ⟨y, u, rfl, rfl⟩
      · rw [key_rl] at h; exact SeqAt.EqAt.str_int x t j u _ _ _ _ h
      · rw [key_rr] at h; exact wpAny_eqBool_str h
  «strs» := fun k x t v h => by
    rcases keyIs_shape h with ⟨i, u, rfl, e⟩ | ⟨y, u, rfl, e⟩
    · exact nomatch e
    · injection e with e1 _
      subst e1; cases v <;> rfl
end L2
namespace L2
open PySem PySem.Spec PyProof.Rows
inductive V where
  | non | bl (b : Bool) | int (i : Int) | str (x : Str) | byt (b : Array UInt8) | flt (b : UInt64) | ref (a : Addr) | ty (n : String)
  deriving DecidableEq
def RelV : V → Value → Prop
  | .non, u => u = Value.none
  | .bl b, u => u = Value.bool b
  | .int i, u => ∃ t, u = Value.int i t
  | .str x, u => ∃ t, u = Value.str x t
  | .byt b, u => ∃ t, u = Value.bytes b t
  | .flt b, u => ∃ t, u = Value.float b t
  | .ref a, u => u = Value.ref a
  | .ty n, u => u = Value.type n
abbrev Vals : List V → List Value → Prop := Paired RelV
theorem Vals.length {xs : List V} {us : List Value} (r : Vals xs us) : xs.length = us.length := Paired.length r
theorem Vals.get : ∀ {xs : List V} {us : List Value} {i : Nat} {x : V}, Vals xs us → xs[i]? = some x → ∃ u, us[i]? = some u ∧ RelV x u
  | _, _, _, _, .nil, e => by simp at e
  | _, _, 0, _, .cons r _, e => by simp at e; subst e; exact ⟨_, rfl, r⟩
  | _, _, i + 1, x, .cons _ t, e => by
    obtain ⟨u, h1, h2⟩ := Vals.get (i := i) (x := x) t (by simpa using e)
    exact ⟨u, by simpa using h1, h2⟩
theorem Vals.append {xs ys : List V} {us ws : List Value} (h : Vals xs us) (s : Vals ys ws) : Vals (xs ++ ys) (us ++ ws) := by
  induction h with
  | nil => exact s
  | cons r t ih => exact .cons r ih
theorem Vals.take : ∀ {xs : List V} {us : List Value} (n : Nat), Vals xs us → Vals (xs.take n) (us.take n)
  | _, _, 0, _ => .nil
  | _, _, _ + 1, .nil => .nil
  | _, _, n + 1, .cons r t => .cons r (Vals.take n t)
theorem Vals.drop : ∀ {xs : List V} {us : List Value} (n : Nat), Vals xs us → Vals (xs.drop n) (us.drop n)
  | _, _, 0, r => r
  | _, _, _ + 1, .nil => .nil
  | _, _, n + 1, .cons _ t => Vals.drop n t
def RelO : Option V → Option Value → Prop
  | some v, some u => RelV v u
  | none, none => True
  | _, _ => False
def KV {κ : Type} : List (κ × V) → List (κ × Value) → Prop := Paired fun (p : κ × V) (q : κ × Value) => p.1 = q.1 ∧ RelV p.2 q.2
def kV : Key → V
  | .inl i => .int i
  | .inr x => .str x
inductive HO where
  | lst (xs : List V)
  | tup (xs : List V)
  | dK (kvs : List (Key × V)) | dT (kvs : List (List Key × V))
  | set (S : Int → Bool) (n : Nat)
  | ins (C dx : Addr) (fs : List (Str × V))
  | own (x : Addr)
  | xd (fs : List (Str × V))
  | met (f x : Addr)
  | rng (lo hi : Int)
  | frz (o : Obj) (u : HO)
  | tbl (ps : Array Value)
  | ext (φ : Heap → Prop)
abbrev Hp := Addr → Option HO
def upd (H : Hp) (a : Addr) (o : HO) : Hp := fun b => if b = a then some o else H b
theorem upd_same {H : Hp} {a : Addr} {o : HO} : upd H a o a = some o := by unfold upd; rw [if_pos rfl]
theorem upd_ne {H : Hp} {a b : Addr} {o : HO} (h : b ≠ a) : upd H a o b = H b := by unfold upd; rw [if_neg h]
theorem ne_of_none {H : Hp} {a b : Addr} {o : HO} (h : H a = some o) (h' : H b = none) : a ≠ b := by
  intro e; subst e; rw [h] at h'; cases h'
section
variable (P : Program) (w : World)
def ObjOk (H : Hp) (h : Heap) (a : Addr) : HO → Prop
  | .lst xs => xs.length ≤ sizeLine ∧ ∃ (its : List Value) (n : Nat), Vals xs its ∧ h.get? a = some { cls := .type "list", data := .seq its.toArray n }
  | .tup xs => xs.length ≤ sizeLine ∧ ∃ its : List Value, Vals xs its ∧ IsTup h a its.toArray
  | .dK kvs => kvs.length ≤ sizeLine ∧ (a == sysModules) = false ∧ ∃ vs, KV kvs vs ∧ h.DictOf (mixKind P w) a vs
  | .dT kvs => kvs.length ≤ sizeLine ∧ (a == sysModules) = false ∧ ∃ xs : List (List Key × Addr × Value),
      Paired (fun (p : List Key × V) (q : List Key × Addr × Value) => p.1 = q.1 ∧ H q.2.1 = some (.tup (p.1.map kV)) ∧ RelV p.2 q.2.2) kvs xs ∧
      ∃ o es ep, h.get? a = some o ∧ o.ExactDict ∧ o.data = .dict es ep ∧ es.toList = xs.map (entryOfKey (tupleKind (mixKind P w))) ∧ (xs.map (·.1)).Nodup
  | .set S n => h.SetOf (intKind P w) a S n
  | .ins C dx fs => H dx = some (.own a) ∧ fs.length ≤ 1000 ∧ dx ≠ a ∧ h.get? a = some (PySem.W.instObj C dx) ∧
      ∃ mA, h.Ns1 dx mA ∧ (∀ f, RelO (fs.lookup f) (mA f)) ∧ PySem.Within mA (fs.map (·.1))
  | .own _ => ∃ o, h.get? a = some o
  | .xd fs => ∃ mA, h.Ns1 a mA ∧ ∀ f, RelO (fs.lookup f) (mA f)
  | .rng lo hi => ∃ t u v, h.get? a = some { cls := .type "range", data := .fields #[.int lo t, .int hi u, .int 1 v] }
  | .frz o u => h.get? a = some o ∧ ObjOk H h a u
  | .tbl ps => h.get? a = some { cls := .none, data := .fields ps }
  | .met f x => h.get? a = some (PySem.W.methodObj (.ref f) (.ref x))
  | .ext φ => φ h ∧ (∃ o, h.get? a = some o) ∧ ∀ h1 h2 : Heap, φ h1 → (∀ o, h1.get? a = some o → h2.get? a = some o) → φ h2
def HOk (H : Hp) (h : Heap) : Prop := ∀ a o, H a = some o → ObjOk P w H h a o
end
section
variable {P : Program} {w : World} {H H' : Hp} {h h' : Heap} {a : Addr} {o : HO}
theorem ObjOk.lt (x : ObjOk P w H h a o) : a < h.objs.size := by
  cases o with
  | lst xs => obtain ⟨_, _, _, _, e⟩ := x; exact Heap.lt_size e
  | tup xs => obtain ⟨_, _, _, p⟩ := x; exact p.lt
  | dK kvs => obtain ⟨_, _, _, _, o, _, _, e, _⟩ := x; exact Heap.lt_size e
  | dT kvs => obtain ⟨_, _, _, _, o, _, _, e, _⟩ := x; exact Heap.lt_size e
  | set S n => obtain ⟨o, _, _, _, e, _⟩ := x; exact Heap.lt_size e
  | ins C dx fs => obtain ⟨_, _, _, e, _⟩ := x; exact Heap.lt_size e
  | own y => obtain ⟨_, e⟩ := x; exact Heap.lt_size e
  | xd fs => obtain ⟨_, ⟨_, _, _, e, _⟩, _⟩ := x; exact Heap.lt_size e
  | rng lo hi => obtain ⟨_, _, _, e⟩ := x; exact Heap.lt_size e
  | frz ob u => obtain ⟨e, _⟩ := x; exact Heap.lt_size e
  | tbl ps => exact Heap.lt_size (show h.get? a = some _ from x)
  | met f y => exact Heap.lt_size (show h.get? a = some _ from x)
  | ext φ => obtain ⟨_, ⟨_, e⟩, _⟩ := x; exact Heap.lt_size e
theorem Paired.mapP {α β : Type} {F G : α → β → Prop} {l₁ : List α} {l₂ : List β} (h : Paired F l₁ l₂) (f : ∀ a b, F a b → G a b) : Paired G l₁ l₂ := by
  induction h with
  | nil => exact .nil
  | cons r t ih => exact .cons (f _ _ r) ih
theorem ObjOk.stay (x : ObjOk P w H h a o) (k : ∀ b u, (b = a ∨ H b = some (.own a)) → h.get? b = some u → h'.get? b = some u)
    (ho : ∀ b, H b = some (.own a) → H' b = some (.own a)) (ht : ∀ b xs, H b = some (.tup xs) → H' b = some (.tup xs)) : ObjOk P w H' h' a o := by
  induction o with
  | lst xs => obtain ⟨z, its, n, r, e⟩ := x; exact ⟨z, its, n, r, k _ _ (.inl rfl) e⟩
  | tup xs => obtain ⟨z, its, r, ob, e, c⟩ := x; exact ⟨z, its, r, ob, k _ _ (.inl rfl) e, c⟩
  | dK kvs => obtain ⟨z, y, vs, r, ob, es, ep, e, c⟩ := x; exact ⟨z, y, vs, r, ob, es, ep, k _ _ (.inl rfl) e, c⟩
  | dT kvs =>
    obtain ⟨z, y, xs, r, ob, es, ep, e, c⟩ := x; exact ⟨z, y, xs, Paired.mapP r fun p q z => ⟨z.1, ht _ _ z.2.1, z.2.2⟩, ob, es, ep, k _ _ (.inl rfl) e, c⟩
  | set S n => obtain ⟨ob, es, ep, t, e, c⟩ := x; exact ⟨ob, es, ep, t, k _ _ (.inl rfl) e, c⟩
  | ins C dx fs =>
    obtain ⟨d, z, ne, e, mA, ⟨od, es, ep, e2, c⟩, r⟩ := x; exact ⟨ho _ d, z, ne, k _ _ (.inl rfl) e, mA, ⟨od, es, ep, k _ _ (.inr d) e2, c⟩, r⟩
  | own y => obtain ⟨ob, e⟩ := x; exact ⟨ob, k _ _ (.inl rfl) e⟩
  | xd fs => obtain ⟨mA, ⟨od, es, ep, e, c⟩, r⟩ := x; exact ⟨mA, ⟨od, es, ep, k _ _ (.inl rfl) e, c⟩, r⟩
  | rng lo hi => obtain ⟨t, u, v, e⟩ := x; exact ⟨t, u, v, k _ _ (.inl rfl) e⟩
  | frz ob u ih => obtain ⟨e, q⟩ := x; exact ⟨k _ _ (.inl rfl) e, ih q⟩
  | tbl ps =>
    have e : h.get? a = some { cls := .none, data := .fields ps } := x
    show h'.get? a = some { cls := .none, data := .fields ps }
    exact k a _ (.inl rfl) e
  | met f y =>
    have e : h.get? a = some (PySem.W.methodObj (.ref f) (.ref y)) := x
    show h'.get? a = some (PySem.W.methodObj (.ref f) (.ref y))
    exact k a _ (.inl rfl) e
  | ext φ => obtain ⟨p, ⟨o, e⟩, st⟩ := x; exact ⟨st _ _ p fun o q => k _ _ (.inl rfl) q, ⟨o, k _ _ (.inl rfl) e⟩, st⟩
theorem HOk.lt (x : HOk P w H h) (e : H a = some o) : a < h.objs.size := (x a o e).lt
theorem HOk.fresh (x : HOk P w H h) (e : h.objs.size ≤ a) : H a = none := by
  cases q : H a with
  | none => rfl
  | some u => exact absurd (Nat.lt_of_lt_of_le (x.lt q) e) (Nat.lt_irrefl _)
theorem HOk.kept (x : HOk P w H h) (k : ∀ b u, h.get? b = some u → h'.get? b = some u) : HOk P w H h' := fun a o e =>
  (x a o e).stay (fun b u _ q => k b u q) (fun _ q => q) fun _ _ q => q
theorem HOk.laid (x : HOk P w H h) (k : ∀ b u, h.get? b = some u → h'.get? b = some u) (hp : h.objs.size ≤ a) (new : ObjOk P w (upd H a o) h' a o) : HOk P w (upd H a o) h' := fun b u e => by
  have hn := x.fresh hp
  by_cases hb : b = a
  · subst hb; rw [upd_same] at e; cases e; exact new
  · rw [upd_ne hb] at e
    exact (x b u e).stay (fun c v _ q => k c v q) (fun c q => by rw [upd_ne (ne_of_none q hn)]; exact q) fun c xs q => by rw [upd_ne (ne_of_none q hn)]; exact q
end
def Rd (H : Hp) (a : Addr) (u : HO) : Prop := H a = some u ∨ ∃ o, H a = some (.frz o u)
theorem Rd.ok {P : Program} {w : World} {H : Hp} {h : Heap} {a : Addr} {u : HO} (r : Rd H a u) (x : HOk P w H h) : ObjOk P w H h a u := by
  rcases r with r | ⟨o, r⟩
  · exact x a u r
  · obtain ⟨_, q⟩ := x a _ r
    exact q
def Mut : Option HO → Prop
  | some (.lst _) => True
  | some (.dK _) => True
  | some (.dT _) => True
  | some (.set _ _) => True
  | some (.ins _ _ _) => True
  | some (.ext _) => True
  | _ => False
section
variable {P : Program} {w : World} {H : Hp} {h h' : Heap} {x e : Addr} {o' : HO}
theorem HOk.write (ok : HOk P w H h) (mu : Mut (H x)) (he : e = x ∨ H e = some (.own x)) (k : ∀ b u, b ≠ e → h.get? b = some u → h'.get? b = some u) (heo : ∃ u, h'.get? e = some u)
    (new : ObjOk P w (upd H x o') h' x o') : HOk P w (upd H x o') h' := fun b u q => by
  have nown : ∀ c y, H c = some (.own y) → c ≠ x := fun c y r z => by subst z; rw [r] at mu; exact mu
  have ntup : ∀ c xs, H c = some (.tup xs) → c ≠ x := fun c xs r z => by subst z; rw [r] at mu; exact mu
  by_cases hb : b = x
  · subst hb; rw [upd_same] at q; cases q; exact new
  · rw [upd_ne hb] at q
    by_cases hbe : b = e
    · have q' : H b = some (.own x) := by
        rcases he with z | z
        · exact absurd (hbe.trans z) hb
        · rw [hbe]; exact z
      rw [q] at q'; cases q'; obtain ⟨v, hv⟩ := heo; exact ⟨v, by rw [hbe]; exact hv⟩
    · refine (ok b u q).stay (fun c v hc r => k c v ?_ r) (fun c r => by rw [upd_ne (nown c b r)]; exact r) fun c xs r => by rw [upd_ne (ntup c xs r)]; exact r
      rcases hc with rfl | hc
      · exact hbe
      · rintro rfl
        rcases he with z | z
        · exact nown c b hc z
        · rw [hc] at z; cases z; exact hb rfl
end
structure Un (fs ex : List Addr) (H H' : Hp) (h h' : Heap) : Prop where
  keep : ∀ b o, h.get? b = some o → H b = none → b ∉ fs → b ∉ ex → h'.get? b = some o
  slot : ∀ b o, h.get? b = some o → H b = none → b ∈ fs → b ∉ ex → ∃ sl, h'.get? b = some { o with slots := sl }
  free : ∀ b o, h.get? b = some o → H b = none → b ∉ ex → H' b = none
  there : ∀ b o, h.get? b = some o → b ∉ ex → ∃ o', h'.get? b = some o'
  tups : ∀ b xs, H b = some (.tup xs) → H' b = some (.tup xs)
  frzs : ∀ b o u, H b = some (.frz o u) → H' b = some (.frz o u)
  tbls : ∀ b ps, H b = some (.tbl ps) → ∃ more, H' b = some (.tbl (ps ++ more))
section
variable {fs fs' ex ex' : List Addr} {H H1 H2 : Hp} {h h1 h2 h' : Heap} {a x e : Addr} {o : HO}
theorem Un.any (u : Un fs ex H H1 h h1) {b : Addr} {ob : Obj} (q : h.get? b = some ob) (n : H b = none) (hx : b ∉ ex) : ∃ sl, h1.get? b = some { ob with slots := sl } := by
  by_cases hb : b ∈ fs
  · exact u.slot b ob q n hb hx
  · exact ⟨ob.slots, u.keep b ob q n hb hx⟩
theorem Un.kept (k : ∀ b u, h.get? b = some u → h'.get? b = some u) : Un fs ex H H h h' :=
  ⟨fun b ob q _ _ _ => k b ob q, fun b ob q _ _ _ => ⟨ob.slots, k b ob q⟩, fun _ _ _ n _ => n, fun b ob q _ => ⟨ob, k b ob q⟩, fun _ _ q => q, fun _ _ _ q => q, fun _ ps q => ⟨#[], by rw [q]; simp⟩⟩
theorem Un.refl : Un fs ex H H h h := Un.kept fun _ _ q => q
theorem Un.laid (k : ∀ b u, h.get? b = some u → h'.get? b = some u) (hp : h.objs.size ≤ a) (hn : H a = none) : Un fs ex H (upd H a o) h h' where
  keep := fun b u q _ _ _ => k b u q
  slot := fun b u q _ _ _ => ⟨u.slots, k b u q⟩
  free := fun b u q n _ => by rw [upd_ne (Nat.ne_of_lt (Nat.lt_of_lt_of_le (Heap.lt_size q) hp))]; exact n
  there := fun b u q _ => ⟨u, k b u q⟩
  tups := fun b xs q => by rw [upd_ne (ne_of_none q hn)]; exact q
  frzs := fun b u xs q => by rw [upd_ne (ne_of_none q hn)]; exact q
  tbls := fun b ps q => ⟨#[], by rw [upd_ne (ne_of_none q hn), q]; simp⟩
theorem Un.write (mu : Mut (H x)) (he : e = x ∨ H e = some (.own x)) (k : ∀ b u, b ≠ e → h.get? b = some u → h'.get? b = some u) (heo : ∃ u, h'.get? e = some u) : Un fs ex H (upd H x o) h h' := by
  have hx : ∀ b, H b = none → b ≠ x := fun b n z => by subst z; rw [n] at mu; exact mu
  have hb : ∀ b, H b = none → b ≠ e := fun b n z => by
    subst z; rcases he with r | r
    · exact hx b n r
    · rw [n] at r; cases r
  have hm : ∀ b u, H b = some u → ¬ Mut (some u) → b ≠ x := fun b u q nm z => by subst z; rw [q] at mu; exact nm mu
  refine ⟨fun b u q n _ _ => k b u (hb b n) q, fun b u q n _ _ => ⟨u.slots, k b u (hb b n) q⟩, fun b u q n _ => by rw [upd_ne (hx b n)]; exact n, fun b u q _ => ?_,
    fun b xs q => by rw [upd_ne (hm b _ q fun z => z)]; exact q, fun b u xs q => by rw [upd_ne (hm b _ q fun z => z)]; exact q, fun b ps q => ⟨#[], by rw [upd_ne (hm b _ q fun z => z), q]; simp⟩⟩
  by_cases hbe : b = e
  · subst hbe; exact heo
  · exact ⟨u, k b u hbe q⟩
end
def trk (h : Heap) (H : Hp) : List Addr := (List.range h.objs.size).filter fun a => (H a).isSome
def hidT (h : Heap) (H : Hp) : Heap := PySem.W.hideAll h (trk h H)
theorem hidT_size (h : Heap) (H : Hp) : (hidT h H).objs.size = h.objs.size := PySem.W.hideAll_size _ _
theorem hidT_get {h : Heap} {H : Hp} {b : Addr} {o : Obj} (e : h.get? b = some o) (n : H b = none) : (hidT h H).get? b = some o :=
  PySem.W.hideAll_get _ e fun hm => by
    have q : (H b).isSome = true := (List.mem_filter.mp hm).2; rw [n] at q; simp at q
theorem of_hidT {h : Heap} {H : Hp} {b : Addr} {o : Obj} (e : (hidT h H).get? b = some o) : h.get? b = some o ∧ H b = none := by
  have e' : h.get? b = some o := PySem.W.of_hideAll (trk h H) e; refine ⟨e', ?_⟩
  cases q : H b with
  | none => rfl
  | some x =>
    have hm : b ∈ trk h H := List.mem_filter.mpr ⟨List.mem_range.mpr (Heap.lt_size e'), by simp [q]⟩
    have z : (hidT h H).get? b = none := PySem.W.hideAll_none (trk h H) hm; rw [z] at e; cases e
end L2
namespace L2
open PySem PySem.Spec PyProof.Rows
structure Mod (K : PySem.W.Frag) (mg : MgT) (base : Heap) : Prop where
  kin : K.In base
  glob : base.Ns mainGlobals mg
  blt : ∃ mb, base.Ns builtinsNs mb ∧ ∀ x : Str, x ≠ "__name__" → mb x = bootBuiltins x
  nolimit : base.NoLimit
/-- the context: a def's body (or a comprehension's block) running. base: fixed through the whole law; s₀, H₀: the entry; outer: the frames whose slots others may change (a def's callers); stack: all frames that run;
   ex: iterators that were made ahead of the entry and are walked here (a comprehension's); fn: the names whose cells were made at the entry (a def: all; a comprehension's block: its own); calm: not within an except suite; pn: pins that every state bears; xe: what is wanted of an exception that leaves the code -/
structure Cx where
  prog : Program
  w : World
  K : PySem.W.Frag
  mg : MgT
  base : Heap
  A : Around
  N : List Str
  s₀ : Shared
  H₀ : Hp
  env : Env
  outer : List Env
  stack : List Env
  ex : List Addr
  fn : Str → Bool
  calm : Bool
  pn : Pins
  xe : VSP
def frs (l : List Env) : List Addr := l.filterMap (·.frame)
abbrev Cx.fs (X : Cx) : List Addr := frs X.outer
def Vis (sc : Scope) (x : Str) : Prop := sc.names.lookup x = some .local ∨ sc.names.lookup x = some .cell ∨ sc.names.lookup x = some .free
def Loc (sc : Scope) (x : Str) : Prop := sc.names.lookup x = some .local ∨ sc.names.lookup x = some .cell
def Look (env : Env) (h : Heap) (m : MgT) (x : Str) (u : Value) : Prop :=
  (env.kindOf x = some .local ∧ m x = some u) ∨ ((env.kindOf x = some .cell ∨ env.kindOf x = some .free) ∧ ∃ c, env.cells.lookup x = some c ∧ h.IsCell c (some u))
structure Cx.Ok (X : Cx) : Prop where
  mod : Mod X.K X.mg X.base
  kind : X.env.scope.kind = .function
  glob : X.env.globals = mainGlobals
  blt : X.env.builtins = builtinsNs
  above : X.s₀.heap.objs.size ≤ X.env.locals
  inj : ∀ x y c, X.env.cells.lookup x = some c → X.env.cells.lookup y = some c → x = y
  has : ∀ x, (X.env.kindOf x = some .cell ∨ X.env.kindOf x = some .free) → ∃ c, X.env.cells.lookup x = some c
  cab : ∀ x c, X.fn x = true → X.env.cells.lookup x = some c → X.s₀.heap.objs.size ≤ c
  hd : X.calm = true → X.A.handled = none
  frames : X.A.frames = some X.stack
  stk : X.stack = X.outer ∨ (X.stack = X.env :: X.outer ∧ X.env.frame = some X.env.locals)
  exf : ∀ b ∈ X.ex, b ≠ X.env.locals ∧ ∀ x c, X.env.cells.lookup x = some c → c ≠ b
  bs : ∀ b o, X.base.get? b = some o → X.s₀.heap.get? b = some o ∧ X.H₀ b = none
  bsz : X.base.objs.size ≤ X.s₀.heap.objs.size
  noex : ∀ b o, X.base.get? b = some o → b ∉ X.ex
  exfs : ∀ b ∈ X.ex, b ∉ X.fs
  funs : X.s₀.heap.FunFrames X.base X.outer
  frf : ∀ b ∈ X.fs, X.H₀ b = none
structure Inv (X : Cx) (pins : Pins) (σ : List (Option V)) (H : Hp) (s : Shared) : Prop where
  ok : X.Ok
  os : s.os = X.s₀.os
  bare : AllBare s.gens
  base : Un X.fs X.ex X.H₀ H X.s₀.heap s.heap
  loc : ∃ m, s.heap.Ns X.env.locals m ∧ ∀ (i : Nat) (x : Str) (v : V), X.N[i]? = some x → σ[i]? = some (some v) → Vis X.env.scope x → ∃ u, RelV v u ∧ Look X.env s.heap m x u
  cell : ∀ x c, X.env.cells.lookup x = some c → ∃ v, s.heap.IsCell c v
  free : H X.env.locals = none
  freeC : ∀ x c, X.env.cells.lookup x = some c → H c = none
  pin : ∀ p ∈ X.pn ++ pins, s.heap.get? p.1 = some p.2 ∧ H p.1 = none ∧ p.1 ≠ X.env.locals ∧ p.1 ∉ X.fs ∧ ∀ v, p.2.data ≠ .cell v
  hok : HOk X.prog X.w H s.heap
  len : σ.length = X.N.length
section
variable {X : Cx} {pins : Pins} {σ : List (Option V)} {H H' : Hp} {s : Shared} {h' : Heap}
theorem Cx.Ok.nofr (ok : X.Ok) {b : Addr} {o : Obj} (e : X.base.get? b = some o) : b ∉ X.fs := fun hb => by
  have := (ok.funs.mem hb).1; rw [e] at this; cases this
theorem Inv.bs (I : Inv X pins σ H s) : ∀ b o, X.base.get? b = some o → s.heap.get? b = some o ∧ H b = none := fun b o e =>
  ⟨I.base.keep b o (I.ok.bs b o e).1 (I.ok.bs b o e).2 (I.ok.nofr e) (I.ok.noex b o e), I.base.free b o (I.ok.bs b o e).1 (I.ok.bs b o e).2 (I.ok.noex b o e)⟩
theorem Inv.bk (I : Inv X pins σ H s) : ∀ b o, X.base.get? b = some o → s.heap.get? b = some o := fun b o e => (I.bs b o e).1
theorem Inv.mod (I : Inv X pins σ H s) : Mod X.K X.mg X.base := I.ok.mod
theorem Inv.kIn (I : Inv X pins σ H s) : X.K.In s.heap := I.ok.mod.kin.keeps I.bk
theorem Inv.lt (I : Inv X pins σ H s) : X.env.locals < s.heap.objs.size := let ⟨_, hn, _⟩ := I.loc; hn.lt
theorem Inv.sz (I : Inv X pins σ H s) : X.s₀.heap.objs.size ≤ s.heap.objs.size := Nat.le_trans I.ok.above (Nat.le_of_lt I.lt)
theorem Inv.nofs (I : Inv X pins σ H s) {a : Addr} (h : s.heap.objs.size ≤ a) : a ∉ X.fs := fun hb => by
  obtain ⟨_, o, ho, _⟩ := I.ok.funs.mem hb; exact absurd (Nat.lt_of_lt_of_le (Heap.lt_size ho) (Nat.le_trans I.sz h)) (Nat.lt_irrefl _)
theorem Inv.cne (I : Inv X pins σ H s) : ∀ x c, X.env.cells.lookup x = some c → c ≠ X.env.locals := fun x c e z => by
  obtain ⟨v, o, ho, hd⟩ := I.cell x c e; obtain ⟨m, ⟨o', es, ep, ho', hd', _⟩, _⟩ := I.loc; rw [z, ho'] at ho; cases ho; rw [hd'] at hd; cases hd
theorem Inv.funs (I : Inv X pins σ H s) : s.heap.FunFrames X.base X.outer := by
  have all : ∀ (l : List Env), (∀ b ∈ frs l, b ∈ X.fs) → X.s₀.heap.FunFrames X.base l → s.heap.FunFrames X.base l := by
    intro l
    induction l with
    | nil => intro _ _; trivial
    | cons env r ih =>
      intro hs hl; obtain ⟨hk, ⟨L, o, hf, hn, ho, hd⟩, hr⟩ := hl; have hL : L ∈ X.fs := hs L (by unfold frs; rw [List.filterMap_cons, hf]; exact List.mem_cons_self)
      obtain ⟨sl, e⟩ := I.base.slot L o ho (I.ok.frf L hL) hL fun z => I.ok.exfs L z hL
      exact ⟨hk, ⟨L, _, hf, hn, e, hd⟩, ih (fun b hb => hs b (by unfold frs; rw [List.filterMap_cons, hf]; exact List.mem_cons_of_mem _ hb)) hr⟩
  exact all X.outer (fun _ hb => hb) I.ok.funs
theorem Inv.stack (I : Inv X pins σ H s) : s.heap.FunFrames X.base X.stack := by
  rcases I.ok.stk with e | ⟨e, hf⟩
  · rw [e]; exact I.funs
  · rw [e]
    obtain ⟨m, hn, _⟩ := I.loc; refine .cons (by rw [I.ok.kind]; decide) hf hn ?_ I.funs
    exact Heap.get?_none_of_le (Nat.le_trans I.ok.bsz I.ok.above)
theorem Inv.stkSub (I : Inv X pins σ H s) : ∀ b ∈ frs X.stack, b ∈ X.env.locals :: X.fs := fun b hb => by
  rcases I.ok.stk with e | ⟨e, hf⟩
  · rw [e] at hb; exact List.mem_cons_of_mem _ hb
  · rw [e] at hb
    unfold frs at hb; rw [List.filterMap_cons, hf] at hb; exact hb
theorem Inv.stkFree (I : Inv X pins σ H s) : ∀ b ∈ frs X.stack, H b = none := fun b hb => by
  rcases List.mem_cons.mp (I.stkSub b hb) with e | hb
  · rw [e]; exact I.free
  · obtain ⟨_, o, ho, _⟩ := I.ok.funs.mem hb
    exact I.base.free b o ho (I.ok.frf b hb) fun z => I.ok.exfs b z hb
theorem Inv.step {g' : Array GenState} {t' : Nat} {d' : Drawn} {ch : List Addr} (I : Inv X pins σ H s)
    (hch : ∀ b ∈ ch, (b ∈ X.ex ∨ X.s₀.heap.objs.size ≤ b) ∧ b ≠ X.env.locals ∧ (∀ x c, X.env.cells.lookup x = some c → c ≠ b) ∧ ∀ p ∈ X.pn ++ pins, p.1 ≠ b)
    (keep : ∀ b o, b ≠ X.env.locals → b ∉ X.fs → b ∉ ch → s.heap.get? b = some o → H b = none → h'.get? b = some o)
    (slot : ∀ b o, b ≠ X.env.locals → b ∈ X.fs → b ∉ ch → s.heap.get? b = some o → H b = none → ∃ sl, h'.get? b = some { o with slots := sl }) (free : ∀ b o, b ∉ ch → s.heap.get? b = some o → H b = none → H' b = none)
    (there : ∀ b o, b ∉ ch → s.heap.get? b = some o → ∃ o', h'.get? b = some o')
    (tups : ∀ b xs, H b = some (.tup xs) → H' b = some (.tup xs)) (frzs : ∀ b o u, H b = some (.frz o u) → H' b = some (.frz o u)) (tbls : ∀ b ps, H b = some (.tbl ps) → ∃ more, H' b = some (.tbl (ps ++ more)))
    (ns : ∀ m, s.heap.Ns X.env.locals m → h'.Ns X.env.locals m) (hok : HOk X.prog X.w H' h') (hg : AllBare g') :
    Inv X pins σ H' { s with heap := h', gens := g', drawn := d', toks := t' } := by
  have neL : ∀ b o, X.s₀.heap.get? b = some o → b ≠ X.env.locals := fun b o e => Nat.ne_of_lt (Nat.lt_of_lt_of_le (Heap.lt_size e) I.ok.above)
  have neC : ∀ b o, X.s₀.heap.get? b = some o → b ∉ X.ex → b ∉ ch := fun b o e hx hb => by
    rcases (hch b hb).1 with z | z
    · exact hx z
    · exact absurd (Nat.lt_of_lt_of_le (Heap.lt_size e) z) (Nat.lt_irrefl _)
  have cellK : ∀ x c, X.env.cells.lookup x = some c → ∀ v, s.heap.IsCell c v → h'.IsCell c v := fun x c e v ⟨o, ho, hd⟩ => by
    have nch : c ∉ ch := fun z => (hch c z).2.2.1 x c e rfl
    by_cases hc : c ∈ X.fs
    · obtain ⟨sl, q⟩ := slot c o (I.cne x c e) hc nch ho (I.freeC x c e)
      exact ⟨_, q, hd⟩
    · exact ⟨o, keep c o (I.cne x c e) hc nch ho (I.freeC x c e), hd⟩
  refine ⟨I.ok, I.os, hg, ⟨fun b o e n hb hx => ?_, fun b o e n hb hx => ?_, fun b o e n hx => ?_, fun b o e hx => ?_, fun b xs e => tups b xs (I.base.tups b xs e), fun b o xs e => frzs b o xs (I.base.frzs b o xs e), fun b ps e => ?_⟩, ?_, fun x c e => ?_, ?_, fun x c e => ?_, fun p hp => ?_, hok, I.len⟩
  · exact keep b o (neL b o e) hb (neC b o e hx) (I.base.keep b o e n hb hx) (I.base.free b o e n hx)
  · obtain ⟨sl, e1⟩ := I.base.slot b o e n hb hx
    obtain ⟨sl', e2⟩ := slot b _ (neL b o e) hb (neC b o e hx) e1 (I.base.free b o e n hx); exact ⟨sl', e2⟩
  · obtain ⟨o', e1⟩ := I.base.there b o e hx
    exact free b o' (neC b o e hx) e1 (I.base.free b o e n hx)
  · obtain ⟨o', e1⟩ := I.base.there b o e hx
    exact there b o' (neC b o e hx) e1
  · obtain ⟨m1, e1⟩ := I.base.tbls b ps e
    obtain ⟨m2, e2⟩ := tbls b _ e1; exact ⟨m1 ++ m2, by rw [e2, Array.append_assoc]⟩
  · obtain ⟨m, hn, hl⟩ := I.loc
    refine ⟨m, ns m hn, fun i x v e1 e2 e3 => ?_⟩
    obtain ⟨u, r, l⟩ := hl i x v e1 e2 e3; refine ⟨u, r, ?_⟩
    rcases l with l | ⟨k, c, e, z⟩
    · exact .inl l
    · exact .inr ⟨k, c, e, cellK x c e _ z⟩
  · obtain ⟨v, z⟩ := I.cell x c e
    exact ⟨v, cellK x c e v z⟩
  · obtain ⟨m, ⟨o, _, _, ho, _⟩, _⟩ := I.loc
    exact free _ o (fun z => (hch _ z).2.1 rfl) ho I.free
  · obtain ⟨v, o, ho, hd⟩ := I.cell x c e
    exact free c o (fun z => (hch c z).2.2.1 x c e rfl) ho (I.freeC x c e)
  · obtain ⟨e, n, ne, nf, d⟩ := I.pin p hp
    have nch : p.1 ∉ ch := fun z => (hch p.1 z).2.2.2 p hp rfl
    exact ⟨keep p.1 p.2 ne nf nch e n, free p.1 p.2 nch e n, ne, nf, d⟩
theorem Inv.un {t' : Nat} (I : Inv X pins σ H s) (u : Un X.fs [] H H' s.heap h') (hok : HOk X.prog X.w H' h') : Inv X pins σ H' { s with heap := h', toks := t' } := by
  obtain ⟨m, ⟨o, es, ep, ho, r⟩, _⟩ := id I.loc; obtain ⟨sl, hL⟩ := u.any ho I.free (by simp)
  exact I.step (g' := s.gens) (d' := s.drawn) (ch := []) (fun _ z => nomatch z) (fun b o _ hb _ e n => u.keep b o e n hb (by simp)) (fun b o _ hb _ e n => u.slot b o e n hb (by simp)) (fun b o _ e n => u.free b o e n (by simp)) (fun b o _ e => u.there b o e (by simp)) u.tups u.frzs u.tbls (fun m' hm => by
    obtain ⟨o', es', ep', ho', r'⟩ := hm; rw [ho] at ho'; cases ho'; exact ⟨_, es', ep', hL, r'⟩) hok I.bare
theorem Inv.call {g' : Array GenState} {t' : Nat} {d' : Drawn} {ch : List Addr} (I : Inv X pins σ H s) (u : Un (frs X.stack) ch H H' s.heap h') (hok : HOk X.prog X.w H' h') (hg : AllBare g')
    (hch : ∀ b ∈ ch, (b ∈ X.ex ∨ X.s₀.heap.objs.size ≤ b) ∧ b ≠ X.env.locals ∧ (∀ x c, X.env.cells.lookup x = some c → c ≠ b) ∧ ∀ p ∈ X.pn ++ pins, p.1 ≠ b) :
    Inv X pins σ H' { s with heap := h', gens := g', drawn := d', toks := t' } := by
  obtain ⟨m, ⟨o, es, ep, ho, r⟩, _⟩ := id I.loc; obtain ⟨sl, hL⟩ := u.any ho I.free fun z => (hch _ z).2.1 rfl
  exact I.step (ch := ch) hch (fun b o hL hb hc e n => u.keep b o e n (fun z => (List.mem_cons.mp (I.stkSub b z)).elim hL hb) hc) (fun b o _ _ hc e n => u.any e n hc) (fun b o hc e n => u.free b o e n hc) (fun b o hc e => u.there b o e hc) u.tups u.frzs u.tbls (fun m' hm => by
    obtain ⟨o', es', ep', ho', r'⟩ := hm; rw [ho] at ho'; cases ho'; exact ⟨_, es', ep', hL, r'⟩) hok hg
theorem Inv.turned {t' : Nat} {it : Addr} (I : Inv X pins σ H s) (k : ∀ b o, b ≠ it → s.heap.get? b = some o → h'.get? b = some o) (hn : H it = none) (hL : it ≠ X.env.locals)
    (h1 : it ∈ X.ex ∨ X.s₀.heap.objs.size ≤ it) (h2 : ∀ x c, X.env.cells.lookup x = some c → c ≠ it) (h3 : ∀ p ∈ X.pn ++ pins, p.1 ≠ it) : Inv X pins σ H { s with heap := h', toks := t' } := by
  have nit : ∀ b u, H b = some u → b ≠ it := fun b u e z => by rw [z, hn] at e; cases e
  refine I.step (g' := s.gens) (d' := s.drawn) (ch := [it]) (fun b hb => ?_) (fun b o _ _ hc e _ => k b o (fun z => hc (by simp [z])) e) (fun b o _ _ hc e _ => ⟨o.slots, k b o (fun z => hc (by simp [z])) e⟩) (fun _ _ _ _ n => n)
    (fun b o hc e => ⟨o, k b o (fun z => hc (by simp [z])) e⟩) (fun _ _ e => e) (fun _ _ _ e => e) (fun b ps e => ⟨#[], by rw [e]; simp⟩) (fun m hm => ?_) (fun b u e => ?_) I.bare
  · have e : b = it := by simpa using hb
    subst e; exact ⟨h1, hL, h2, h3⟩
  · obtain ⟨o, es, ep, ho, r⟩ := hm
    exact ⟨o, es, ep, k _ o (Ne.symm hL) ho, r⟩
  · refine (I.hok b u e).stay (fun c v hc q => k c v ?_ q) (fun _ q => q) fun _ _ q => q
    rcases hc with z | z
    · rw [z]; exact nit b u e
    · exact nit c _ z
theorem Inv.tok (I : Inv X pins σ H s) (t : Nat) : Inv X pins σ H { s with toks := t } := I.un (h' := s.heap) (t' := t) Un.refl I.hok
theorem Inv.kept {t' : Nat} (I : Inv X pins σ H s) (k : ∀ b u, s.heap.get? b = some u → h'.get? b = some u) : Inv X pins σ H { s with heap := h', toks := t' } := I.un (Un.kept k) (I.hok.kept k)
theorem Inv.laid {a : Addr} {o : HO} {t' : Nat} (I : Inv X pins σ H s) (k : ∀ b u, s.heap.get? b = some u → h'.get? b = some u) (hp : s.heap.objs.size ≤ a) (new : ObjOk X.prog X.w (upd H a o) h' a o) :
    Inv X pins σ (upd H a o) { s with heap := h', toks := t' } := I.un (Un.laid k hp (I.hok.fresh hp)) (I.hok.laid k hp new)
theorem Inv.write {x e : Addr} {o : HO} {t' : Nat} (I : Inv X pins σ H s) (mu : Mut (H x)) (he : e = x ∨ H e = some (.own x)) (k : ∀ b u, b ≠ e → s.heap.get? b = some u → h'.get? b = some u) (heo : ∃ u, h'.get? e = some u)
    (new : ObjOk X.prog X.w (upd H x o) h' x o) : Inv X pins σ (upd H x o) { s with heap := h', toks := t' } := I.un (Un.write mu he k heo) (I.hok.write mu he k heo new)
theorem Inv.weak {σ' : List (Option V)} (I : Inv X pins σ H s) (hl : σ'.length = σ.length) (w : ∀ (i : Nat) v, σ'[i]? = some (some v) → σ[i]? = some (some v)) : Inv X pins σ' H s :=
  ⟨I.ok, I.os, I.bare, I.base, let ⟨m, hn, hl'⟩ := I.loc; ⟨m, hn, fun i x v e1 e2 e3 => hl' i x v e1 (w i v e2) e3⟩, I.cell, I.free, I.freeC, I.pin, I.hok, hl.trans I.len⟩
theorem Inv.pins_of {pins' : Pins} (I : Inv X pins σ H s) (h : ∀ p ∈ pins', s.heap.get? p.1 = some p.2 ∧ H p.1 = none ∧ p.1 ≠ X.env.locals ∧ p.1 ∉ X.fs ∧ ∀ v, p.2.data ≠ .cell v) : Inv X pins' σ H s :=
  ⟨I.ok, I.os, I.bare, I.base, I.loc, I.cell, I.free, I.freeC, fun p hp => (List.mem_append.mp hp).elim (fun z => I.pin p (List.mem_append_left _ z)) (h p), I.hok, I.len⟩
theorem nodup_ix {N : List Str} (hN : N.Nodup) {i j : Nat} {x : Str} (a : N[i]? = some x) (b : N[j]? = some x) : i = j := by
  obtain ⟨h1, e1⟩ := List.getElem?_eq_some_iff.mp a
  obtain ⟨h2, e2⟩ := List.getElem?_eq_some_iff.mp b
  exact (List.getElem_inj hN).mp (e1.trans e2.symm)
theorem store_ok2 {M : Model} {A : Around} {E : VSP} {i : Nat} {x : Str} {v : V} {u : Value} {Q : Unit → Shared → Prop} (I : Inv X pins σ H s) (hN : X.N.Nodup) (hi : X.N[i]? = some x) (hx : Loc X.env.scope x) (r : RelV v u)
    (h : ∀ s', Inv X pins (σ.set i (some v)) H s' → (∃ a, Heap.SameBut a s.heap s'.heap ∧ (a = X.env.locals ∨ X.env.cells.lookup x = some a)) → Q () s') (hf : X.fn x = true ∨ X.env.scope.names.lookup x = some .local := by first | exact .inl rfl | exact .inr rfl | assumption) : wpAny M A (storeName X.env x u) Q E s := by
  obtain ⟨m, hn, hl⟩ := id I.loc; have hcls : (X.env.scope.kind == .class || (X.env.scope.kind == .module && X.env.locals != X.env.globals)) = false := by rw [I.ok.kind]; rfl
  have hiσ : i < σ.length := by rw [I.len]; exact (List.getElem?_eq_some_iff.mp hi).1
  have cne := I.cne
  have tracked : ∀ {a : Addr} {h' : Heap}, (∃ o, s.heap.get? a = some o ∧ H a = none) → Heap.SameBut a s.heap h' → HOk X.prog X.w H h' := fun {a h'} ha hs b ob e => by
    obtain ⟨_, _, hfree⟩ := ha; refine (I.hok b ob e).stay (fun c w' hc q => (hs.2 c ?_).trans q) (fun _ q => q) fun _ _ q => q
    rintro rfl
    rcases hc with rfl | hc
    · rw [hfree] at e; cases e
    · rw [hfree] at hc; cases hc
  rcases hx with hk | hk
  · refine wpAny_storeName_local hk hn (fun h' hn' hs => ?_) hcls
    obtain ⟨oL, _, _, hoL, _⟩ := id hn; refine h _ ⟨I.ok, I.os, I.bare, ⟨fun b o e n hb hx => ?_, fun b o e n hb hx => ?_, I.base.free, fun b o e hx => ?_, I.base.tups, I.base.frzs, I.base.tbls⟩, ⟨_, hn', fun j y v' e1 e2 e3 => ?_⟩, fun y c e => ?_, I.free, I.freeC, fun p hp => ?_, tracked ⟨oL, hoL, I.free⟩ hs, by simpa using I.len⟩ ⟨_, hs, .inl rfl⟩
    · exact (hs.2 b (Nat.ne_of_lt (Nat.lt_of_lt_of_le (Heap.lt_size e) I.ok.above))).trans (I.base.keep b o e n hb hx)
    · obtain ⟨sl, e1⟩ := I.base.slot b o e n hb hx
      exact ⟨sl, (hs.2 b (Nat.ne_of_lt (Nat.lt_of_lt_of_le (Heap.lt_size e) I.ok.above))).trans e1⟩
    · obtain ⟨o', e1⟩ := I.base.there b o e hx
      exact ⟨o', (hs.2 b (Nat.ne_of_lt (Nat.lt_of_lt_of_le (Heap.lt_size e) I.ok.above))).trans e1⟩
    · by_cases hj : j = i
      · subst hj
        rw [hi] at e1; cases e1; rw [List.getElem?_set_self hiσ] at e2
        cases e2; exact ⟨u, r, .inl ⟨hk, by simp⟩⟩
      · rw [List.getElem?_set_ne (Ne.symm hj)] at e2
        obtain ⟨u', r', q⟩ := hl j y v' e1 e2 e3; refine ⟨u', r', ?_⟩
        rcases q with ⟨k, e⟩ | ⟨k, c, e, z⟩
        · refine .inl ⟨k, ?_⟩
          have : y ≠ x := fun e => hj (nodup_ix hN e1 (e ▸ hi))
          simp [this, e]
        · exact .inr ⟨k, c, e, z.sameBut hs (cne y c e)⟩
    · obtain ⟨w', z⟩ := I.cell y c e
      exact ⟨w', z.sameBut hs (cne y c e)⟩
    · obtain ⟨e, n, ne, nf, d⟩ := I.pin p hp
      exact ⟨(hs.2 p.1 ne).trans e, n, ne, nf, d⟩
  · have hfn : X.fn x = true := by
      rcases hf with z | z
      · exact z
      · rw [z] at hk; cases hk
    obtain ⟨c, hc⟩ := I.ok.has x (.inl hk); obtain ⟨w', z⟩ := I.cell x c hc; refine wpAny_storeName_cell I.ok.kind hk hc z (fun h' hc' hs => ?_)
    obtain ⟨oc, hoc, hocd⟩ := id z; refine h { s with heap := h' } ⟨I.ok, I.os, I.bare, ⟨fun b o e n hb hx => ?_, fun b o e n hb hx => ?_, I.base.free, fun b o e hx => ?_, I.base.tups, I.base.frzs, I.base.tbls⟩, ⟨m, hn.sameBut hs (Ne.symm (cne x c hc)), fun j y v' e1 e2 e3 => ?_⟩, fun y c' e => ?_, I.free, I.freeC, fun p hp => ?_, tracked ⟨oc, hoc, I.freeC x c hc⟩ hs, by simpa using I.len⟩ ⟨c, hs, .inr hc⟩
    · exact (hs.2 b (Nat.ne_of_lt (Nat.lt_of_lt_of_le (Heap.lt_size e) (I.ok.cab x c hfn hc)))).trans (I.base.keep b o e n hb hx)
    · obtain ⟨sl, e1⟩ := I.base.slot b o e n hb hx
      exact ⟨sl, (hs.2 b (Nat.ne_of_lt (Nat.lt_of_lt_of_le (Heap.lt_size e) (I.ok.cab x c hfn hc)))).trans e1⟩
    · obtain ⟨o', e1⟩ := I.base.there b o e hx
      exact ⟨o', (hs.2 b (Nat.ne_of_lt (Nat.lt_of_lt_of_le (Heap.lt_size e) (I.ok.cab x c hfn hc)))).trans e1⟩
    · by_cases hj : j = i
      · subst hj
        rw [hi] at e1; cases e1; rw [List.getElem?_set_self hiσ] at e2
        cases e2; exact ⟨u, r, .inr ⟨.inl hk, c, hc, hc'⟩⟩
      · rw [List.getElem?_set_ne (Ne.symm hj)] at e2
        obtain ⟨u', r', q⟩ := hl j y v' e1 e2 e3; refine ⟨u', r', ?_⟩
        rcases q with q | ⟨k, c', e, z'⟩
        · exact .inl q
        · refine .inr ⟨k, c', e, z'.sameBut hs ?_⟩
          rintro rfl
          exact hj (nodup_ix hN e1 (I.ok.inj _ _ _ e hc ▸ hi))
    · by_cases hcc : c' = c
      · subst hcc; exact ⟨_, hc'⟩
      · obtain ⟨w2, z2⟩ := I.cell y c' e
        exact ⟨w2, z2.sameBut hs hcc⟩
    · obtain ⟨e, n, ne, nf, d⟩ := I.pin p hp
      refine ⟨(hs.2 p.1 ?_).trans e, n, ne, nf, d⟩
      intro q; rw [q, hoc] at e; have q' : oc = p.2 := Option.some.inj e; exact d w' (by rw [← q']; exact hocd)
theorem store_ok {M : Model} {A : Around} {E : VSP} {i : Nat} {x : Str} {v : V} {u : Value} {Q : Unit → Shared → Prop} (I : Inv X pins σ H s) (hN : X.N.Nodup) (hi : X.N[i]? = some x) (hx : Loc X.env.scope x) (r : RelV v u)
    (h : ∀ s', Inv X pins (σ.set i (some v)) H s' → Q () s') (hf : X.fn x = true ∨ X.env.scope.names.lookup x = some .local := by first | exact .inl rfl | exact .inr rfl | assumption) : wpAny M A (storeName X.env x u) Q E s :=
  store_ok2 I hN hi hx r (fun s' I' _ => h s' I') hf
theorem Inv.call' {s' : Shared} {ch : List Addr} (I : Inv X pins σ H s) (ho : s'.os = s.os) (u : Un (frs X.stack) ch H H' s.heap s'.heap) (hok : HOk X.prog X.w H' s'.heap) (hg : AllBare s'.gens)
    (hch : ∀ b ∈ ch, (b ∈ X.ex ∨ X.s₀.heap.objs.size ≤ b) ∧ b ≠ X.env.locals ∧ (∀ x c, X.env.cells.lookup x = some c → c ≠ b) ∧ ∀ p ∈ X.pn ++ pins, p.1 ≠ b) : Inv X pins σ H' s' := by
  obtain ⟨h', g', d', t', o'⟩ := s'; have e : o' = s.os := ho; subst e; exact I.call (g' := g') (t' := t') (d' := d') u hok hg hch
end
abbrev XK := Value → Option Addr → Hp → Prop
abbrev St := List (Option V)
abbrev VK := V → Hp → Prop
abbrev TE := St → Hp → VK → Prop
abbrev TT := St → Hp → (Bool → Hp → Prop) → Prop
abbrev TA := St → Hp → (List V → Hp → Prop) → Prop
structure Ends where
  nx : St → Hp → Prop
  rt : VK
  bk : St → Hp → Prop := fun _ _ => False
  ct : St → Hp → Prop := fun _ _ => False
abbrev TS := Ends → St → Hp → Prop
inductive EP (X : Cx) (pins : Pins) (σ : St) (Q : VK) (u : Value) (s' : Shared) : Prop
  | mk (v : V) (H' : Hp) (i : Inv X pins σ H' s') (r : RelV v u) (q : Q v H') : EP X pins σ Q u s'
inductive TP (X : Cx) (pins : Pins) (σ : St) (Q : Bool → Hp → Prop) (b : Bool) (s' : Shared) : Prop
  | mk (H' : Hp) (i : Inv X pins σ H' s') (q : Q b H') : TP X pins σ Q b s'
inductive AP (X : Cx) (pins : Pins) (σ : St) (Q : List V → Hp → Prop) (us : List Value) (s' : Shared) : Prop
  | mk (vs : List V) (H' : Hp) (i : Inv X pins σ H' s') (r : Vals vs us) (q : Q vs H') : AP X pins σ Q us s'
inductive SPn (X : Cx) (pins : Pins) (N : St → Hp → Prop) (s' : Shared) : Prop
  | mk (σ' : St) (H' : Hp) (i : Inv X pins σ' H' s') (q : N σ' H') : SPn X pins N s'
inductive SPr (X : Cx) (pins : Pins) (R : VK) (u : Value) (s' : Shared) : Prop
  | mk (v : V) (σ' : St) (H' : Hp) (i : Inv X pins σ' H' s') (r : RelV v u) (q : R v H') : SPr X pins R u s'
def SP (X : Cx) (pins : Pins) (D : Ends) (f : Flow) (s' : Shared) : Prop :=
  match f with
  | .next => SPn X pins D.nx s'
  | .brk => SPn X pins D.bk s'
  | .cont => SPn X pins D.ct s'
  | .ret u => SPr X pins D.rt u s'
def PE (X : Cx) (e : Expr) (t : TE) : Prop :=
  ∀ (pins : Pins) (s : Shared) (σ : St) (H : Hp) (Q : VK), Inv X pins σ H s → t σ H Q → wpAny (model X.prog X.w) X.A (eval e X.env) (EP X pins σ Q) X.xe s
def PT (X : Cx) (e : Expr) (t : TT) : Prop :=
  ∀ (pins : Pins) (s : Shared) (σ : St) (H : Hp) (Q : Bool → Hp → Prop), Inv X pins σ H s → t σ H Q → wpAny (model X.prog X.w) X.A (isTrue e X.env (eval e X.env)) (TP X pins σ Q) X.xe s
def PW (X : Cx) (e : Expr) (t : TT) : Prop :=
  ∀ (whole : Sem Value) (pins : Pins) (s : Shared) (σ : St) (H : Hp) (Q : Bool → Hp → Prop), Inv X pins σ H s → t σ H Q → wpAny (model X.prog X.w) X.A (isTrue e X.env whole) (TP X pins σ Q) X.xe s
theorem PW.pt {X : Cx} {e : Expr} {t : TT} (h : PW X e t) : PT X e t := h _
def PA (X : Cx) (es : List Expr) (t : TA) : Prop :=
  ∀ (pos : Pos) (pins : Pins) (s : Shared) (σ : St) (H : Hp) (Q : List V → Hp → Prop), Inv X pins σ H s → t σ H Q → wpAny (model X.prog X.w) X.A (spliced (backTo pos (starEach es X.env))) (AP X pins σ Q) X.xe s
def PS (X : Cx) (st : Stmt) (t : TS) : Prop :=
  ∀ (pins : Pins) (s : Shared) (σ : St) (H : Hp) (D : Ends), Inv X pins σ H s → t D σ H → wpAny (model X.prog X.w) X.A (exec st X.env) (SP X pins D) X.xe s
def PSs (X : Cx) (st : List Stmt) (t : TS) : Prop :=
  ∀ (pins : Pins) (s : Shared) (σ : St) (H : Hp) (D : Ends), Inv X pins σ H s → t D σ H → wpAny (model X.prog X.w) X.A (execs st X.env) (SP X pins D) X.xe s
theorem thn {α : Type} {t : Sem α} {Q Q' : α → Shared → Prop} {M : Model} {A : Around} {E : VSP} {s : Shared} (h : wpAny M A t Q E s) (hQ : ∀ a s, Q a s → Q' a s) : wpAny M A t Q' E s := wpAny_mono h hQ fun _ _ x => x
end L2
namespace L2
open PySem PySem.Spec PyProof.Rows
section
variable {X : Cx}
def tVar (i : Nat) : TE := fun σ H Q => ∃ v, σ[i]? = some (some v) ∧ Q v H
def tC (v : V) : TE := fun _ H Q => Q v H
theorem pe_var {i : Nat} {x : Str} {pos : Pos} (hN : X.N[i]? = some x) (hv : Vis X.env.scope x) (hd : Dbg x := by decide) (hcd : Cdt x := by decide) : PE X (.Name x pos) (tVar i) := by
  intro pins s σ H Q I h; obtain ⟨v, e, h⟩ := h; obtain ⟨m, hn, hl⟩ := I.loc; obtain ⟨u, r, l⟩ := hl i x v hN e hv; have fin : EP X pins σ Q u s := ⟨v, H, I, r, h⟩; rcases l with ⟨hk, hm⟩ | ⟨hk, c, hc, hcell⟩
  · exact wpAny_Name (wpAny_loadName_local I.ok.kind hk hn hm fin) hd
  · rcases hk with hk | hk
    · exact wpAny_Name (wpAny_loadName_cell I.ok.kind hk hc hcell fin) hd
    · exact wpAny_Name (wpAny_loadName_free I.ok.kind hk hc hcell fin hcd) hd
theorem pe_int {i j pos} : PE X (.Constant (.int i) j pos) (tC (.int i)) := fun _ _ _ H _ I h => wpAny_Constant_int ⟨.int i, H, I.tok _, ⟨_, rfl⟩, h⟩
theorem pe_bl {b j pos} : PE X (.Constant (.bool b) j pos) (tC (.bl b)) := fun _ _ _ H _ I h => Constant_bool ⟨.bl b, H, I, rfl, h⟩
theorem pe_non {j pos} : PE X (.Constant .none j pos) (tC .non) := fun _ _ _ H _ I h => Constant_none ⟨.non, H, I, rfl, h⟩
theorem pe_str {x j pos} : PE X (.Constant (.str x) j pos) (tC (.str x)) := fun _ _ _ H _ I h => Calls.Constant_str ⟨.str x, H, I.tok _, ⟨_, rfl⟩, h⟩
def Gl (X : Cx) (x : Str) : Prop := X.env.kindOf x = some .globalImplicit
theorem ld_glob {E : VSP} {pins : Pins} {s : Shared} {σ : St} {H : Hp} {x : Str} {u : Value} {pos : Pos} {Q : VSP} (I : Inv X pins σ H s) (hg : Gl X x) (hm : X.mg x = some u) (h : Q u s)
    (hd : Dbg x := by decide) : wpAny (model X.prog X.w) X.A (eval (.Name x pos) X.env) Q E s :=
  Calls.Name_function_global I.ok.kind hg (Calls.loadGlobal_global (by rw [I.ok.glob]; exact I.mod.glob.keeps I.bk) hm h) hd
theorem ld_blt {E : VSP} {pins : Pins} {s : Shared} {σ : St} {H : Hp} {x : Str} {u : Value} {pos : Pos} {Q : VSP} (I : Inv X pins σ H s) (hg : Gl X x) (hm : X.mg x = none) (hv : bootBuiltins x = some u) (h : Q u s)
    (hn : x ≠ "__name__" := by decide) (hd : Dbg x := by decide) : wpAny (model X.prog X.w) X.A (eval (.Name x pos) X.env) Q E s := by
  obtain ⟨mb, h1, h2⟩ := I.mod.blt; exact Calls.Name_function_global I.ok.kind hg (Calls.loadGlobal_builtin (by rw [I.ok.glob]; exact I.mod.glob.keeps I.bk) hm (by rw [I.ok.blt]; exact h1.keeps I.bk) ((h2 x hn).trans hv) h) hd
theorem pe_glob {x : Str} {v : V} {u : Value} {pos : Pos} (hg : Gl X x) (hm : X.mg x = some u) (r : RelV v u) (hd : Dbg x := by decide) : PE X (.Name x pos) (tC v) :=
  fun _ _ _ H _ I h => ld_glob I hg hm ⟨v, H, I, r, h⟩ hd
theorem pe_bltn {x : Str} {v : V} {u : Value} {pos : Pos} (hg : Gl X x) (hm : X.mg x = none) (hv : bootBuiltins x = some u) (r : RelV v u) (hn : x ≠ "__name__" := by decide) (hd : Dbg x := by decide) : PE X (.Name x pos) (tC v) :=
  fun _ _ _ H _ I h => ld_blt I hg hm hv ⟨v, H, I, r, h⟩ hn hd
variable {a b : Expr} {ta tb : TE} {pos : Pos}
variable {tA tB' : TT} {rest : List Expr}
def tAnd (t u : TT) : TT := fun σ H Q => t σ H fun c H1 => if c = true then u σ H1 Q else Q false H1
def tOr (t u : TT) : TT := fun σ H Q => t σ H fun c H1 => if c = true then Q true H1 else u σ H1 Q
def tNot (t : TT) : TT := fun σ H Q => t σ H fun c H1 => Q (!c) H1
theorem pw_and1 (ha : PT X a tA) : PW X (.BoolOp .And [a] pos) tA := by
  intro wh pins s σ H Q I h; refine isTrue_and (thn (ha pins s σ H Q I h) fun c s1 e => ?_)
  cases c with
  | true => exact isTrue_and_nil e
  | false => exact e
theorem pw_or1 (ha : PT X a tA) : PW X (.BoolOp .Or [a] pos) tA := by
  intro wh pins s σ H Q I h; refine isTrue_or (thn (ha pins s σ H Q I h) fun c s1 e => ?_)
  cases c with
  | false => exact isTrue_or_nil e
  | true => exact e
theorem pw_and (ha : PT X a tA) (hb : PW X (.BoolOp .And (b :: rest) pos) tB') : PW X (.BoolOp .And (a :: b :: rest) pos) (tAnd tA tB') := by
  intro wh pins s σ H Q I h; refine isTrue_and (thn (ha pins s σ H _ I h) fun c s1 hz0 => ?_)
  obtain ⟨H1, I1, q1⟩ := hz0
  cases c with
  | true => exact hb wh pins s1 σ H1 Q I1 q1
  | false => exact ⟨H1, I1, q1⟩
theorem pw_or (ha : PT X a tA) (hb : PW X (.BoolOp .Or (b :: rest) pos) tB') : PW X (.BoolOp .Or (a :: b :: rest) pos) (tOr tA tB') := by
  intro wh pins s σ H Q I h; refine isTrue_or (thn (ha pins s σ H _ I h) fun c s1 hz1 => ?_)
  obtain ⟨H1, I1, q1⟩ := hz1
  cases c with
  | true => exact ⟨H1, I1, q1⟩
  | false => exact hb wh pins s1 σ H1 Q I1 q1
theorem pt_not (ha : PT X a tA) : PT X (.UnaryOp .Not a pos) (tNot tA) := by
  intro pins s σ H Q I h; exact isTrue_not (thn (ha pins s σ H (fun c H1 => Q (!c) H1) I h) fun _ _ z => z.casesOn fun H1 i q => ⟨H1, i, q⟩)
def tAndV (ta tb : TE) : TE := fun σ H Q => ta σ H fun x H1 => ∃ c, x = .bl c ∧ if c = true then tb σ H1 Q else Q (.bl false) H1
def tNotV (ta : TE) : TE := fun σ H Q => ta σ H fun x H1 => ∃ c, x = .bl c ∧ Q (.bl (!c)) H1
theorem pe_one {op} {t : TE} (h : PE X a t) : PE X (.BoolOp op [a] pos) t := fun pins s σ H Q I hw => BoolOp_one (h pins s σ H Q I hw)
theorem pe_and (ha : PE X a ta) (hb : PE X (.BoolOp .And (b :: rest) pos) tb) : PE X (.BoolOp .And (a :: b :: rest) pos) (tAndV ta tb) := by
  intro pins s σ H Q I h; refine BoolOp_and (thn (ha pins s σ H _ I h) fun v s1 hz2 => ?_)
  obtain ⟨x, H1, I1, r1, q1⟩ := hz2; obtain ⟨c, rfl, q1⟩ := q1; cases r1; refine wpAny_truthy_bool ?_
  cases c with
  | true => exact hb pins s1 σ H1 Q I1 q1
  | false => exact ⟨.bl false, H1, I1, rfl, q1⟩
theorem pe_not (ha : PE X a ta) : PE X (.UnaryOp .Not a pos) (tNotV ta) := by
  intro pins s σ H Q I h; refine UnaryOp_ (thn (ha pins s σ H _ I h) fun v s1 hz3 => ?_)
  obtain ⟨x, H1, I1, r1, q1⟩ := hz3; obtain ⟨c, rfl, q1⟩ := q1; cases r1; exact not_of (wpAny_truthy_bool ⟨.bl (!c), H1, I1, rfl, q1⟩)
def tIf (t : TT) (ta tb : TE) : TE := fun σ H Q => t σ H fun c H1 => if c = true then ta σ H1 Q else tb σ H1 Q
theorem pe_ifExp {c : Expr} (hc : PT X c tA) (ha : PE X a ta) (hb : PE X b tb) : PE X (.IfExp c a b pos) (tIf tA ta tb) := by
  intro pins s σ H Q I h; refine wpAny_IfExp (thn (hc pins s σ H _ I h) fun d s1 hz4 => ?_)
  obtain ⟨H1, I1, q1⟩ := hz4
  cases d with
  | true => exact ha pins s1 σ H1 Q I1 q1
  | false => exact hb pins s1 σ H1 Q I1 q1
end
end L2
namespace L2
open PySem PySem.Spec PyProof.Rows
def SqL (K : PySem.W.Frag) (H : Hp) (a : Addr) (xs : List V) : Prop :=
  Rd H a (.lst xs) ∨
    ∃ (o : Obj) (its : Array Value) (n : Nat), K.lookup a = some o ∧ o.cls = .type "list" ∧ o.dict = none ∧ o.data = .seq its n ∧ its.size ≤ sizeLine ∧ Vals xs its.toList
def SqT (K : PySem.W.Frag) (H : Hp) (a : Addr) (xs : List V) : Prop :=
  Rd H a (.tup xs) ∨
    ∃ (o : Obj) (its : Array Value) (n : Nat), K.lookup a = some o ∧ o.cls = .type "tuple" ∧ o.data = .seq its n ∧ its.size ≤ sizeLine ∧ Vals xs its.toList
def absV : Value → Option V
  | .none => some .non
  | .bool b => some (.bl b)
  | .int i _ => some (.int i)
  | .str x _ => some (.str x)
  | .bytes b _ => some (.byt b)
  | .float b _ => some (.flt b)
  | .ref a => some (.ref a)
  | .type n => some (.ty n)
  | _ => none
theorem RelV.abs {x : V} {u : Value} (r : RelV x u) : absV u = some x := by
  cases x with
  | non => cases r; rfl
  | bl _ => cases r; rfl
  | int _ => obtain ⟨t, rfl⟩ := r; rfl
  | str _ => obtain ⟨t, rfl⟩ := r; rfl
  | byt _ => obtain ⟨t, rfl⟩ := r; rfl
  | flt _ => obtain ⟨t, rfl⟩ := r; rfl
  | ref _ => cases r; rfl
  | ty _ => cases r; rfl
theorem RelV.inj {x y : V} {u : Value} (r : RelV x u) (q : RelV y u) : x = y := Option.some.inj (r.abs.symm.trans q.abs)
theorem Vals.inj {xs ys : List V} {us : List Value} (h : Vals xs us) : Vals ys us → xs = ys := by
  induction h generalizing ys with
  | nil => exact fun h => by cases h; rfl
  | cons r t ih => exact fun h => by cases h with | cons r' t' => rw [r.inj r', ih t']
section
variable {X : Cx} {pins : Pins} {σ : St} {H : Hp} {s : Shared} {a : Addr} {xs ys : List V}
theorem SqL.of {K : PySem.W.Frag} (h : H a = some (.lst xs)) : SqL K H a xs := .inl (.inl h)
theorem SqT.of {K : PySem.W.Frag} (h : H a = some (.tup xs)) : SqT K H a xs := .inl (.inl h)
theorem Inv.list (I : Inv X pins σ H s) (h : SqL X.K H a xs) : ∃ its : List Value, Vals xs its ∧ PlainL s.heap a its.toArray ∧ xs.length ≤ sizeLine := by
  rcases h with h | ⟨o, its, n, hk, hc, hd, hs, hz, r⟩
  · obtain ⟨z, its, n, r, e⟩ := h.ok I.hok
    exact ⟨its, r, ⟨_, n, e, rfl, rfl, rfl⟩, z⟩
  · refine ⟨its.toList, r, ⟨o, n, I.kIn a o hk, hc, hd, by simpa using hs⟩, ?_⟩
    have e := r.length; simp only [Array.length_toList] at e
    fail"o"
theorem Inv.tuple (I : Inv X pins σ H s) (h : SqT X.K H a xs) : ∃ its : List Value, Vals xs its ∧ IsTup s.heap a its.toArray ∧ xs.length ≤ sizeLine := by
  rcases h with h | ⟨o, its, n, hk, hc, hs, hz, r⟩
  · obtain ⟨z, its, r, p⟩ := h.ok I.hok
    exact ⟨its, r, p, z⟩
  · refine ⟨its.toList, r, ⟨o, I.kIn a o hk, hc, n, by simpa using hs⟩, ?_⟩
    have e := r.length; simp only [Array.length_toList] at e
    fail"o"
theorem Inv.list_inj (I : Inv X pins σ H s) (h : SqL X.K H a xs) (h' : SqL X.K H a ys) : xs = ys := by
  obtain ⟨its, r, ⟨o, n, e, _, _, d⟩, _⟩ := I.list h; obtain ⟨its', r', ⟨o', n', e', _, _, d'⟩, _⟩ := I.list h'; rw [e] at e'; cases e'; rw [d] at d'; injection d' with d1 _
  have : its = its' := by simpa using congrArg Array.toList d1
  subst this; exact r.inj r'
theorem Inv.tuple_inj (I : Inv X pins σ H s) (h : SqT X.K H a xs) (h' : SqT X.K H a ys) : xs = ys := by
  obtain ⟨its, r, ⟨o, e, _, n, d⟩, _⟩ := I.tuple h; obtain ⟨its', r', ⟨o', e', _, n', d'⟩, _⟩ := I.tuple h'; rw [e] at e'; cases e'; rw [d] at d'; injection d' with d1 _
  have : its = its' := by simpa using congrArg Array.toList d1
  subst this; exact r.inj r'
end
section
variable {X : Cx} {pins : Pins} {σ : St} {H : Hp} {s : Shared} {E : VSP}
end
section
variable {X : Cx} {st : Stmt} {rest : List Stmt} {t u : TS} {e : Expr} {te : TE} {pos : Pos}
def tNext : TS := fun D σ H => D.nx σ H
def tSeq (t u : TS) : TS := fun D σ H => t { D with nx := u D } σ H
theorem pss_nil : PSs X [] tNext := fun _ _ σ H _ I h => wpAny_execs_nil ⟨σ, H, I, h⟩
theorem pss_cons (h1 : PS X st t) (h2 : PSs X rest u) : PSs X (st :: rest) (tSeq t u) := by
  intro pins s σ H D I h; refine wpAny_execs_cons (thn (h1 pins s σ H { D with nx := u D } I h) fun f s1 q => ?_)
  cases f with
  | next =>
    obtain ⟨σ', H', I', q⟩ := q; exact h2 pins s1 σ' H' D I' q
  | ret v => exact q
  | brk => exact q
  | cont => exact q
theorem pss_one (h1 : PS X st t) : PSs X [st] t := by
  intro pins s σ H D I h; refine wpAny_execs_cons (thn (h1 pins s σ H D I h) fun f s1 q => ?_)
  cases f with
  | next => exact wpAny_execs_nil q
  | ret v => exact q
  | brk => exact q
  | cont => exact q
theorem Inv.quiet {pins : Pins} {σ : St} {H : Hp} {s : Shared} (I : Inv X pins σ H s) : interactive X.env = false := by simp [interactive, I.ok.kind]
def tDrop (te : TE) : TS := fun D σ H => te σ H fun _ H1 => D.nx σ H1
theorem ps_expr (he : PE X e te) (hs : swapsWith e none pos.line X.env = pure false := by rfl) : PS X (.Expr e pos) (tDrop te) := by
  intro pins s σ H D I h; exact wpAny_Expr_any (thn (he pins s σ H _ I h) fun v s1 ⟨x, H1, I1, r1, q1⟩ => ⟨σ, H1, I1, q1⟩) I.quiet hs
def tRet (te : TE) : TS := fun D σ H => te σ H D.rt
theorem ps_ret (he : PE X e te) : PS X (.Return (some e) pos) (tRet te) := by
  intro pins s σ H D I h; exact wpAny_Return_some (thn (he pins s σ H _ I h) fun v s1 ⟨x, H1, I1, r1, q1⟩ => ⟨x, σ, H1, I1, r1, q1⟩)
def tIfS (c : TT) (t u : TS) : TS := fun D σ H => c σ H fun b H1 => if b = true then t D σ H1 else u D σ H1
theorem ps_if {c : Expr} {a b : List Stmt} {tc : TT} (hc : PT X c tc) (ha : PSs X a t) (hb : PSs X b u) : PS X (.If c a b pos) (tIfS tc t u) := by
  intro pins s σ H D I h; refine wpAny_If (thn (hc pins s σ H _ I h) fun d s1 hz5 => ?_)
  obtain ⟨H1, I1, q1⟩ := hz5
  cases d with
  | true => exact ha pins s1 σ H1 D I1 q1
  | false => exact hb pins s1 σ H1 D I1 q1
end
abbrev TG := V → St → Hp → (St → Hp → Prop) → Prop
abbrev TGs := List V → St → Hp → (St → Hp → Prop) → Prop
def PG (X : Cx) (target : Expr) (t : TG) : Prop :=
  ∀ (pins : Pins) (s : Shared) (σ : St) (H : Hp) (v : V) (u : Value) (Q : St → Hp → Prop), Inv X pins σ H s → RelV v u → t v σ H Q →
    wpAny (model X.prog X.w) X.A (assign target X.env u) (fun _ s' => SPn X pins Q s') X.xe s
def PGs (X : Cx) (ts : List Expr) (t : TGs) : Prop :=
  ∀ (pins : Pins) (s : Shared) (σ : St) (H : Hp) (vs : List V) (us : List Value) (Q : St → Hp → Prop), Inv X pins σ H s → Vals vs us → t vs σ H Q →
    wpAny (model X.prog X.w) X.A (assignInOrder ((assignEach ts X.env).map (·.2)) us) (fun _ s' => SPn X pins Q s') X.xe s
section
variable {X : Cx} {pos : Pos}
def gName (i : Nat) : TG := fun v σ H Q => Q (σ.set i (some v)) H
theorem pg_name {i : Nat} {x : Str} (hN : X.N.Nodup) (hi : X.N[i]? = some x) (hx : Loc X.env.scope x) (hf : X.fn x = true ∨ X.env.scope.names.lookup x = some .local := by first | exact .inl rfl | exact .inr rfl | assumption) : PG X (.Name x pos) (gName i) := by
  intro pins s σ H v u Q I r h; exact wpAny_assign_Name (store_ok I hN hi hx r (fun s' I' => ⟨_, H, I', h⟩) hf)
def gNil : TGs := fun vs σ H Q => vs = [] ∧ Q σ H
def gCons (t : TG) (u : TGs) : TGs := fun vs σ H Q => ∃ v r, vs = v :: r ∧ t v σ H fun σ' H' => u r σ' H' Q
theorem pgs_nil : PGs X [] gNil := by
  intro pins s σ H vs us Q I r h; obtain ⟨e, h⟩ := h; subst e; cases r; exact assignInOrder_nil ⟨σ, H, I, h⟩
theorem pgs_cons {e : Expr} {es : List Expr} {t : TG} {u : TGs} (h1 : PG X e t) (h2 : PGs X es u)
    (hs : (assignEach (e :: es) X.env).map (·.2) = assign e X.env :: (assignEach es X.env).map (·.2) := by rfl) : PGs X (e :: es) (gCons t u) := by
  intro pins s σ H vs us Q I r h; obtain ⟨v, vr, e1, h⟩ := h; subst e1
  cases r with
  | cons r rr =>
    rw [hs]; refine assignInOrder_cons (thn (h1 pins s σ H _ _ _ I r h) fun _ s1 hz6 => ?_)
    obtain ⟨σ1, H1, I1, q1⟩ := hz6; exact h2 pins s1 σ1 H1 _ _ Q I1 rr q1
def gTup (K : PySem.W.Frag) (n : Nat) (t : TGs) : TG := fun v σ H Q => ∃ a xs, v = .ref a ∧ SqT K H a xs ∧ xs.length = n ∧ t xs σ H Q
theorem pg_tup {es : List Expr} {k : Nat} {t : TGs} {n : Nat} (hc : X.calm = true) (h : PGs X es t)
    (hn : (assignEach es X.env).length = n := by rfl) (hst : (assignEach es X.env).findIdx? (·.1) = none := by rfl) : PG X (.Tuple es k pos) (gTup X.K n t) := by
  intro pins s σ H v u Q I r hw; obtain ⟨a, xs, e1, hq, hl, hw⟩ := hw; subst e1; cases r; obtain ⟨its, rv, ht, hz⟩ := I.tuple hq; refine assign_Tuple_tuple (I.ok.hd hc) ht (by simp [hn, ← hl, rv.length]) hst fun h' hx => ?_
  have I1 : Inv X pins σ H { s with heap := h' } := I.kept (t' := s.toks) fun b o e => hx b o (Nat.ne_of_lt (Heap.lt_size e)) e
  exact h pins _ σ H xs _ Q I1 (by simpa using rv) hw
def tAsg (te : TE) (g : TG) : TS := fun D σ H => te σ H fun x H1 => g x σ H1 D.nx
theorem ps_asg {tg e : Expr} {te : TE} {g : TG} (he : PE X e te) (hg : PG X tg g) (hs : swapsWithSole [tg] e pos.line X.env = pure false := by rfl) (hw : swappedStores [tg] e X.env = pure none := by rfl)
    (h1 : (assignEach [tg] X.env).map (·.2) = [assign tg X.env] := by rfl) : PS X (.Assign [tg] e pos) (tAsg te g) := by
  intro pins s σ H D I h; refine wpAny_Assign_stores (thn (he pins s σ H _ I h) fun v s1 hz7 => ?_) hs hw
  obtain ⟨x, H1, I1, r1, q1⟩ := hz7; rw [h1]; exact thn (hg pins s1 σ H1 x v _ I1 r1 q1) fun _ s2 q => q
theorem ps_set {i : Nat} {x : Str} {e : Expr} {te : TE} {pos' : Pos} (hN : X.N.Nodup) (hi : X.N[i]? = some x) (hx : Loc X.env.scope x) (he : PE X e te) (hs : swapsWith e (some (.Name x pos')) pos.line X.env = pure false := by rfl) (hf : X.fn x = true ∨ X.env.scope.names.lookup x = some .local := by first | exact .inl rfl | exact .inr rfl | assumption) :
    PS X (.Assign [.Name x pos'] e pos) (tAsg te (gName i)) := by
  intro pins s σ H D I h; refine wpAny_Assign_Name (thn (he pins s σ H _ I h) fun v s1 hz8 => ?_) hs
  obtain ⟨y, H1, I1, r1, q1⟩ := hz8; exact store_ok I1 hN hi hx r1 (fun s2 I2 => ⟨_, H1, I2, q1⟩) hf
end
section
variable {X : Cx} {pos : Pos}
def tWhile (c : TT) (tb : TS) : TS := fun D σ H => ∃ W : Nat → St → Hp → Prop, (∃ m, W m σ H) ∧ ∀ m σ H, W m σ H →
  c σ H fun b H1 => if b = true then ∃ N : St → Hp → Prop, (∀ σ' H', N σ' H' → ∃ m', m' < m ∧ W m' σ' H') ∧ tb { D with nx := N, ct := N, bk := D.nx } σ H1 else D.nx σ H1
theorem ps_while {c : Expr} {body : List Stmt} {tc : TT} {tb : TS} (hp : PassesOwn (model X.prog X.w) X.A X.env X.xe) (hc : PT X c tc) (hb : PSs X body tb) : PS X (.While c body [] pos) (tWhile tc tb) := by
  intro pins s σ H D I h; obtain ⟨W, ⟨m0, w0⟩, turn⟩ := h; refine wpAny_While (codeAny_whileLoop (fun n s' => SPn X pins (W n) s') ?_ m0 ⟨σ, H, I, w0⟩)
  rintro n s1 ⟨σ1, H1, I1, w1⟩
  refine wpAny_passesOwn hp (thn (hc pins s1 σ1 H1 _ I1 (turn n σ1 H1 w1)) fun b s2 hz9 => ?_)
  obtain ⟨H2, I2, q2⟩ := hz9
  cases b with
  | true =>
    obtain ⟨N, hN, q2⟩ := q2; rw [if_pos rfl]; refine wpAny_passesOwn hp (thn (hb pins s2 σ1 H2 _ I2 q2) fun f s3 q3 => ?_)
    cases f with
    | next =>
      obtain ⟨σ3, H3, I3, n3⟩ := q3; obtain ⟨m', hm, w3⟩ := hN σ3 H3 n3; exact ⟨m', hm, σ3, H3, I3, w3⟩
    | cont =>
      obtain ⟨σ3, H3, I3, n3⟩ := q3; obtain ⟨m', hm, w3⟩ := hN σ3 H3 n3; exact ⟨m', hm, σ3, H3, I3, w3⟩
    | brk => exact q3
    | ret v => exact q3
  | false =>
    rw [if_neg Bool.false_ne_true]; exact wpAny_execs_nil ⟨σ1, H2, I2, q2⟩
end
structure It where
  go : Nat → Hp → Prop
  yld : Nat → Hp → V → Hp → Prop
  stop : Nat → Hp → Prop
def FpOk (X : Cx) (pins : Pins) (H : Hp) (b : Addr) : Prop :=
  H b = none ∧ b ≠ X.env.locals ∧ b ∉ X.fs ∧ (b ∈ X.ex ∨ X.s₀.heap.objs.size ≤ b) ∧ (∀ x c, X.env.cells.lookup x = some c → c ≠ b) ∧ ∀ p ∈ X.pn ++ pins, p.1 ≠ b
theorem Inv.fpOk {X : Cx} {pins : Pins} {σ : St} {H H' : Hp} {s : Shared} {b : Addr} (I : Inv X pins σ H s) (hb : s.heap.objs.size ≤ b) (hn : H' b = none) : FpOk X pins H' b := by
  refine ⟨hn, Nat.ne_of_gt (Nat.lt_of_lt_of_le I.lt hb), I.nofs hb, .inr (Nat.le_trans I.sz hb), fun x c e z => ?_, fun p hp z => ?_⟩
  · obtain ⟨v, q⟩ := I.cell x c e
    exact absurd (Nat.lt_of_lt_of_le q.lt (by rw [z]; exact hb)) (Nat.lt_irrefl _)
  · exact absurd (Nat.lt_of_lt_of_le (Heap.lt_size (I.pin p hp).1) (by rw [z]; exact hb)) (Nat.lt_irrefl _)
inductive TItem (X : Cx) (pins : Pins) (σ : St) (J : It) (i : Nat) (H : Hp) (fp : List Addr) (tn : Nat → Heap → Prop) (u : Value) (s2 : Shared) : Prop
  | mk (x : V) (H' : Hp) (c0 : Inv X pins σ H' s2) (c1 : RelV x u) (c2 : J.yld i H x H') (c3 : tn (i + 1) s2.heap) (c4 : ∀ b ∈ fp, H' b = none) : TItem X pins σ J i H fp tn u s2
inductive FLoop (X : Cx) (pins : Pins) (fp : List Addr) (tn : Nat → Heap → Prop) (W : Nat → Nat → St → Hp → Prop) (n : Nat) (s' : Shared) : Prop
  | mk (i : Nat) (σ' : St) (H' : Hp) (c0 : Inv X pins σ' H' s') (c1 : tn i s'.heap) (c2 : ∀ b ∈ fp, H' b = none) (c3 : W i n σ' H') : FLoop X pins fp tn W n s'
structure Turn (P : Program) (w : World) (K : PySem.W.Frag) (tg : Expr) (J : It) (fp : List Addr) (it : Addr) (tn : Nat → Heap → Prop) : Prop where
  mem : it ∈ fp
  obj : ∀ i h, tn i h → ∀ b ∈ fp, ∃ o, h.get? b = some o ∧ ∀ v, o.data ≠ .cell v
  keep : ∀ i h h', tn i h → (∀ b ∈ fp, ∀ o, h.get? b = some o → h'.get? b = some o) → tn i h'
  item : ∀ (X : Cx), X.prog = P → X.w = w → X.K = K → X.calm = true → ∀ (i : Nat) (pins : Pins) (s : Shared) (σ : St) (H : Hp) (E : VSP), Inv X pins σ H s → (∀ b ∈ fp, FpOk X pins H b) → tn i s.heap → J.go i H →
    wpAny (model P w) X.A (pyNext (.ref it)) (fun r s1 => ∃ u, r = some u ∧
      wpAny (model P w) X.A (letOwnedTupleGo tg (.ref it) u) (fun _ s2 => TItem X pins σ J i H fp tn u s2) E s1) E s
  done : ∀ (X : Cx), X.prog = P → X.w = w → X.K = K → X.calm = true → ∀ (i : Nat) (pins : Pins) (s : Shared) (σ : St) (H : Hp) (E : VSP), Inv X pins σ H s → (∀ b ∈ fp, FpOk X pins H b) → tn i s.heap → J.stop i H →
    wpAny (model P w) X.A (pyNext (.ref it)) (fun r s1 => r = none ∧ Inv X pins σ H s1) E s
  self : ∀ (A : Around) (i : Nat) (s : Shared) (Q : VSP) (E : VSP), tn i s.heap → Q (.ref it) s → wpAny (model P w) A (pyIter (.ref it)) Q E s
abbrev TI := St → Hp → (It → Hp → Prop) → Prop
def PIE (X : Cx) (pins : Pins) (σ : St) (tg : Expr) (R : It → Hp → Prop) (itv : Value) (s2 : Shared) : Prop :=
  ∃ (it : Addr) (fp : List Addr) (tn : Nat → Heap → Prop) (J : It) (H' : Hp), itv = .ref it ∧ Inv X pins σ H' s2 ∧ Turn X.prog X.w X.K tg J fp it tn ∧ tn 0 s2.heap ∧ (∀ b ∈ fp, FpOk X pins H' b) ∧ R J H'
def PI (X : Cx) (tg iter : Expr) (wi : TI) : Prop :=
  ∀ (pins : Pins) (s : Shared) (σ : St) (H : Hp) (R : It → Hp → Prop), Inv X pins σ H s → wi σ H R →
    wpAny (model X.prog X.w) X.A (eval iter X.env) (fun v s1 => wpAny (model X.prog X.w) X.A (pyIter v) (PIE X pins σ tg R) X.xe s1) X.xe s
theorem go_of {M : Model} {A : Around} {E : VSP} {s : Shared} {tg : Expr} {it : Addr} {u : Value} {o : Obj} {n : String} {vs : Array Value} {Q : Unit → Shared → Prop} (ho : s.heap.get? it = some o) (hc : o.cls = .type n) (hd : o.data = .fields vs)
    (hn : ["enumerate", "zip", "dict_itemiterator", "dict_reverseitemiterator", "odict_iterator", "itertools.zip_longest", "itertools.pairwise"].contains n = false) (hQ : Q () s) : wpAny M A (letOwnedTupleGo tg (.ref it) u) Q E s := by
  unfold letOwnedTupleGo
  cases tg <;> first
    | exact wpAny_pure hQ
    | (cases u <;> first
        | exact wpAny_pure hQ
        | (refine wpAny_bind (wpAny_load ho ?_)
           rw [hc, hd]
           show wpAny M A (if (["enumerate", "zip", "dict_itemiterator", "dict_reverseitemiterator", "odict_iterator", "itertools.zip_longest", "itertools.pairwise"].contains n && vs[0]? == some (rawInt _)) = true then _ else _) Q E s
           rw [if_neg (by intro h; rw [hn, Bool.false_and] at h; cases h)]
           exact wpAny_pure hQ))
def Itl (K : PySem.W.Frag) (a : Addr) : It :=
  ⟨fun i H => ∃ xs x, SqL K H a xs ∧ xs[i]? = some x, fun i H x H' => H' = H ∧ ∀ xs, SqL K H a xs → xs[i]? = some x, fun i H => ∃ xs, SqL K H a xs ∧ xs.length ≤ i⟩
def Itt (K : PySem.W.Frag) (a : Addr) : It :=
  ⟨fun i H => ∃ xs x, SqT K H a xs ∧ xs[i]? = some x, fun i H x H' => H' = H ∧ ∀ xs, SqT K H a xs → xs[i]? = some x, fun i H => ∃ xs, SqT K H a xs ∧ xs.length ≤ i⟩
def Itr (lo : Int) (n : Nat) : It := ⟨fun i _ => i < n, fun i H x H' => H' = H ∧ x = .int (lo + i), fun i _ => n ≤ i⟩
theorem turn_list {P : Program} {w : World} {K : PySem.W.Frag} {tg : Expr} (a it : Addr) : Turn P w K tg (Itl K a) [it] it (fun i h => h.IsListIter it a i) where
  mem := by simp
  obj := fun i h st b hb => by
    have e : b = it := by simpa using hb
    subst e; obtain ⟨o, e, c, d⟩ := st; exact ⟨o, e, fun v z => by rw [d] at z; cases z⟩
  keep := fun i h h' st k => st.at fun o e => k it (by simp) o e
  item := by
    intro X hP hw hK hc i pins s σ H E I hf st hg; subst hP hw hK; obtain ⟨xs, x, hq, hx⟩ := hg; obtain ⟨its, rv, p, hz⟩ := I.list hq; obtain ⟨u, hu, ru⟩ := rv.get hx; obtain ⟨f0, f1, f2, f3, f4, f5⟩ := hf it (by simp)
    refine wpAny_pyNext_list_item st p.isList (x := u) (by simpa using hu) fun h' st' sb => ?_
    have I1 : Inv X pins σ H { s with heap := h' } := I.turned (t' := s.toks) (fun b o hb e => (sb.2 b hb).trans e) f0 f1 f3 f4 f5
    obtain ⟨o, e, c, d⟩ := id st'; exact ⟨u, rfl, go_of (s := { s with heap := h' }) e c d (by decide) ⟨x, H, I1, ru, ⟨rfl, fun ys hy => by rw [I.list_inj hy hq]; exact hx⟩, st', fun b hb => (hf b hb).1⟩⟩
  done := by
    intro X hP hw hK hc i pins s σ H E I hf st hg; subst hP hw hK; obtain ⟨xs, hq, hx⟩ := hg; obtain ⟨its, rv, p, hz⟩ := I.list hq; obtain ⟨f0, f1, f2, f3, f4, f5⟩ := hf it (by simp)
    have hl := rv.length; exact wpAny_pyNext_list_end (I.ok.hd hc) st p.isList (by simp; fail"o") fun h' eb => ⟨rfl, I.turned (t' := s.toks) (fun b o hb e => eb b o hb e) f0 f1 f3 f4 f5⟩
  self := fun _ _ _ _ _ st h => wpAny_pyIter_listiter st h
theorem turn_tuple {P : Program} {w : World} {K : PySem.W.Frag} {tg : Expr} (a it : Addr) : Turn P w K tg (Itt K a) [it] it (fun i h => h.IsTupleIter it a i) where
  mem := by simp
  obj := fun i h st b hb => by
    have e : b = it := by simpa using hb
    subst e; obtain ⟨o, e, c, d⟩ := st; exact ⟨o, e, fun v z => by rw [d] at z; cases z⟩
  keep := fun i h h' st k => st.at fun o e => k it (by simp) o e
  item := by
    intro X hP hw hK hc i pins s σ H E I hf st hg; subst hP hw hK; obtain ⟨xs, x, hq, hx⟩ := hg; obtain ⟨its, rv, p, hz⟩ := I.tuple hq; obtain ⟨u, hu, ru⟩ := rv.get hx; obtain ⟨f0, f1, f2, f3, f4, f5⟩ := hf it (by simp)
    refine wpAny_pyNext_tuple_item st (show s.heap.IsTuple a its.toArray from p) (x := u) (by simpa using hu) fun h' st' sb => ?_
    have I1 : Inv X pins σ H { s with heap := h' } := I.turned (t' := s.toks) (fun b o hb e => (sb.2 b hb).trans e) f0 f1 f3 f4 f5
    obtain ⟨o, e, c, d⟩ := id st'; exact ⟨u, rfl, go_of (s := { s with heap := h' }) e c d (by decide) ⟨x, H, I1, ru, ⟨rfl, fun ys hy => by rw [I.tuple_inj hy hq]; exact hx⟩, st', fun b hb => (hf b hb).1⟩⟩
  done := by
    intro X hP hw hK hc i pins s σ H E I hf st hg; subst hP hw hK; obtain ⟨xs, hq, hx⟩ := hg; obtain ⟨its, rv, p, hz⟩ := I.tuple hq; obtain ⟨f0, f1, f2, f3, f4, f5⟩ := hf it (by simp)
    have hl := rv.length; exact wpAny_pyNext_tuple_end (I.ok.hd hc) st (show s.heap.IsTuple a its.toArray from p) (by simp; fail"o") fun h' eb => ⟨rfl, I.turned (t' := s.toks) (fun b o hb e => eb b o hb e) f0 f1 f3 f4 f5⟩
  self := fun _ _ _ _ _ st h => wpAny_pyIter_tupleiter st h
theorem turn_range {P : Program} {w : World} {K : PySem.W.Frag} {tg : Expr} (it : Addr) (lo : Int) (n : Nat) : Turn P w K tg (Itr lo n) [it] it (fun i h => IsRangeIter h it (lo + (i : Nat) * 1) ((n : Int) - (i : Nat)) 1) where
  mem := by simp
  obj := fun i h st b hb => by
    have e : b = it := by simpa using hb
    subst e
    exact ⟨_, st, fun v z => by
      have z' : Data.fields _ = Data.cell v := z; cases z'⟩
  keep := fun i h h' st k => k it (by simp) _ st
  item := by
    intro X hP hw hK hc i pins s σ H E I hf st hg; subst hP hw hK; obtain ⟨f0, f1, f2, f3, f4, f5⟩ := hf it (by simp)
    have W := Walks.range (prog := X.prog) (w := X.w) (I.ok.hd hc) it lo 1 n; refine W.item i s _ _ hg st fun v h' tk hv st' kk => ?_
    obtain ⟨t, rfl⟩ := hv; have I1 : Inv X pins σ H { s with heap := h', toks := tk } := I.turned (fun b o hb e => kk b o (by simpa using hb) e) f0 f1 f3 f4 f5
    refine ⟨_, rfl, go_of (s := { s with heap := h', toks := tk }) (n := "range_iterator") st' rfl rfl (by decide) ⟨.int (lo + i), H, I1, ⟨t, ?_⟩, ⟨rfl, rfl⟩, st', fun b hb => (hf b hb).1⟩⟩
    rw [Int.mul_one]
  done := by
    intro X hP hw hK hc i pins s σ H E I hf st hg; subst hP hw hK; obtain ⟨f0, f1, f2, f3, f4, f5⟩ := hf it (by simp)
    exact wpAny_pyNext_range_end (I.ok.hd hc) st (by have : n ≤ i := hg; fail"o") fun h' eb => ⟨rfl, I.turned (t' := s.toks) (fun b o hb e => eb b o hb e) f0 f1 f3 f4 f5⟩
  self := fun _ _ _ _ _ st h => wpAny_pyIter_rangeiter st h
end L2
namespace L2
open PySem PySem.Spec PyProof.Rows
section
variable {X : Cx} {tg : Expr}
def iList (K : PySem.W.Frag) (tl : TE) : TI := fun σ H R => tl σ H fun x H1 => ∃ a, x = .ref a ∧ (∃ xs, SqL K H1 a xs) ∧ R (Itl K a) H1
def iTup (K : PySem.W.Frag) (tl : TE) : TI := fun σ H R => tl σ H fun x H1 => ∃ a, x = .ref a ∧ (∃ xs, SqT K H1 a xs) ∧ R (Itt K a) H1
theorem pi_list {l : Expr} {tl : TE} (hl : PE X l tl) : PI X tg l (iList X.K tl) := by
  intro pins s σ H R I h; refine thn (hl pins s σ H _ I h) fun v s1 hz10 => ?_
  obtain ⟨x, H1, I1, r1, q1⟩ := hz10; obtain ⟨a, e, ⟨xs, hq⟩, q⟩ := q1; subst e; cases r1; obtain ⟨its, rv, p, hz⟩ := I1.list hq; refine wpAny_pyIter_list p.isList ?_
  refine ⟨s1.heap.objs.size, [s1.heap.objs.size], _, _, H1, rfl, I1.kept (t' := s1.toks) fun b o e => Heap.get?_push_of_some _ e, turn_list a _, ⟨_, Heap.get?_push_size _ rfl, rfl, rfl⟩, fun b hb => ?_, q⟩
  have e : b = s1.heap.objs.size := by simpa using hb
  subst e; exact I1.fpOk (Nat.le_refl _) (I1.hok.fresh (Nat.le_refl _))
theorem pi_tup {l : Expr} {tl : TE} (hl : PE X l tl) : PI X tg l (iTup X.K tl) := by
  intro pins s σ H R I h; refine thn (hl pins s σ H _ I h) fun v s1 hz11 => ?_
  obtain ⟨x, H1, I1, r1, q1⟩ := hz11; obtain ⟨a, e, ⟨xs, hq⟩, q⟩ := q1; subst e; cases r1; obtain ⟨its, rv, p, hz⟩ := I1.tuple hq; refine wpAny_pyIter_tuple (show s1.heap.IsTuple a its.toArray from p) ?_
  refine ⟨s1.heap.objs.size, [s1.heap.objs.size], _, _, H1, rfl, I1.kept (t' := s1.toks) fun b o e => Heap.get?_push_of_some _ e, turn_tuple a _, ⟨_, Heap.get?_push_size _ rfl, rfl, rfl⟩, fun b hb => ?_, q⟩
  have e : b = s1.heap.objs.size := by simpa using hb
  subst e; exact I1.fpOk (Nat.le_refl _) (I1.hok.fresh (Nat.le_refl _))
theorem range_it {pins : Pins} {σ : St} {H : Hp} {s : Shared} {R : It → Hp → Prop} {E : VSP} {lo hi : Int} {t u v : Tok} {tk : Nat} (I : Inv X pins σ H s) (h1 : -(2 ^ 62) ≤ lo) (h2 : lo < 2 ^ 62) (h3 : -(2 ^ 62) ≤ hi) (h4 : hi < 2 ^ 62)
    (q : R (Itr lo (hi - lo).toNat) H) : wpAny (model X.prog X.w) X.A (pyIter (.ref s.heap.objs.size)) (PIE X pins σ tg R) E { s with heap := s.heap.push { cls := .type "range", data := .fields #[.int lo t, .int hi u, .int 1 v] }, toks := tk } := by
  refine wpAny_pyIter_range (IsRange.new ..) (small_one h1 h2 h3 h4) ?_
  have I1 : Inv X pins σ H { s with heap := s.heap.push { cls := .type "range", data := .fields #[.int lo t, .int hi u, .int 1 v] }, toks := tk } := I.kept fun b o e => Heap.get?_push_of_some _ e
  refine ⟨(s.heap.push { cls := .type "range", data := .fields #[.int lo t, .int hi u, .int 1 v] }).objs.size, [(s.heap.push { cls := .type "range", data := .fields #[.int lo t, .int hi u, .int 1 v] }).objs.size], _, _, H, rfl,
    I1.kept (t' := tk) fun b o e => Heap.get?_push_of_some _ e, turn_range _ lo (hi - lo).toNat, ?_, fun b hb => ?_, q⟩
  · have e1 : lo + ((0 : Nat) : Int) * 1 = lo := by simp
    have e2 : (((hi - lo).toNat : Nat) : Int) - ((0 : Nat) : Int) = Builtin.Range.rangeSize lo hi 1 := by rw [rangeSize_one]; split <;> fail"o"
    show IsRangeIter _ _ (lo + ((0 : Nat) : Int) * 1) ((((hi - lo).toNat : Nat) : Int) - ((0 : Nat) : Int)) 1
    rw [e1, e2]; exact Heap.get?_push_size _ rfl
  · have e : b = (s.heap.push { cls := .type "range", data := .fields #[.int lo t, .int hi u, .int 1 v] }).objs.size := by simpa using hb
    subst e; exact I1.fpOk (Nat.le_refl _) (I1.hok.fresh (Nat.le_refl _))
def iRng1 (ta : TA) : TI := fun σ H R => ta σ H fun vs H1 => ∃ j : Int, vs = [.int j] ∧ -(2 ^ 62) ≤ j ∧ j < 2 ^ 62 ∧ R (Itr 0 j.toNat) H1
def iRng2 (ta : TA) : TI := fun σ H R => ta σ H fun vs H1 => ∃ i j : Int, vs = [.int i, .int j] ∧ (-(2 ^ 62) ≤ i ∧ i < 2 ^ 62 ∧ -(2 ^ 62) ≤ j ∧ j < 2 ^ 62) ∧ R (Itr i (j - i).toNat) H1
theorem pi_range1 {a : Expr} {ta : TA} {p pos : Pos} (hg : Gl X "range") (hm : X.mg "range" = none) (ha : PA X [a] ta) (hs : starEach [a] X.env = [(false, eval a X.env)] := by rfl) : PI X tg (.Call (.Name "range" p) [a] [] pos) (iRng1 ta) := by
  intro pins s σ H R I h; refine Call_ (ld_blt I hg hm boot_range (PyProof.Rows.callWith_type1 (thn (ha pos pins s σ H _ I h) fun us s1 hz12 => ?_) hs rfl))
  obtain ⟨vs, H1, I1, r1, q1⟩ := hz12; obtain ⟨j, e, q1, q2, q⟩ := q1; subst e
  cases r1 with
  | cons r rr =>
    cases rr; obtain ⟨t, rfl⟩ := r; exact call_range_1 (range_it I1 (by fail"o") (by fail"o") q1 q2 (by simpa using q))
theorem pi_range2 {a b : Expr} {ta : TA} {p pos : Pos} (hg : Gl X "range") (hm : X.mg "range" = none) (ha : PA X [a, b] ta) (hs : starEach [a, b] X.env = [(false, eval a X.env), (false, eval b X.env)] := by rfl) (hs2 : starEach [b] X.env = [(false, eval b X.env)] := by rfl) :
    PI X tg (.Call (.Name "range" p) [a, b] [] pos) (iRng2 ta) := by
  intro pins s σ H R I h; refine Call_ (ld_blt I hg hm boot_range (PyProof.Rows.callWith_type1 (thn (ha pos pins s σ H _ I h) fun us s1 hz13 => ?_) (by rw [hs, hs2]) (by rw [hs2]; rfl)))
  obtain ⟨vs, H1, I1, r1, q1⟩ := hz13; obtain ⟨i, j, e, ⟨q1, q2, q3, q4⟩, q⟩ := q1; subst e
  cases r1 with
  | cons r rr =>
    cases rr with
    | cons r' rr =>
      cases rr; obtain ⟨t, rfl⟩ := r; obtain ⟨t', rfl⟩ := r'; exact call_range_2 (range_it I1 q1 q2 q3 q4 q)
def tFor (wi : TI) (g : TG) (tb : TS) : TS := fun D σ H => wi σ H fun J H1 => ∃ W : Nat → Nat → St → Hp → Prop, (∃ m, W 0 m σ H1) ∧ ∀ i m σ H, W i m σ H →
  (J.stop i H ∧ D.nx σ H) ∨ (J.go i H ∧ ∃ N : St → Hp → Prop, (∀ σ' H', N σ' H' → ∃ m', m' < m ∧ W (i + 1) m' σ' H') ∧ ∀ x H', J.yld i H x H' → g x σ H' fun σ2 H2 => tb { D with nx := N, ct := N, bk := D.nx } σ2 H2)
def pinsAt (fp : List Addr) (h : Heap) : Pins := fp.filterMap fun b => (h.get? b).map fun o => (b, o)
theorem mem_pinsAt {fp : List Addr} {h : Heap} {b : Addr} {o : Obj} (hb : b ∈ fp) (e : h.get? b = some o) : (b, o) ∈ pinsAt fp h := List.mem_filterMap.mpr ⟨b, hb, by rw [e]; rfl⟩
theorem of_pinsAt {fp : List Addr} {h : Heap} {p : Addr × Obj} (hp : p ∈ pinsAt fp h) : p.1 ∈ fp ∧ h.get? p.1 = some p.2 := by
  obtain ⟨b, hb, e⟩ := List.mem_filterMap.mp hp
  cases q : h.get? b with
  | none => rw [q] at e; cases e
  | some o =>
    rw [q] at e; have e' : (b, o) = p := Option.some.inj e; subst e'; exact ⟨hb, q⟩
theorem Inv.pinned {pins : Pins} {σ : St} {H : Hp} {s : Shared} {fp : List Addr} (I : Inv X pins σ H s) (hf : ∀ b ∈ fp, FpOk X pins H b) (ho : ∀ b ∈ fp, ∃ o, s.heap.get? b = some o ∧ ∀ v, o.data ≠ .cell v) : Inv X (pins ++ pinsAt fp s.heap) σ H s :=
  I.pins_of fun p hp => (List.mem_append.mp hp).elim (fun z => I.pin p (List.mem_append_right _ z)) fun z => by
    obtain ⟨hb, e⟩ := of_pinsAt z; obtain ⟨f0, f1, f2, _⟩ := hf p.1 hb; obtain ⟨o, e', d⟩ := ho p.1 hb; rw [e] at e'; cases e'; exact ⟨e, f0, f1, f2, d⟩
theorem Inv.unpinned {pins pl : Pins} {σ : St} {H : Hp} {s : Shared} (I : Inv X (pins ++ pl) σ H s) : Inv X pins σ H s := I.pins_of fun p hp => I.pin p (List.mem_append_right _ (List.mem_append_left _ hp))
theorem ps_for {iter : Expr} {body : List Stmt} {wi : TI} {g : TG} {tb : TS} {pos : Pos} (hp : PassesOwn (model X.prog X.w) X.A X.env X.xe) (hc : X.calm = true) (hi : PI X tg iter wi) (hg : PG X tg g) (hb : PSs X body tb)
    (hs : ∀ x, foldedSetIterable iter X.env x = pure x := by intro _; rfl) : PS X (.For tg iter body [] pos) (tFor wi g tb) := by
  intro pins s σ H D I h; refine wpAny_For (thn (hi pins s σ H _ I h) fun v s1 h1 => thn h1 fun itv s2 h2 => ?_) hs
  obtain ⟨it, fp, tn, J, H2, e, I2, T, st2, f2, W, ⟨m0, w0⟩, turn⟩ := h2; subst e; have stat : ∀ {H' : Hp}, (∀ b ∈ fp, H' b = none) → ∀ b ∈ fp, FpOk X pins H' b := fun hn b hb => ⟨hn b hb, (f2 b hb).2⟩
  refine codeAny_forLoop_any (FLoop X pins fp tn W) ?_ m0 ⟨0, σ, H2, I2, st2, fun b hb => (f2 b hb).1, w0⟩
  rintro n s3 ⟨i, σ3, H3, I3, st3, fr3, w3⟩
  rcases turn i n σ3 H3 w3 with ⟨stop, qn⟩ | ⟨go, N, hN, step⟩
  · refine wpAny_passesOwn hp (thn (T.done X rfl rfl rfl hc i pins s3 σ3 H3 X.xe I3 (stat fr3) st3 stop) fun r s4 hz14 => ?_)
    obtain ⟨hr, I4⟩ := hz14; subst hr; exact wpAny_execs_nil ⟨σ3, H3, I4, qn⟩
  · refine wpAny_passesOwn hp (thn (T.item X rfl rfl rfl hc i pins s3 σ3 H3 X.xe I3 (stat fr3) st3 go) fun r s4 hz15 => ?_)
    obtain ⟨u, hr, h4⟩ := hz15; subst hr; refine wpAny_passesOwn hp (thn h4 fun _ s5 hz16 => ?_)
    obtain ⟨x, H5, I5, r5, y5, st5, fr5⟩ := hz16; have I5' := I5.pinned (stat fr5) (T.obj _ _ st5); refine wpAny_passesOwn hp (thn (hg _ s5 σ3 H5 x u _ I5' r5 (step x H5 y5)) fun _ s6 hz17 => ?_)
    obtain ⟨σ6, H6, I6, q6⟩ := hz17; refine wpAny_passesOwn hp (thn (hb _ s6 σ6 H6 _ I6 q6) fun f s7 q7 => ?_)
    have again : ∀ {σ7 : St} {H7 : Hp}, Inv X (pins ++ pinsAt fp s5.heap) σ7 H7 s7 → N σ7 H7 → ∃ m, m < n ∧ FLoop X pins fp tn W m s7 := fun {σ7 H7} I7 n7 => by
      obtain ⟨m', hm, w7⟩ := hN σ7 H7 n7; refine ⟨m', hm, i + 1, σ7, H7, I7.unpinned, T.keep _ _ _ st5 fun b hb o e => (I7.pin (b, o) (List.mem_append_right _ (List.mem_append_right _ (mem_pinsAt hb e)))).1, fun b hb => ?_, w7⟩
      obtain ⟨o, e, d⟩ := T.obj _ _ st5 b hb; exact (I7.pin (b, o) (List.mem_append_right _ (List.mem_append_right _ (mem_pinsAt hb e)))).2.1
    cases f with
    | next => obtain ⟨σ7, H7, I7, n7⟩ := q7; exact again I7 n7
    | cont => obtain ⟨σ7, H7, I7, n7⟩ := q7; exact again I7 n7
    | brk => obtain ⟨σ7, H7, I7, q7⟩ := q7; exact ⟨σ7, H7, I7.unpinned, q7⟩
    | ret v => obtain ⟨x7, σ7, H7, I7, r7, q7⟩ := q7; exact ⟨x7, σ7, H7, I7.unpinned, r7, q7⟩
end
end L2
namespace L2
open PySem PySem.Spec PyProof.Rows
abbrev R2 := V → V → Hp → VK → Prop
def OpR (X : Cx) (f : Value → Value → Sem Value) (r : R2) : Prop :=
  ∀ (pins : Pins) (s : Shared) (σ : St) (H : Hp) (x y : V) (v u : Value) (Q : VK), Inv X pins σ H s → RelV x v → RelV y u → r x y H Q →
    wpAny (model X.prog X.w) X.A (f v u) (EP X pins σ Q) X.xe s
def CallR (X : Cx) (f : Value) (r : List V → Hp → VK → Prop) : Prop :=
  ∀ (pins : Pins) (s : Shared) (σ : St) (H : Hp) (xs : List V) (us : List Value) (Q : VK), Inv X pins σ H s → Vals xs us → r xs H Q →
    wpAny (model X.prog X.w) X.A (call f us) (EP X pins σ Q) X.xe s
def TruR (X : Cx) (r : V → Hp → (Bool → Hp → Prop) → Prop) : Prop :=
  ∀ (pins : Pins) (s : Shared) (σ : St) (H : Hp) (x : V) (v : Value) (Q : Bool → Hp → Prop), Inv X pins σ H s → RelV x v → r x H Q →
    wpAny (model X.prog X.w) X.A (truthy v) (TP X pins σ Q) X.xe s
def tOp (r : R2) (ta tb : TE) : TE := fun σ H Q => ta σ H fun x H1 => tb σ H1 fun y H2 => r x y H2 Q
def rI (C : Int → Int → Prop) (g : Int → Int → V) : R2 := fun x y H Q => ∃ i j, x = .int i ∧ y = .int j ∧ C i j ∧ Q (g i j) H
def rI0 (g : Int → Int → V) : R2 := fun x y H Q => ∃ i j, x = .int i ∧ y = .int j ∧ Q (g i j) H
section
variable {X : Cx} {a b c : Expr} {ta tb tc : TE} {pos : Pos}
theorem binT (ha : PE X a ta) (hb : PE X b tb) {pins : Pins} {s : Shared} {σ : St} {H : Hp} {R : V → V → Hp → Prop} (I : Inv X pins σ H s)
    (h : ta σ H fun x H1 => tb σ H1 fun y H2 => R x y H2) {Q : VSP} {f : Value → Value → Sem Value}
    (hf : ∀ v u s2 x y H2, Inv X pins σ H2 s2 → RelV x v → RelV y u → R x y H2 → wpAny (model X.prog X.w) X.A (f v u) Q X.xe s2) :
    wpAny (model X.prog X.w) X.A (eval a X.env) (fun v s₁ => wpAny (model X.prog X.w) X.A (eval b X.env) (fun u s₂ => wpAny (model X.prog X.w) X.A (f v u) Q X.xe s₂) X.xe s₁) X.xe s := by
  refine thn (ha pins s σ H _ I h) fun v s1 hz18 => ?_
  obtain ⟨x, H1, I1, r1, q1⟩ := hz18; refine thn (hb pins s1 σ H1 _ I1 q1) fun u s2 hz19 => ?_
  obtain ⟨y, H2, I2, r2, q2⟩ := hz19; exact hf v u s2 x y H2 I2 r1 r2 q2
theorem pe_op {op : Operator} {r : R2} (ho : OpR X (binaryOp op) r) (ha : PE X a ta) (hb : PE X b tb) : PE X (.BinOp a op b pos) (tOp r ta tb) := by
  intro pins s σ H Q I h; exact wpAny_BinOp (binT ha hb I h fun v u s2 x y H2 I2 rx ry q => ho pins s2 σ H2 x y v u Q I2 rx ry q)
theorem opI {f : Value → Value → Sem Value} {C : Int → Int → Prop} {g : Int → Int → Int}
    (rule : ∀ (i j : Int) (t u : Tok) (s : Shared) (Q : VSP) (E : VSP), C i j → Q (.int (g i j) s.toks) { s with toks := s.toks + 1 } → wpAny (model X.prog X.w) X.A (f (.int i t) (.int j u)) Q E s) :
    OpR X f (rI C fun i j => .int (g i j)) := by
  intro pins s σ H x y v u Q I rx ry h; obtain ⟨i, j, rfl, rfl, hc, q⟩ := h; obtain ⟨t, rfl⟩ := rx; obtain ⟨t', rfl⟩ := ry; exact rule i j t t' s _ _ hc ⟨.int (g i j), H, I.tok _, ⟨_, rfl⟩, q⟩
theorem opI0 {f : Value → Value → Sem Value} {g : Int → Int → Int}
    (rule : ∀ (i j : Int) (t u : Tok) (s : Shared) (Q : VSP) (E : VSP), Q (.int (g i j) s.toks) { s with toks := s.toks + 1 } → wpAny (model X.prog X.w) X.A (f (.int i t) (.int j u)) Q E s) :
    OpR X f (rI0 fun i j => .int (g i j)) := by
  intro pins s σ H x y v u Q I rx ry h; obtain ⟨i, j, rfl, rfl, q⟩ := h; obtain ⟨t, rfl⟩ := rx; obtain ⟨t', rfl⟩ := ry; exact rule i j t t' s _ _ ⟨.int (g i j), H, I.tok _, ⟨_, rfl⟩, q⟩
theorem opB0 {f : Value → Value → Sem Value} {g : Int → Int → Bool}
    (rule : ∀ (i j : Int) (t u : Tok) (s : Shared) (Q : VSP) (E : VSP), Q (.bool (g i j)) s → wpAny (model X.prog X.w) X.A (f (.int i t) (.int j u)) Q E s) :
    OpR X f (rI0 fun i j => .bl (g i j)) := by
  intro pins s σ H x y v u Q I rx ry h; obtain ⟨i, j, rfl, rfl, q⟩ := h; obtain ⟨t, rfl⟩ := rx; obtain ⟨t', rfl⟩ := ry; exact rule i j t t' s _ _ ⟨.bl (g i j), H, I, rfl, q⟩
def CDiv (i j : Int) : Prop := 0 < j ∧ j < 1073741824
def CMul (i j : Int) : Prop := (-(2 ^ 64) < i ∧ i < 2 ^ 64) ∨ (-(2 ^ 64) < j ∧ j < 2 ^ 64)
theorem CMul.ok {i j : Int} (h : CMul i j) : IntMulOk i j := by
  rcases h with ⟨h1, h2⟩ | ⟨h1, h2⟩
  · exact .of_left (intBits_le_64 h1 h2)
  · exact .of_right (intBits_le_64 h1 h2)
theorem op_add : OpR X (binaryOp .Add) (rI0 fun i j => .int (i + j)) := opI0 fun _ _ _ _ _ _ _ q => add_int q
theorem op_sub : OpR X (binaryOp .Sub) (rI0 fun i j => .int (i - j)) := opI0 fun _ _ _ _ _ _ _ q => sub_int q
theorem op_mul : OpR X (binaryOp .Mult) (rI CMul fun i j => .int (i * j)) := opI fun _ _ _ _ _ _ _ hc q => mul_int q hc.ok
theorem op_fdiv : OpR X (binaryOp .FloorDiv) (rI CDiv fun i j => .int (i / j)) := opI fun i j _ _ _ _ _ hc q => by
  have h1 : (0 : Int) < j := hc.1; have h2 : j < 1073741824 := hc.2; exact floordiv_int (by fail"o") (by rw [Int.fdiv_eq_ediv_of_nonneg i (by fail"o")]; exact q) (.inl (PyProof.noPylong_small (by fail"o")))
theorem op_mod : OpR X (binaryOp .Mod) (rI (fun _ j => 0 < j) fun i j => .int (i % j)) := opI fun i j _ _ _ _ _ hc q => by
  have h1 : (0 : Int) < j := hc; exact mod_int' (by fail"o") (by rw [Int.fmod_eq_emod_of_nonneg i (by fail"o")]; exact q)
end
def scal : V → V → Bool
  | .non, .non => true | .non, .int _ => true | .int _, .non => true | .non, .bl _ => true | .bl _, .non => true | .non, .str _ => true | .str _, .non => true
  | .int _, .int _ => true | .bl _, .bl _ => true | .str _, .str _ => true | .byt _, .byt _ => true
  | .int _, .str _ => true | .str _, .int _ => true | .bl _, .str _ => true | .str _, .bl _ => true
  | _, _ => false
def rEq : R2 := fun x y H Q => scal x y = true ∧ Q (.bl (decide (x = y))) H
theorem dec_int {i j : Int} : decide (V.int i = V.int j) = (i == j) := by
  rw [Bool.eq_iff_iff]; simp
theorem dec_bl {i j : Bool} : decide (V.bl i = V.bl j) = (i == j) := by
  rw [Bool.eq_iff_iff]; simp
theorem dec_str {i j : Str} : decide (V.str i = V.str j) = (i == j) := by
  rw [Bool.eq_iff_iff]; simp
theorem dec_byt {i j : Array UInt8} : decide (V.byt i = V.byt j) = (i.toList == j.toList) := by
  rw [Bool.eq_iff_iff]; cases i; cases j; simp
section
variable {X : Cx} {a b c : Expr} {ta tb tc : TE} {pos : Pos}
theorem fin_bl {pins : Pins} {σ : St} {H : Hp} {s : Shared} {Q : VK} {k k' : Bool} (I : Inv X pins σ H s) (q : Q (.bl k) H) (e : k = k') : EP X pins σ Q (.bool k') s := by
  subst e; exact ⟨.bl k, H, I, rfl, q⟩
theorem op_eq : OpR X (compareOp .Eq) rEq := by
  intro pins s σ H x y v u Q I rx ry h; obtain ⟨hs, q⟩ := h
  cases x with
  | non =>
    cases rx
    cases y with
    | non => cases ry; exact PySem.EqNone.eq_none_none (fin_bl I q (by simp))
    | bl j => cases ry; exact PySem.EqNone.eq_none_bool (fin_bl I q (by simp))
    | int j => obtain ⟨t', rfl⟩ := ry; exact PySem.EqNone.eq_none_int (fin_bl I q (by simp))
    | str j => obtain ⟨t', rfl⟩ := ry; exact PySem.EqNone.eq_none_str (fin_bl I q (by simp))
    | _ => exact absurd (show false = true from hs) Bool.false_ne_true
  | bl i =>
    cases rx
    cases y with
    | non => cases ry; exact PySem.EqNone.eq_bool_none (fin_bl I q (by simp))
    | bl j => cases ry; exact eq_bool (fin_bl I q dec_bl)
    | str j => obtain ⟨t', rfl⟩ := ry; exact PySem.EqMixed.eq_bool_str (fin_bl I q (by simp))
    | _ => exact absurd (show false = true from hs) Bool.false_ne_true
  | int i =>
    obtain ⟨t, rfl⟩ := rx
    cases y with
    | non => cases ry; exact PySem.EqNone.eq_int_none (fin_bl I q (by simp))
    | int j => obtain ⟨t', rfl⟩ := ry; exact eq_int (fin_bl I q dec_int)
    | str j => obtain ⟨t', rfl⟩ := ry; exact PySem.EqMixed.eq_int_str (fin_bl I q (by simp))
    | _ => exact absurd (show false = true from hs) Bool.false_ne_true
  | str i =>
    obtain ⟨t, rfl⟩ := rx
    cases y with
    | non => cases ry; exact PySem.EqNone.eq_str_none (fin_bl I q (by simp))
    | bl j => cases ry; exact PySem.EqMixed.eq_str_bool (fin_bl I q (by simp))
    | int j => obtain ⟨t', rfl⟩ := ry; exact PySem.EqMixed.eq_str_int (fin_bl I q (by simp))
    | str j => obtain ⟨t', rfl⟩ := ry; exact eq_str (fin_bl I q dec_str)
    | _ => exact absurd (show false = true from hs) Bool.false_ne_true
  | byt i =>
    obtain ⟨t, rfl⟩ := rx
    cases y with
    | byt j => obtain ⟨t', rfl⟩ := ry; exact PySem.W.eq_bytes (fin_bl I q dec_byt)
    | _ => exact absurd (show false = true from hs) Bool.false_ne_true
  | _ => cases y <;> exact absurd (show false = true from hs) Bool.false_ne_true
theorem op_lt : OpR X (compareOp .Lt) (rI0 fun i j => .bl (decide (i < j))) := opB0 fun _ _ _ _ _ _ _ q => lt_int q
theorem op_le : OpR X (compareOp .LtE) (rI0 fun i j => .bl (decide (i ≤ j))) := opB0 fun _ _ _ _ _ _ _ q => le_int q
theorem op_gt : OpR X (compareOp .Gt) (rI0 fun i j => .bl (decide (j < i))) := opB0 fun _ _ _ _ _ _ _ q => gt_int q
theorem op_ge : OpR X (compareOp .GtE) (rI0 fun i j => .bl (decide (j ≤ i))) := opB0 fun _ _ _ _ _ _ _ q => ge_int q
theorem op_isN : OpR X (compareOp .Is) (fun x y H Q => y = .non ∧ Q (.bl (decide (x = .non))) H) := by
  intro pins s σ H x y v u Q I rx ry h; obtain ⟨rfl, q⟩ := h; cases ry; refine is_none_gen (fin_bl I q ?_)
  cases x <;> first
    | (cases rx; rfl)
    | (obtain ⟨t, rfl⟩ := rx; rfl)
theorem nomark (b : Expr) {op : CmpOp} (h : op ≠ .In := by decide) (h2 : op ≠ .NotIn := by decide) : behindInMarks op b = false := by
  have e1 : (op == CmpOp.In) = false := by cases op <;> first | rfl | exact absurd rfl h
  have e2 : (op == CmpOp.NotIn) = false := by cases op <;> first | rfl | exact absurd rfl h2
  have e : (op == CmpOp.In || op == CmpOp.NotIn) = false := by rw [e1, e2]; rfl
  cases b with
  | Set elts k pos => show (k == 0 && (op == CmpOp.In || op == CmpOp.NotIn) && elts.all (constantsAlone 8)) = false; rw [e, Bool.and_false]; rfl
  | _ => rfl
theorem pe_cmpR {op : CmpOp} {r : R2} (ho : OpR X (compareOp op) r) (ha : PE X a ta) (hb : PE X b tb) (hm : behindInMarks op b = false) : PE X (.Compare a [op] [b] pos) (tOp r ta tb) := by
  intro pins s σ H Q I h; exact wpAny_Compare1 (binT ha hb I h fun v u s2 x y H2 I2 rx ry q => ho pins s2 σ H2 x y v u Q I2 rx ry q) hm
def tTest (t : TE) : TT := fun σ H Q => t σ H fun x H' => ∃ k, x = .bl k ∧ Q k H'
theorem pt_cmpR {op : CmpOp} {r : R2} (ho : OpR X (compareOp op) r) (ha : PE X a ta) (hb : PE X b tb) (hm : behindInMarks op b = false) : PT X (.Compare a [op] [b] pos) (tTest (tOp r ta tb)) := by
  intro pins s σ H Q I h
  refine wpAny_isTrue_Compare1 (thn (ha pins s σ H _ I h) fun v s1 ⟨x, H1, I1, r1, q1⟩ => thn (hb pins s1 σ H1 _ I1 q1) fun u s2 ⟨y, H2, I2, r2, q2⟩ =>
    thn (ho pins s2 σ H2 x y v u _ I2 r1 r2 q2) fun c s3 ⟨z, H3, I3, r3, k, e, q3⟩ => ?_) hm
  subst e; cases r3; exact wpAny_truthy_bool ⟨H3, I3, q3⟩
def tChain (r r' : R2) (ta tb tc : TE) : TE := fun σ H Q => ta σ H fun x H1 => tb σ H1 fun y H2 => r x y H2 fun z H3 => ∃ k, z = .bl k ∧
  (if k = true then tc σ H3 fun w' H4 => r' y w' H4 Q else Q (.bl false) H3)
theorem pt_chain {op op' : CmpOp} {r r' : R2} (ho : OpR X (compareOp op) r) (ho' : OpR X (compareOp op') r') (ha : PE X a ta) (hb : PE X b tb) (hc : PE X c tc)
    (hm : lastMarks [op, op'] [b, c] = false := by with_unfolding_all rfl) : PT X (.Compare a [op, op'] [b, c] pos) (tTest (tChain r r' ta tb tc)) := by
  intro pins s σ H Q I h
  refine isTrue_chain (thn (ha pins s σ H _ I h) fun v s1 ⟨x, H1, I1, r1, q1⟩ => test_link (thn (hb pins s1 σ H1 _ I1 q1) fun u s2 ⟨y, H2, I2, r2, q2⟩ =>
    thn (ho pins s2 σ H2 x y v u _ I2 r1 r2 q2) fun d s3 ⟨z, H3, I3, r3, k, e, q3⟩ => ?_)) hm
  subst e; cases r3; refine wpAny_truthy_bool ?_
  cases k with
  | false =>
    obtain ⟨k', e', q'⟩ := q3; cases e'; exact ite_ff ⟨H3, I3, q'⟩
  | true =>
    refine ite_tt (test_last (thn (hc pins s3 σ H3 _ I3 q3) fun w' s4 ⟨z', H4, I4, r4, q4⟩ => thn (ho' pins s4 σ H4 y z' u w' _ I4 r2 r4 q4) fun d' s5 hz20 => ?_))
    obtain ⟨z2, H5, I5, r5, k2, e2, q5⟩ := hz20; subst e2; cases r5; exact wpAny_truthy_bool ⟨H5, I5, q5⟩
def TruV (K : PySem.W.Frag) (x : V) (H : Hp) (k : Bool) : Prop :=
  match x with
  | .non => k = false
  | .bl b => k = b
  | .int i => k = (i != 0)
  | .str y => y.length ≤ sizeLine ∧ k = ((y.length : Int) != 0)
  | .byt y => y.size ≤ sizeLine ∧ k = ((y.size : Int) != 0)
  | .ref p => (∃ xs, SqL K H p xs ∧ k = !xs.isEmpty) ∨ (∃ xs, SqT K H p xs ∧ k = !xs.isEmpty) ∨ ∃ kvs, H p = some (.dK kvs) ∧ k = !kvs.isEmpty
  | _ => False
theorem isEmpty_kv {κ : Type} {kvs : List (κ × V)} {vs : List (κ × Value)} (r : KV kvs vs) : (!vs.isEmpty) = !kvs.isEmpty := by
  cases r <;> rfl
theorem isEmpty_of {xs : List V} {its : List Value} (r : Vals xs its) : (!its.toArray.isEmpty) = !xs.isEmpty := by
  cases r <;> simp
theorem line63 : (sizeLine : Nat) < 2 ^ 63 := by rw [sizeLine_eq]; decide
theorem tru_ok : TruR X (fun x H Q => ∃ k, TruV X.K x H k ∧ Q k H) := by
  intro pins s σ H x v Q I rx h; obtain ⟨k, e, q⟩ := h; have hl := line63; have hs : sizeLine = 16777216 := sizeLine_eq
  cases x with
  | non =>
    cases rx; have e' : k = false := e; subst e'; exact truthy_none ⟨H, I, q⟩
  | bl b =>
    cases rx; have e' : k = b := e; subst e'; exact wpAny_truthy_bool ⟨H, I, q⟩
  | int i =>
    obtain ⟨t, rfl⟩ := rx; have e' : k = (i != 0) := e; subst e'; exact PySem.P.truthy_int ⟨H, I, q⟩
  | str y =>
    obtain ⟨t, rfl⟩ := rx; obtain ⟨hy, e'⟩ : y.length ≤ sizeLine ∧ k = ((y.length : Int) != 0) := e; subst e'; exact PySem.P.truthy_str (by fail"o") ⟨H, I.tok _, q⟩
  | byt y =>
    obtain ⟨t, rfl⟩ := rx; obtain ⟨hy, e'⟩ : y.size ≤ sizeLine ∧ k = ((y.size : Int) != 0) := e; subst e'; exact PySem.W.truthy_bytes (by fail"o") ⟨H, I.tok _, q⟩
  | ref p =>
    cases rx; have e' : (∃ xs, SqL X.K H p xs ∧ k = !xs.isEmpty) ∨ (∃ xs, SqT X.K H p xs ∧ k = !xs.isEmpty) ∨ ∃ kvs, H p = some (.dK kvs) ∧ k = !kvs.isEmpty := e
    rcases e' with ⟨xs, hx, e'⟩ | ⟨xs, hx, e'⟩ | ⟨kvs, hx, e'⟩
    · subst e'
      obtain ⟨its, r, pl, hz⟩ := I.list hx; have hlen := r.length; exact wpAny_truthy_list pl.isList (by simp only [List.size_toArray]; fail"o") ⟨H, I.tok _, by rw [isEmpty_of r]; exact q⟩
    · subst e'
      obtain ⟨its, r, pl, hz⟩ := I.tuple hx; have hlen := r.length; exact truthy_tuple pl (by simp only [List.size_toArray]; fail"o") ⟨H, I.tok _, by rw [isEmpty_of r]; exact q⟩
    · subst e'
      obtain ⟨hz, hS, vs, r, m⟩ : kvs.length ≤ sizeLine ∧ (p == sysModules) = false ∧ ∃ vs, KV kvs vs ∧ s.heap.DictOf (mixKind X.prog X.w) p vs := I.hok p _ hx
      have hlen : kvs.length = vs.length := Paired.length r; exact wpAny_truthy_dict hS m (by fail"o") ⟨H, I.tok _, by rw [isEmpty_kv r]; exact q⟩
  | _ => exact (show False from e).elim
theorem pt_truth (ha : PE X a ta) (he : ∀ whole, isTrue a X.env whole = (do let v ← whole; standAt a.pos; holding [v] (truthy v))) :
    PT X a (fun σ H Q => ta σ H fun x H' => ∃ k, TruV X.K x H' k ∧ Q k H') := by
  intro pins s σ H Q I h; exact isTrue_plain (thn (ha pins s σ H _ I h) fun v s1 ⟨x, H1, I1, r1, q1⟩ => tru_ok pins s1 σ H1 x v Q I1 r1 q1) (he _)
theorem vals1 {x : V} {us : List Value} (r : Vals [x] us) : ∃ u, us = [u] ∧ RelV x u := by
  cases r with
  | cons r1 r2 => cases r2; exact ⟨_, rfl, r1⟩
theorem vals2 {x y : V} {us : List Value} (r : Vals [x, y] us) : ∃ u w', us = [u, w'] ∧ RelV x u ∧ RelV y w' := by
  cases r with
  | cons r1 r2 =>
    cases r2 with
    | cons r3 r4 => cases r4; exact ⟨_, _, rfl, r1, r3⟩
end
end L2
namespace L2
open PySem PySem.Spec PyProof.Rows
structure ObjM (h : Heap) (x dx C : Addr) (mA : MgT) : Prop where
  obj : h.get? x = some (PySem.W.instObj C dx)
  ns : h.Ns1 dx mA
  ne : dx ≠ x
theorem lookIn_ns {h : Heap} {dx : Addr} {mA : MgT} (n : h.Ns1 dx mA) : ∃ od, h.get? dx = some od ∧ ∀ name, PySem.W.lookIn name od = some (mA name) := by
  obtain ⟨o, es, ep, ho, hd, hk, _, hm⟩ := n; refine ⟨o, ho, fun name => ?_⟩
  have e := hm name; unfold nsFind findBy at e; rw [← Array.find?_toList] at e
  unfold PySem.W.lookIn; rw [hd]; dsimp only
  split
  · rename_i y q
    rw [q] at e; exact congrArg some e
  · rename_i q
    rw [q] at e
    have a : es.toList.any (·.refKey) = false := by
      rw [List.any_eq_false]; intro y hy; obtain ⟨z, t, hkey⟩ := hk y (Array.mem_toList_iff.mp hy); simp [DictEntry.refKey, hkey]
    have a' : ¬ es.toList.any (·.refKey) = true := by rw [a]; exact Bool.false_ne_true
    rw [if_neg a']; exact congrArg some e
theorem ObjM.look {h : Heap} {x dx C : Addr} {mA : MgT} (I : ObjM h x dx C mA) : ∃ od, PySem.W.InstAt h x (PySem.W.instObj C dx) C (some od) ∧ ∀ name, PySem.W.lookIn name od = some (mA name) :=
  let ⟨od, ho, hl⟩ := lookIn_ns I.ns
  ⟨od, ⟨I.obj, rfl, rfl, ho⟩, hl⟩
section
variable {prog : Program} {w : World} {A : Around} {E : VSP} {s : Shared} {K : PySem.W.Frag} {x dx C f : Addr} {mA : MgT} {name : Str} {v : Value}
end
section
variable {P : Program} {w : World} {H H' : Hp} {h h' : Heap} {a C dx : Addr} {fs fs' : List (Str × V)}
theorem ins_get (hok : HOk P w H h) (e : H a = some (.ins C dx fs)) : ∃ mA, ObjM h a dx C mA ∧ (∀ f, RelO (fs.lookup f) (mA f)) ∧ PySem.Within mA (fs.map (·.1)) ∧ fs.length ≤ 1000 ∧ H dx = some (.own a) := by
  obtain ⟨d, z, ne, ob, mA, n, r, q⟩ := (show ObjOk P w H h a (.ins C dx fs) from hok a _ e)
  exact ⟨mA, ⟨ob, n, ne⟩, r, q, z, d⟩
end
structure Cls (K : PySem.W.Frag) (C : Addr) : Prop where
  pg : PySem.W.plainGet K C Str.empty = true
  hd : PySem.W.hasDictIn K C = true
  po : PySem.W.plainOver K C = true
  sa : PySem.W.findIn K (.ref C) "__setattr__" = some (some (.builtin "object.__setattr__"))
theorem Cls.get {K : PySem.W.Frag} {C : Addr} (c : Cls K C) (f : Str) : PySem.W.plainGet K C f = true := c.pg
section
variable {X : Cx} {pins : Pins} {σ : St} {H : Hp} {s : Shared} {a C dx : Addr} {fs : List (Str × V)} {f : Str} {v : V} {A : Around} {E : VSP}
end
section
variable {X : Cx} {o e value : Expr} {f : Str} {pos pos' tpos : Pos} {ta tv : TE}
end
section
variable {X : Cx} {pins : Pins} {σ : St} {H : Hp} {s : Shared} {A : Around} {E : VSP} {Q : VSP} {c : Value} {b : Bool}
inductive TyOf (K : PySem.W.Frag) (H : Hp) : V → Value → Prop where
  | non : TyOf K H .non (.type "NoneType")
  | bl (x : Bool) : TyOf K H (.bl x) (.type "bool")
  | int (i : Int) : TyOf K H (.int i) (.type "int")
  | str (x : Str) : TyOf K H (.str x) (.type "str")
  | flt (x : UInt64) : TyOf K H (.flt x) (.type "float")
  | lst {a : Addr} {xs : List V} (e : H a = some (.lst xs)) : TyOf K H (.ref a) (.type "list")
  | frz {a : Addr} {o : Obj} {xs : List V} (e : H a = some (.frz o (.lst xs))) : TyOf K H (.ref a) (.type "list")
  | tup {a : Addr} {xs : List V} (e : H a = some (.tup xs)) : TyOf K H (.ref a) (.type "tuple")
  | dK {a : Addr} {kvs : List (Key × V)} (e : H a = some (.dK kvs)) : TyOf K H (.ref a) (.type "dict")
  | dT {a : Addr} {kvs : List (List Key × V)} (e : H a = some (.dT kvs)) : TyOf K H (.ref a) (.type "dict")
  | ins {a C dx : Addr} {fs : List (Str × V)} (e : H a = some (.ins C dx fs)) (cl : Cls K C) (ha : PySem.W.findIn K (.ref C) "__class__" = some (some (.builtin "object.__class__")))
      (hn : PySem.W.specialIn K (.builtin "object.__class__") "__get__" = some (some (.builtin "getset_descriptor.__get__"))) (htk : PySem.W.takesIn K (.builtin "object.__class__") = some true)
      (hm : PySem.W.mroIn K C (.type "object") = some true) : TyOf K H (.ref a) (.ref C)
theorem isinst_ok {x : V} {u t : Value} (I : Inv X pins σ H s) (rx : RelV x u) (ty : TyOf X.K H x t) (e : PySem.W.kitOne X.K t c = some b) (h : ∀ tk, Q (.bool b) { s with toks := tk }) :
    wpAny (model X.prog X.w) A (call (.builtin "isinstance") [u, c]) Q E s := by
  cases ty with
  | non => cases (show u = Value.none from rx); exact PySem.W.kia_one PySem.W.kitx_none I.kIn True.intro e (fun z => nomatch z) h
  | bl y => cases (show u = Value.bool y from rx); exact PySem.W.kia_one PySem.W.kitx_bool I.kIn True.intro e (fun z => nomatch z) h
  | int i => obtain ⟨t, q⟩ := (show ∃ t, u = Value.int i t from rx); cases q; exact PySem.W.kia_one PySem.W.kitx_int I.kIn True.intro e (fun z => nomatch z) h
  | str y => obtain ⟨t, q⟩ := (show ∃ t, u = Value.str y t from rx); cases q; exact PySem.W.kia_one PySem.W.kitx_str I.kIn True.intro e (fun z => nomatch z) h
  | flt y => obtain ⟨t, q⟩ := (show ∃ t, u = Value.float y t from rx); cases q; exact PySem.W.kia_one PySem.W.kitx_float I.kIn True.intro e (fun z => nomatch z) h
  | @lst a xs ea =>
    cases (show u = Value.ref a from rx)
    obtain ⟨_, _, n, _, h1⟩ := (show ObjOk X.prog X.w H s.heap a (.lst xs) from I.hok a _ ea)
    exact PySem.W.kia_one PySem.W.kitx_list I.kIn ⟨_, h1, rfl⟩ e (fun z => nomatch z) h
  | @frz a ob xs ea =>
    cases (show u = Value.ref a from rx)
    obtain ⟨_, _, _, n, _, h1⟩ := (show ObjOk X.prog X.w H s.heap a (.frz ob (.lst xs)) from I.hok a _ ea)
    exact PySem.W.kia_one PySem.W.kitx_list I.kIn ⟨_, h1, rfl⟩ e (fun z => nomatch z) h
  | @tup a xs ea =>
    cases (show u = Value.ref a from rx)
    obtain ⟨_, _, _, p⟩ := (show ObjOk X.prog X.w H s.heap a (.tup xs) from I.hok a _ ea)
    obtain ⟨o, h1, h2, _⟩ := p; exact PySem.W.kia_one PySem.W.kitx_tuple I.kIn ⟨o, h1, h2⟩ e (fun z => nomatch z) h
  | @dK a kvs ea =>
    cases (show u = Value.ref a from rx)
    obtain ⟨_, _, vs, _, p⟩ := (show ObjOk X.prog X.w H s.heap a (.dK kvs) from I.hok a _ ea)
    obtain ⟨o, es, ep, h1, h2, _⟩ := p; exact PySem.W.kia_one PySem.W.kitx_dict I.kIn ⟨o, h1, h2.1⟩ e (fun z => nomatch z) h
  | @dT a kvs ea =>
    cases (show u = Value.ref a from rx)
    obtain ⟨_, _, xs, _, o, es, ep, h1, h2, _⟩ := (show ObjOk X.prog X.w H s.heap a (.dT kvs) from I.hok a _ ea)
    exact PySem.W.kia_one PySem.W.kitx_dict I.kIn ⟨o, h1, h2.1⟩ e (fun z => nomatch z) h
  | @ins a C dx fs ea cl ha hn htk hm =>
    cases (show u = Value.ref a from rx)
    obtain ⟨mA, O, _⟩ := ins_get I.hok ea; obtain ⟨od, J, _⟩ := O.look; exact PySem.W.kia_one (PySem.W.kitx_own (cl.get _) cl.hd ha hn htk hm) I.kIn J e (fun z => nomatch z) h
end
end L2
namespace L2
open PySem PySem.Spec PyProof.Rows
structure Room (k : Nat) (A : Around) : Prop where
  hd : A.handled = none
  dp : A.depth + 3 * k + 5 < recursionLimit
  un : A.units + 16 * k + 200 < cLine
theorem Room.mono {j k : Nat} {A : Around} (r : Room k A) (h : j ≤ k) : Room j A := ⟨r.hd, by have := r.dp; fail"o", by have := r.un; fail"o"⟩
theorem Room.deeper {k : Nat} {A : Around} (r : Room (k + 1) A) (env : Env) : Room k (A.deeper env) :=
  ⟨r.hd, by have := r.dp; show A.depth + 1 + 3 * k + 5 < _; fail"o", by have := r.un; show A.units + 3 + 16 * k + 200 < _; fail"o"⟩
theorem Room.depth {k : Nat} {A : Around} (r : Room k A) : A.depth < recursionLimit := by have := r.dp; fail"o"
theorem Room.units {k : Nat} {A : Around} (r : Room k A) : A.units + 64 < cLine := by have := r.un; fail"o"
def tNil : TA := fun _ H Q => Q [] H
def tCons (ta : TE) (tr : TA) : TA := fun σ H Q => ta σ H fun x H1 => tr σ H1 fun xs H2 => Q (x :: xs) H2
section
variable {X : Cx} {e : Expr} {es : List Expr} {te : TE} {t : TA} {pos : Pos}
theorem pa_nil : PA X [] tNil := fun _ _ _ _ H Q I h => Calls.spliced_nil ⟨[], H, I, .nil, h⟩
theorem pa_cons (ha : PE X e te) (hr : PA X es t) (hs : starEach (e :: es) X.env = (false, eval e X.env) :: starEach es X.env := by rfl) : PA X (e :: es) (tCons te t) := by
  intro pos pins s σ H Q I h; rw [hs]
  show wpAny _ _ (spliced ((false, eval e X.env) :: backTo pos (starEach es X.env))) _ _ s
  refine Calls.spliced_cons (thn (ha pins s σ H _ I h) fun u s1 hz21 => ?_)
  obtain ⟨x, H1, I1, r1, q1⟩ := hz21; exact thn (hr pos pins s1 σ H1 _ I1 q1) fun us s2 ⟨xs, H2, I2, r2, q2⟩ => ⟨x :: xs, H2, I2, .cons r1 r2, q2⟩
def tTup (t : TA) : TE := fun σ H Q => t σ H fun xs H1 => xs.length ≤ sizeLine ∧ ∀ p, H1 p = none → Q (.ref p) (upd H1 p (.tup xs))
def tLst (t : TA) : TE := fun σ H Q => t σ H fun xs H1 => xs.length ≤ sizeLine ∧ ∀ p, H1 p = none → Q (.ref p) (upd H1 p (.lst xs))
theorem pe_tup {x1} (h : PA X es t) : PE X (.Tuple es x1 pos) (tTup t) := by
  intro pins s σ H Q I hq; refine wpAny_Tuple_spliced (thn (h pos pins s σ H _ I hq) fun us s1 ⟨xs, H1, I1, r, z, q⟩ => ⟨by rw [← r.length]; exact z, ?_⟩)
  have hf : H1 s1.heap.objs.size = none := I1.hok.fresh (Nat.le_refl _); refine ⟨.ref s1.heap.objs.size, upd H1 s1.heap.objs.size (.tup xs), I1.laid (t' := s1.toks) (fun b u e => Heap.get?_push_of_some _ e) (Nat.le_refl _) ?_, rfl, q _ hf⟩
  exact ⟨z, us, r, ⟨_, Heap.get?_push_size _ rfl, rfl, _, rfl⟩⟩
theorem pe_lst (h : PA X es t) : PE X (.List es pos) (tLst t) := by
  intro pins s σ H Q I hq; refine wpAny_List_spliced (thn (h pos pins s σ H _ I hq) fun us s1 ⟨xs, H1, I1, r, z, q⟩ => ⟨by rw [← r.length]; exact z, ?_⟩)
  have hf : H1 s1.heap.objs.size = none := I1.hok.fresh (Nat.le_refl _); refine ⟨.ref s1.heap.objs.size, upd H1 s1.heap.objs.size (.lst xs), I1.laid (t' := s1.toks) (fun b u e => Heap.get?_push_of_some _ e) (Nat.le_refl _) ?_, rfl, q _ hf⟩
  exact ⟨z, us, 0, r, Heap.get?_push_size _ rfl⟩
end
abbrev Sp := List V → Hp → VK → XK → Prop
abbrev CXT := List Env → Hp → Shared → XK → VSP
structure Env0 (P : Program) (w : World) (K : PySem.W.Frag) (mg : MgT) (base : Heap) (A : Around) (outer : List Env) (s : Shared) (H : Hp) : Prop where
  frames : A.frames = some outer
  mod : Mod K mg base
  bs : ∀ b o, base.get? b = some o → s.heap.get? b = some o ∧ H b = none
  bsz : base.objs.size ≤ s.heap.objs.size
  funs : s.heap.FunFrames base outer
  frf : ∀ b ∈ frs outer, H b = none
  hok : HOk P w H s.heap
  bare : AllBare s.gens
inductive CE (outer : List Env) (P : Program) (w : World) (H : Hp) (s : Shared) (Q : VK) (u : Value) (s' : Shared) : Prop
  | mk (v : V) (H' : Hp) (c0 : s'.os = s.os) (c1 : AllBare s'.gens) (c2 : Un (frs outer) [] H H' s.heap s'.heap) (c3 : HOk P w H' s'.heap) (c4 : RelV v u) (c5 : Q v H') : CE outer P w H s Q u s'
def CR (CX : CXT) (outer : List Env) (P : Program) (w : World) (H : Hp) (s : Shared) (Q : VK) (E : XK) (r : Result) (s' : Shared) : Prop :=
  match r with
  | .ok (.ret u) => CE outer P w H s Q u s'
  | .ok _ => False
  | .error e => CX outer H s E e s'
structure FnOk (P : Program) (w : World) (K : PySem.W.Frag) (mg : MgT) (base : Heap) (CX : CXT) (k : Nat) (f : Addr) (fd : FuncData) (ps : List Str) (sp : Sp) : Prop where
  len : ∀ vs H Q E, sp vs H Q E → vs.length = ps.length
  run : ∀ (A : Around) (outer : List Env) (s : Shared) (H : Hp) (args : Args) (us : List Value) (vs : List V) (Q : VK) (E : XK), Room k A → Env0 P w K mg base A outer s H → BindsTo s fd args (ps.zip us) → Vals vs us → sp vs H Q E →
    codeAny (model P w) A (.call (.ref f) args) (CR CX outer P w H s Q E) s
theorem FnOk.mono {P : Program} {w : World} {K : PySem.W.Frag} {mg : MgT} {base : Heap} {CX : CXT} {j k : Nat} {f : Addr} {fd : FuncData} {ps : List Str} {sp : Sp} (F : FnOk P w K mg base CX j f fd ps sp) (h : j ≤ k) :
    FnOk P w K mg base CX k f fd ps sp := ⟨F.len, fun A outer s H args us vs Q E hr => F.run A outer s H args us vs Q E (hr.mono h)⟩
section
variable {X : Cx} {pins : Pins} {σ : St} {H : Hp} {s s' : Shared}
theorem Inv.env0 (I : Inv X pins σ H s) : Env0 X.prog X.w X.K X.mg X.base X.A X.stack s H :=
  ⟨I.ok.frames, I.ok.mod, I.bs, Nat.le_trans I.ok.bsz I.sz, I.stack, I.stkFree, I.hok, I.bare⟩
theorem Inv.after {Q : VK} {u : Value} (I : Inv X pins σ H s) (h : CE X.stack X.prog X.w H s Q u s') : EP X pins σ Q u s' := by
  obtain ⟨v, H', os, bare, un, hok, r, q⟩ := h; obtain ⟨hh, g, d, t, os'⟩ := s'; obtain rfl : os' = s.os := os; exact ⟨v, H', I.call (h' := hh) (g' := g) (d' := d) (t' := t) (ch := []) un hok bare (fun b z => absurd z (by simp)), r, q⟩
end
def tCall (sp : Sp) (dvs : List V) (E : XK) (t : TA) : TE := fun σ H Q => t σ H fun vs H1 => sp (vs ++ dvs) H1 Q E
def Binds (K : PySem.W.Frag) (fd : FuncData) (ps : List Str) (ds : List Value) : Prop :=
  ∀ (s : Shared) (us : List Value), K.In s.heap → (us ++ ds).length = ps.length → BindsTo s fd ⟨us, []⟩ (ps.zip (us ++ ds))
theorem Binds.all {K : PySem.W.Frag} {fd : FuncData} {ps : List Str} (h : ∀ us : List Value, us.length = ps.length → bindArgs fd ⟨us, []⟩ = pure (ps.zip us)) : Binds K fd ps [] := fun s us _ hl => by
  rw [List.append_nil] at hl ⊢; exact .of_eq (h us hl)
def Passes (CX : CXT) (X : Cx) (E : XK) : Prop := ∀ (pins : Pins) (σ : St) (H : Hp) (s : Shared) (e : Value) (s' : Shared), Inv X pins σ H s → CX X.stack H s E e s' → X.xe e s'
section
variable {X : Cx} {CX : CXT} {k : Nat} {f C : Addr} {fd : FuncData} {ps : List Str} {sp : Sp} {dvs : List V} {ds : List Value} {E : XK} {x m : Str} {p pos apos : Pos} {e o : Expr} {es : List Expr} {ta : TE} {t : TA}
theorem run_fn {pins : Pins} {σ : St} {H : Hp} {s : Shared} {Q : VK} {us : List Value} {vs : List V} (F : FnOk X.prog X.w X.K X.mg X.base CX k f fd ps sp) (hr : Room k X.A) (hb : Binds X.K fd ps ds) (hd : Vals dvs ds) (hx : Passes CX X E)
    (I : Inv X pins σ H s) (r : Vals vs us) (h : sp (vs ++ dvs) H Q E) : wpAny (model X.prog X.w) X.A (call (.ref f) us) (EP X pins σ Q) X.xe s := by
  have r2 : Vals (vs ++ dvs) (us ++ ds) := r.append hd; have hl : (us ++ ds).length = ps.length := by rw [← r2.length]; exact F.len _ _ _ _ h
  refine wpAny_call (codeAny_mono (F.run X.A X.stack s H ⟨us, []⟩ (us ++ ds) (vs ++ dvs) Q E hr I.env0 (hb s us I.kIn hl) r2 h) fun r s' hq => ?_)
  cases r with
  | error e => exact hx pins σ H s e s' I hq
  | ok fl =>
    cases fl with
    | ret u => exact I.after hq
    | next => exact False.elim hq
    | brk => exact False.elim hq
    | cont => exact False.elim hq
theorem pe_call (F : FnOk X.prog X.w X.K X.mg X.base CX k f fd ps sp) (hr : Room k X.A) (hg : Gl X x) (hm : X.mg x = some (.ref f)) (hk : PySem.W.keepIn X.K (.ref f) = true) (hb : Binds X.K fd ps ds) (hd : Vals dvs ds) (hx : Passes CX X E)
    (ha : PA X (e :: es) t) (hdb : Dbg x := by decide) (he : starEach (e :: es) X.env = (false, eval e X.env) :: starEach es X.env := by rfl) (hpl : (backTo pos (starEach es X.env)).any (·.1) = false := by rfl) :
    PE X (.Call (.Name x p) (e :: es) [] pos) (tCall sp dvs E t) := by
  intro pins s σ H Q I h; refine wpAny_Call_Name_kw (ld_glob I hg hm ?_ hdb)
  refine PySem.W.callWith_K (h₀ := X.base) I.ok.mod.kin hk (thn (ha pos pins s σ H _ I h) fun us s1 ⟨vs, H1, I1, r, q⟩ => ⟨I1.kIn, ?_⟩) he hpl
  exact run_fn F hr hb hd hx I1 r q
end
section
variable {X : Cx} {CX : CXT} {k : Nat} {f C : Addr} {fd : FuncData} {ps ks : List Str} {sp : Sp} {E : XK} {x m : Str} {p pos apos kpos : Pos} {e o : Expr} {es : List Expr} {kws : List Keyword} {te ta : TE} {t tk : TA} {nm : Option Str}
variable {g : List Value → List Value → List Value} {gV : List V → List V → List V}
end
structure FnScope (N P : List Str) (sc : Scope) : Prop where
  kind : sc.kind = .function
  co : sc.isCoroutine = false
  gen : sc.isGenerator = false
  nd : N.Nodup
  pre : N.take P.length = P
  par : ∀ x ∈ P, sc.names.lookup x = some .local ∨ sc.names.lookup x = some .cell
  nofree : ∀ y ∈ sc.names, y.2 ≠ .free
theorem bindL_out {kindOf : Str → Option NameKind} {x : Str} : ∀ {binds : List (Str × Value)} {m : MgT}, (∀ v, (x, v) ∉ binds) → bindL kindOf binds m x = m x
  | [], _, _ => rfl
  | (n, v) :: r, m, h => by
    unfold bindL; rw [bindL_out fun w hw => h w (List.mem_cons_of_mem _ hw)]
    split
    · have : x ≠ n := by rintro rfl; exact h v List.mem_cons_self
      simp [this]
    · rfl
theorem bindC_out {kindOf : Str → Option NameKind} {x : Str} : ∀ {binds : List (Str × Value)} {m : MgT}, (∀ v, (x, v) ∉ binds) → bindC kindOf binds m x = m x
  | [], _, _ => rfl
  | (n, v) :: r, m, h => by
    unfold bindC; rw [bindC_out fun w hw => h w (List.mem_cons_of_mem _ hw)]
    split
    · rfl
    · have : x ≠ n := by rintro rfl; exact h v List.mem_cons_self
      simp [this]
theorem bindL_get {kindOf : Str → Option NameKind} {x : Str} {v : Value} : ∀ {P : List Str} {vs : List Value} {i : Nat} {m : MgT}, P.Nodup → P[i]? = some x → vs[i]? = some v → kindOf x = some .local →
    bindL kindOf (P.zip vs) m x = some v
  | [], _, _, _, _, h, _, _ => by simp at h
  | _ :: _, [], _, _, _, _, h, _ => by simp at h
  | p :: P, w :: vs, 0, m, nd, h1, h2, hk => by
    simp at h1 h2; subst h1; subst h2
    show bindL kindOf ((p, w) :: P.zip vs) m p = _
    unfold bindL; rw [bindL_out fun v hv => (List.nodup_cons.mp nd).1 (List.of_mem_zip hv).1, if_pos hk]
    simp
  | p :: P, w :: vs, i + 1, m, nd, h1, h2, hk => by
    show bindL kindOf ((p, w) :: P.zip vs) m x = _
    unfold bindL; exact bindL_get (i := i) (List.nodup_cons.mp nd).2 (by simpa using h1) (by simpa using h2) hk
theorem bindC_get {kindOf : Str → Option NameKind} {x : Str} {v : Value} : ∀ {P : List Str} {vs : List Value} {i : Nat} {m : MgT}, P.Nodup → P[i]? = some x → vs[i]? = some v → kindOf x ≠ some .local →
    bindC kindOf (P.zip vs) m x = some v
  | [], _, _, _, _, h, _, _ => by simp at h
  | _ :: _, [], _, _, _, _, h, _ => by simp at h
  | p :: P, w :: vs, 0, m, nd, h1, h2, hk => by
    simp at h1 h2; subst h1; subst h2
    show bindC kindOf ((p, w) :: P.zip vs) m p = _
    unfold bindC; rw [bindC_out fun v hv => (List.nodup_cons.mp nd).1 (List.of_mem_zip hv).1, if_neg hk]
    simp
  | p :: P, w :: vs, i + 1, m, nd, h1, h2, hk => by
    show bindC kindOf ((p, w) :: P.zip vs) m x = _
    unfold bindC; exact bindC_get (i := i) (List.nodup_cons.mp nd).2 (by simpa using h1) (by simpa using h2) hk
def start (N : List Str) (vs : List V) : St := vs.map some ++ List.replicate (N.length - vs.length) none
def cxOf (CX : CXT) (P : Program) (w : World) (K : PySem.W.Frag) (mg : MgT) (base : Heap) (N : List Str) (qual : Str) (scope : Scope) (f : Addr) (cd : Value) (A : Around) (outer : List Env) (s : Shared) (H : Hp) (E : XK) : Cx where
  prog := P
  w := w
  K := K
  mg := mg
  base := base
  A := A.deeper (envOfC qual scope s.heap.objs.size f cd)
  N := N
  s₀ := s
  H₀ := H
  env := envOfC qual scope s.heap.objs.size f cd
  outer := outer
  stack := envOfC qual scope s.heap.objs.size f cd :: outer
  ex := []
  calm := true
  fn := fun _ => true
  pn := []
  xe := fun e s' => wpAny (model P w) (A.deeper (envOfC qual scope s.heap.objs.size f cd)) (leaving (envOfC qual scope s.heap.objs.size f cd) e) (fun _ s'' => CX outer H s E e s'') (fun e' s'' => CX outer H s E e' s'') s'
theorem cell_has {sc : Scope} {n : Nat} {x : Str} (h : sc.names.lookup x = some .cell) : ∃ c, (cellsFrom n sc.names []).lookup x = some c := by
  have q := PySem.W.cellsFrom_some sc.names n [] (.inl h); exact Option.isSome_iff_exists.mp q
theorem inv_start {CX : CXT} {P : Program} {w : World} {K : PySem.W.Frag} {mg : MgT} {base : Heap} {N ps : List Str} {qual : Str} {scope : Scope} {f : Addr} {cd : Value} {A : Around} {outer : List Env} {s s1 : Shared} {H : Hp} {E : XK} {us : List Value} {vs : List V}
    (S : FnScope N ps scope) (hd : A.handled = none) (e0 : Env0 P w K mg base A outer s H) (hl : vs.length = ps.length) (r : Vals vs us)
    (x : InCallC s s.heap.objs.size (bindL (envOfC qual scope s.heap.objs.size f cd).kindOf (ps.zip us) fun _ => none) (cellsFrom (s.heap.objs.size + 1) scope.names []) (bindC (envOfC qual scope s.heap.objs.size f cd).kindOf (ps.zip us) fun _ => none) s1) :
    Inv (cxOf CX P w K mg base N qual scope f cd A outer s H E) [] (start N vs) H s1 := by
  have hpl : ps.length ≤ N.length := by have := congrArg List.length S.pre; rw [List.length_take] at this; fail"o"
  obtain ⟨h1, tk, rfl, hk⟩ := x.done; have noA : ∀ b : Addr, b ∉ (cxOf CX P w K mg base N qual scope f cd A outer s H E).ex := fun b z => absurd (show b ∈ ([] : List Addr) from z) (by simp)
  refine ⟨⟨e0.mod, S.kind, rfl, rfl, Nat.le_refl _, fun y z c h1 h2 => ?_, fun y hy => ?_, fun y c _ h => ?_, fun _ => hd, Around.frames_deeper e0.frames, .inr ⟨rfl, rfl⟩, fun b z => absurd z (noA b), e0.bs, e0.bsz, fun b _ _ => noA b, fun b z => absurd z (noA b), e0.funs, e0.frf⟩,
    rfl, e0.bare, Un.kept hk, ⟨_, x.toInCall.ns, fun i y v h1 h2 h3 => ?_⟩, fun y c h => ⟨_, x.cell y c h⟩, e0.hok.fresh (Nat.le_refl _), fun y c h => ?_, fun p hp => absurd (show p ∈ ([] : Pins) from hp) (by simp), e0.hok.kept hk, ?_⟩
  · exact name_of_addr x.apart (PySem.mem_of_lookup h1) (PySem.mem_of_lookup h2)
  · have hy : scope.names.lookup y = some .cell ∨ scope.names.lookup y = some .free := hy
    rcases hy with hy | hy
    · exact cell_has hy
    · exact absurd rfl (S.nofree _ (PySem.mem_of_lookup hy))
  · exact Nat.le_of_lt (x.above y c (PySem.mem_of_lookup h))
  · have hi : i < vs.length := by
      unfold start at h2
      by_cases hi : i < vs.length
      · exact hi
      · rw [List.getElem?_append_right (by simpa using hi)] at h2
        rw [List.getElem?_replicate] at h2
        split at h2 <;> cases h2
    have ha : vs[i]? = some v := by
      unfold start at h2; rw [List.getElem?_append_left (by simpa using hi), List.getElem?_map] at h2
      cases e : vs[i]? with
      | none => rw [e] at h2; cases h2
      | some a => rw [e] at h2; cases h2; rfl
    obtain ⟨u, hu, rv⟩ := r.get ha
    have hp : ps[i]? = some y := by
      rw [← S.pre, List.getElem?_take_of_lt (by fail"o")]; exact h1
    have ndP : ps.Nodup := by rw [← S.pre]; exact S.nd.sublist (List.take_sublist _ _)
    refine ⟨u, rv, ?_⟩
    rcases S.par y (List.mem_of_getElem? hp) with k | k
    · exact .inl ⟨k, bindL_get ndP hp hu k⟩
    · obtain ⟨c, e⟩ := cell_has (n := s.heap.objs.size + 1) k
      refine .inr ⟨.inl k, c, e, ?_⟩
      have q := x.cell y c e; rw [bindC_get ndP hp hu (by show scope.names.lookup y ≠ _; rw [k]; decide)] at q
      exact q
  · exact e0.hok.fresh (Nat.le_of_lt (x.above y c (PySem.mem_of_lookup h)))
  · unfold start
    show _ = N.length
    rw [List.length_append, List.length_map, List.length_replicate]
    fail"o"
theorem fn_of {CX : CXT} {P : Program} {w : World} {K : PySem.W.Frag} {mg : MgT} {base : Heap} {k : Nat} {f : Addr} {name qual : Str} {params : Arguments} {body : List Stmt} {scope : Scope} {dV kV doc pm cdv ct oc : Value} {an od : Option Addr}
    {osl : Array (Option Value)} {N ps : List Str} {sp : Sp} (lk : K.lookup f = some ⟨oc, od, .func (PySem.W.fnOf name qual params body scope dV kV doc pm an cdv ct), osl⟩) (hcd : PySem.W.codeIn K cdv qual = true) (S : FnScope N ps scope)
    (len : ∀ vs H Q E, sp vs H Q E → vs.length = ps.length)
    (hbody : ∀ (A : Around) (outer : List Env) (s : Shared) (H : Hp) (vs : List V) (Q : VK) (E : XK), Room k (A.deeper (envOfC qual scope s.heap.objs.size f cdv)) → sp vs H Q E →
      ∃ t, PSs (cxOf CX P w K mg base N qual scope f cdv A outer s H E) body t ∧ t { nx := fun _ H' => Q .non H', rt := Q } (start N vs) H) :
    FnOk P w K mg base CX (k + 1) f (PySem.W.fnOf name qual params body scope dV kV doc pm an cdv ct) ps sp := by
  refine ⟨len, fun A outer s H args us vs Q E hr e0 hb r hsp => ?_⟩
  have hl := len _ _ _ _ hsp; have KX : K.In s.heap := e0.mod.kin.keeps fun b o e => (e0.bs b o e).1
  have lim : s.heap.NoLimit := e0.mod.nolimit.keeps fun b o e => (e0.bs b o e).1
  have hkind : ∀ y ∈ ps.zip us, scope.names.lookup y.1 = some .local ∨ (scope.names.lookup y.1 = some .cell ∧ ((cellsFrom (s.heap.objs.size + 1) scope.names []).lookup y.1).isSome = true) := fun ⟨n, v⟩ hy => by
    rcases S.par n (List.of_mem_zip hy).1 with q | q
    · exact .inl q
    · exact .inr ⟨q, PySem.W.cellsFrom_some _ _ _ (.inl q)⟩
  refine codeAny_call_function hr.depth (KX _ _ lk) rfl S.co S.gen rfl (PySem.W.codeRec_of KX hcd) (hb _ _ _ _ ?_)
  refine wpAny_newFunctionEnv_cells S.kind hkind fun env he s1 x => ?_
  subst he; refine ⟨lim.keeps x.toInCall.keep, codeAny_func ?_⟩
  obtain ⟨t, ht, hq⟩ := hbody A outer s H vs Q E (hr.deeper _) hsp; have I : Inv (cxOf CX P w K mg base N qual scope f cdv A outer s H E) [] (start N vs) H s1 := inv_start S hr.hd e0 hl r x; refine wpAny_mono (ht [] s1 (start N vs) H _ I hq) (fun fl s' hs => ?_) fun e s' hs => hs
  have fin : ∀ {σ' : St} {H' : Hp} {v : V} {u : Value}, Inv (cxOf CX P w K mg base N qual scope f cdv A outer s H E) [] σ' H' s' → RelV v u → Q v H' → CE outer P w H s Q u s' :=
    fun {σ' H' v u} J rv q => ⟨v, H', J.os, J.bare, J.base, J.hok, rv, q⟩
  cases fl with
  | ret u =>
    obtain ⟨v, σ', H', J, rv, q⟩ := hs; exact fin J rv q
  | next =>
    obtain ⟨σ', H', J, q⟩ := hs; exact fin (v := V.non) (u := Value.none) J rfl q
  | brk =>
    obtain ⟨_, _, _, q⟩ := hs; exact False.elim q
  | cont =>
    obtain ⟨_, _, _, q⟩ := hs; exact False.elim q
end L2
namespace L2
open PySem PySem.Spec PyProof.Rows
section
variable {X : Cx} {x : Str} {p pos : Pos} {e : Expr} {es : List Expr} {t : TA} {id T : String} {r : List V → Hp → VK → Prop}
def tCB (r : List V → Hp → VK → Prop) (t : TA) : TE := fun σ H Q => t σ H fun vs H1 => r vs H1 Q
theorem pe_callB (hc : CallR X (.builtin id) r) (hg : Gl X x) (hm : X.mg x = none) (hv : bootBuiltins x = some (.builtin id)) (ha : PA X (e :: es) t) (hn : x ≠ "__name__" := by decide) (hdb : Dbg x := by decide)
    (he : starEach (e :: es) X.env = (false, eval e X.env) :: starEach es X.env := by rfl) (hpl : (backTo pos (starEach es X.env)).any (·.1) = false := by rfl) : PE X (.Call (.Name x p) (e :: es) [] pos) (tCB r t) := by
  intro pins s σ H Q I h; refine wpAny_Call_Name_kw (ld_blt I hg hm hv ?_ hn hdb)
  exact PyProof.Rows.callWith_builtin1 (thn (ha pos pins s σ H _ I h) fun us s1 ⟨vs, H1, I1, r1, q1⟩ => hc pins s1 σ H1 vs us Q I1 r1 q1) he hpl
theorem pe_callTy (hc : CallR X (.type T) r) (hg : Gl X x) (hm : X.mg x = none) (hv : bootBuiltins x = some (.type T)) (ha : PA X (e :: es) t) (hn : x ≠ "__name__" := by decide) (hdb : Dbg x := by decide)
    (he : starEach (e :: es) X.env = (false, eval e X.env) :: starEach es X.env := by rfl) (hpl : (backTo pos (starEach es X.env)).any (·.1) = false := by rfl) : PE X (.Call (.Name x p) (e :: es) [] pos) (tCB r t) := by
  intro pins s σ H Q I h; refine wpAny_Call_Name_kw (ld_blt I hg hm hv ?_ hn hdb)
  exact PyProof.Rows.callWith_type1 (thn (ha pos pins s σ H _ I h) fun us s1 ⟨vs, H1, I1, r1, q1⟩ => hc pins s1 σ H1 vs us Q I1 r1 q1) he hpl
end
end L2
namespace HT
open PySem PyProof.Rows
section
open PySem.SeqAt
open PySem.AutoSeq1 (wpAny_loadPart')
open PySem.MeetsSeq PySem.MeetsSeq2 PySem.MeetsSeq3
end
section
variable {prog : Program} {w : World} {A : Around} {E : VSP} {s : Shared}
def sIx (n d : Nat) : Option Int → Nat
  | none => d
  | some v => if v < 0 then (v + (n : Int)).toNat else min v.toNat n
end
end HT
namespace L2
open PySem PySem.Spec PyProof.Rows
abbrev TO := St → Hp → (Option Int → Hp → Prop) → Prop
def PO (X : Cx) (e : Option Expr) (t : TO) : Prop :=
  ∀ (pins : Pins) (s : Shared) (σ : St) (H : Hp) (Q : Option Int → Hp → Prop), Inv X pins σ H s → t σ H Q →
    wpAny (model X.prog X.w) X.A (evalPart e X.env) (fun u s' => ∃ o H', Inv X pins σ H' s' ∧ IsPart u o ∧ Q o H') X.xe s
def tNoPart : TO := fun _ H Q => Q none H
def tPart (t : TE) : TO := fun σ H Q => t σ H fun x H1 => ∃ i, x = .int i ∧ Q (some i) H1
section
variable {X : Cx} {e : Expr} {te : TE} {lo hi : Option Expr} {tl th : TO} {pos p2 : Pos}
theorem po_none : PO X none tNoPart := by
  intro pins s σ H Q I h; rw [evalPart_none]; exact wpAny_pure ⟨none, H, I, .none, h⟩
theorem po_some (h : PE X e te) : PO X (some e) (tPart te) := by
  intro pins s σ H Q I hw; rw [evalPart_some]; refine thn (h pins s σ H _ I hw) fun u s1 hz22 => ?_
  obtain ⟨x, H1, I1, r1, q1⟩ := hz22; obtain ⟨i, rfl, q⟩ := q1; obtain ⟨t, rfl⟩ := r1; exact ⟨some i, H1, I1, .int i t, q⟩
def SlR (X : Cx) (r : V → Option Int → Option Int → Hp → VK → Prop) : Prop :=
  ∀ (pins : Pins) (s : Shared) (σ : St) (H : Hp) (x : V) (v vl vu : Value) (lo hi : Option Int) (sl : Addr) (Q : VK), Inv X pins σ H s → RelV x v → s.heap.IsSliceOf sl vl vu .none → IsPart vl lo → IsPart vu hi → r x lo hi H Q →
    ∃ T id, typeLookup (.type T) "__getitem__" = pure (some (.builtin id)) ∧ s.TypeIs v T ∧ wpAny (model X.prog X.w) X.A (getItem v (.ref sl)) (EP X pins σ Q) X.xe s
def tSl (r : V → Option Int → Option Int → Hp → VK → Prop) (te : TE) (tl th : TO) : TE := fun σ H Q => te σ H fun x H1 => tl σ H1 fun l H2 => th σ H2 fun u H3 => r x l u H3 Q
theorem pe_slice {r : V → Option Int → Option Int → Hp → VK → Prop} (hr : SlR X r) (he : PE X e te) (hl : PO X lo tl) (hu : PO X hi th) : PE X (.Subscript e (.Slice lo hi none p2) pos) (tSl r te tl th) := by
  intro pins s σ H Q I h; refine Subscript_ (thn (he pins s σ H _ I h) fun v s1 hz23 => ?_)
  obtain ⟨x, H1, I1, r1, q1⟩ := hz23; refine wpAny_Slice (thn (hl pins s1 σ H1 _ I1 q1) fun vl s2 ⟨l, H2, I2, pl, q2⟩ => thn (hu pins s2 σ H2 _ I2 q2) fun vu s3 hz24 => ?_)
  obtain ⟨u, H3, I3, pu, q3⟩ := hz24; rw [evalPart_none]; refine wpAny_pure ?_
  have I4 : Inv X pins σ H3 { s3 with heap := s3.heap.push { cls := .type "slice", data := .fields #[vl, vu, .none] } } := I3.kept (t' := s3.toks) fun b ob q => Heap.get?_push_of_some _ q
  obtain ⟨T, id, hT, ht, hg⟩ := hr pins { s3 with heap := s3.heap.push { cls := .type "slice", data := .fields #[vl, vu, .none] } } σ H3 x v vl vu l u s3.heap.objs.size Q I4 r1 (Heap.IsSliceOf.new ..) pl pu q3
  show wpAny (model X.prog X.w) X.A (subscriptTail e (.Slice lo hi none p2) v (.ref s3.heap.objs.size)) (EP X pins σ Q) X.xe { s3 with heap := s3.heap.push { cls := .type "slice", data := .fields #[vl, vu, .none] } }
  exact tail_any (ops := [.ref s3.heap.objs.size, v]) ht hT hg (by with_unfolding_all rfl)
def cutV (xs : List V) (lo hi : Option Int) : List V := (xs.drop (HT.sIx xs.length 0 lo)).take (HT.sIx xs.length xs.length hi - HT.sIx xs.length 0 lo)
theorem cutV_length (xs : List V) (lo hi : Option Int) : (cutV xs lo hi).length ≤ xs.length := by
  unfold cutV; rw [List.length_take, List.length_drop]
  fail"o"
end
end L2
namespace L2
open PySem PySem.Spec PyProof.Rows
def ixN (n : Nat) (i : Int) : Option Nat := if 0 ≤ i then (if i < n then some i.toNat else none) else if -(n : Int) ≤ i then some (i + n).toNat else none
def atI {α : Type} (xs : List α) (i : Int) : Option α := (ixN xs.length i).bind fun j => xs[j]?
theorem ixN_seq {n : Nat} {i : Int} {j : Nat} (h : ixN n i = some j) : seqIndex? i n = some j ∧ j < n ∧ -(n : Int) ≤ i ∧ i < n := by
  unfold ixN at h
  by_cases h0 : 0 ≤ i
  · rw [if_pos h0] at h
    by_cases h1 : i < n
    · rw [if_pos h1] at h
      have e : i.toNat = j := Option.some.inj h; exact ⟨by rw [seqIndex_of h0 h1, e], by fail"o", by fail"o", h1⟩
    · rw [if_neg h1] at h; cases h
  · rw [if_neg h0] at h
    by_cases h1 : -(n : Int) ≤ i
    · rw [if_pos h1] at h
      have e : (i + n).toNat = j := Option.some.inj h; exact ⟨by rw [seqIndex_neg (by fail"o") h1, e], by fail"o", h1, by fail"o"⟩
    · rw [if_neg h1] at h; cases h
theorem atI_get {α : Type} {xs : List α} {i : Int} {v : α} (h : atI xs i = some v) : ∃ j, seqIndex? i xs.length = some j ∧ xs[j]? = some v ∧ j < xs.length ∧ -(xs.length : Int) ≤ i ∧ i < xs.length := by
  unfold atI at h
  cases e : ixN xs.length i with
  | none => rw [e] at h; cases h
  | some j =>
    rw [e] at h; obtain ⟨h1, h2, h3, h4⟩ := ixN_seq e; exact ⟨j, h1, h, h2, h3, h4⟩
theorem atI_nat {α : Type} {xs : List α} {j : Nat} {v : α} (h : xs[j]? = some v) : atI xs (j : Int) = some v := by
  have hj : j < xs.length := (List.getElem?_eq_some_iff.mp h).1
  have e : ixN xs.length (j : Int) = some j := by
    unfold ixN; rw [if_pos (by fail"o"), if_pos (by fail"o")]; simp
  unfold atI; rw [e]; exact h
def PlainIx (b : Expr) : Prop := ∀ o i, subscripted b false o i = operate [o, i] (getItem o i)
def IxR (X : Cx) (r : R2) : Prop :=
  ∀ (value slice : Expr) (pins : Pins) (s : Shared) (σ : St) (H : Hp) (x y : V) (v u : Value) (Q : VK), Inv X pins σ H s → RelV x v → RelV y u → r x y H Q →
    subscripted slice false v u = operate [v, u] (getItem v u) → wpAny (model X.prog X.w) X.A (subscriptTail value slice v u) (EP X pins σ Q) X.xe s
def MtR (X : Cx) (id : String) (r : V → List V → Hp → VK → Prop) : Prop :=
  ∀ (pins : Pins) (s : Shared) (σ : St) (H : Hp) (x : V) (xs : List V) (v : Value) (us : List Value) (Q : VK), Inv X pins σ H s → RelV x v → Vals xs us → r x xs H Q →
    wpAny (model X.prog X.w) X.A (call (.builtin id) (v :: us)) (EP X pins σ Q) X.xe s
section
variable {X : Cx} {a b : Expr} {ta tb : TE} {pos : Pos}
theorem pe_ix {r : R2} (hr : IxR X r) (ha : PE X a ta) (hb : PE X b tb) (hs : PlainIx b) : PE X (.Subscript a b pos) (tOp r ta tb) := by
  intro pins s σ H Q I h; exact Subscript_ (binT ha hb I h fun v u s2 x y H2 I2 rx ry q => hr a b pins s2 σ H2 x y v u Q I2 rx ry q (hs _ _))
def rIxL (K : PySem.W.Frag) : R2 := fun x y H Q => ∃ p xs i v, x = .ref p ∧ y = .int i ∧ SqL K H p xs ∧ atI xs i = some v ∧ Q v H
def rIxT (K : PySem.W.Frag) : R2 := fun x y H Q => ∃ p xs i v, x = .ref p ∧ y = .int i ∧ SqT K H p xs ∧ atI xs i = some v ∧ Q v H
theorem ix_list : IxR X (rIxL X.K) := by
  intro value slice pins s σ H x y v u Q I rx ry h hs; obtain ⟨p, xs, i, z, rfl, rfl, hq, he, q⟩ := h; cases rx; obtain ⟨t, rfl⟩ := ry; obtain ⟨its, r, pl, hz⟩ := I.list hq; obtain ⟨j, h1, h2, h3, h4, h5⟩ := atI_get he; obtain ⟨w, ew, rw'⟩ := r.get h2; have hl := r.length; have hn := line63; have fin : EP X pins σ Q w s := ⟨z, H, I, rw', q⟩
  by_cases h0 : 0 ≤ i
  · have hj : i.toNat = j := by
      rw [seqIndex_of h0 h5] at h1; exact Option.some.inj h1
    exact item_listR pl.isList h0 (by fail"o") (by rw [hj]; simpa using ew) fin hs
  · have hj : (i + (its.toArray.size : Int)).toNat = j := by
      rw [seqIndex_neg (by fail"o") h4] at h1
      rw [List.size_toArray, ← hl]; exact Option.some.inj h1
    exact subscriptTail_builtinR (x := w) pl.isList.typeIs slot_list_getitem.lookup
      (wpAny_getItem_list_neg (Q := fun r s' => r = w ∧ EP X pins σ Q r s') pl.isList (by fail"o") (by rw [List.size_toArray] <;> fail"o") (by fail"o") (by rw [hj]; simpa using ew) ⟨rfl, fin⟩) hs
theorem ix_tup : IxR X (rIxT X.K) := by
  intro value slice pins s σ H x y v u Q I rx ry h hs; obtain ⟨p, xs, i, z, rfl, rfl, hq, he, q⟩ := h; cases rx; obtain ⟨t, rfl⟩ := ry; obtain ⟨its, r, pl, hz⟩ := I.tuple hq; obtain ⟨j, h1, h2, h3, h4, h5⟩ := atI_get he; obtain ⟨w, ew, rw'⟩ := r.get h2; have hl := r.length; have hn := line63; have fin : EP X pins σ Q w s := ⟨z, H, I, rw', q⟩
  exact subscriptTail_builtinR (x := w) pl.typeIs slot_tuple_getitem.lookup
    (getItem_tuple (j := j) (Q := fun r s' => r = w ∧ EP X pins σ Q r s') pl (by fail"o") (by fail"o") (by rw [List.size_toArray, ← hl]; exact h1) (by simpa using ew) ⟨rfl, fin⟩) hs
theorem slice_bounds (lo hi : Option Int) (n : Nat) : (sliceBounds lo hi none n).1 = ((HT.sIx n 0 lo : Nat) : Int) ∧ (sliceBounds lo hi none n).2.1 = ((HT.sIx n n hi : Nat) : Int) ∧ (sliceBounds lo hi none n).2.2 = 1 := by
  refine ⟨?_, ?_, rfl⟩
  · cases lo with
    | none => simp [sliceBounds, HT.sIx]
    | some i =>
      simp only [sliceBounds, HT.sIx, Option.getD_none, show (1 : Int) > 0 by decide, if_true]
      by_cases h : i < 0
      · simp only [h, if_true] <;> fail"o"
      · simp only [h, if_false] <;> fail"o"
  · cases hi with
    | none => simp [sliceBounds, HT.sIx]
    | some i =>
      simp only [sliceBounds, HT.sIx, Option.getD_none, show (1 : Int) > 0 by decide, if_true]
      by_cases h : i < 0
      · simp only [h, if_true] <;> fail"o"
      · simp only [h, if_false] <;> fail"o"
theorem slicePick_cut (its : List Value) (lo hi : Option Int) : slicePick its.toArray lo hi none = ((its.drop (HT.sIx its.length 0 lo)).take (HT.sIx its.length its.length hi - HT.sIx its.length 0 lo)).toArray := by
  obtain ⟨h1, h2, h3⟩ := slice_bounds lo hi its.toArray.size; unfold slicePick; rw [h1, h2, h3]; simp only [sliceRange_one, pick_run, List.size_toArray] <;> rfl
def rSlL (K : PySem.W.Frag) : V → Option Int → Option Int → Hp → VK → Prop := fun x lo hi H Q => ∃ a xs, x = .ref a ∧ SqL K H a xs ∧ ∀ p, H p = none → Q (.ref p) (upd H p (.lst (cutV xs lo hi)))
theorem sl_list : SlR X (rSlL X.K) := by
  intro pins s σ H x v vl vu lo hi sl Q I rx hs pl pu h; obtain ⟨a, xs, rfl, hx, q⟩ := h; cases rx; obtain ⟨its, r, ht, hz⟩ := I.list hx; have hlen := r.length; refine ⟨"list", _, slot_list_getitem.lookup, ht.isList.typeIs, ?_⟩
  refine wpAny_getItem_list_slice ht.isList hs pl pu .none (by simp) ?_ (by rw [List.size_toArray] <;> fail"o")
  rw [slicePick_cut, ← hlen]; refine ⟨.ref s.heap.objs.size, _, I.laid (t' := s.toks) (o := .lst (cutV xs lo hi)) (fun b ob q => Heap.get?_push_of_some _ q) (Nat.le_refl _) ?_, rfl, q _ (I.hok.fresh (Nat.le_refl _))⟩
  exact ⟨Nat.le_trans (cutV_length xs lo hi) hz, _, 0, (r.drop (HT.sIx xs.length 0 lo)).take (HT.sIx xs.length xs.length hi - HT.sIx xs.length 0 lo), Heap.get?_push_size _ rfl⟩
def flatV : V → Bool
  | .non => true
  | .bl _ => true
  | .int _ => true
  | .str _ => true
  | _ => false
def eqV : V → V → Bool
  | .non, .non => true
  | .bl a, .bl b => a == b
  | .bl a, .int b => (if a then 1 else 0) == b
  | .int a, .bl b => a == (if b then 1 else 0)
  | .int a, .int b => a == b
  | .str a, .str b => a == b
  | _, _ => false
theorem eqAt_V {A : Around} {s : Shared} {y x : V} {u v : Value} (ry : RelV y u) (rx : RelV x v) (fy : flatV y = true) (fx : flatV x = true) : SeqAt.EqAt A s u v (eqV y x) := by
  cases y with
  | non =>
    cases ry
    cases x with
    | non => cases rx; exact SeqAt.EqAt.same _
    | bl b => cases rx; exact SeqAt.EqAt.none_bool b
    | int b => obtain ⟨t, rfl⟩ := rx; exact SeqAt.EqAt.none_int b t
    | str b => obtain ⟨t, rfl⟩ := rx; exact SeqAt.EqAt.none_str b t
    | _ => exact absurd (show false = true from fx) Bool.false_ne_true
  | bl a =>
    cases ry
    cases x with
    | non => cases rx; exact SeqAt.EqAt.bool_none a
    | bl b => cases rx; exact SeqAt.EqAt.bool_bool a b
    | int b => obtain ⟨t, rfl⟩ := rx; exact SeqAt.EqAt.bool_int a b t
    | str b => obtain ⟨t, rfl⟩ := rx; exact SeqAt.EqAt.bool_str a b t
    | _ => exact absurd (show false = true from fx) Bool.false_ne_true
  | int a =>
    obtain ⟨t', rfl⟩ := ry
    cases x with
    | non => cases rx; exact SeqAt.EqAt.int_none a t'
    | bl b => cases rx; exact SeqAt.EqAt.int_bool a t' b
    | int b => obtain ⟨t, rfl⟩ := rx; exact SeqAt.EqAt.int_int a t' b t
    | str b => obtain ⟨t, rfl⟩ := rx; exact SeqAt.EqAt.int_str a t' b t
    | _ => exact absurd (show false = true from fx) Bool.false_ne_true
  | str a =>
    obtain ⟨t', rfl⟩ := ry
    cases x with
    | non => cases rx; exact SeqAt.EqAt.str_none a t'
    | bl b => cases rx; exact SeqAt.EqAt.str_bool a t' b
    | int b => obtain ⟨t, rfl⟩ := rx; exact SeqAt.EqAt.str_int a t' b t
    | str b => obtain ⟨t, rfl⟩ := rx; exact SeqAt.EqAt.str_str a t' b t
    | _ => exact absurd (show false = true from fx) Bool.false_ne_true
  | _ => exact absurd (show false = true from fy) Bool.false_ne_true
def eqU (x : V) (u : Value) : Bool := match u with
  | .none => eqV .non x
  | .bool b => eqV (.bl b) x
  | .int i _ => eqV (.int i) x
  | .str z _ => eqV (.str z) x
  | _ => false
theorem eqU_of {x y : V} {u : Value} (r : RelV y u) (f : flatV y = true) : eqU x u = eqV y x := by
  cases y with
  | non => cases r; rfl
  | bl b => cases r; rfl
  | int i => obtain ⟨t, rfl⟩ := r; rfl
  | str z => obtain ⟨t, rfl⟩ := r; rfl
  | _ => exact absurd (show false = true from f) Bool.false_ne_true
theorem any_eqU {x : V} {xs : List V} {us : List Value} (h : Vals xs us) : xs.all flatV = true → us.any (eqU x) = xs.any fun y => eqV y x := by
  induction h with
  | nil => exact fun _ => rfl
  | cons r t ih =>
    intro f; rw [List.all_cons, Bool.and_eq_true] at f; rw [List.any_cons, List.any_cons, eqU_of r f.1, ih f.2]
theorem mem_eqAt {A : Around} {s : Shared} {x : V} {v : Value} (rx : RelV x v) (fx : flatV x = true) {xs : List V} {us : List Value} (h : Vals xs us) : xs.all flatV = true → ∀ u ∈ us, SeqAt.EqAt A s u v (eqU x u) := by
  induction h with
  | nil => exact fun _ u hu => nomatch hu
  | cons r t ih =>
    intro f u' hu; rw [List.all_cons, Bool.and_eq_true] at f; rcases List.mem_cons.mp hu with rfl | hu
    · rw [eqU_of r f.1]; exact eqAt_V r rx f.1 fx
    · exact ih f.2 u' hu
def inV (x : V) (xs : List V) : Bool := xs.any fun y => eqV y x
def rIn (K : PySem.W.Frag) (neg : Bool) : R2 := fun x y H Q => ∃ p xs, y = .ref p ∧ (SqL K H p xs ∨ SqT K H p xs) ∧ flatV x = true ∧ xs.all flatV = true ∧ Q (.bl (if neg then !inV x xs else inV x xs)) H
theorem op_in_seq : OpR X (compareOp .In) (rIn X.K false) := by
  intro pins s σ H x y v u Q I rx ry h; obtain ⟨p, xs, rfl, hq, fx, fs, q⟩ := h; cases ry; rcases hq with hq | hq
  · obtain ⟨its, r, pl, hz⟩ := I.list hq
    refine SeqAt.in_listAt (eqU x) pl.isList (fun w hw => mem_eqAt rx fx r fs w (by simpa using hw)) ⟨.bl _, H, I, rfl, ?_⟩
    rw [show its.toArray.any (eqU x) = its.any (eqU x) by simp, any_eqU r fs]
    exact q
  · obtain ⟨its, r, pl, hz⟩ := I.tuple hq
    refine SeqAt.in_tupleAt (eqU x) pl (fun w hw => mem_eqAt rx fx r fs w (by simpa using hw)) ⟨.bl _, H, I, rfl, ?_⟩
    rw [show its.toArray.any (eqU x) = its.any (eqU x) by simp, any_eqU r fs]
    exact q
theorem op_notIn_seq : OpR X (compareOp .NotIn) (rIn X.K true) := by
  intro pins s σ H x y v u Q I rx ry h; obtain ⟨p, xs, rfl, hq, fx, fs, q⟩ := h; cases ry; rcases hq with hq | hq
  · obtain ⟨its, r, pl, hz⟩ := I.list hq
    refine SeqAt.notIn_listAt (eqU x) pl.isList (fun w hw => mem_eqAt rx fx r fs w (by simpa using hw)) ⟨.bl _, H, I, rfl, ?_⟩
    rw [show its.toArray.any (eqU x) = its.any (eqU x) by simp, any_eqU r fs]
    exact q
  · obtain ⟨its, r, pl, hz⟩ := I.tuple hq
    refine SeqAt.notIn_tupleAt (eqU x) pl (fun w hw => mem_eqAt rx fx r fs w (by simpa using hw)) ⟨.bl _, H, I, rfl, ?_⟩
    rw [show its.toArray.any (eqU x) = its.any (eqU x) by simp, any_eqU r fs]
    exact q
theorem call_len_seq : CallR X (.builtin "len") (fun xs H Q => ∃ p ys, xs = [.ref p] ∧ (SqL X.K H p ys ∨ SqT X.K H p ys) ∧ Q (.int ys.length) H) := by
  intro pins s σ H xs us Q I r h; obtain ⟨p, ys, rfl, hq, q⟩ := h; obtain ⟨u, rfl, rx⟩ := vals1 r; cases rx; have hn := line63; rcases hq with hq | hq
  · obtain ⟨its, r', pl, hz⟩ := I.list hq
    have hlen := r'.length; exact Calls.call_len_list pl.isList (by simp only [List.size_toArray] <;> fail"o") ⟨.int ys.length, H, I.tok _, ⟨s.toks + 1, by rw [List.size_toArray, hlen]⟩, q⟩
  · obtain ⟨its, r', pl, hz⟩ := I.tuple hq
    have hlen := r'.length; exact len_tuple pl (by simp only [List.size_toArray] <;> fail"o") ⟨.int ys.length, H, I.tok _, ⟨s.toks + 1, by rw [List.size_toArray, hlen]⟩, q⟩
theorem call_tuple_of : CallR X (.type "tuple") (fun xs H Q => ∃ p ys, xs = [.ref p] ∧ ((SqL X.K H p ys ∧ ∀ l, H l = none → Q (.ref l) (upd H l (.tup ys))) ∨ (SqT X.K H p ys ∧ Q (.ref p) H))) := by
  intro pins s σ H xs us Q I r h; obtain ⟨p, ys, rfl, h⟩ := h; obtain ⟨u, rfl, rx⟩ := vals1 r; cases rx; rcases h with ⟨hq, q⟩ | ⟨hq, q⟩
  · obtain ⟨its, r', pl, hz⟩ := I.list hq
    have hlen := r'.length; refine call_tuple_list pl.isList (fun h' kp => ?_) (by simp only [List.size_toArray] <;> fail"o")
    have I1 : Inv X pins σ H { s with heap := h' } := I.kept (t' := s.toks) kp
    have I2 : Inv X pins σ (upd H h'.objs.size (.tup ys)) { s with heap := h'.push { cls := .type "tuple", data := .seq its.toArray } } :=
      I1.laid (t' := s.toks) (fun b o e => Heap.get?_push_of_some _ e) (Nat.le_refl _) (show ObjOk X.prog X.w _ _ _ (.tup ys) from ⟨hz, its, r', IsTup.new _ _⟩)
    exact ⟨.ref h'.objs.size, _, I2, rfl, q _ (I1.hok.fresh (Nat.le_refl _))⟩
  · obtain ⟨its, r', pl, hz⟩ := I.tuple hq
    exact call_tuple_same pl ⟨.ref p, H, I, rfl, q⟩
def tyV (K : PySem.W.Frag) (T : String) (x : V) (H : Hp) : Prop := match x with
  | .str _ => T = "str"
  | .int _ => T = "int"
  | .ref p => (T = "list" ∧ ∃ xs, SqL K H p xs) ∨ (T = "tuple" ∧ ∃ o, K.lookup p = some o ∧ o.cls = .type "tuple" ∧ o.dict = none) ∨
      (T = "dict" ∧ ((∃ kvs, H p = some (.dK kvs)) ∨ ∃ kvs, H p = some (.dT kvs))) ∨ (T = "set" ∧ ∃ S n, H p = some (.set S n))
  | _ => False
theorem tyV_is {pins : Pins} {σ : St} {H : Hp} {s : Shared} {T : String} {x : V} {v : Value} (I : Inv X pins σ H s) (r : RelV x v) (ty : tyV X.K T x H) :
    s.TypeIs v T ∧ ∀ a, v = .ref a → ∃ ob, s.heap.get? a = some ob ∧ ob.dict = none := by
  cases x with
  | str z =>
    obtain ⟨t, rfl⟩ := r; cases (show T = "str" from ty)
    exact ⟨typeIs_str s z t, fun _ e => nomatch e⟩
  | int i =>
    obtain ⟨t, rfl⟩ := r; cases (show T = "int" from ty)
    exact ⟨typeIs_int s i t, fun _ e => nomatch e⟩
  | ref p =>
    cases r; rcases ty with ⟨rfl, xs, hq⟩ | ⟨rfl, o, hk, hc, hd⟩ | ⟨rfl, hk⟩ | ⟨rfl, S, n, hk⟩
    · obtain ⟨its, _, pl, _⟩ := I.list hq
      refine ⟨pl.isList.typeIs, fun a e => ?_⟩
      cases e; obtain ⟨o, n, e, c, hd, _⟩ := pl; exact ⟨o, e, hd⟩
    · refine ⟨⟨o, I.kIn p o hk, hc⟩, fun a e => ?_⟩
      cases e; exact ⟨o, I.kIn _ o hk, hd⟩
    · have z : ∃ o, s.heap.get? p = some o ∧ o.ExactDict := by
        rcases hk with ⟨kvs, hk⟩ | ⟨kvs, hk⟩
        · obtain ⟨_, _, _, _, o, _, _, e, ex, _⟩ := I.hok p _ hk
          exact ⟨o, e, ex⟩
        · obtain ⟨_, _, _, _, o, _, _, e, ex, _⟩ := I.hok p _ hk
          exact ⟨o, e, ex⟩
      obtain ⟨o, e, ex⟩ := z; refine ⟨⟨o, e, ex.1⟩, fun a e2 => ?_⟩
      cases e2; exact ⟨o, e, ex.2.1⟩
    · obtain ⟨o, _, _, _, e, ex, _⟩ := I.hok p _ hk
      refine ⟨⟨o, e, ex.1⟩, fun a e2 => ?_⟩
      cases e2; exact ⟨o, e, ex.2.1⟩
  | _ => exact False.elim ty
def tBM (K : PySem.W.Frag) (T : String) (r : V → List V → Hp → VK → Prop) (to : TE) (t : TA) : TE := fun σ H Q => to σ H fun x H1 => tyV K T x H1 ∧ t σ H1 fun xs H2 => r x xs H2 Q
variable {o e : Expr} {es : List Expr} {to : TE} {t : TA} {name : Str} {apos cpos : Pos} {T id : String} {r : V → List V → Hp → VK → Prop}
theorem pe_bm (pa : PlainAttrs T) (slot : Slot T name id) (hty : typeOf (.builtin id) = pure (.type "method_descriptor")) (hm : MtR X id r) (ho : PE X o to) (ha : PA X (e :: es) t)
    (hbase : attributeBase o name X.env (eval o X.env) = eval o X.env := by rfl)
    (hfew : ((backTo cpos (starEach (e :: es) X.env)).all (fun x => !x.1) && (backToKw cpos (keywordEach [] X.env)).all (fun x => x.1.isSome)
      && decide ((e :: es).length + ([] : List Keyword).length + (if ([] : List Keyword).isEmpty then 0 else 1) < 30)) = true := by rfl)
    (hline : (apos.endLine == cpos.line) = true := by rfl) (hs : starEach (e :: es) X.env = (false, eval e X.env) :: starEach es X.env := by rfl) (hplain : (backTo cpos (starEach es X.env)).any (·.1) = false := by rfl) :
    PE X (.Call (.Attribute o name apos) (e :: es) [] cpos) (tBM X.K T r to t) := by
  intro pins s σ H Q I h; refine wpAny_Call_method_late hbase hfew hline rfl (thn (ho pins s σ H _ I h) fun v s1 hz25 => ?_)
  obtain ⟨x, H1, I1, r1, ty, q1⟩ := hz25; obtain ⟨h1, h2⟩ := tyV_is I1 r1 ty; refine ⟨T, id, pa, slot, hty, h1, h2, ?_⟩
  have hA := ha cpos pins s1 σ H1 _ I1 q1; rw [hs] at hA ⊢; refine Calls.callWith_builtin (by show (false || (backTo cpos (starEach es X.env)).any (·.1)) = false; rw [hplain] <;> rfl) (Calls.evalArgs_plain ?_)
  exact thn hA fun us s2 ⟨vs, H2, I2, r2, q2⟩ => hm pins s2 σ H2 x vs v us Q I2 r1 r2 q2
/- xs.append(e), list.index on a module's tuple .. are MtR facts of 06m -/
end
end L2
namespace L2
open PySem PySem.Spec PyProof.Rows
def MtM (X : Cx) (id : String) (r : V → List V → Hp → VK → Prop) : Prop :=
  ∀ (pins : Pins) (s : Shared) (σ : St) (H : Hp) (x : V) (xs : List V) (v : Value) (us : List Value) (Q : VK), Inv X pins σ H s → RelV x v → Vals xs us → r x xs H Q →
    wpAny (model X.prog X.w) X.A (call (.builtin id) (v :: us)) (EP X pins σ Q) X.xe s
theorem Vals.one {x : V} {us : List Value} (h : Vals [x] us) : ∃ u, us = [u] ∧ RelV x u := by
  cases h with
  | cons r t => cases t; exact ⟨_, rfl, r⟩
theorem Vals.rep {xs : List V} {us : List Value} (h : Vals xs us) : ∀ k : Nat, Vals (List.replicate k xs).flatten (List.replicate k us).flatten
  | 0 => .nil
  | k + 1 => by
    rw [List.replicate_succ, List.replicate_succ, List.flatten_cons, List.flatten_cons]; exact Vals.append h (Vals.rep h k)
theorem foldl_rep (its : List Value) : ∀ (k : Nat) (acc : List Value),
    List.foldl (fun x1 x2 => x1 ++ x2) acc.toArray (List.replicate k its.toArray) = (acc ++ (List.replicate k its).flatten).toArray
  | 0, acc => by simp
  | k + 1, acc => by
    have e : acc.toArray ++ its.toArray = (acc ++ its).toArray := by simp
    have e2 : (acc ++ its) ++ (List.replicate k its).flatten = acc ++ (List.replicate (k + 1) its).flatten := by
      rw [List.replicate_succ, List.flatten_cons, List.append_assoc]
    rw [← e2, ← foldl_rep its k (acc ++ its), ← e, List.replicate_succ, List.foldl_cons]
section
variable {X : Cx} {pins : Pins} {σ : St} {H : Hp} {s : Shared} {l b : Addr} {xs ys zs : List V}
theorem Inv.lset {its its' : List Value} {n : Nat} {f : Array Value → Array Value} {t' : Nat} (I : Inv X pins σ H s) (hH : H l = some (.lst xs))
    (e : s.heap.get? l = some { cls := .type "list", data := .seq its.toArray n }) (hf : f its.toArray = its'.toArray) (hv : Vals ys its') (hz : ys.length ≤ sizeLine) :
    Inv X pins σ (upd H l (.lst ys)) { s with heap := s.heap.update l (Obj.mapSeq f), toks := t' } := by
  have q := PySem.IsL.update e f; rw [hf] at q; refine I.write (x := l) (e := l) (by rw [hH]; exact trivial) (.inl rfl) (fun b' u hb hu => (Heap.get?_update_other s.heap (Obj.mapSeq f) (Ne.symm hb)).trans hu) ⟨_, q⟩ ?_
  exact ⟨hz, its', _, hv, q⟩
theorem Inv.lnew {its : List Value} {t' : Nat} (I : Inv X pins σ H s) (hv : Vals ys its) (hz : ys.length ≤ sizeLine) :
    Inv X pins σ (upd H s.heap.objs.size (.lst ys)) { s with heap := s.heap.push { cls := .type "list", data := .seq its.toArray }, toks := t' } :=
  I.laid (fun _ _ q => Heap.get?_push_of_some _ q) (Nat.le_refl _) ⟨hz, its, 0, hv, Heap.get?_push_size _ rfl⟩
theorem Inv.fresh (I : Inv X pins σ H s) : H s.heap.objs.size = none := I.hok.fresh (Nat.le_refl _)
theorem Inv.lstM (I : Inv X pins σ H s) (hH : H l = some (.lst xs)) : xs.length ≤ sizeLine ∧ ∃ (its : List Value) (n : Nat), Vals xs its ∧ xs.length = its.length ∧ s.heap.get? l = some { cls := .type "list", data := .seq its.toArray n } := by
  obtain ⟨z, its, n, r, e⟩ := I.hok l _ hH; exact ⟨z, its, n, r, r.length, e⟩
theorem notLongL {n : Nat} (h : n ≤ sizeLine) : Builtin.List.listTooLong n = false := by
  unfold Builtin.List.listTooLong; exact decide_eq_false (by fail"o")
end
section
variable {X : Cx}
def rAppend : V → List V → Hp → VK → Prop := fun x vs H Q => ∃ l xs y, x = .ref l ∧ vs = [y] ∧ H l = some (.lst xs) ∧ xs.length < sizeLine ∧ Q .non (upd H l (.lst (xs ++ [y])))
theorem mt_append : MtM X "list.append" rAppend := by
  intro pins s σ H x vs v us Q I rx rv h; obtain ⟨l, xs, y, rfl, rfl, hH, hz, q⟩ := h; cases rx; obtain ⟨u, rfl, ru⟩ := rv.one; obtain ⟨z, its, n, r, hl, e⟩ := I.lstM hH; refine call_meets F.slot_list_append ⟨_, e, rfl⟩ F.entry_list_append (F.args_list_append_2 _ _) (PySem.list_append l its.toArray n u (by rw [List.size_toArray]; fail"o")) ⟨e, ?_⟩
  refine ⟨.non, _, I.lset (its' := its ++ [u]) hH e (by simp) (r.append (.cons ru .nil)) ?_, rfl, q⟩
  rw [List.length_append, List.length_singleton]
  fail"o"
def rRep : R2 := fun x y H Q => ∃ l k xs, x = .ref l ∧ y = .int k ∧ H l = some (.lst xs) ∧ -(2 ^ 63) ≤ k ∧ k < 2 ^ 63 ∧ xs.length * k.toNat ≤ sizeLine ∧
  ∀ p, H p = none → Q (.ref p) (upd H p (.lst (List.replicate k.toNat xs).flatten))
theorem len_rep {α : Type} (xs : List α) (k : Nat) : (List.replicate k xs).flatten.length = k * xs.length := by
  induction k with
  | zero => simp
  | succ k ih => rw [List.replicate_succ, List.flatten_cons, List.length_append, ih, Nat.succ_mul, Nat.add_comm]
theorem op_rep : OpR X (binaryOp .Mult) rRep := by
  intro pins s σ H x y v u Q I rx ry h; obtain ⟨l, k, xs, rfl, rfl, hH, h1, h2, hz, q⟩ := h; cases rx; obtain ⟨t, rfl⟩ := ry; obtain ⟨z, its, n, r, hl, e⟩ := I.lstM hH; have hlen : its.toArray.size * k.toNat ≤ sizeLine := by rw [List.size_toArray, ← hl]; exact hz
  have hcap : ¬ its.toArray.size * k.toNat > (2 ^ 63 - 1) / 8 := by
    have : (sizeLine : Nat) ≤ (2 ^ 63 - 1) / 8 := by decide
    fail"o"
  have hfit : ¬ (!Builtin.List.listFitsIndex k) = true := by
    rw [fitsIndex_both h1 h2]; exact Bool.false_ne_true
  have hlong : ¬ Builtin.List.listTooLong (its.toArray.size * k.toNat) = true := by
    rw [notLongL hlen]; exact Bool.false_ne_true
  have hnew : List.foldl (fun x1 x2 => x1 ++ x2) #[] (List.replicate (if its.toArray.isEmpty = true then 0 else k.toNat) its.toArray) = (List.replicate k.toNat its).flatten.toArray := by
    have f0 : ∀ m : Nat, List.foldl (fun x1 x2 => x1 ++ x2) #[] (List.replicate m its.toArray) = (List.replicate m its).flatten.toArray := fun m => by
      have := foldl_rep its m []; rw [List.nil_append] at this; exact this
    rw [f0]
    cases its with
    | nil => simp
    | cons a r' => rw [if_neg (by simp)]
  refine wpAny_binaryOp_repeat_ref (T := "list") (U := "int") (by decide) ⟨_, e, rfl⟩ (fun s' => typeIs_int s' k t) noFill_list_mul F.fills_int_mul F.slot_int_rmul repeat_list F.slot_int_index.lookup
    (call_meets F.slot_int_rmul (typeIs_int s k t) F.entry_int_rmul (F.args_int_rmul_2 _ _) (int___rmul___int_list k t l its.toArray n)
      ⟨e, rfl, ⟨_, e, rfl⟩, call_meets F.slot_list_mul ⟨_, e, rfl⟩ F.entry_list_mul (F.args_list_mul_2 _ _) (AutoListH.list___mul___list_int_3 l its.toArray n k t hfit hcap hlong) ⟨e, ?_⟩⟩)
  rw [hnew]; exact ⟨.ref _, _, I.lnew (t' := s.toks) (r.rep k.toNat) (by rw [len_rep, Nat.mul_comm]; exact hz), rfl, q _ I.fresh⟩
end
section
variable {prog : Program} {w : World} {A : Around} {E : VSP} {s : Shared}
end
section
variable {X : Cx}
end
end L2
namespace Att
open PySem PySem.W PySem.Calls PyProof.Rows
theorem ints_of_wellAll {P : Params} {h : Heap} : ∀ (ns : List Int) (vs : List Value), WellAll P h vs (ns.map WData.int) → IntsAre vs ns := by
  intro ns
  induction ns with
  | nil =>
    intro vs w; rw [List.map_nil] at w; cases w; exact .nil
  | cons n ns ih =>
    intro vs w; rw [List.map_cons] at w
    cases w with
    | cons a b =>
      cases a; exact .cons _ _ (ih _ b)
theorem script_of {l : OpenLaw} {n : Nat} (hn : l.most = some n) {P : Params} {h : Heap} {args : List WData} {vals : List Value}
    (hpre : l.row.toRowW.claim.pre args = true) (hwl : WellAll P h vals args) :
    ∃ a vs ns, vals = [Value.ref a] ∧ args = [WData.list (ns.map WData.int)] ∧ h.get? a = some { cls := .type "list", data := .seq vs.toArray } ∧ IntsAre vs ns ∧ ns.length ≤ n := by
  have hsh : WShape.hasAll [] args [.list .int] = true := (pre_splitW hpre).1; have hc : l.pre.holds [] { args := args } = true := (pre_splitW hpre).2; obtain ⟨d, r, rfl, h1, h2⟩ := hasAllW_cons hsh; obtain rfl := hasAllW_nil h2; obtain ⟨xs, rfl, h3⟩ := hasW_list h1; obtain ⟨ns, rfl⟩ := items_int h3
  have hlen : ns.length ≤ n := by
    unfold OpenLaw.pre at hc
    have h4 : (WTm.not (.lt (.lit (.int (n : Int))) (.len (.arg 0)))).holds [] { args := [.list (ns.map .int)] } = true := by
      have h4 := (holds_andW hc).1; rw [hn] at h4; exact h4
    have h5 := condW_of h4 (w_not (w_lt w_lit (w_len_list (w_arg rfl)))); rw [List.length_map] at h5; refine Nat.le_of_not_lt fun q => ?_
    have q' : (n : Int) < ((ns.length : Nat) : Int) := by fail"o"
    first
      | (rw [decide_eq_true q'] at h5; exact absurd h5 (by decide))
      | (simp at h5; fail"o")
  cases hwl with
  | cons w1 w2 =>
    cases w2
    cases w1 with
    | list ho hall => exact ⟨_, _, ns, rfl, rfl, ho, ints_of_wellAll ns _ hall, hlen⟩
theorem post_true (l : OpenLaw) (args : List WData) : l.row.toRowW.claim.post args (.bool true) args = true :=
  postW_of (r := l.row.toRowW) (X := (true == true))
    (show WShape.has [] (.bool true) .bool = true by first | rfl | decide | simp [WShape.has, WShape.arms, WShape.armsAll])
    (show (WTm.eq .res (.lit (.bool true))).value [] { args := args, res := some (.bool true), after := args } = some (.bool (true == true)) from w_eq_bool (w_res rfl) w_lit) rfl
theorem attach_call {l : OpenLaw} {n : Nat} {q : Program} {loose : List Str} {XP : (MgT) → Heap → Prop} {YP : World → Heap → Prop} {d : DefRec}
    (hn : l.most = some n) (hdf : d.params.defaults = [])
    (call : ∀ (w : World) (s₀ s₁ : Shared) (mg mb : MgT) (fa : Addr) (o : Obj) (pm cd doc : Value) (a : Addr) (vs : List Value) (ns : List Int),
      Ground q loose [] XP w s₀ mg mb s₁.heap → YP w s₁.heap →
      s₁.heap.get? fa = some o → o.data = .func (docDef d.name d.params d.body d.scope pm cd doc) → s₁.heap.CodeRec cd d.name → mg d.name = some (.ref fa) →
      s₁.heap.get? a = some { cls := .type "list", data := .seq vs.toArray } → IntsAre vs ns → ns.length ≤ n → s₁.gens = #[] →
      codeAny (model l.prog w) callerA (.call (.ref fa) ⟨[.ref a], []⟩) (fun r s' => r = .ok (.ret (.bool true)) ∧ OldK s₁.heap s'.heap ∧ s'.os = s₁.os ∧ AllBare s'.gens) s₁) :
    WalkO q loose XP YP l.row.toRowW d [] (fun f vs => PySem.call f vs) := by
  intro w s₀ s₁ mg mb G Y fa o pm cd doc dV kV ho hd hcd hD hmg hg args vals as hpre hlay hrd hwl hlo; obtain rfl : dV = .none := Dflts.none hD hdf; obtain rfl : kV = .none := Dflts.noKw hD; obtain ⟨a, vs, ns, rfl, rfl, hobj, hints, hlen⟩ := script_of hn hpre hwl; refine enter_call (codeAny_mono (call w s₀ s₁ mg mb fa o pm cd doc a vs ns G Y ho (fd_plain hd) hcd hmg hobj hints hlen hg) fun r s' hq => ?_)
  obtain ⟨rfl, h2, h3, h4⟩ := hq; exact ⟨.inl ⟨.bool true, .bool true, [], rfl, fun _ => rfl, .bool true, post_true l _, fun _ => ⟨List.Pairwise.nil, fun _ hm => (nomatch hm)⟩⟩, h2, h3, h4⟩
section
variable {prog : Program} {w : World} {A : Around} {E : VSP} {s : Shared} {K : Frag}
end
end Att
namespace L2
open PySem PySem.Spec PyProof.Rows
theorem vals_ints {vs : List Value} {ns : List Int} (h : IntsAre vs ns) : Vals (ns.map V.int) vs := by
  induction h with
  | nil => exact .nil
  | cons n t h ih => exact .cons ⟨t, rfl⟩ ih
def Only (H : Hp) : Prop := ∀ b, H b = none ∨ ∃ o xs, H b = some (.frz o (.lst xs))
theorem law_call {P : Program} {w : World} {K : PySem.W.Frag} {mg mb : MgT} {CX : CXT} {k : Nat} {fa a : Addr} {fd : FuncData} {x : Str} {sp : Sp} {s₁ : Shared} {vs : List Value} {ns : List Int}
    (KX : K.In s₁.heap) (hns : s₁.heap.Ns mainGlobals mg) (hb : s₁.heap.Ns builtinsNs mb) (hbb : ∀ x : Str, x ≠ "__name__" → mb x = bootBuiltins x) (hlim : s₁.heap.NoLimit) (hg : s₁.gens = #[])
    (ha : s₁.heap.get? a = some { cls := .type "list", data := .seq vs.toArray }) (hi : IntsAre vs ns) (hl : ns.length ≤ sizeLine) (hr : Room k callerA)
    (F : ∀ base : Heap, K.In base → base.Ns mainGlobals mg → FnOk P w K mg base CX k fa fd [x] sp) (hbind : ∀ (s : Shared) (u : Value), BindsTo s fd ⟨[u], []⟩ [(x, u)])
    (hsp : ∀ H : Hp, Only H → SqL K H a (ns.map V.int) → sp [.ref a] H (fun v _ => v = .bl true) fun _ _ _ => False)
    (hCX : ∀ H e s', CX [] H s₁ (fun _ _ _ => False) e s' → False) :
    codeAny (model P w) callerA (.call (.ref fa) ⟨[.ref a], []⟩) (fun r s' => r = .ok (.ret (.bool true)) ∧ OldK s₁.heap s'.heap ∧ s'.os = s₁.os ∧ AllBare s'.gens) s₁ := by
  have rv := vals_ints hi; have lenV := hi.length
  have core : ∀ H : Hp, Only H → SqL K H a (ns.map V.int) → HOk P w H s₁.heap → (∀ b, H b ≠ none → b = a) → (H a ≠ none → K.lookup a = none) →
      codeAny (model P w) callerA (.call (.ref fa) ⟨[.ref a], []⟩) (fun r s' => r = .ok (.ret (.bool true)) ∧ OldK s₁.heap s'.heap ∧ s'.os = s₁.os ∧ AllBare s'.gens) s₁ := by
    intro H hO hS hok hA hK; have base_of : ∀ {b : Addr} {o : Obj}, s₁.heap.get? b = some o → H b = none → (hidT s₁.heap H).get? b = some o := fun e n => hidT_get e n
    have noA : ∀ {b : Addr} {o : Obj} {es : Array DictEntry} {ep : Nat}, s₁.heap.get? b = some o → o.data = .dict es ep → H b = none := fun {b o es ep} e d => by
      cases q : H b with
      | none => rfl
      | some u =>
        have e' : b = a := hA b (by rw [q]; simp)
        subst e'; rw [ha] at e; cases e; have d' : Data.seq vs.toArray _ = Data.dict es ep := d; cases d'
    have nsK : ∀ {b : Addr} {m : MgT}, s₁.heap.Ns b m → (hidT s₁.heap H).Ns b m := fun {b m} ⟨o, es, ep, e, d, r⟩ => ⟨o, es, ep, base_of e (noA e d), d, r⟩
    have hKb : K.In (hidT s₁.heap H) := fun b o e => base_of (KX b o e) (by
      cases q : H b with
      | none => rfl
      | some u =>
        have e' : b = a := hA b (by rw [q]; simp)
        subst e'; rw [hK (by rw [q]; simp)] at e; cases e)
    have hM : Mod K mg (hidT s₁.heap H) := ⟨hKb, nsK hns, ⟨mb, nsK hb, hbb⟩, let ⟨mc, h1, h2⟩ := hlim; ⟨mc, nsK h1, h2⟩⟩
    have e0 : Env0 P w K mg (hidT s₁.heap H) callerA [] s₁ H := ⟨rfl, hM, fun b o e => of_hidT e, Nat.le_of_eq (hidT_size _ _), trivial, fun b hb => absurd (show b ∈ ([] : List Addr) from hb) (by simp), hok, .of_eq hg⟩
    refine codeAny_mono ((F _ hKb (nsK hns)).run callerA [] s₁ H ⟨[.ref a], []⟩ [.ref a] [.ref a] _ _ hr e0 (hbind s₁ (.ref a)) (.cons rfl .nil) (hsp H hO hS)) fun r s' h => ?_
    cases r with
    | error e => exact (hCX H e s' h).elim
    | ok fl =>
      cases fl with
      | next => exact False.elim h
      | brk => exact False.elim h
      | cont => exact False.elim h
      | ret u =>
        obtain ⟨v, H', os, bare, un, hok', r', q⟩ := h; have q' : v = .bl true := q; subst q'; obtain rfl : u = Value.bool true := r'; refine ⟨rfl, OldK.of_keep fun b o e => ?_, os, bare⟩
        cases q : H b with
        | none => exact un.keep b o e q (by intro z; exact absurd (show b ∈ ([] : List Addr) from z) (by simp)) (by simp)
        | some u =>
          rcases hO b with z | ⟨ob, xs, z⟩
          · rw [q] at z; cases z
          · have z2 := un.frzs b ob _ z
            obtain ⟨e1, _⟩ := hok b _ z; obtain ⟨e2, _⟩ := hok' b _ z2; rw [e] at e1; cases e1; exact e2
  cases hk : K.lookup a with
  | some o =>
    have e := KX a o hk; rw [ha] at e; cases e; refine core (fun _ => none) (fun _ => .inl rfl) (.inr ⟨_, vs.toArray, _, hk, rfl, rfl, rfl, by rw [List.size_toArray, lenV]; exact hl, by simpa using rv⟩) (fun b u z => by have z' : (none : Option HO) = some u := z; cases z') (fun b z => absurd rfl z) fun z => absurd rfl z
  | none =>
    refine core (fun b => if b = a then some (.frz { cls := .type "list", data := .seq vs.toArray } (.lst (ns.map V.int))) else none) (fun b => ?_) (.inl (.inr ⟨{ cls := .type "list", data := .seq vs.toArray }, if_pos rfl⟩)) (fun b u z => ?_) (fun b z => ?_) fun _ => hk
    · by_cases hb : b = a
      · exact .inr ⟨_, _, if_pos hb⟩
      · exact .inl (if_neg hb)
    · by_cases hb : b = a
      · have z' := (if_pos hb).symm.trans z
        cases z'; subst hb; exact ⟨ha, by rw [List.length_map]; exact hl, vs, _, rv, ha⟩
      · have z' := (if_neg hb).symm.trans z
        cases z'
    · by_cases hb : b = a
      · exact hb
      · exact absurd (if_neg hb) z
end L2
namespace L2
open PySem PySem.Spec PyProof.Rows
theorem walk_of {l : PySem.W.OpenLaw} {n k : Nat} {q : Program} {loose : List Str} {XP : (MgT) → Heap → Prop} {YP : World → Heap → Prop} {d : DefRec} {K : Params → PySem.W.Frag} {CX : World → CXT} {sp : World → Sp} {x : Str}
    (hn : l.most = some n) (hn2 : n ≤ sizeLine) (hdf : d.params.defaults = []) (hr : Room k callerA)
    (hY : ∀ (w : World) (h : Heap), YP w h → (K w.params).In h)
    (F : ∀ (w : World) (mg : MgT) (fa : Addr) (h : Heap), (K w.params).In h → h.Ns mainGlobals mg → mg d.name = some (.ref fa) →
      ∃ fd : FuncData, (∀ (s : Shared) (u : Value), BindsTo s fd ⟨[u], []⟩ [(x, u)]) ∧
        ∀ base : Heap, (K w.params).In base → base.Ns mainGlobals mg → FnOk l.prog w (K w.params) mg base (CX w) k fa fd [x] (sp w))
    (hsp : ∀ (w : World) (H : Hp) (a : Addr) (ns : List Int), ns.length ≤ n → Only H → SqL (K w.params) H a (ns.map V.int) → sp w [.ref a] H (fun v _ => v = .bl true) fun _ _ _ => False)
    (hCX : ∀ (w : World) (H : Hp) (s : Shared) (e : Value) (s' : Shared), CX w [] H s (fun _ _ _ => False) e s' → False) :
    PySem.W.WalkO q loose XP YP l.row.toRowW d [] (fun f vs => PySem.call f vs) := by
  refine Att.attach_call hn hdf fun w s₀ s₁ mg mb fa o pm cd doc a vs ns G Y ho hd hcd hmg hobj hints hlen hg => ?_
  have KX := hY w _ Y; obtain ⟨fd, hb, hF⟩ := F w mg fa _ KX G.T.g hmg; exact law_call KX G.T.g G.T.b G.T.builtins G.T.nolimit hg hobj hints (Nat.le_trans hlen hn2) hr hF hb (fun H hO hS => hsp w H a ns hlen hO hS) fun H e s' => hCX w H s₁ e s'
end L2
/- THE LAST THEOREM (shape; LID, My.* are yours):
   My.Adr: a structure of the addresses that your layer names (classes, functions); My.Txt K t: a structure (Prop) of the equations over K;
   My.txt_mk : {K} {implicit addresses ..} (e1 : nsIn K mainGlobals "law" = some (some (.ref f))) (e2 : K.lookup f = some ⟨oc, od, .func (fnOf "law" "law" params body scope dV kV doc pm an cdv ct), sl⟩) (e3 : codeIn K cdv "law" = true) .. : ∃ t, My.Txt K t
(the tactic k_is has no namespace: write k_is) -/
namespace L2
open PySem PySem.Spec PyProof.Rows
def defArgs (s : Stmt) : Arguments := match s with
  | .FunctionDef _ a _ _ _ _ _ _ _ _ => a
  | _ => { posonlyargs := [], args := [], vararg := none, kwonlyargs := [], kw_defaults := [], kwarg := none, defaults := [] }
def defBody (s : Stmt) : List Stmt := match s with
  | .FunctionDef _ _ b _ _ _ _ _ _ _ => b
  | _ => []
def defScope (s : Stmt) : Scope := match s with
  | .FunctionDef _ _ _ _ _ _ sc _ _ _ => sc
  | _ => { kind := .function, names := [], isGenerator := false, isCoroutine := false }
abbrev E0 : XK := fun _ _ _ => False
structure Fun (K : PySem.W.Frag) (x qual : Str) (st : Stmt) (f : Addr) (fd : FuncData) : Prop where
  ex : ∃ (oc : Value) (od : Option Addr) (kV doc pm : Value) (an : Option Addr) (cdv ct : Value) (osl : Array (Option Value)),
    fd = PySem.W.fnOf x qual (defArgs st) (defBody st) (defScope st) .none kV doc pm an cdv ct ∧ K.lookup f = some ⟨oc, od, .func fd, osl⟩ ∧ PySem.W.codeIn K cdv qual = true
  kp : PySem.W.keepIn K (.ref f) = true
section
variable {P : Program} {w : World} {K : PySem.W.Frag} {mg : MgT} {base : Heap}
theorem Fun.binds {x qual : Str} {st : Stmt} {f : Addr} {fd : FuncData} {ps : List Str} (F : Fun K x qual st f fd)
    (h : ∀ (kV doc pm : Value) (an : Option Addr) (cdv ct : Value) (us : List Value), us.length = ps.length → bindArgs (PySem.W.fnOf x qual (defArgs st) (defBody st) (defScope st) .none kV doc pm an cdv ct) ⟨us, []⟩ = pure (ps.zip us)) : Binds K fd ps [] := by
  obtain ⟨oc, od, kV, doc, pm, an, cdv, ct, osl, rfl, lk, hcd⟩ := F.ex; exact .all (h kV doc pm an cdv ct)
theorem fun_mk {x qual : Str} {st : Stmt} {f : Addr} {oc : Value} {od an : Option Addr} {osl : Array (Option Value)} {kV doc pm cdv ct : Value} (l : K.lookup f = some ⟨oc, od, .func (PySem.W.fnOf x qual (defArgs st) (defBody st) (defScope st) .none kV doc pm an cdv ct), osl⟩)
    (c : PySem.W.codeIn K cdv qual = true) (k : PySem.W.keepIn K (.ref f) = true) : Fun K x qual st f (PySem.W.fnOf x qual (defArgs st) (defBody st) (defScope st) .none kV doc pm an cdv ct) := ⟨⟨oc, od, kV, doc, pm, an, cdv, ct, osl, rfl, l, c⟩, k⟩
end
section
variable {X : Cx}
end
theorem iteF {A B : Prop} (h : B) : if false = true then A else B := by
  rw [if_neg Bool.false_ne_true]; exact h
theorem iteT {A B : Prop} (h : A) : if true = true then A else B := by
  rw [if_pos rfl]; exact h
def Same (H H' : Hp) : Prop := ∀ b o, H b = some o → H' b = some o
theorem Same.refl (H : Hp) : Same H H := fun _ _ h => h
theorem Same.trans {H H1 H2 : Hp} (a : Same H H1) (b : Same H1 H2) : Same H H2 := fun c o h => b c o (a c o h)
theorem Same.free {H H' : Hp} (e : Same H H') {l : Addr} (h : H' l = Option.none) : H l = Option.none := by
  cases q : H l with
  | none => rfl
  | some o =>
    rw [e l o q] at h; cases h
theorem Same.seq {K : PySem.W.Frag} {H H' : Hp} {a : Addr} {xs : List V} (e : Same H H') (h : SqL K H a xs) : SqL K H' a xs := by
  rcases h with (h | ⟨o, h⟩) | h
  · exact .inl (.inl (e _ _ h))
  · exact .inl (.inr ⟨o, e _ _ h⟩)
  · exact .inr h
end L2
set_option autoImplicit false
set_option Elab.async false
set_option linter.all false
set_option maxRecDepth 100000
set_option maxHeartbeats 3200000
namespace L2
open PySem PySem.Spec PyProof.Rows
open Sem (wp)
def F2 (h : Heap) (a : Addr) (v : Value) : Prop := ∃ o vs, h.get? a = some o ∧ o.data = .fields vs ∧ vs[2]? = some v
def F2in (h h' : Heap) : Prop := ∀ a v, F2 h a v → F2 h' a v
theorem F2in.refl (h : Heap) : F2in h h := fun _ _ x => x
theorem F2in.trans {h h' h'' : Heap} (x : F2in h h') (y : F2in h' h'') : F2in h h'' := fun a v z => y a v (x a v z)
theorem F2in.keeps {h h' : Heap} (k : ∀ b o, h.get? b = some o → h'.get? b = some o) : F2in h h' := fun a _ ⟨o, vs, e, d⟩ => ⟨o, vs, k a o e, d⟩
theorem F2in.upd {h : Heap} {b : Addr} {f : Obj → Obj} (hf : ∀ o vs v, o.data = .fields vs → vs[2]? = some v → ∃ ws, (f o).data = .fields ws ∧ ws[2]? = some v) : F2in h (h.update b f) := fun a v ⟨o, vs, e, d, q⟩ => by
  by_cases hb : a = b
  · subst hb
    obtain ⟨ws, d', q'⟩ := hf o vs v d q; exact ⟨f o, ws, Heap.get?_update_self f e (Obj.isFreed_of_fields d'), d', q'⟩
  · exact ⟨o, vs, (Heap.get?_update_other _ _ (Ne.symm hb)).trans e, d, q⟩
theorem F2in.put {h : Heap} {b : Addr} {i : Nat} {x : Value} (hi : i ≠ 2) : F2in h (h.update b (Obj.mapFields (·.setIfInBounds i x))) :=
  F2in.upd fun o vs v d q => ⟨_, Obj.data_mapFields d _, by rw [Array.getElem?_setIfInBounds_ne hi]; exact q⟩
structure Pres {α : Type} (t : Sem α) : Prop where
  out : ∀ (M : Model) (Γ : PySem.Ctx) (P : α → Pos → Shared → Prop) (Ee : Value → Pos → Shared → Prop) (p : Pos) (s : Shared) (h0 : Heap), F2in h0 s.heap → wp M Γ t P Ee p s → wp M Γ t (fun a p' s' => P a p' s' ∧ F2in h0 s'.heap) Ee p s
namespace Pres
variable {α β : Type}
theorem pure' (a : α) : Pres (Pure.pure a : Sem α) := ⟨fun M Γ P Ee p s h0 k h => by rw [Sem.wp_pure'] at h ⊢; exact ⟨h, k⟩⟩
theorem unsup (w : String) : Pres (PySem.unsupported w : Sem α) := ⟨fun _ _ _ _ _ _ _ _ h => h.elim⟩
theorem bind' {m : Sem α} {f : α → Sem β} (hm : Pres m) (hf : ∀ a, Pres (f a)) : Pres (m >>= f) := ⟨fun M Γ P Ee p s h0 k h => by
  rw [Sem.wp_bind'] at h ⊢; exact Sem.wp_mono M Γ m (fun a p' s' h' => (hf a).out M Γ P Ee p' s' h0 h'.2 h'.1) (fun _ _ _ x => x) p s (hm.out M Γ _ Ee p s h0 k h)⟩
theorem ite' {c : Prop} [Decidable c] {t u : Sem α} (ht : Pres t) (hu : Pres u) : Pres (if c then t else u) := by split <;> assumption
theorem load' (a : Addr) : Pres (PySem.load a) := ⟨fun M Γ P Ee p s h0 k h => by
  unfold PySem.load at h ⊢; rw [Sem.wp_load] at h ⊢; obtain ⟨o, e, q⟩ := h; rw [Sem.wp_pure] at q; exact ⟨o, e, by rw [Sem.wp_pure]; exact ⟨q, k⟩⟩⟩
theorem stack' : Pres PySem.stack := ⟨fun M Γ P Ee p s h0 k h => by
  unfold PySem.stack at h ⊢; rw [Sem.wp_stack] at h ⊢; rw [Sem.wp_pure] at h ⊢; exact ⟨h, k⟩⟩
theorem field' (v : Value) (i : Nat) : Pres (PySem.field v i) := ⟨fun M Γ P Ee p s h0 k h => by
  rw [wp_field_iff] at h ⊢; obtain ⟨a, o, vs, x, e, h1, h2, h3, q⟩ := h; exact ⟨a, o, vs, x, e, h1, h2, h3, q, k⟩⟩
theorem setField' (v : Value) (i : Nat) (x : Value) (hi : i ≠ 2) : Pres (PySem.setField v i x) := ⟨fun M Γ P Ee p s h0 k h => by
  rw [wp_setField_iff] at h ⊢; obtain ⟨a, o, vs, e, h1, h2, h3, q⟩ := h; exact ⟨a, o, vs, e, h1, h2, h3, q, k.trans (F2in.put hi)⟩⟩
theorem slots' (a : Addr) (f : Obj → Obj) (hf : ∀ o, (f o).data = o.data) : Pres (PySem.update a f) := ⟨fun M Γ P Ee p s h0 k h => by
  unfold PySem.update at h ⊢; rw [Sem.wp_update] at h ⊢; rw [Sem.wp_pure] at h ⊢; exact ⟨h.1, h.2, k.trans (F2in.upd fun o vs v d q => ⟨vs, (hf o).trans d, q⟩)⟩⟩
theorem alloc' (o : Obj) : Pres (PySem.alloc o) := ⟨fun M Γ P Ee p s h0 k h => by
  unfold PySem.alloc at h ⊢; rw [Sem.wp_alloc] at h ⊢; rw [Sem.wp_pure] at h ⊢; exact ⟨h, k.trans (F2in.keeps fun b u e => Heap.get?_push_of_some _ e)⟩⟩
end Pres
local macro_rules
  | `(tactic| fail $s:str) => if s.getString == "pres" then `(tactic| repeat' with_reducible first
    | assumption
    | exact Pres.pure' _
    | exact Pres.unsup _
    | exact Pres.field' _ _
    | exact Pres.setField' _ _ _ (by decide)
    | exact Pres.load' _
    | exact Pres.slots' _ _ (fun _ => rfl)
    | exact Pres.stack'
    | exact Pres.alloc' _
    | apply Pres.ite'
    | apply Pres.bind'
    | intro _
    | split) else Lean.Macro.throwUnsupported
theorem pres_import (env : Env) (outer : List Env) : Pres (behindIsImport env outer) := by unfold behindIsImport; fail "pres"
theorem pres_claims : Pres underTheClaimsCaller := by unfold underTheClaimsCaller; fail "pres"
theorem pres_back (env : Env) (i : Bool) (l : List Env) : Pres (keptBack env i l) := by
  have := pres_claims; cases l <;> unfold keptBack <;> fail "pres"
theorem pres_ready : ∀ l : List Env, Pres (readyFrames l)
  | [] => Pres.pure' _
  | env :: outer => by
    have ih := pres_ready outer; have h1 := pres_import env outer; have h2 := fun i => pres_back env i outer
    unfold readyFrames
    fail "pres"
    all_goals first | exact h2 _ | skip
theorem pres_frameObj : ∀ l : List Env, Pres (frameObject l)
  | [] => Pres.pure' _
  | env :: outer => by
    have := pres_ready (env :: outer); unfold frameObject
    fail "pres"
theorem pres_frameOf (env : Env) : Pres (PySem.frameOf env) := by
  have h1 : Pres frameEnvs := by unfold frameEnvs; fail "pres"
  have h2 := pres_frameObj; unfold PySem.frameOf
  fail "pres"
  all_goals first | exact h2 _ | skip
theorem pres_place (f : Addr) (b : Bool) : Pres (entryPlaceOf f b) := by unfold entryPlaceOf; fail "pres"
theorem pres_entry (a b c d e : Value) (l : List Value) : Pres (EntryCells.newEntry a b c d e l) := by
  unfold EntryCells.newEntry newFields newObj newObjAsIs
  fail "pres"
theorem pres_flight (e : Value) (f : Option Addr) : Pres (setFlight e f) := by unfold setFlight; fail "pres"
theorem pres_note (e : Value) (env : Env) : Pres (noteFrame e env) := by
  have h1 := pres_frameOf env; have h2 := pres_place; have h3 := pres_entry; unfold noteFrame
  fail "pres"
  all_goals first | exact h2 _ _ | exact h3 _ _ _ _ _ _ | skip
theorem pres_leaving (env : Env) (e : Value) : Pres (leaving env e) := by
  have h1 := pres_note e env; have h2 := pres_flight e none; unfold leaving
  fail "pres"
theorem wpAny_pres {α : Type} {M : Model} {A : Around} {t : Sem α} {Q : α → Shared → Prop} {E : VSP} {s : Shared} {h0 : Heap} (ht : Pres t) (k : F2in h0 s.heap) (h : wpAny M A t (fun a s' => F2in h0 s'.heap → Q a s') E s) : wpAny M A t Q E s := fun Γ p hΓ =>
  Sem.wp_mono M Γ t (fun _ _ _ x => x.1 x.2) (fun _ _ _ x => x) p s (ht.out M Γ _ _ p s h0 k (h Γ p hΓ))
end L2
namespace L2
open PySem PySem.Spec PyProof.Rows
def Chain (h : Heap) : Nat → Addr → Prop
  | 0, a => F2 h a .none
  | n + 1, a => ∃ b, F2 h a (.ref b) ∧ Chain h n b
theorem Chain.keeps {h h' : Heap} (k : F2in h h') : ∀ {n : Nat} {a : Addr}, Chain h n a → Chain h' n a
  | 0, _, x => k _ _ x
  | _ + 1, _, ⟨b, x, y⟩ => ⟨b, k _ _ x, Chain.keeps k y⟩
section
variable {P : Program} {w : World} {A : Around} {R : Result → Shared → Prop} {s : Shared} {h0 : Heap} {e : Addr}
end
section
variable {P : Program} {w : World} {A : Around} {E : VSP} {env : Env}
variable {nm q : Str} {C N : Addr} {bs bm : List Value} {hdct : Bool} {sn : List Str} {sub : List Value} {ab : Bool} {col : Option Bool} {dd : Option Addr} {k0 k1 k2 k3 k5 : Option Value} {newId : String}
end
end L2
namespace L2
open PySem PySem.Spec PyProof.Rows
theorem wpN {α : Type} {M : Model} {A : Around} {c : Prop} [Decidable c] {a b : Sem α} {Q : α → Shared → Prop} {E : VSP} {s : Shared} (h : ¬ c) (k : wpAny M A b Q E s) : wpAny M A (if c then a else b) Q E s := by
  rw [if_neg h]; exact k
theorem wpY {α : Type} {M : Model} {A : Around} {c : Prop} [Decidable c] {a b : Sem α} {Q : α → Shared → Prop} {E : VSP} {s : Shared} (h : c) (k : wpAny M A a Q E s) : wpAny M A (if c then a else b) Q E s := by
  rw [if_pos h]; exact k
structure Fly (P : Program) (w : World) (outer : List Env) (H : Hp) (s : Shared) (E : XK) (ea C : Addr) (t0 : Value) (B : Heap) (H' : Hp) (s' : Shared) : Prop where
  wish : E (.ref C) none H'
  os : s'.os = s.os
  bare : AllBare s'.gens
  un : Un (frs outer) [] H H' s.heap s'.heap
  hok : HOk P w H' B
  old : ∀ b o, s.heap.get? b = some o → H b = none → b ∉ frs outer → B.get? b = some o
  lies : ∀ b o, s.heap.get? b = some o → b ∉ frs outer → ∃ o', B.get? b = some o'
  fly : Heap.FlyingW B outer ea (.ref C) t0 s'.heap
  ctx : ∃ n, Chain s'.heap n ea
def CX1 (P : Program) (w : World) : CXT := fun outer H s E e s' => ∃ ea C t0 B H', e = .ref ea ∧ Fly P w outer H s E ea C t0 B H' s'
structure IsDef (X : Cx) (E : XK) : Prop where
  stk : X.stack = X.env :: X.outer
  frm : X.env.frame = some X.env.locals
  noe : X.ex = []
  xe : ∀ e s', wpAny (model X.prog X.w) X.A (leaving X.env e) (fun _ s'' => CX1 X.prog X.w X.outer X.H₀ X.s₀ E e s'') (fun e' s'' => CX1 X.prog X.w X.outer X.H₀ X.s₀ E e' s'') s' → X.xe e s'
theorem isDef_cxOf {P : Program} {w : World} {K : PySem.W.Frag} {mg : MgT} {base : Heap} {N : List Str} {qual : Str} {scope : Scope} {f : Addr} {cd : Value} {A : Around} {outer : List Env} {s : Shared} {H : Hp} {E : XK} :
    IsDef (cxOf (CX1 P w) P w K mg base N qual scope f cd A outer s H E) E := ⟨rfl, rfl, rfl, fun _ _ h => h⟩
section
variable {X : Cx} {E : XK} {pins : Pins} {σ : St} {H : Hp} {s : Shared}
theorem Inv.offStack (I : Inv X pins σ H s) {b : Addr} {o : Obj} (e : X.s₀.heap.get? b = some o) (hb : b ∉ X.fs) : b ∉ frs X.stack := fun z => by
  rcases List.mem_cons.mp (I.stkSub b z) with q | q
  · exact absurd (Nat.lt_of_lt_of_le (Heap.lt_size e) I.ok.above) (by rw [q]; exact Nat.lt_irrefl _)
  · exact hb q
theorem Inv.tracked (I : Inv X pins σ H s) {b : Addr} {o : HO} (e : H b = some o) : b ∉ frs X.stack := fun z => by
  rw [I.stkFree b z] at e; cases e
theorem Cx.Ok.frameData (ok : X.Ok) {b : Addr} {o : Obj} (hb : b ∈ X.fs) (e : X.s₀.heap.get? b = some o) : ∀ vs, o.data ≠ .fields vs := by
  obtain ⟨_, o', ho, hd⟩ := ok.funs.mem hb; rw [e] at ho; cases ho; exact hd
structure NewExc (h h' : Heap) (e C t : Addr) : Prop where
  keeps : ∀ b o, h.get? b = some o → h'.get? b = some o
  new : h.get? e = none
  there : ∃ vs, h'.get? e = some { cls := .ref C, data := .fields vs } ∧ vs[0]? = some (.ref t) ∧ vs[1]? = some .none
  chain : ∃ n, Chain h' n e
theorem NewExc.made {h h' : Heap} {e C : Addr} {vs : List Value} (hx : Heap.MadeExcOf h h' e (.ref C) vs) : ∃ t, NewExc h h' e C t :=
  let ⟨t, ht, _, _⟩ := hx.there; ⟨t, hx.keeps, hx.new, ⟨_, ht, rfl, rfl⟩, 0, _, _, ht, rfl, rfl⟩
theorem leaves_new {M : Model} {A : Around} {E' : VSP} {base h : Heap} {env : Env} {outer : List Env} {L e C t : Addr} {Q : Unit → Shared → Prop} (hfr : A.frames = some (env :: outer)) (hf : env.frame = some L) (hkb : base.StaysIn h) (hl : h.FunFrames base (env :: outer)) (hx : NewExc h s.heap e C t)
    (hQ : ∀ h', Heap.FlyingW base outer e (.ref C) (.ref t) h' → s.heap.UpToSlots h' → (∃ n, Chain h' n e) → Q () { s with heap := h' }) : wpAny M A (leaving env (.ref e)) Q E' s := by
  obtain ⟨vs, he, v0, v1⟩ := hx.there; obtain ⟨n, ch⟩ := hx.chain
  have hen : base.get? e = none := by
    cases hq : base.get? e with
    | none => rfl
    | some o' => have z := hkb e o' hq; rw [hx.new] at z; cases z
  refine wpAny_pres (h0 := s.heap) (pres_leaving env _) (F2in.refl _) (wpAny_leaving_firstW (a0 := .ref t) hfr (hl.of_keeps fun b o hb _ => ⟨o, hx.keeps b o hb, rfl⟩) hf he (fun b o hb => hx.keeps b o (hkb b o hb)) hen rfl v1 v0 fun h' hL kp => ?_)
  obtain ⟨l1, ⟨_, _, l2⟩, l3, l4⟩ := hL; exact hQ h' ⟨l1, hen, l2, l3⟩ l4 ⟨n, Chain.keeps kp ch⟩
theorem IsDef.left (D : IsDef X E) (I : Inv X pins σ H s) {h' : Heap} {ea C t : Addr} (hx : NewExc s.heap h' ea C t) (hE : E (.ref C) none H) : wpAny (model X.prog X.w) X.A (leaving X.env (.ref ea)) (fun _ s'' => CX1 X.prog X.w X.outer X.H₀ X.s₀ E (.ref ea) s'') (fun e' s'' => CX1 X.prog X.w X.outer X.H₀ X.s₀ E e' s'') { s with heap := h' } := by
  have hfr : X.A.frames = some (X.env :: X.outer) := by rw [I.ok.frames, D.stk]
  have hst := I.stack; have hin : ∀ env ∈ X.stack, ∀ a, env.frame = some a → a ∈ frs X.stack := fun env he a ha => List.mem_filterMap.mpr ⟨env, he, ha⟩
  have hl : s.heap.FunFrames (PySem.W.hideAll s.heap (frs X.stack)) (X.env :: X.outer) := by
    have := PySem.W.funFrames_hide hst hin; rw [← D.stk]; exact this
  refine leaves_new (h := s.heap) hfr D.frm (fun b o q => PySem.W.of_hideAll _ q) hl hx fun h'' x1 x4 x5 => ?_
  have kB : ∀ b o, s.heap.get? b = some o → b ∉ frs X.stack → (PySem.W.hideAll s.heap (frs X.stack)).get? b = some o := fun b o e n => PySem.W.hideAll_get _ e n
  have noex : ∀ b : Addr, b ∉ X.ex := fun b z => by rw [D.noe] at z; exact absurd z (by simp)
  have slots : ∀ b o, s.heap.get? b = some o → (∀ vs, o.data ≠ .fields vs) → ∃ sl, h''.get? b = some { o with slots := sl } := fun b o e hd => x4 b o (hx.keeps b o e) hd
  refine ⟨ea, C, .ref t, PySem.W.hideAll s.heap (frs X.stack), H, rfl, ⟨hE, I.os, I.bare, ⟨fun b o e n hb _ => ?_, fun b o e n hb _ => ?_, fun b o e n _ => I.base.free b o e n (noex b), fun b o e _ => ?_, I.base.tups, I.base.frzs, I.base.tbls⟩, fun a o e => ?_, fun b o e n hb => ?_, fun b o e hb => ?_, x1, x5⟩⟩
  · exact x1.1 b o (kB b o (I.base.keep b o e n hb (noex b)) (I.offStack e hb))
  · obtain ⟨sl, e1⟩ := I.base.slot b o e n hb (noex b)
    obtain ⟨sl', e2⟩ := slots b _ e1 (show ∀ vs, o.data ≠ .fields vs from I.ok.frameData hb e)
    exact ⟨sl', e2⟩
  · obtain ⟨o', e1⟩ := I.base.there b o e (noex b)
    by_cases hb : b ∈ X.fs
    · obtain ⟨sl, e2⟩ := I.base.slot b o e (I.ok.frf b hb) hb (noex b)
      obtain ⟨sl', e3⟩ := slots b _ e2 (show ∀ vs, o.data ≠ .fields vs from I.ok.frameData hb e)
      exact ⟨_, e3⟩
    · exact ⟨o', x1.1 b o' (kB b o' e1 (I.offStack e hb))⟩
  · refine (I.hok a o e).stay (fun b u hb q => kB b u q ?_) (fun _ q => q) fun _ _ q => q
    rcases hb with rfl | hb
    · exact I.tracked e
    · exact I.tracked hb
  · exact kB b o (I.base.keep b o e n hb (noex b)) (I.offStack e hb)
  · obtain ⟨o', e1⟩ := I.base.there b o e (noex b)
    exact ⟨o', kB b o' e1 (I.offStack e hb)⟩
theorem IsDef.raised (D : IsDef X E) (I : Inv X pins σ H s) {h' : Heap} {ea C : Addr} {vs : List Value} (hx : Heap.MadeExcOf s.heap h' ea (.ref C) vs) (hE : E (.ref C) none H) : X.xe (.ref ea) { s with heap := h' } :=
  let ⟨_, z⟩ := NewExc.made hx; D.xe _ _ (D.left I z hE)
theorem IsDef.passes (D : IsDef X E) : Passes (CX1 X.prog X.w) X E := by
  intro pins σ H s e s' I h; obtain ⟨ea, C, t0, B, H', rfl, F⟩ := h; refine D.xe _ _ ?_
  have hfr : X.A.frames = some (X.env :: X.outer) := by rw [I.ok.frames, D.stk]
  have fl : Heap.FlyingW B (X.env :: X.outer) ea (.ref C) t0 s'.heap := by rw [← D.stk]; exact F.fly
  have noex : ∀ b : Addr, b ∉ X.ex := fun b z => by rw [D.noe] at z; exact absurd z (by simp)
  obtain ⟨nC, ch⟩ := F.ctx; refine wpAny_pres (h0 := s'.heap) (pres_leaving _ _) (F2in.refl _) (wpAny_leaves_onW hfr D.frm fl fun h'' x1 x4 kp => ?_)
  have stk2 : ∀ b, b ∈ X.fs → b ∈ frs X.stack := fun b hb => by
    rw [D.stk]; unfold frs; rw [List.filterMap_cons, D.frm]; exact List.mem_cons_of_mem _ hb
  have slots : ∀ b o, X.s₀.heap.get? b = some o → b ∈ X.fs → ∃ sl, h''.get? b = some { o with slots := sl } := fun b o e hb => by
    obtain ⟨sl, e1⟩ := I.base.slot b o e (I.ok.frf b hb) hb (noex b); obtain ⟨sl', e2⟩ := F.un.slot b _ e1 (I.base.free b o e (I.ok.frf b hb) (noex b)) (stk2 b hb) (by simp)
    obtain ⟨sl'', e3⟩ := x4 b _ e2 (show ∀ vs, o.data ≠ .fields vs from I.ok.frameData hb e)
    exact ⟨sl'', e3⟩
  have inB : ∀ b o, X.s₀.heap.get? b = some o → X.H₀ b = none → b ∉ X.fs → B.get? b = some o := fun b o e n hb =>
    F.old b o (I.base.keep b o e n hb (noex b)) (I.base.free b o e n (noex b)) (I.offStack e hb)
  have liesB : ∀ b o, X.s₀.heap.get? b = some o → b ∉ X.fs → ∃ o', B.get? b = some o' := fun b o e hb => by
    obtain ⟨o', e1⟩ := I.base.there b o e (noex b); exact F.lies b o' e1 (I.offStack e hb)
  refine ⟨ea, C, t0, B, H', rfl, ⟨F.wish, F.os.trans I.os, F.bare, ⟨fun b o e n hb _ => x1.1 b o (inB b o e n hb), fun b o e n hb _ => slots b o e hb, fun b o e n _ => ?_, fun b o e _ => ?_, fun b xs e => F.un.tups b xs (I.base.tups b xs e), fun b o u e => F.un.frzs b o u (I.base.frzs b o u e), fun b ps e => ?_⟩, F.hok, inB, liesB, x1, nC, Chain.keeps kp ch⟩⟩
  · obtain ⟨o', e1⟩ := I.base.there b o e (noex b)
    exact F.un.free b o' e1 (I.base.free b o e n (noex b)) (by simp)
  · by_cases hb : b ∈ X.fs
    · obtain ⟨sl, e1⟩ := slots b o e hb
      exact ⟨_, e1⟩
    · obtain ⟨o', e1⟩ := liesB b o e hb
      exact ⟨o', x1.1 b o' e1⟩
  · obtain ⟨m1, e1⟩ := I.base.tbls b ps e
    obtain ⟨m2, e2⟩ := F.un.tbls b _ e1; exact ⟨m1 ++ m2, by rw [e2, Array.append_assoc]⟩
end
def veMro : List Value := [.type "ValueError", .type "Exception", .type "BaseException", .type "object"]
structure ExcCls (K : PySem.W.Frag) (C : Addr) : Prop where
  exc : PySem.W.excIn K C veMro "ValueError.__new__" = true
theorem ff {b : Bool} {p : Prop} (q : b = true) (h : b = false) : p := absurd (h.symm.trans q) Bool.false_ne_true
theorem m1_inv {F : Addr → List Value → Option Value → Option Value → Option Value → Option Value → String → Option Value → Bool} {R : List Value → List (Option Value) → Prop}
    (k : ∀ C bm k0 k1 k2 k3 n k5, F C bm k0 k1 k2 k3 n k5 = true → R (.ref C :: bm) [k0, k1, k2, k3, some (.builtin n), k5]) :
    ∀ m l, PySem.W.excIn.match_1 (fun _ _ => Bool) m l F (fun _ _ => false) = true → R m l := by
  intro m l q; rcases m with _ | ⟨m0, bm⟩
  · exact ff q rfl
  cases m0 with
  | ref C =>
    rcases l with _ | ⟨k0, _ | ⟨k1, _ | ⟨k2, _ | ⟨k3, _ | ⟨_ | k4, l⟩⟩⟩⟩⟩
    iterate 6 exact ff q rfl
    cases k4 with
    | builtin n =>
      rcases l with _ | ⟨k5, _ | ⟨k6, l⟩⟩
      · exact ff q rfl
      · exact k _ _ _ _ _ _ _ _ q
      · exact ff q rfl
    | _ => exact ff q rfl
  | _ => exact ff q rfl
theorem m6_inv {F : Option Addr → ClassData → Array (Option Value) → Bool} {R : Option Obj → Prop} (k : ∀ d c s, F d c s = true → R (some ⟨.type "type", d, .cls c, s⟩)) :
    ∀ o, PySem.W.excIn.match_6 (fun _ => Bool) o F (fun _ => false) = true → R o := by
  intro o q; rcases o with _ | ⟨cls, dd, data, sl⟩
  · exact ff q rfl
  cases cls with
  | type s =>
    by_cases hs : s = "type"
    · subst hs
      cases data with
      | cls cd => exact k _ _ _ q
      | _ => exact ff q rfl
    · exact ff q (by delta PySem.W.excIn.match_6; exact dif_neg (e := fun _ => false) hs)
  | _ => exact ff q rfl
theorem ExcCls.obj {K : PySem.W.Frag} {C : Addr} (c : ExcCls K C) {h : Heap} (X : K.In h) :
    ∃ bm N nm q bs hdct sn sub ab col dd k0 k1 k2 k3 k5 mN, h.get? C = some (excClassObj nm q C N bs bm hdct sn sub ab col dd k0 k1 k2 k3 k5 "ValueError.__new__") ∧ h.Ns N mN ∧ mN "__init__" = none ∧ OwnTail h veMro bm := by
  refine m6_inv (R := fun o => (∀ x, o = some x → h.get? C = some x) → _) ?_ (K.lookup C) c.exc (fun x e => X _ _ e)
  intro dd cd sl; obtain ⟨l⟩ := sl; obtain ⟨nm, bs, mro, ns, qn, hd, sn, sub, ab, col, del⟩ := cd; refine m1_inv (R := fun mro l => (∀ x, some (⟨.type "type", dd, .cls ⟨nm, bs, mro, ns, qn, hd, sn, sub, ab, col, del⟩, ⟨l⟩⟩ : Obj) = some x → h.get? C = some x) → _) ?_ mro l
  intro C' bm k0 k1 k2 k3 n k5 q ho; have q1 := Bool.and_eq_true_iff.mp q; have q2 := Bool.and_eq_true_iff.mp q1.1; have q3 := Bool.and_eq_true_iff.mp q2.1; have q4 := Bool.and_eq_true_iff.mp q3.1; have q5 := Bool.and_eq_true_iff.mp q4.1; have ho := ho _ rfl; have q6 : del = false := (Bool.not_eq_true' _).mp q4.2; rw [q6, eq_of_beq q5.1, eq_of_beq q5.2] at ho; exact ⟨bm, ns, nm, qn, bs, hd, sn, sub, ab, col, dd, k0, k1, k2, k3, k5, _, ho, .of_isNs (PySem.W.isNs_of_in X q2.2), PySem.W.nsMap_none_of_in X q2.2 (eq_of_beq q1.2), PySem.W.tail_of_in X q3.2⟩
section
variable {X : Cx} {E : XK}
def tRaise (E : XK) (C : Addr) : TS := fun _ _ H => E (.ref C) none H
theorem ps_raise (D : IsDef X E) (hc : X.calm = true) {C : Addr} (c : ExcCls X.K C) {x : Str} {np cpos pos sp : Pos} {txt : Str} {j : Nat} (hg : Gl X x) (hm : X.mg x = some (.ref C)) (hd : Dbg x := by decide) :
    PS X (.Raise (some (.Call (.Name x np) [.Constant (.str txt) j sp] [] cpos)) none pos) (tRaise E C) := by
  intro pins s σ H D' I h; obtain ⟨bm, N, nm, q, bs, hdct, sn, sub, ab, col, dd, k0, k1, k2, k3, k5, mN, hC, hN, hni, T⟩ := c.obj I.kIn
  refine wpAny_Raise_call_subT (C := C) (nm := nm) (q := q) (N := N) (bs := bs) (bm := bm) (hdct := hdct) (sn := sn) (sub := sub) (ab := ab) (col := col) (dd := dd) (k0 := k0) (k1 := k1) (k2 := k2) (k3 := k3) (k5 := k5)
    PySem.F.excBase_ValueError (mN := mN) (T.hasType (by decide)) (I.ok.hd hc) rfl hni (ld_glob I hg hm ⟨rfl, ?_⟩ hd)
  have he : starEach [Expr.Constant (.str txt) j sp] X.env = [(false, eval (.Constant (.str txt) j sp) X.env)] := rfl; rw [he]; refine Calls.evalArgs_plain (Calls.spliced_cons (Calls.Constant_str (x := txt) (k := j) (pos := sp) (Calls.spliced_nil ?_)))
  have I2 := I.tok (s.toks + 1); exact ⟨rfl, (by show 1 ≤ sizeLine; decide), hC, hN, T, fun h' e hx => D.raised I2 hx h⟩
end
end L2
namespace L2
open PySem PySem.Spec PyProof.Rows
def ExcAt (ea C : Addr) : Heap → Prop := fun h => ∃ o vs, h.get? ea = some o ∧ o.cls = .ref C ∧ o.data = .fields vs
theorem ExcAt.stays {ea C : Addr} {h1 h2 : Heap} (p : ExcAt ea C h1) (k : ∀ o, h1.get? ea = some o → h2.get? ea = some o) : ExcAt ea C h2 :=
  let ⟨o, vs, e, r⟩ := p; ⟨o, vs, k o e, r⟩
theorem ObjOk.got {P : Program} {w : World} {H : Hp} {h : Heap} {a : Addr} {o : HO} (x : ObjOk P w H h a o) : ∃ ob, h.get? a = some ob := by
  cases o with
  | lst xs => obtain ⟨_, _, _, _, e⟩ := x; exact ⟨_, e⟩
  | tup xs => obtain ⟨_, _, _, ob, e, _⟩ := x; exact ⟨ob, e⟩
  | dK kvs => obtain ⟨_, _, _, _, ob, _, _, e, _⟩ := x; exact ⟨ob, e⟩
  | dT kvs => obtain ⟨_, _, _, _, ob, _, _, e, _⟩ := x; exact ⟨ob, e⟩
  | set S n => obtain ⟨ob, _, _, _, e, _⟩ := x; exact ⟨ob, e⟩
  | ins C dx fs => obtain ⟨_, _, _, e, _⟩ := x; exact ⟨_, e⟩
  | own y => exact x
  | xd fs => obtain ⟨_, ⟨ob, _, _, e, _⟩, _⟩ := x; exact ⟨ob, e⟩
  | rng lo hi => obtain ⟨_, _, _, e⟩ := x; exact ⟨_, e⟩
  | frz ob u => obtain ⟨e, _⟩ := x; exact ⟨_, e⟩
  | tbl ps => exact ⟨_, (show h.get? a = some _ from x)⟩
  | met f y => exact ⟨_, (show h.get? a = some _ from x)⟩
  | ext φ => obtain ⟨_, e, _⟩ := x; exact e
theorem ns_same {h : Heap} {a : Addr} {m m' : MgT} (x : h.Ns a m) (y : h.Ns a m') (n : Str) : m n = m' n := by
  obtain ⟨o, es, ep, e, d, _, f⟩ := x; obtain ⟨o', es', ep', e', d', _, f'⟩ := y; rw [e] at e'; cases e'; rw [d] at d'; cases d'; rw [← f n, ← f' n]
abbrev Cx.tryIn (X : Cx) (pins : Pins) (E' : VSP) : Cx := { X with pn := X.pn ++ pins, xe := E' }
abbrev Cx.marked (X : Cx) (e : Value) : Cx := { X with A := X.A.mark (some e), calm := false, xe := fun _ _ => False }
theorem Cx.Ok.tryIn {X : Cx} (ok : X.Ok) (pins : Pins) (E' : VSP) : (X.tryIn pins E').Ok :=
  ⟨ok.mod, ok.kind, ok.glob, ok.blt, ok.above, ok.inj, ok.has, ok.cab, ok.hd, ok.frames, ok.stk, ok.exf, ok.bs, ok.bsz, ok.noex, ok.exfs, ok.funs, ok.frf⟩
theorem Cx.Ok.unTry {X : Cx} {pins : Pins} {E' : VSP} (ok : (X.tryIn pins E').Ok) : X.Ok :=
  ⟨ok.mod, ok.kind, ok.glob, ok.blt, ok.above, ok.inj, ok.has, ok.cab, ok.hd, ok.frames, ok.stk, ok.exf, ok.bs, ok.bsz, ok.noex, ok.exfs, ok.funs, ok.frf⟩
theorem Cx.Ok.marked {X : Cx} (ok : X.Ok) (e : Value) : (X.marked e).Ok :=
  ⟨ok.mod, ok.kind, ok.glob, ok.blt, ok.above, ok.inj, ok.has, ok.cab, (fun z => nomatch z), ok.frames, ok.stk, ok.exf, ok.bs, ok.bsz, ok.noex, ok.exfs, ok.funs, ok.frf⟩
theorem Cx.Ok.unmark {X : Cx} {e : Value} (ok : (X.marked e).Ok) (hd : X.calm = true → X.A.handled = none) : X.Ok :=
  ⟨ok.mod, ok.kind, ok.glob, ok.blt, ok.above, ok.inj, ok.has, ok.cab, hd, ok.frames, ok.stk, ok.exf, ok.bs, ok.bsz, ok.noex, ok.exfs, ok.funs, ok.frf⟩
section
variable {X : Cx} {pins : Pins} {σ : St} {H : Hp} {s : Shared}
theorem Inv.tryIn (I : Inv X pins σ H s) (E' : VSP) : Inv (X.tryIn pins E') [] σ H s :=
  ⟨I.ok.tryIn pins E', I.os, I.bare, I.base, I.loc, I.cell, I.free, I.freeC, fun p hp => I.pin p (by simpa using hp), I.hok, I.len⟩
theorem Inv.unTry {E' : VSP} {pins' : Pins} (I : Inv (X.tryIn pins E') pins' σ H s) : Inv X pins σ H s :=
  ⟨I.ok.unTry, I.os, I.bare, I.base, I.loc, I.cell, I.free, I.freeC, fun p hp => I.pin p (List.mem_append_left _ hp), I.hok, I.len⟩
theorem Inv.marked (I : Inv X pins σ H s) (e : Value) : Inv (X.marked e) pins σ H s :=
  ⟨I.ok.marked e, I.os, I.bare, I.base, I.loc, I.cell, I.free, I.freeC, I.pin, I.hok, I.len⟩
theorem Inv.unmark {e : Value} (I : Inv (X.marked e) pins σ H s) (hd : X.calm = true → X.A.handled = none) : Inv X pins σ H s :=
  ⟨I.ok.unmark hd, I.os, I.bare, I.base, I.loc, I.cell, I.free, I.freeC, I.pin, I.hok, I.len⟩
theorem SP.unTry {E' : VSP} {pins' : Pins} {D : Ends} {f : Flow} {s' : Shared} (h : SP (X.tryIn pins E') pins' D f s') : SP X pins D f s' := by
  cases f with
  | next => obtain ⟨σ', H', I, q⟩ := h; exact ⟨σ', H', I.unTry, q⟩
  | brk => obtain ⟨σ', H', I, q⟩ := h; exact ⟨σ', H', I.unTry, q⟩
  | cont => obtain ⟨σ', H', I, q⟩ := h; exact ⟨σ', H', I.unTry, q⟩
  | ret u => obtain ⟨v, σ', H', I, r, q⟩ := h; exact ⟨v, σ', H', I.unTry, r, q⟩
theorem Inv.gone {i : Nat} {n : Str} {h' : Heap} {m : MgT} {v : Option Value} {t' : Nat} (I : Inv X pins σ H s) (hN : X.N.Nodup) (hi : X.N[i]? = some n) (hm : s.heap.Ns X.env.locals m)
    (hn' : h'.Ns X.env.locals (fun x => if x = n then v else m x)) (hs : Heap.SameBut X.env.locals s.heap h') : Inv X pins (σ.set i none) H { s with heap := h', toks := t' } := by
  have keep : ∀ b o, b ≠ X.env.locals → s.heap.get? b = some o → h'.get? b = some o := fun b o hb e => (hs.2 b hb).trans e
  have neL : ∀ b o, X.s₀.heap.get? b = some o → b ≠ X.env.locals := fun b o e => Nat.ne_of_lt (Nat.lt_of_lt_of_le (Heap.lt_size e) I.ok.above)
  have cell : ∀ x c, X.env.cells.lookup x = some c → ∀ w', s.heap.IsCell c w' → h'.IsCell c w' := fun x c e w' z => z.sameBut hs (I.cne x c e)
  refine ⟨I.ok, I.os, I.bare, ⟨fun b o e n hb hx => keep b o (neL b o e) (I.base.keep b o e n hb hx), fun b o e n hb hx => ?_, I.base.free, fun b o e hx => ?_, I.base.tups, I.base.frzs, I.base.tbls⟩, ⟨_, hn', fun j y w' e1 e2 e3 => ?_⟩, fun x c e => ?_, I.free, I.freeC, fun p hp => ?_, fun a o e => ?_, by simpa using I.len⟩
  · obtain ⟨sl, e1⟩ := I.base.slot b o e n hb hx
    exact ⟨sl, keep b _ (neL b o e) e1⟩
  · obtain ⟨o', e1⟩ := I.base.there b o e hx
    exact ⟨o', keep b _ (neL b o e) e1⟩
  · have hij : j ≠ i := by
      rintro rfl
      rw [List.getElem?_set_self (by rw [I.len]; exact (List.getElem?_eq_some_iff.mp hi).1)] at e2
      cases e2
    rw [List.getElem?_set_ne (Ne.symm hij)] at e2
    obtain ⟨m0, hm0, hl⟩ := I.loc; obtain ⟨u, r, l⟩ := hl j y w' e1 e2 e3; have hyn : y ≠ n := fun e => hij (nodup_ix hN e1 (e ▸ hi))
    refine ⟨u, r, ?_⟩
    rcases l with ⟨k, e⟩ | ⟨k, c, e, z⟩
    · refine .inl ⟨k, ?_⟩
      show (if y = n then v else m y) = some u
      rw [if_neg hyn, ← e]; exact ns_same hm hm0 y
    · exact .inr ⟨k, c, e, cell y c e _ z⟩
  · obtain ⟨w', z⟩ := I.cell x c e
    exact ⟨w', cell x c e w' z⟩
  · obtain ⟨e, n, ne, nf, d⟩ := I.pin p hp
    exact ⟨keep p.1 p.2 ne e, n, ne, nf, d⟩
  · refine (I.hok a o e).stay (fun b u hb q => keep b u ?_ q) (fun _ q => q) fun _ _ q => q
    rintro rfl
    rcases hb with z | z
    · rw [← z, I.free] at e; cases e
    · rw [I.free] at z; cases z
end
structure InDef (X : Cx) : Prop where
  stk : X.stack = X.env :: X.outer
  frm : X.env.frame = some X.env.locals
  noe : X.ex = []
theorem IsDef.inDef {X : Cx} {E : XK} (D : IsDef X E) : InDef X := ⟨D.stk, D.frm, D.noe⟩
section
variable {X : Cx}
def tryE (X : Cx) (C0 : Addr) (j : Nat) (D : Ends) : XK := fun c _ H' => ∃ C, c = .ref C ∧ PySem.W.exmOne X.K (.ref C) (.ref C0) = some true ∧
  ∀ ea, H' ea = none → D.nx ((List.replicate X.N.length none).set j (some (.ref ea))) (upd H' ea (.ext (ExcAt ea C)))
def tTry (X : Cx) (C0 : Addr) (j : Nat) (t : XK → TS) : TS := fun D σ H => t (tryE X C0 j D) D σ H
theorem Inv.caught {pins : Pins} {σ : St} {H H' : Hp} {s s' : Shared} {E : XK} {ea C : Addr} {t0 : Value} {B h6 : Heap} (hD : InDef X) (I : Inv X pins σ H s) (F : Fly X.prog X.w X.stack H s E ea C t0 B H' s')
    (fl : Heap.FlyingW B X.stack ea (.ref C) t0 h6) (sm : s'.heap.UpToSlots h6) : H' ea = none ∧ Inv X pins (List.replicate X.N.length none) (upd H' ea (.ext (ExcAt ea C))) { s' with heap := h6 } := by
  obtain ⟨oe, vs, he, hc, hd, _⟩ := fl.first; have nB : B.get? ea = none := fl.2.1
  have nH : H' ea = none := by
    cases q : H' ea with
    | none => rfl
    | some o =>
      obtain ⟨ob, e⟩ := (F.hok ea o q).got; rw [nB] at e; cases e
  have nf : ea ∉ frs X.stack := fun z => by
    obtain ⟨_, o, ho, hn⟩ := fl.2.2.1.mem z; rw [he] at ho; cases ho; exact hn vs hd
  have nS : s.heap.get? ea = none := by
    cases q : s.heap.get? ea with
    | none => rfl
    | some o =>
      obtain ⟨o', e⟩ := F.lies ea o q nf; rw [nB] at e; cases e
  have slots : ∀ b o, s.heap.get? b = some o → b ∈ frs X.stack → ∃ sl, h6.get? b = some { o with slots := sl } := fun b o e hb => by
    obtain ⟨sl, e1⟩ := F.un.slot b o e (I.stkFree b hb) hb (by simp)
    obtain ⟨_, o2, ho2, hd2⟩ := I.stack.mem hb; rw [e] at ho2; cases ho2; obtain ⟨sl', e2⟩ := sm b _ e1 hd2; exact ⟨sl', e2⟩
  refine ⟨nH, ?_⟩
  have u : Un (frs X.stack) [] H (upd H' ea (.ext (ExcAt ea C))) s.heap h6 := by
    refine ⟨fun b o e n hb _ => fl.1 b o (F.old b o e n hb), fun b o e n hb _ => slots b o e hb, fun b o e n _ => ?_, fun b o e _ => ?_, fun b xs e => ?_, fun b o z e => ?_, fun b ps e => ?_⟩
    · rw [upd_ne (fun q => by rw [q, nS] at e; cases e)]
      exact F.un.free b o e n (by simp)
    · by_cases hb : b ∈ frs X.stack
      · obtain ⟨sl, e1⟩ := slots b o e hb
        exact ⟨_, e1⟩
      · obtain ⟨o', e1⟩ := F.lies b o e hb
        exact ⟨o', fl.1 b o' e1⟩
    · have e' := F.un.tups b xs e
      rw [upd_ne (ne_of_none e' nH)]; exact e'
    · have e' := F.un.frzs b o z e
      rw [upd_ne (ne_of_none e' nH)]; exact e'
    · obtain ⟨more, e'⟩ := F.un.tbls b ps e
      exact ⟨more, by rw [upd_ne (ne_of_none e' nH)]; exact e'⟩
  have hok : HOk X.prog X.w (upd H' ea (.ext (ExcAt ea C))) h6 := fun a o e => by
    by_cases ha : a = ea
    · subst ha
      rw [upd_same] at e; cases e; exact ⟨⟨oe, vs, he, hc, hd⟩, ⟨oe, he⟩, fun h1 h2 p k => ExcAt.stays p k⟩
    · rw [upd_ne ha] at e
      exact (F.hok a o e).stay (fun b z _ q => fl.1 b z q) (fun b q => by rw [upd_ne (ne_of_none q nH)]; exact q) fun b xs q => by rw [upd_ne (ne_of_none q nH)]; exact q
  have I2 : Inv X pins σ (upd H' ea (.ext (ExcAt ea C))) { s' with heap := h6 } := I.call' (s' := { s' with heap := h6 }) (ch := []) F.os u hok F.bare (fun b z => absurd z (by simp))
  refine I2.weak (by rw [List.length_replicate, I.len]) fun k v e => ?_
  rw [List.getElem?_replicate] at e
  split at e <;> cases e
theorem ps_try (hD : InDef X) {i j : Nat} {n kept cn : Str} {C0 : Addr} {body : List Stmt} {t : XK → TS} {np p1 p2 p3 hp pos : Pos} (hN : X.N.Nodup) (hi : X.N[i]? = some n) (hj : X.N[j]? = some kept) (hij : i ≠ j)
    (hn : X.env.scope.names.lookup n = some .local) (hk : X.env.scope.names.lookup kept = some .local) (hg : Gl X cn) (hm : X.mg cn = some (.ref C0))
    (hb : ∀ pins E' Ew, Passes (CX1 X.prog X.w) (X.tryIn pins E') Ew → PSs (X.tryIn pins E') body (t Ew))
    (hdb : Dbg cn := by decide) (hdn : Dbg n := by decide) (hcd : Cdt n := by decide) :
    PS X (.Try body [.ExceptHandler (some (.Name cn np)) (some n) [.Assign [.Name kept p1] (.Name n p2) p3] hp] [] [] pos) (tTry X C0 j t) := by
  intro pins s σ H D I h; refine wpAny_Try_except ?_
  have P : Passes (CX1 X.prog X.w) (X.tryIn pins (fun e s₁ => wpAny (model X.prog X.w) X.A (noteFrame e X.env) (fun _ s₂ => wpAny (model X.prog X.w) X.A (setFlight e none) (fun _ s₃ =>
      wpAny (model X.prog X.w) X.A (handleBy e X.env [.ExceptHandler (some (.Name cn np)) (some n) [.Assign [.Name kept p1] (.Name n p2) p3] hp]) (SP X pins D) X.xe s₃) X.xe s₂) X.xe s₁)) (tryE X C0 j D) := by
    intro pins' σ1 H1 s1 e s' I1 hx; obtain ⟨ea, C, t0, B, H', rfl, F⟩ := hx; obtain ⟨C', eC, hmt, k⟩ := F.wish; cases eC; have IX : Inv X pins σ1 H1 s1 := I1.unTry; have hfr : X.A.frames = some (X.env :: X.outer) := by rw [IX.ok.frames, hD.stk]
    have fl : Heap.FlyingW B (X.env :: X.outer) ea (.ref C) t0 s'.heap := by rw [← hD.stk]; exact F.fly
    refine wpAny_looks_onW hfr hD.frm fl fun h4 held sm4 => ?_
    refine wpAny_landsW held fun h5 fl5 sm5 => ?_
    have bas : ∀ b o, X.base.get? b = some o → h5.get? b = some o := fun b o e =>
      fl5.1 b o (F.old b o (IX.bk b o e) (IX.bs b o e).2 (IX.offStack (IX.ok.bs b o e).1 (IX.ok.nofr e)))
    have kin : X.K.In h5 := IX.ok.mod.kin.keeps bas; have ns5 : h5.Ns X.env.globals X.mg := by rw [IX.ok.glob]; exact IX.ok.mod.glob.keeps bas
    obtain ⟨oe, he, hc⟩ := fl5.there; refine wpAny_handleBy_cons (codeAny_handlers_test (Calls.Name_function_global IX.ok.kind hg (Calls.loadGlobal_global (s := { s' with heap := h5 }) ns5 hm ?_) hdb)) (by intro q; cases q)
    have LT : PySem.W.Looks (model X.prog X.w) h5 (typeOf (.ref ea)) (.ref C) := by
      have z : PySem.W.Looks (model X.prog X.w) h5 (typeOf (.ref ea)) oe.cls := (PySem.W.Looks.ld he).andThen .now; rw [hc] at z; exact z
    refine (PySem.W.exm_one (M := model X.prog X.w) kin LT hmt).here (s := { s' with heap := h5 }) ?_
    refine codeAny_handlers_suite_as ?_
    refine lands_againW (s := { s' with heap := h5 }) fl5 fun h6 fl6 sm6 => ?_
    have sm : s'.heap.UpToSlots h6 := (sm4.trans sm5).trans sm6; obtain ⟨nH, I6⟩ := Inv.caught hD IX F (by rw [hD.stk]; exact fl6) sm
    refine store_ok I6 hN hi (.inl hn) (v := .ref ea) rfl (fun s7 I7 => ?_) (.inr hn)
    have I7m := I7.marked (.ref ea)
    have hex := (pss_one (ps_set (X := X.marked (.ref ea)) (pos := p3) (pos' := p1) (i := j) hN hj (.inl hk) (pe_var (X := X.marked (.ref ea)) (pos := p2) hi (.inl hn) hdn hcd) rfl (.inr hk))) pins s7 _ _
      { nx := fun σ' H2 => σ' = ((List.replicate X.N.length none).set i (some (.ref ea))).set j (some (.ref ea)) ∧ H2 = upd H' ea (.ext (ExcAt ea C)), rt := fun _ _ => False } I7m
      ⟨.ref ea, by rw [List.getElem?_set_self (by rw [List.length_replicate]; exact (List.getElem?_eq_some_iff.mp hi).1)], rfl, rfl⟩
    refine wpAny_mono hex (fun f s8 q => ?_) fun _ _ z => z.elim
    cases f with
    | ret u => obtain ⟨_, _, _, _, _, q⟩ := q; exact q.elim
    | brk => obtain ⟨_, _, _, q⟩ := q; exact q.elim
    | cont => obtain ⟨_, _, _, q⟩ := q; exact q.elim
    | next =>
      obtain ⟨σ8, H8, I8m, rfl, rfl⟩ := q; have I8 : Inv X pins _ _ s8 := I8m.unmark IX.ok.hd; obtain ⟨m8, hn8, _⟩ := id I8.loc; refine wpAny_nameGoes_keeps hn hn8 (by rw [IX.ok.kind]; rfl) fun h9 v hn9 hs9 => ?_
      have I9 := I8.gone (t' := s8.toks + 1) hN hi hn8 hn9 hs9; refine ⟨_, _, I9.weak ?_ fun k' v' e => ?_, k ea nH⟩
      · simp
      · by_cases hkj : k' = j
        · subst hkj
          rw [List.getElem?_set_self (by rw [List.length_replicate]; exact (List.getElem?_eq_some_iff.mp hj).1)] at e
          cases e; rw [List.getElem?_set_ne hij, List.getElem?_set_self (by rw [List.length_set, List.length_replicate]; exact (List.getElem?_eq_some_iff.mp hj).1)]
        · rw [List.getElem?_set_ne (Ne.symm hkj), List.getElem?_replicate] at e
          split at e <;> cases e
  refine wpAny_mono (hb pins _ _ P [] s σ H D (I.tryIn _) h) (fun f s1 q => ?_) fun _ _ z => z
  have q' := SP.unTry q
  cases f with
  | next => exact wpAny_execs_nil q'
  | ret v => exact q'
  | brk => exact q'
  | cont => exact q'
end
end L2
namespace L2
open PySem PySem.Spec PyProof.Rows
def closL (cells : List (Str × Addr)) : List (Str × NameKind) → List (Str × Addr) → List (Str × Addr)
  | [], acc => acc
  | (n, k) :: r, acc => closL cells r (if k = .free then (match cells.lookup n with | some c => (n, c) :: acc | none => acc) else acc)
def FreeOk (cells : List (Str × Addr)) (names : List (Str × NameKind)) : Prop := ∀ x ∈ names, x.2 = .free → ∃ c, cells.lookup x.1 = some c
theorem closureFor_eq {scope : Scope} {env : Env} (h : FreeOk env.cells scope.names) : closureFor scope env = pure (closL env.cells scope.names []) := by
  have go : ∀ (l : List (Str × NameKind)) (acc : List (Str × Addr)), FreeOk env.cells l →
      (forIn l acc (fun (x : Str × NameKind) (cs : List (Str × Addr)) => if (x.2 == NameKind.free) = true then (do let c ← cellOf env x.1; pure (ForInStep.yield ((x.1, c) :: cs))) else pure (ForInStep.yield cs)) : Sem (List (Str × Addr))) = pure (closL env.cells l acc) := by
    intro l
    induction l with
    | nil => intro acc _; rfl
    | cons x r ih =>
      intro acc hf; obtain ⟨n, k⟩ := x; have ihr := fun acc => ih acc fun y hy => hf y (List.mem_cons_of_mem _ hy)
      rw [List.forIn_cons]
      by_cases hk : k = .free
      · subst hk
        obtain ⟨c, hc⟩ := hf (n, .free) (List.mem_cons_self ..) rfl; have hc' : env.cells.lookup n = some c := hc; have e : cellOf env n = pure c := by unfold cellOf; rw [hc']
        dsimp only; rw [if_pos (by decide), e]
        simp only [pure_bind]; rw [ihr]
        show _ = pure (closL env.cells r (if NameKind.free = .free then (match env.cells.lookup n with | some c => (n, c) :: acc | none => acc) else acc))
        rw [if_pos rfl, hc']
      · dsimp only
        rw [if_neg (by simpa using hk)]
        simp only [pure_bind]; rw [ihr]
        show _ = pure (closL env.cells r (if k = .free then _ else acc))
        rw [if_neg hk]
  have := go scope.names [] h; unfold closureFor; simp only [bind_pure]; exact this
theorem closL_sound {cells : List (Str × Addr)} {x : Str} {c : Addr} : ∀ {l : List (Str × NameKind)} {acc : List (Str × Addr)}, (closL cells l acc).lookup x = some c → (acc.lookup x = some c ∨ cells.lookup x = some c)
  | [], _, h => .inl h
  | (n, k) :: r, acc, h => by
    unfold closL at h; rcases closL_sound h with q | q
    · by_cases hk : k = .free
      · rw [if_pos hk] at q
        cases e : cells.lookup n with
        | none => rw [e] at q; exact .inl q
        | some c' =>
          rw [e] at q
          by_cases hx : x = n
          · subst hx
            have q' : some c' = some c := by simpa [List.lookup_cons] using q
            right; rw [e, q']
          · left
            have hb : (x == n) = false := by simpa using hx
            simpa [List.lookup_cons, hb] using q
      · rw [if_neg hk] at q; exact .inl q
    · exact .inr q
theorem closL_keeps {cells : List (Str × Addr)} {x : Str} : ∀ {l : List (Str × NameKind)} {acc : List (Str × Addr)}, (∃ c, acc.lookup x = some c) → ∃ c, (closL cells l acc).lookup x = some c
  | [], _, h => h
  | (n, k) :: r, acc, h => by
    unfold closL; refine closL_keeps ?_
    split
    · split
      · rename_i c' _
        by_cases hx : x = n
        · exact ⟨c', by simp [List.lookup_cons, hx]⟩
        · obtain ⟨c, e⟩ := h
          have hb : (x == n) = false := by simpa using hx
          exact ⟨c, by simpa [List.lookup_cons, hb] using e⟩
      · exact h
    · exact h
theorem closL_has {cells : List (Str × Addr)} {x : Str} {c : Addr} (hc : cells.lookup x = some c) : ∀ {l : List (Str × NameKind)} {acc : List (Str × Addr)}, (x, NameKind.free) ∈ l → ∃ c', (closL cells l acc).lookup x = some c'
  | [], _, h => by cases h
  | (n, k) :: r, acc, h => by
    unfold closL; rcases List.mem_cons.mp h with e | h
    · cases e
      rw [if_pos rfl, hc]; exact closL_keeps ⟨c, by simp [List.lookup_cons]⟩
    · exact closL_has hc h
theorem clos_is {cells : List (Str × Addr)} {names : List (Str × NameKind)} {x : Str} {c : Addr} (h : (closL cells names []).lookup x = some c) : cells.lookup x = some c := by
  rcases closL_sound h with q | q
  · simp at q
  · exact q
theorem relabel_free {env : Env} (hk : env.scope.kind = .function) {x : Str} (hx : env.kindOf x = some .cell) : ∀ {names : List (Str × NameKind)}, names.lookup x = some .free →
    (names.map fun (n, k) => if (k == NameKind.free && env.scope.kind == .function && env.kindOf n == some .cell) then (n, NameKind.cell) else (n, k)).lookup x = some .cell
  | [], h => by simp at h
  | (n, k) :: r, h => by
    rw [List.map_cons]
    by_cases e : x = n
    · subst e
      have hf : k = .free := by simpa [List.lookup_cons] using h
      subst hf; have hb : (NameKind.free == NameKind.free && env.scope.kind == .function && env.kindOf x == some .cell) = true := by rw [hk, hx]; decide
      show List.lookup x ((if (NameKind.free == NameKind.free && env.scope.kind == .function && env.kindOf x == some .cell) = true then (x, NameKind.cell) else (x, NameKind.free)) :: _) = _
      rw [if_pos hb]; simp [List.lookup_cons]
    · have hb : (x == n) = false := by simpa using e
      have h' : r.lookup x = some .free := by simpa [List.lookup_cons, hb] using h
      have ih := relabel_free hk hx h'
      show List.lookup x ((if (k == NameKind.free && env.scope.kind == .function && env.kindOf n == some .cell) = true then (n, NameKind.cell) else (n, k)) :: _) = _
      split
      · simpa [List.lookup_cons, hb] using ih
      · simpa [List.lookup_cons, hb] using ih
theorem relabel_cells {env : Env} {x : Str} : ∀ {names : List (Str × NameKind)}, (∀ y ∈ names, y.2 ≠ .cell) →
    ((names.map fun (n, k) => if (k == NameKind.free && env.scope.kind == .function && env.kindOf n == some .cell) then (n, NameKind.cell) else (n, k)).lookup x = some .cell ∨
     (names.map fun (n, k) => if (k == NameKind.free && env.scope.kind == .function && env.kindOf n == some .cell) then (n, NameKind.cell) else (n, k)).lookup x = some .free) → (x, NameKind.free) ∈ names
  | [], _, h => by rcases h with h | h <;> simp at h
  | (n, k) :: r, hc, h => by
    rw [List.map_cons] at h
    by_cases e : x = n
    · subst e
      have hk : k = .free := by
        by_cases hb : (k == NameKind.free && env.scope.kind == .function && env.kindOf x == some .cell) = true
        · have := (Bool.and_eq_true_iff.mp (Bool.and_eq_true_iff.mp hb).1).1
          simpa using this
        · have h' : List.lookup x ((x, k) :: r.map fun (n, k) => if (k == NameKind.free && env.scope.kind == .function && env.kindOf n == some .cell) then (n, NameKind.cell) else (n, k)) = some .cell ∨
              List.lookup x ((x, k) :: r.map fun (n, k) => if (k == NameKind.free && env.scope.kind == .function && env.kindOf n == some .cell) then (n, NameKind.cell) else (n, k)) = some .free := by
            dsimp only at h; rw [if_neg hb] at h; exact h
          rcases h' with h' | h'
          · have : k = .cell := by simpa [List.lookup_cons] using h'
            exact absurd this (hc (x, k) (List.mem_cons_self ..))
          · simpa [List.lookup_cons] using h'
      subst hk; exact List.mem_cons_self ..
    · have hb : (x == n) = false := by simpa using e
      refine List.mem_cons_of_mem _ (relabel_cells (env := env) (fun y hy => hc y (List.mem_cons_of_mem _ hy)) ?_)
      dsimp only at h
      split at h
      · simpa [List.lookup_cons, hb] using h
      · simpa [List.lookup_cons, hb] using h
abbrev Cx.comp (X : Cx) (scope : Scope) (N : List Str) (L : Addr) (s₀ : Shared) (H₀ : Hp) (fp : List Addr) : Cx :=
  { X with N := N, s₀ := s₀, H₀ := H₀, env := compEnvC scope (closL X.env.cells scope.names []) L X.env, outer := X.stack, ex := fp, fn := fun _ => false, pn := [], xe := fun _ _ => False }
def seen (src : List (Option Nat)) (σ : St) : St := src.map fun o => o.bind fun k => (σ[k]?).join
structure CompOk (X : Cx) (scope : Scope) (N : List Str) (src : List (Option Nat)) : Prop where
  kind : scope.kind = .function
  nocell : ∀ y ∈ scope.names, y.2 ≠ .cell
  loc : ∀ y ∈ scope.names, y.2 = .local → scope.names.lookup y.1 = some .local
  free : ∀ y ∈ scope.names, y.2 = .free → X.env.scope.names.lookup y.1 = some .cell
  len : src.length = N.length
  src : ∀ (i k : Nat) (x : Str), src[i]? = some (some k) → N[i]? = some x → X.N[k]? = some x ∧ scope.names.lookup x = some .free
inductive Sub : St → St → Prop
  | nil : Sub [] []
  | skip {v : Option V} {a b : St} : Sub a b → Sub (none :: a) (v :: b)
  | keep {v : V} {a b : St} : Sub a b → Sub (some v :: a) (some v :: b)
theorem Sub.refl : ∀ a : St, Sub a a
  | [] => .nil
  | none :: a => .skip (Sub.refl a)
  | some _ :: a => .keep (Sub.refl a)
theorem Sub.length {a b : St} (h : Sub a b) : a.length = b.length := by induction h <;> simp_all
theorem Sub.get {a b : St} (h : Sub a b) : ∀ (i : Nat) (v : V), a[i]? = some (some v) → b[i]? = some (some v) := by
  induction h with
  | nil => intro i v e; simp at e
  | skip _ ih =>
    intro i v e
    cases i with
    | zero => simp at e
    | succ i => simpa using ih i v (by simpa using e)
  | keep _ ih =>
    intro i v e
    cases i with
    | zero => simpa using e
    | succ i => simpa using ih i v (by simpa using e)
def PTs (X : Cx) (ifs : List Expr) (t : TT) : Prop :=
  ∀ (pins : Pins) (s : Shared) (σ : St) (H : Hp) (Q : Bool → Hp → Prop), Inv X pins σ H s → t σ H Q →
    wpAny (model X.prog X.w) X.A (forIn ifs true fun c r => if r = true then do let ok ← isTrue c X.env (eval c X.env); pure (ForInStep.yield ok) else pure (ForInStep.yield r)) (TP X pins σ Q) X.xe s
def tTrue : TT := fun _ H Q => Q true H
theorem pts_nil {X : Cx} : PTs X [] tTrue := fun _ _ _ H _ I h => wpAny_pure ⟨H, I, h⟩
theorem pts_one {X : Cx} {c : Expr} {t : TT} (h : PT X c t) : PTs X [c] t := fun pins s σ H Q I hw => wpAny_tests_one (h pins s σ H Q I hw)
def compW (J : It) (H₁ : Hp) (σ₀ : St) (g : TG) (tt : TT) (te : TE) (Q : List V → Hp → Prop) : Prop :=
  ∃ W : Nat → Nat → List V → Hp → Prop, (∃ m, W 0 m [] H₁) ∧ ∀ i m acc H, W i m acc H →
    (J.stop i H ∧ acc.length ≤ sizeLine ∧ Q acc H) ∨ (J.go i H ∧ ∀ x H', J.yld i H x H' → g x σ₀ H' fun σ2 H2 => Sub σ₀ σ2 ∧ tt σ2 H2 fun b H3 =>
      if b = true then te σ2 H3 fun y H4 => acc.length < sizeLine ∧ ∃ m', m' < m ∧ W (i + 1) m' (acc ++ [y]) H4 else ∃ m', m' < m ∧ W (i + 1) m' acc H3)
section
variable {X : Cx} {tg elt iter : Expr} {ifs : List Expr} {scope : Scope} {N : List Str} {src : List (Option Nat)} {pos : Pos}
theorem compOk_freeOk {pins : Pins} {σ : St} {H : Hp} {s : Shared} (I : Inv X pins σ H s) (C : CompOk X scope N src) : FreeOk X.env.cells scope.names := fun y hy hf =>
  I.ok.has y.1 (.inl (C.free y hy hf))
theorem comp_start {pins : Pins} {σ : St} {H : Hp} {s s' : Shared} {fp : List Addr} {L : Addr} (I : Inv X pins σ H s) (C : CompOk X scope N src) (hf : ∀ b ∈ fp, FpOk X pins H b) (hfo : ∀ b ∈ fp, ∃ o, s.heap.get? b = some o)
    (hL : s.heap.objs.size ≤ L) (hk : ∀ b o, s.heap.get? b = some o → s'.heap.get? b = some o) (hn : s'.heap.Ns L fun _ => none) (ho : s'.os = s.os) (hg : s'.gens = s.gens) : Inv (X.comp scope N L s H fp) [] (seen src σ) H s' := by
  have neL : ∀ b o, s.heap.get? b = some o → b ≠ L := fun b o e => Nat.ne_of_lt (Nat.lt_of_lt_of_le (Heap.lt_size e) hL)
  have cellL : ∀ x c, (closL X.env.cells scope.names []).lookup x = some c → ∃ v, s'.heap.IsCell c v := fun x c e => by
    obtain ⟨v, o, h1, h2⟩ := I.cell x c (clos_is e); exact ⟨v, o, hk c o h1, h2⟩
  refine ⟨⟨I.ok.mod, C.kind, I.ok.glob, I.ok.blt, hL, fun x y c h1 h2 => I.ok.inj x y c (clos_is h1) (clos_is h2), fun x hx => ?_, fun x c h => (nomatch h), I.ok.hd, I.ok.frames, .inl rfl, fun b hb => ?_, I.bs, Nat.le_trans I.ok.bsz I.sz, fun b o e hb => ?_, fun b hb z => ?_, I.stack, I.stkFree⟩,
    ho, by rw [hg]; exact I.bare, Un.kept hk, ⟨_, hn, fun i x v h1 h2 h3 => ?_⟩, fun x c e => cellL x c e, I.hok.fresh hL, fun x c e => I.freeC x c (clos_is e), fun p hp => absurd (show p ∈ ([] : Pins) from hp) (by simp), I.hok.kept hk, ?_⟩
  · have hm : (x, NameKind.free) ∈ scope.names := relabel_cells (env := X.env) C.nocell hx
    obtain ⟨c, hc⟩ := compOk_freeOk I C (x, .free) hm rfl; exact closL_has hc hm
  · obtain ⟨o, e⟩ := hfo b hb
    exact ⟨neL b o e, fun x c e1 z => (hf b hb).2.2.2.2.1 x c (clos_is e1) z⟩
  · rcases (hf b hb).2.2.2.1 with q | q
    · exact I.ok.noex b o e q
    · exact absurd (Nat.lt_of_lt_of_le (Heap.lt_size e) I.ok.bsz) (Nat.not_lt.mpr q)
  · rcases List.mem_cons.mp (I.stkSub b z) with q | q
    · exact (hf b hb).2.1 q
    · exact (hf b hb).2.2.1 q
  · have h2' : ∃ k, src[i]? = some (some k) ∧ σ[k]? = some (some v) := by
      unfold seen at h2; rw [List.getElem?_map] at h2
      cases e : src[i]? with
      | none => rw [e] at h2; cases h2
      | some o =>
        rw [e] at h2
        cases o with
        | none => cases h2
        | some k =>
          refine ⟨k, rfl, ?_⟩
          have h2'' : (σ[k]?).join = some v := Option.some.inj h2
          cases e2 : σ[k]? with
          | none => rw [e2] at h2''; cases h2''
          | some w' =>
            rw [e2] at h2''; have : w' = some v := h2''; rw [this]
    obtain ⟨k, hs, hσ⟩ := h2'; obtain ⟨q1, q2⟩ := C.src i k x hs h1; have hm : (x, NameKind.free) ∈ scope.names := PySem.mem_of_lookup q2; have hc := C.free (x, .free) hm rfl; obtain ⟨m, hn0, hl⟩ := I.loc; obtain ⟨u, r, l⟩ := hl k x v q1 hσ (.inr (.inl hc)); refine ⟨u, r, ?_⟩
    rcases l with ⟨z, _⟩ | ⟨_, c, e, z⟩
    · have z' : X.env.scope.names.lookup x = some .local := z
      rw [hc] at z'; cases z'
    · obtain ⟨c', e'⟩ := closL_has (acc := []) e hm
      have ec : c' = c := Option.some.inj ((clos_is e').symm.trans e); subst ec; obtain ⟨o, z1, z2⟩ := z; exact .inr ⟨.inl (relabel_free I.ok.kind hc q2), c', e', o, hk _ _ z1, z2⟩
  · unfold seen
    rw [List.length_map]; exact C.len
theorem comp_done {pins : Pins} {σ σ' : St} {H H' : Hp} {s s' : Shared} {fp : List Addr} {L D : Addr} {acc : List V} {its : List Value} {n : Nat} (I : Inv X pins σ H s) (hf : ∀ b ∈ fp, FpOk X pins H b) (hD : s.heap.objs.size ≤ D)
    (J : Inv (X.comp scope N L s H fp) [] σ' H' s') (hn : H' D = none) (ho : s'.heap.get? D = some { cls := .type "list", data := .seq its.toArray n }) (r : Vals acc its) (hz : acc.length ≤ sizeLine) : Inv X pins σ (upd H' D (.lst acc)) s' := by
  have neD : ∀ b o, s.heap.get? b = some o → b ≠ D := fun b o e => Nat.ne_of_lt (Nat.lt_of_lt_of_le (Heap.lt_size e) hD)
  have u : Un (frs X.stack) fp H (upd H' D (.lst acc)) s.heap s'.heap := by
    refine ⟨J.base.keep, J.base.slot, fun b o e n hx => ?_, J.base.there, fun b xs e => ?_, fun b o z e => ?_, fun b ps e => ?_⟩
    · rw [upd_ne (neD b o e)]
      exact J.base.free b o e n hx
    · have e' := J.base.tups b xs e
      rw [upd_ne (ne_of_none e' hn)]; exact e'
    · have e' := J.base.frzs b o z e
      rw [upd_ne (ne_of_none e' hn)]; exact e'
    · obtain ⟨more, e'⟩ := J.base.tbls b ps e
      exact ⟨more, by rw [upd_ne (ne_of_none e' hn)]; exact e'⟩
  have hok : HOk X.prog X.w (upd H' D (.lst acc)) s'.heap := fun a o e => by
    by_cases ha : a = D
    · subst ha
      rw [upd_same] at e; cases e; exact ⟨hz, its, n, r, ho⟩
    · rw [upd_ne ha] at e
      exact (J.hok a o e).stay (fun b z _ q => q) (fun b q => by rw [upd_ne (ne_of_none q hn)]; exact q) fun b xs q => by rw [upd_ne (ne_of_none q hn)]; exact q
  exact I.call' J.os u hok J.bare fun b hb => ⟨(hf b hb).2.2.2.1, (hf b hb).2.1, (hf b hb).2.2.2.2.1, (hf b hb).2.2.2.2.2⟩
inductive CLoop (Y : Cx) (fp : List Addr) (D : Addr) (σ₀ : St) (tn : Nat → Heap → Prop) (W : Nat → Nat → List V → Hp → Prop) (m : Nat) (s' : Shared) : Prop
  | mk (i : Nat) (σ' : St) (H' : Hp) (acc : List V) (its : List Value) (n : Nat) (c0 : Inv Y [] σ' H' s') (c1 : Sub σ₀ σ') (c2 : tn i s'.heap) (c3 : ∀ b ∈ fp, H' b = none) (c4 : H' D = none) (c5 : s'.heap.get? D = some { cls := .type "list", data := .seq (List.toArray its) n }) (c6 : Vals acc its) (c7 : W i m acc H') : CLoop Y fp D σ₀ tn W m s'
theorem comp_loop {g : TG} {tt : TT} {te : TE} {s₀ : Shared} {H₀ : Hp} {fp : List Addr} {it L D : Addr} {tn : Nat → Heap → Prop} {J : It} {σ₀ : St} {Q : List V → Hp → Prop} {R : Result → Shared → Prop} {s : Shared} {H₁ : Hp} (hc : X.calm = true)
    (T : Turn X.prog X.w X.K tg J fp it tn) (hDs : s₀.heap.objs.size ≤ D) (hDL : D ≠ L) (hDf : D ∉ fp) (hcD : ∀ x c, (closL X.env.cells scope.names []).lookup x = some c → c < s₀.heap.objs.size)
    (hfl : ∀ b ∈ fp, b ≠ L ∧ b < s₀.heap.objs.size ∧ b ∉ frs X.stack ∧ ∀ x c, (closL X.env.cells scope.names []).lookup x = some c → c ≠ b)
    (hfs : ∀ b ∈ frs X.stack, b < s₀.heap.objs.size)
    (hg : PG (X.comp scope N L s₀ H₀ fp) tg g) (ht : PTs (X.comp scope N L s₀ H₀ fp) ifs tt) (he : PE (X.comp scope N L s₀ H₀ fp) elt te)
    (I : Inv (X.comp scope N L s₀ H₀ fp) [] σ₀ H₁ s) (st : tn 0 s.heap) (hf : ∀ b ∈ fp, H₁ b = none) (hD : H₁ D = none) (ho : s.heap.get? D = some { cls := .type "list", data := .seq #[] 0 })
    (hw : compW J H₁ σ₀ g tt te Q)
    (hR : ∀ σ' H' s' acc its n, Inv (X.comp scope N L s₀ H₀ fp) [] σ' H' s' → H' D = none → s'.heap.get? D = some { cls := .type "list", data := .seq (List.toArray its) n } → Vals acc its → acc.length ≤ sizeLine → Q acc H' → R (.ok .next) s') :
    codeAny (model X.prog X.w) X.A (.compLoop (.ListComp elt [⟨tg, iter, ifs, 0⟩] scope pos) 0 (.ref it) (.ref D) (compEnvC scope (closL X.env.cells scope.names []) L X.env)) R s := by
  obtain ⟨W, ⟨m0, w0⟩, turn⟩ := hw
  have fpOk : ∀ {H : Hp} {pins : Pins}, (∀ b ∈ fp, H b = none) → (∀ p ∈ pins, p.1 = D) → ∀ b ∈ fp, FpOk (X.comp scope N L s₀ H₀ fp) pins H b := fun {H pins} hn hp b hb =>
    ⟨hn b hb, (hfl b hb).1, (hfl b hb).2.2.1, .inl hb, (hfl b hb).2.2.2, fun p hq => by
      have : p.1 = D := hp p (by simpa using hq)
      rw [this]; exact fun z => hDf (by rw [z]; exact hb)⟩
  have fpD : ∀ {H : Hp} {pins : Pins}, H D = none → (∀ p ∈ pins, p.1 ∈ fp) → FpOk (X.comp scope N L s₀ H₀ fp) pins H D := fun {H pins} hn hp =>
    ⟨hn, hDL, fun z => absurd (hfs D z) (Nat.not_lt.mpr hDs), .inr hDs, fun x c e z => absurd (hcD x c e) (by rw [z]; exact Nat.not_lt.mpr hDs), fun p hq z => hDf (by rw [← z]; exact hp p (by simpa using hq))⟩
  have pD : ∀ {o : Obj}, ∀ p ∈ [(D, o)], p.1 = D := fun {o} p hp => by
    rw [List.mem_singleton.mp hp]
  refine codeAny_loop rfl (CLoop (X.comp scope N L s₀ H₀ fp) fp D σ₀ tn W) ?_
    m0 ⟨0, σ₀, H₁, [], [], 0, I, Sub.refl _, st, hf, hD, ho, .nil, w0⟩
  rintro m s1 ⟨i, σ1, H1, acc, its, n, I1, sb, st1, hf1, hD1, ho1, r1, w1⟩
  show wpAny _ X.A ((compTurn (.ListComp elt [⟨tg, iter, ifs, 0⟩] scope pos) 0 (.ref it) (.ref D) (compEnvC scope (closL X.env.cells scope.names []) L X.env)).onRaise (fun x => do noteFrame x (compEnvC scope (closL X.env.cells scope.names []) L X.env); theTreesLotGoes x)) _ _ s1
  refine wpAny_noted ?_
  rw [compTurn_list]; refine wpAny_bind (wpAny_standAt (wpAny_bind ?_))
  have I1' : Inv (X.comp scope N L s₀ H₀ fp) [] σ₀ H1 s1 := I1.weak sb.length fun k v e => sb.get k v e
  have I1p : Inv (X.comp scope N L s₀ H₀ fp) [(D, { cls := .type "list", data := .seq (List.toArray its) n })] σ₀ H1 s1 := I1'.pins_of fun p hp => by
    have e : p = (D, { cls := .type "list", data := .seq (List.toArray its) n }) := by simpa using hp
    subst e; have z := fpD (pins := []) hD1 (fun p h => absurd h (by simp))
    exact ⟨ho1, hD1, z.2.1, z.2.2.1, fun v q => nomatch q⟩
  rcases turn i m acc H1 w1 with ⟨stop, hz, q⟩ | ⟨go, step⟩
  · refine wpAny_mono (T.done (X.comp scope N L s₀ H₀ fp) rfl rfl rfl hc i _ s1 σ₀ H1 (fun _ _ => False) I1p (fpOk hf1 fun p hp => pD p hp) st1 stop) (fun r s2 hz0 => ?_) fun _ _ z => z.elim
    obtain ⟨hr, I2⟩ := hz0; subst hr; have e2 := (I2.pin (D, _) (List.mem_append_right _ (List.mem_singleton.mpr rfl))).1; exact wpAny_pure (hR σ₀ H1 s2 acc its n (I2.pins_of fun p hp => absurd hp (by simp)) hD1 e2 r1 hz q)
  · refine wpAny_mono (T.item (X.comp scope N L s₀ H₀ fp) rfl rfl rfl hc i _ s1 σ₀ H1 (fun _ _ => False) I1p (fpOk hf1 fun p hp => pD p hp) st1 go) (fun r s2 hz1 => ?_) fun _ _ z => z.elim
    obtain ⟨u, hr, h2⟩ := hz1; subst hr; refine wpAny_bind (wpAny_mono h2 (fun _ s3 hz2 => ?_) fun _ _ z => z.elim)
    obtain ⟨x, H3, I3, r3, y3, st3, fr3⟩ := hz2; have e3 := (I3.pin (D, _) (List.mem_append_right _ (List.mem_singleton.mpr rfl))); have I3' := I3.pinned (fp := fp) (fpOk fr3 fun p hp => pD p hp) (T.obj _ _ st3)
    refine wpAny_bind (wpAny_mono (hg _ s3 σ₀ H3 x u _ I3' r3 (step x H3 y3)) (fun _ s4 hz3 => ?_) fun _ _ z => z.elim)
    obtain ⟨σ4, H4, I4, sb4, q4⟩ := hz3
    have stays : ∀ {σ5 : St} {H5 : Hp} {s5 : Shared}, Inv (X.comp scope N L s₀ H₀ fp) ([(D, { cls := .type "list", data := .seq (List.toArray its) n })] ++ pinsAt fp s3.heap) σ5 H5 s5 →
        tn (i + 1) s5.heap ∧ (∀ b ∈ fp, H5 b = none) ∧ H5 D = none ∧ s5.heap.get? D = some { cls := .type "list", data := .seq (List.toArray its) n } := fun {σ5 H5 s5} I5 => by
      refine ⟨T.keep _ _ _ st3 fun b hb o e => (I5.pin (b, o) (List.mem_append_right _ (List.mem_append_right _ (mem_pinsAt hb e)))).1, fun b hb => ?_, (I5.pin (D, _) (List.mem_append_right _ (List.mem_append_left _ (List.mem_singleton.mpr rfl)))).2.1, (I5.pin (D, _) (List.mem_append_right _ (List.mem_append_left _ (List.mem_singleton.mpr rfl)))).1⟩
      obtain ⟨o, e, _⟩ := T.obj _ _ st3 b hb; exact (I5.pin (b, o) (List.mem_append_right _ (List.mem_append_right _ (mem_pinsAt hb e)))).2.1
    refine wpAny_bind (wpAny_mono (ht _ s4 σ4 H4 _ I4 q4) (fun ok s5 hz4 => ?_) fun _ _ z => z.elim)
    obtain ⟨H5, I5, q5⟩ := hz4
    cases ok with
    | false =>
      obtain ⟨m', hm, w5⟩ := q5; obtain ⟨a1, a2, a3, a4⟩ := stays I5; exact wpAny_pure ⟨rfl, m', hm, i + 1, σ4, H5, acc, its, n, I5.pins_of fun p hp => absurd hp (by simp), sb4, a1, a2, a3, a4, r1, w5⟩
    | true =>
      refine wpAny_bind (wpAny_bind (wpAny_mono (he _ s5 σ4 H5 _ I5 q5) (fun y s6 hz5 => ?_) fun _ _ z => z.elim))
      obtain ⟨yv, H6, I6, ry, hlt, m', hm, w6⟩ := hz5; obtain ⟨a1, a2, a3, a4⟩ := stays I6; have hl1 := r1.length; refine wpAny_bind (call_meets F.slot_list_append ⟨_, a4, rfl⟩ F.entry_list_append (F.args_list_append_2 _ _) (PySem.list_append D its.toArray n y (by rw [List.size_toArray]; fail"o")) ⟨a4, ?_⟩)
      have q := PySem.IsL.update a4 (fun xs => xs.push y)
      have q2 : (s6.heap.update D (Obj.mapSeq fun xs => xs.push y)).get? D = some { cls := .type "list", data := .seq (List.toArray (its ++ [y])) (n + 1) } := by
        rw [q]; simp
      have z := fpD (pins := []) a3 (fun p h => absurd h (by simp))
      have I7 : Inv (X.comp scope N L s₀ H₀ fp) [] σ4 H6 { s6 with heap := s6.heap.update D (Obj.mapSeq fun xs => xs.push y) } := (I6.pins_of (pins' := []) fun p hp => absurd hp (by simp)).turned (t' := s6.toks) (it := D)
        (fun b o hb e => (Heap.get?_update_other _ _ (Ne.symm hb)).trans e) a3 z.2.1 z.2.2.2.1 z.2.2.2.2.1 (fun p hp => absurd hp (by simp))
      refine wpAny_pure (wpAny_pure ⟨rfl, m', hm, i + 1, σ4, H6, acc ++ [yv], its ++ [y], n + 1, I7, sb4, T.keep _ _ _ a1 fun b hb o e => ?_, a2, a3, q2, r1.append (.cons ry .nil), w6⟩)
      · exact (Heap.get?_update_other _ _ (fun w' => hDf (by rw [w']; exact hb))).trans e
end
end L2
namespace L2
open PySem PySem.Spec PyProof.Rows
section
variable {X : Cx} {tg elt iter : Expr} {ifs : List Expr} {scope : Scope} {N : List Str} {src : List (Option Nat)} {pos : Pos} {wi : TI} {g : TG} {tt : TT} {te : TE}
theorem comp_block {pins : Pins} {σ : St} {s2 : Shared} {H2 : Hp} {it : Addr} {fp : List Addr} {tn : Nat → Heap → Prop} {J : It} {Q : List V → Hp → Prop} {RR : Value → Addr → Result → Shared → Prop} {E : VSP}
    (hc : X.calm = true) (C : CompOk X scope N src) (hb : ∀ L s₀ H₀ fp, PG (X.comp scope N L s₀ H₀ fp) tg g ∧ PTs (X.comp scope N L s₀ H₀ fp) ifs tt ∧ PE (X.comp scope N L s₀ H₀ fp) elt te)
    (I2 : Inv X pins σ H2 s2) (T : Turn X.prog X.w X.K tg J fp it tn) (st2 : tn 0 s2.heap) (f2 : ∀ b ∈ fp, FpOk X pins H2 b) (hw : compW J H2 (seen src σ) g tt te Q)
    (hR : ∀ D L H' s' acc, s2.heap.objs.size ≤ L → L ≠ D → Inv X pins σ (upd H' D (.lst acc)) s' → (∃ m, s'.heap.Ns L m) → H' D = none → (upd H' D (.lst acc)) L = none → Q acc H' → RR (.ref D) L (.ok .next) s') :
    wpAny (model X.prog X.w) X.A (newList []) (fun acc s₃ => wpAny (model X.prog X.w) X.A (newFunctionEnv scope X.env.globals (closL X.env.cells scope.names []) [] X.env.qual none .none (some X.env)) (fun cenv s₄ =>
      codeAny (model X.prog X.w) X.A (.compStart (.ListComp elt [⟨tg, iter, ifs, 0⟩] scope pos) 0 (.ref it) acc { cenv with scope := relabel scope X.env }) (RR acc cenv.locals) s₄) E s₃) E s2 := by
  refine wpAny_newList ?_ (Nat.zero_le _)
  refine wpAny_newFunctionEnv C.nocell (by intro y hy; simp at hy) (fun h1 hns hsb => ?_) C.kind
  have hsz : (s2.heap.push { cls := .type "list", data := .seq ([] : List Value).toArray }).objs.size = s2.heap.objs.size + 1 := Heap.size_push _ _; have hLD : (s2.heap.push { cls := .type "list", data := .seq ([] : List Value).toArray }).objs.size ≠ s2.heap.objs.size := by rw [hsz]; exact Nat.succ_ne_self _
  have keep1 : ∀ b o, (s2.heap.push { cls := .type "list", data := .seq ([] : List Value).toArray }).get? b = some o → h1.get? b = some o := fun b o e => by
    have hb : b ≠ (s2.heap.push { cls := .type "list", data := .seq ([] : List Value).toArray }).objs.size := Nat.ne_of_lt (Heap.lt_size e); exact (hsb.2 b hb).trans (Heap.get?_push_of_some _ e)
  have keep : ∀ b o, s2.heap.get? b = some o → h1.get? b = some o := fun b o e => keep1 b o (Heap.get?_push_of_some _ e)
  have hfo : ∀ b ∈ fp, ∃ o, s2.heap.get? b = some o := fun b hb => let ⟨o, e, _⟩ := T.obj 0 _ st2 b hb; ⟨o, e⟩
  have hLs : s2.heap.objs.size ≤ (s2.heap.push { cls := .type "list", data := .seq ([] : List Value).toArray }).objs.size := by rw [hsz]; exact Nat.le_succ _
  have I3 : Inv (X.comp scope N (s2.heap.push { cls := .type "list", data := .seq ([] : List Value).toArray }).objs.size s2 H2 fp) [] (seen src σ) H2 { s2 with heap := h1, toks := s2.toks + ([] : List (Str × Value)).length } :=
    comp_start I2 C f2 hfo hLs keep (by simpa using hns) rfl rfl
  have hD : H2 s2.heap.objs.size = none := I2.hok.fresh (Nat.le_refl _); have hDo : h1.get? s2.heap.objs.size = some { cls := .type "list", data := .seq #[] 0 } := keep1 _ _ (Heap.get?_push_size _ rfl)
  have st3 : tn 0 h1 := T.keep 0 _ _ st2 fun b hb o e => keep b o e
  obtain ⟨b1, b2, b3⟩ := hb (s2.heap.push { cls := .type "list", data := .seq ([] : List Value).toArray }).objs.size s2 H2 fp
  have loop : codeAny (model X.prog X.w) X.A (.compLoop (.ListComp elt [⟨tg, iter, ifs, 0⟩] scope pos) 0 (.ref it) (.ref s2.heap.objs.size) (compEnvC scope (closL X.env.cells scope.names []) (s2.heap.push { cls := .type "list", data := .seq ([] : List Value).toArray }).objs.size X.env))
      (RR (.ref s2.heap.objs.size) (s2.heap.push { cls := .type "list", data := .seq ([] : List Value).toArray }).objs.size) { s2 with heap := h1, toks := s2.toks + ([] : List (Str × Value)).length } := by
    refine comp_loop hc T (Nat.le_refl _) (Ne.symm hLD) (fun z => ?_) (fun x c e => ?_) (fun b hb' => ?_) (fun b hb' => ?_) b1 b2 b3 I3 st3 (fun b hb' => (f2 b hb').1) hD hDo hw fun σ' H' s' acc its n J' n' o' r' z' q' => ?_
    · obtain ⟨o, e⟩ := hfo _ z
      exact absurd (Heap.lt_size e) (Nat.lt_irrefl _)
    · obtain ⟨v, o, e1, _⟩ := I2.cell x c (clos_is e)
      exact Heap.lt_size e1
    · obtain ⟨o, e⟩ := hfo b hb'
      exact ⟨Nat.ne_of_lt (Nat.lt_of_lt_of_le (Heap.lt_size e) hLs), Heap.lt_size e, (fun z => by
        rcases List.mem_cons.mp (I2.stkSub b z) with q | q
        · exact (f2 b hb').2.1 q
        · exact (f2 b hb').2.2.1 q), fun x c e1 => (f2 b hb').2.2.2.2.1 x c (clos_is e1)⟩
    · obtain ⟨_, o, e, _⟩ := I2.stack.mem hb'
      exact Heap.lt_size e
    · obtain ⟨m, hn, _⟩ := id J'.loc
      exact hR _ _ H' s' acc hLs hLD (comp_done I2 f2 (Nat.le_refl _) J' n' o' r' z') ⟨m, hn⟩ n' (by rw [upd_ne hLD]; exact J'.free) q'
  exact codeAny_compStart_list loop (T.self X.A 0 _ _ _ st3 loop)
def tComp (src : List (Option Nat)) (wi : TI) (g : TG) (tt : TT) (te : TE) : TE := fun σ H Q => wi σ H fun J H1 => compW J H1 (seen src σ) g tt te fun acc H2 => ∀ p, H2 p = none → Q (.ref p) (upd H2 p (.lst acc))
theorem pe_comp (hc : X.calm = true) (C : CompOk X scope N src) (hi : PI X tg iter wi) (hb : ∀ L s₀ H₀ fp, PG (X.comp scope N L s₀ H₀ fp) tg g ∧ PTs (X.comp scope N L s₀ H₀ fp) ifs tt ∧ PE (X.comp scope N L s₀ H₀ fp) elt te)
    (hs : ∀ x, foldedSetIterable iter X.env x = pure x := by intro _; rfl) : PE X (.ListComp elt [⟨tg, iter, ifs, 0⟩] scope pos) (tComp src wi g tt te) := by
  intro pins s σ H Q I h; rw [eval_ListComp]; refine wpAny_comprehension_free (use := none) rfl hs (closureFor_eq (compOk_freeOk I C)) C.kind C.loc (wpAny_mono (hi pins s σ H _ I h) (fun v s1 h1 => wpAny_mono h1 (fun itv s2 h2 => ?_) fun _ _ z => z) fun _ _ z => z)
  obtain ⟨it, fp, tn, J, H2, e, I2, T, st2, f2, q⟩ := h2; subst e; refine comp_block (RR := fun acc L => compPost (model X.prog X.w) X.A X.xe none (EP X pins σ Q) acc L) hc C hb I2 T st2 f2 q fun D L H' s' acc hL hLD I3 hn n' nL q' => ?_
  obtain ⟨m, hm⟩ := hn; refine ⟨m, hm, fun h' hs' => ⟨.ref D, _, I3.turned (t' := s'.toks) (it := L) (fun b o hb e => (hs'.2 b hb).trans e) nL ?_ (.inr (Nat.le_trans I2.sz hL)) (fun x c e z => ?_) (fun p hp z => ?_), rfl, q' D n'⟩⟩
  · exact Nat.ne_of_gt (Nat.lt_of_lt_of_le I2.lt hL)
  · obtain ⟨v, o, e1, _⟩ := I2.cell x c e
    exact absurd (Heap.lt_size e1) (by rw [z]; exact Nat.not_lt.mpr hL)
  · have e1 := (I2.pin p hp).1
    exact absurd (Heap.lt_size e1) (by rw [z]; exact Nat.not_lt.mpr hL)
def tSetComp (i : Nat) (src : List (Option Nat)) (wi : TI) (g : TG) (tt : TT) (te : TE) : TS := fun D σ H => wi σ H fun J H1 => compW J H1 (seen src σ) g tt te fun acc H2 => ∀ p, H2 p = none → D.nx (σ.set i (some (.ref p))) (upd H2 p (.lst acc))
theorem ps_setComp {i : Nat} {y : Str} {py spos : Pos} (hc : X.calm = true) (hN : X.N.Nodup) (hi' : X.N[i]? = some y) (hy : X.env.scope.names.lookup y = some .local) (C : CompOk X scope N src) (hi : PI X tg iter wi)
    (hb : ∀ L s₀ H₀ fp, PG (X.comp scope N L s₀ H₀ fp) tg g ∧ PTs (X.comp scope N L s₀ H₀ fp) ifs tt ∧ PE (X.comp scope N L s₀ H₀ fp) elt te)
    (hsw : swapsWith (.ListComp elt [⟨tg, iter, ifs, 0⟩] scope pos) (some (.Name y py)) spos.line X.env = pure true)
    (hs : ∀ x, foldedSetIterable iter X.env x = pure x := by intro _; rfl) : PS X (.Assign [.Name y py] (.ListComp elt [⟨tg, iter, ifs, 0⟩] scope pos) spos) (tSetComp i src wi g tt te) := by
  intro pins s σ H D I h; rw [exec_Assign_Name_used _ _ _ _ hsw]; refine wpAny_bind (wpAny_standAt (wpAny_bind ?_))
  show wpAny _ X.A (do let _ ← comprehension (.ListComp elt [⟨tg, iter, ifs, 0⟩] scope pos) scope X.env _ (newList []) false (eval iter X.env) (some (assign (.Name y py) X.env))) _ _ s
  refine wpAny_bind (wpAny_mono (wpAny_comprehension_free (use := some (assign (.Name y py) X.env)) (Q := fun _ s' => SP X pins D .next s') rfl hs (closureFor_eq (compOk_freeOk I C)) C.kind C.loc
    (wpAny_mono (hi pins s σ H _ I h) (fun v s1 h1 => wpAny_mono h1 (fun itv s2 h2 => ?_) fun _ _ z => z) fun _ _ z => z)) (fun _ s' hq => wpAny_pure (wpAny_pure hq)) fun _ _ z => z)
  obtain ⟨it, fp, tn, J, H2, e, I2, T, st2, f2, q⟩ := h2; subst e; refine comp_block (RR := fun acc L => compPost (model X.prog X.w) X.A X.xe (some (assign (.Name y py) X.env)) (fun _ s' => SP X pins D .next s') acc L) hc C hb I2 T st2 f2 q fun D' L H' s' acc hL hLD I3 hn n' nL q' => ?_
  obtain ⟨m, hm⟩ := hn; have nLL : L ≠ X.env.locals := Nat.ne_of_gt (Nat.lt_of_lt_of_le I2.lt hL)
  have nLc : ∀ x c, X.env.cells.lookup x = some c → c ≠ L := fun x c e z => by
    obtain ⟨v, o, e1, _⟩ := I2.cell x c e; exact absurd (Heap.lt_size e1) (by rw [z]; exact Nat.not_lt.mpr hL)
  show wpAny _ X.A (assign (.Name y py) X.env (.ref D')) _ _ s'
  refine wpAny_assign_Name (store_ok2 I3 hN hi' (.inl hy) (v := .ref D') rfl (fun s'' I4 hz0 => ?_) (.inr hy))
  obtain ⟨a, hsb, ha⟩ := hz0
  have naL : L ≠ a := by
    rcases ha with rfl | ha
    · exact nLL
    · exact Ne.symm (nLc _ _ ha)
  refine ⟨m, hm.sameBut hsb naL, fun h' hs' => ⟨_, _, I4.turned (t' := s''.toks) (it := L) (fun b o hb e => (hs'.2 b hb).trans e) nL nLL (.inr (Nat.le_trans I2.sz hL)) nLc (fun p hp z => ?_), q' D' n'⟩⟩
  have e1 := (I2.pin p hp).1; exact absurd (Heap.lt_size e1) (by rw [z]; exact Nat.not_lt.mpr hL)
end
end L2
namespace L2
open PySem PySem.Spec PyProof.Rows
mutual
inductive Is (K : PySem.W.Frag) (H : Hp) : V → PyData → Prop
  | non : Is K H .non .none
  | bl (b : Bool) : Is K H (.bl b) (.bool b)
  | int (i : Int) : Is K H (.int i) (.int i)
  | str (x : Str) : Is K H (.str x) (.str x)
  | lst {a : Addr} {vs : List V} {ds : LPD} : SqL K H a vs → IsAll K H vs ds → Is K H (.ref a) (.list ds)
  | tup {a : Addr} {vs : List V} {ds : LPD} : H a = some (.tup vs) → IsAll K H vs ds → Is K H (.ref a) (.tuple ds)
inductive IsAll (K : PySem.W.Frag) (H : Hp) : List V → LPD → Prop
  | nil : IsAll K H [] []
  | cons {v : V} {vs : List V} {d : PyData} {ds : LPD} : Is K H v d → IsAll K H vs ds → IsAll K H (v :: vs) (d :: ds)
end
section
variable {K : PySem.W.Frag} {H H' : Hp}
theorem Is.mono (hL : ∀ a xs, SqL K H a xs → SqL K H' a xs) (hT : ∀ a xs, H a = some (.tup xs) → H' a = some (.tup xs)) {v : V} {d : PyData} (h : Is K H v d) : Is K H' v d :=
  Is.rec (motive_1 := fun v d _ => Is K H' v d) (motive_2 := fun vs ds _ => IsAll K H' vs ds) .non .bl .int .str (fun h _ i => .lst (hL _ _ h) i) (fun h _ i => .tup (hT _ _ h) i) .nil (fun _ _ a b => .cons a b) h
theorem IsAll.mono (hL : ∀ a xs, SqL K H a xs → SqL K H' a xs) (hT : ∀ a xs, H a = some (.tup xs) → H' a = some (.tup xs)) {vs : List V} {ds : LPD} (h : IsAll K H vs ds) : IsAll K H' vs ds :=
  IsAll.rec (motive_1 := fun v d _ => Is K H' v d) (motive_2 := fun vs ds _ => IsAll K H' vs ds) .non .bl .int .str (fun h _ i => .lst (hL _ _ h) i) (fun h _ i => .tup (hT _ _ h) i) .nil (fun _ _ a b => .cons a b) h
theorem Same.tseq {a : Addr} {xs : List V} (e : Same H H') (h : SqT K H a xs) : SqT K H' a xs := by
  rcases h with (h | ⟨o, h⟩) | h
  · exact .inl (.inl (e _ _ h))
  · exact .inl (.inr ⟨o, e _ _ h⟩)
  · exact .inr h
theorem Same.is (e : Same H H') {v : V} {d : PyData} (h : Is K H v d) : Is K H' v d := h.mono (fun _ _ q => e.seq q) fun _ _ q => e _ _ q
theorem Same.isAll (e : Same H H') {vs : List V} {ds : LPD} (h : IsAll K H vs ds) : IsAll K H' vs ds := h.mono (fun _ _ q => e.seq q) fun _ _ q => e _ _ q
theorem Same.upd {p : Addr} {o : HO} (h : H p = none) : Same H (upd H p o) := fun b u e => by rw [upd_ne (ne_of_none e h)]; exact e
theorem IsAll.length {vs : List V} {ds : LPD} (h : IsAll K H vs ds) : vs.length = ds.length :=
  IsAll.rec (motive_1 := fun _ _ _ => True) (motive_2 := fun vs ds _ => vs.length = ds.length) trivial (fun _ => trivial) (fun _ => trivial) (fun _ => trivial) (fun _ _ _ => trivial) (fun _ _ _ => trivial) rfl (fun _ _ _ b => congrArg (· + 1) b) h
theorem IsAll.append {vs us : List V} {ds es : LPD} (h : IsAll K H vs ds) (g : IsAll K H us es) : IsAll K H (vs ++ us) (ds ++ es) :=
  IsAll.rec (motive_1 := fun _ _ _ => True) (motive_2 := fun vs ds _ => IsAll K H (vs ++ us) (ds ++ es)) trivial (fun _ => trivial) (fun _ => trivial) (fun _ => trivial) (fun _ _ _ => trivial) (fun _ _ _ => trivial) g (fun a _ _ b => .cons a b) h
theorem IsAll.at : ∀ {vs : List V} {ds : LPD} {i : Nat} {d : PyData}, IsAll K H vs ds → ds[i]? = some d → ∃ v, vs[i]? = some v ∧ Is K H v d
  | _, _, _, _, .nil, e => by simp at e
  | _, _, 0, _, .cons h _, e => by simp at e; subst e; exact ⟨_, rfl, h⟩
  | _, _, i + 1, d, .cons _ r, e => by
    obtain ⟨v, h1, h2⟩ := IsAll.at (i := i) (d := d) r (by simpa using e)
    exact ⟨v, by simpa using h1, h2⟩
theorem isAll_ints : ∀ (ns : List Int), IsAll K H (ns.map V.int) (ns.map .int)
  | [] => .nil
  | n :: r => .cons (.int n) (isAll_ints r)
theorem ints_isAll : ∀ {ns : List Int} {vs : List V}, IsAll K H vs (ns.map .int) → vs = ns.map V.int
  | [], _, h => by cases h; rfl
  | n :: r, _, h => by
    rw [List.map_cons] at h
    cases h with
    | cons a b => cases a; rw [ints_isAll b]; rfl
end
section
variable {X : Cx} {pins : Pins} {σ : St} {H : Hp} {s : Shared}
theorem Inv.readsAll (I : Inv X pins σ H s) {vs : List V} {ds : LPD} {us : List Value} (h : IsAll X.K H vs ds) (r : Vals vs us) : ∃ as, ReadsAll s.heap us ds as := by
  refine IsAll.rec (motive_1 := fun v d _ => ∀ u, RelV v u → ∃ as, Reads s.heap u d as) (motive_2 := fun vs ds _ => ∀ us, Vals vs us → ∃ as, ReadsAll s.heap us ds as) ?_ ?_ ?_ ?_ ?_ ?_ ?_ ?_ h us r
  · intro u r; cases r; exact ⟨_, .none⟩
  · intro b u r; cases r; exact ⟨_, .bool b⟩
  · intro i u r; obtain ⟨t, rfl⟩ := r; exact ⟨_, .int i t⟩
  · intro x u r; obtain ⟨t, rfl⟩ := r; exact ⟨_, .str x t⟩
  · intro a vs ds h _ ih u r
    cases r; obtain ⟨its, rv, ⟨o, n, e, c, _, dd⟩, _⟩ := I.list h; obtain ⟨as, ra⟩ := ih _ rv; exact ⟨_, .list e c dd ra⟩
  · intro a vs ds h _ ih u r
    cases r; obtain ⟨its, rv, ⟨o, e, c, n, dd⟩, _⟩ := I.tuple (SqT.of h); obtain ⟨as, ra⟩ := ih _ rv; exact ⟨_, .tuple e c dd ra⟩
  · intro us r; cases r; exact ⟨_, .nil⟩
  · intro v vs d ds _ _ i1 i2 us r
    cases r with
    | cons r1 r2 =>
      obtain ⟨as, ra⟩ := i1 _ r1; obtain ⟨bs, rb⟩ := i2 _ r2; exact ⟨_, .cons ra rb⟩
theorem Inv.reads (I : Inv X pins σ H s) {v : V} {d : PyData} {u : Value} (h : Is X.K H v d) (r : RelV v u) : ∃ as, Reads s.heap u d as := by
  obtain ⟨as, ra⟩ := I.readsAll (.cons h .nil) (.cons r .nil)
  cases ra with
  | cons a _ => exact ⟨_, a⟩
end
structure GoodEnc {α : Type} [DecidableEq α] (f : α → PyData) (k : Nat) : Prop where
  lay : ∀ a, (f a).canLay0 = true
  dep : ∀ a, (f a).depth ≤ k
  eqv : ∀ a b, PyData.eqv (f a) (f b) = decide (a = b)
theorem goodInt : GoodEnc PyData.int 0 := ⟨fun _ => rfl, fun _ => Nat.le_refl _, fun a b => by simp only [PyData.eqv]; rw [Bool.beq_eq_decide_eq]⟩
section
variable {α : Type} [DecidableEq α] {f : α → PyData} {k : Nat}
theorem GoodEnc.layAll (G : GoodEnc f k) : ∀ xs : List α, PyData.canLayAll0 (xs.map f) = true
  | [] => rfl
  | x :: r => by
    show (PyData.canLay0 (f x) && PyData.canLayAll0 (r.map f)) = true
    rw [G.lay x, G.layAll r]; rfl
theorem GoodEnc.depAll (G : GoodEnc f k) : ∀ xs : List α, PyData.depthAll (xs.map f) ≤ k
  | [] => Nat.zero_le _
  | x :: r => by
    show max (PyData.depth (f x)) (PyData.depthAll (r.map f)) ≤ k
    exact Nat.max_le.mpr ⟨G.dep x, G.depAll r⟩
theorem GoodEnc.eqvAll (G : GoodEnc f k) : ∀ xs ys : List α, PyData.eqvAll (xs.map f) (ys.map f) = decide (xs = ys)
  | [], [] => by simp [PyData.eqvAll]
  | [], _ :: _ => by simp [PyData.eqvAll]
  | _ :: _, [] => by simp [PyData.eqvAll]
  | x :: xs, y :: ys => by
    rw [List.map_cons, List.map_cons, PyData.eqvAll, G.eqv, G.eqvAll xs ys, Bool.eq_iff_iff]; simp
theorem GoodEnc.tuple (G : GoodEnc f k) : GoodEnc (fun xs : List α => PyData.tuple (xs.map f)) (k + 1) :=
  ⟨fun xs => G.layAll xs, fun xs => Nat.succ_le_succ (G.depAll xs), fun xs ys => by simp only [PyData.eqv]; exact G.eqvAll xs ys⟩
theorem GoodEnc.list (G : GoodEnc f k) : GoodEnc (fun xs : List α => PyData.list (xs.map f)) (k + 1) :=
  ⟨fun xs => G.layAll xs, fun xs => Nat.succ_le_succ (G.depAll xs), fun xs ys => by simp only [PyData.eqv]; exact G.eqvAll xs ys⟩
end
def dM (m : List Int) : PyData := .tuple (m.map .int)
def dMs (ms : LLI) : PyData := .list (ms.map dM)
def dW (n : Int) (ls : LLI) : PyData := .tuple [.int n, dMs ls]
theorem goodM : GoodEnc dM 1 := goodInt.tuple
section
variable {K : PySem.W.Frag} {H : Hp}
theorem is_dM {v : V} {m : List Int} : Is K H v (dM m) ↔ ∃ a, v = .ref a ∧ H a = some (.tup (m.map V.int)) := by
  constructor
  · intro h
    cases h with
    | tup q r => rw [ints_isAll r] at q; exact ⟨_, rfl, q⟩
  · rintro ⟨a, rfl, q⟩
    exact .tup q (isAll_ints m)
end
section
variable {X : Cx}
def rEqD (X : Cx) : R2 := fun x y H Q => ∃ d e, Is X.K H x d ∧ Is X.K H y e ∧ d.canLay0 = true ∧ e.canLay0 = true ∧ d.depth ≤ 60 ∧ Q (.bl (PyData.eqv d e)) H
def rNeD (X : Cx) : R2 := fun x y H Q => ∃ d e, Is X.K H x d ∧ Is X.K H y e ∧ d.canLay0 = true ∧ e.canLay0 = true ∧ d.depth ≤ 60 ∧ Q (.bl (!PyData.eqv d e)) H
theorem room_dep {A : Around} {d e : PyData} (hu : A.units + 64 < cLine) (hd : d.depth ≤ 60) : A.units + min d.depth e.depth < cLine := by
  have : min d.depth e.depth ≤ d.depth := Nat.min_le_left _ _
  fail"o"
theorem op_eqD (hu : X.A.units + 64 < cLine) : OpR X (compareOp .Eq) (rEqD X) := by
  intro pins s σ H x y v u Q I rx ry h; obtain ⟨d, e, hx, hy, l1, l2, hd, q⟩ := h; obtain ⟨as, ra⟩ := I.reads hx rx; obtain ⟨bs, rb⟩ := I.reads hy ry; exact SeqAt.compareEq_reads ra rb l1 l2 (room_dep hu hd) ⟨.bl _, H, I, rfl, q⟩
theorem op_neD (hu : X.A.units + 64 < cLine) : OpR X (compareOp .NotEq) (rNeD X) := by
  intro pins s σ H x y v u Q I rx ry h; obtain ⟨d, e, hx, hy, l1, l2, hd, q⟩ := h; obtain ⟨as, ra⟩ := I.reads hx rx; obtain ⟨bs, rb⟩ := I.reads hy ry; exact SeqAt.compareNe_reads ra rb l1 l2 (room_dep hu hd) ⟨.bl _, H, I, rfl, q⟩
def rInD {α : Type} [DecidableEq α] (X : Cx) (f : α → PyData) (neg : Bool) : R2 := fun x y H Q => ∃ (a : α) (bs : List α), Is X.K H x (f a) ∧ Is X.K H y (.list (bs.map f)) ∧ Q (.bl (if neg then !decide (a ∈ bs) else decide (a ∈ bs))) H
theorem any_enc {α : Type} [DecidableEq α] {f : α → PyData} {k : Nat} (G : GoodEnc f k) (a : α) : ∀ bs : List α, ((bs.map f).any fun y => PyData.eqv y (f a)) = decide (a ∈ bs)
  | [] => by simp
  | b :: r => by
    rw [List.map_cons, List.any_cons, any_enc G a r, G.eqv, Bool.eq_iff_iff]; simp only [Bool.or_eq_true, decide_eq_true_eq, List.mem_cons]; exact ⟨fun h => h.imp Eq.symm id, fun h => h.imp Eq.symm id⟩
theorem op_inD {α : Type} [DecidableEq α] {f : α → PyData} {k : Nat} (G : GoodEnc f k) (hk : k ≤ 60) (hu : X.A.units + 64 < cLine) : OpR X (compareOp .In) (rInD X f false) := by
  intro pins s σ H x y v u Q I rx ry h; obtain ⟨a, bs, hx, hy, q⟩ := h; obtain ⟨as, ra⟩ := I.reads hx rx; obtain ⟨cs, rb⟩ := I.reads hy ry; have hd := G.dep a; have hm : min (PyData.depthAll (bs.map f)) (f a).depth ≤ (f a).depth := Nat.min_le_right _ _; refine SeqAt.in_list_reads rb ra (G.layAll bs) (G.lay a) (by fail"o") ⟨.bl _, H, I, rfl, ?_⟩
  rw [any_enc G]; exact q
theorem op_notinD {α : Type} [DecidableEq α] {f : α → PyData} {k : Nat} (G : GoodEnc f k) (hk : k ≤ 60) (hu : X.A.units + 64 < cLine) : OpR X (compareOp .NotIn) (rInD X f true) := by
  intro pins s σ H x y v u Q I rx ry h; obtain ⟨a, bs, hx, hy, q⟩ := h; obtain ⟨as, ra⟩ := I.reads hx rx; obtain ⟨cs, rb⟩ := I.reads hy ry; have hd := G.dep a; have hm : min (PyData.depthAll (bs.map f)) (f a).depth ≤ (f a).depth := Nat.min_le_right _ _; refine SeqAt.notIn_list_reads rb ra (G.layAll bs) (G.lay a) (by fail"o") ⟨.bl _, H, I, rfl, ?_⟩
  rw [any_enc G]; exact q
end
end L2
namespace MK
open PySem.W PyProof.Rows
def TOk {α : Type} (lt : Nat → Nat → Bool) (n : Nat) : KasT α → (α → Prop) → Prop
  | .ret a, Q => Q a
  | .ask i j k, Q => i < n ∧ j < n ∧ TOk lt n (k (lt i j)) Q
theorem TOk.bind {α β : Type} {lt : Nat → Nat → Bool} {n : Nat} {f : α → KasT β} {Q : β → Prop} : ∀ {t : KasT α}, TOk lt n t (fun a => TOk lt n (f a) Q) → TOk lt n (t.bind f) Q
  | .ret _, h => h
  | .ask _ _ _, h => ⟨h.1, h.2.1, TOk.bind h.2.2⟩
theorem TOk.mono {α : Type} {lt : Nat → Nat → Bool} {n : Nat} {Q Q' : α → Prop} (hq : ∀ a, Q a → Q' a) : ∀ {t : KasT α}, TOk lt n t Q → TOk lt n t Q'
  | .ret _, h => hq _ h
  | .ask _ _ _, h => ⟨h.1, h.2.1, TOk.mono hq h.2.2⟩
structure Ord (lt : Nat → Nat → Bool) : Prop where
  asym : ∀ i j, lt i j = true → lt j i = false
  tran : ∀ i j k, lt j i = false → lt k j = false → lt k i = false
theorem TOk.yes {α : Type} {lt : Nat → Nat → Bool} {n : Nat} {T U : KasT α} {Q : α → Prop} (h : TOk lt n T Q) : TOk lt n (if true = true then T else U) Q := by rw [if_pos rfl]; exact h
theorem TOk.no {α : Type} {lt : Nat → Nat → Bool} {n : Nat} {T U : KasT α} {Q : α → Prop} (h : TOk lt n U Q) : TOk lt n (if false = true then T else U) Q := by rw [if_neg (by simp)]; exact h
variable {lt : Nat → Nat → Bool} {n : Nat}
theorem Ord.refl (O : Ord lt) (i : Nat) : lt i i = false := by
  cases e : lt i i with
  | false => rfl
  | true => exact (O.asym i i e).symm.trans e |>.symm ▸ rfl
def Up (lt : Nat → Nat → Bool) (p : Array Nat) (m : Nat) : Prop := ∀ i j, i < j → j < m → lt (p.getD j 0) (p.getD i 0) = false
def Dn (lt : Nat → Nat → Bool) (p : Array Nat) (m : Nat) : Prop := ∀ i j, i < j → j < m → lt (p.getD i 0) (p.getD j 0) = false
def PermOf (n : Nat) (p : Array Nat) : Prop := p.toList.Perm (List.range n)
theorem PermOf.size {p : Array Nat} (h : PermOf n p) : p.size = n := by
  have := h.length_eq; simpa using this
theorem PermOf.bnd {p : Array Nat} (h : PermOf n p) {i : Nat} (hi : i < n) : p.getD i 0 < n := by
  have hs := h.size; have hi' : i < p.size := by fail"o"
  have e : p.getD i 0 = p[i] := by simp [Array.getD, hi']
  rw [e]; have : p[i] ∈ p.toList := by simp
  exact List.mem_range.mp (h.mem_iff.mp this)
theorem getD_of {p q : Array Nat} {i j : Nat} (h : p[i]? = q[j]?) : p.getD i 0 = q.getD j 0 := by
  simp only [Array.getD_eq_getD_getElem?, h]
theorem PermOf.rev {p : Array Nat} (h : PermOf n p) (i j : Nat) : PermOf n (kas_rev p i j) := (Array.perm_iff_toList_perm.mp (mirror_perm p i j _)).trans h
theorem PermOf.bub {p : Array Nat} (h : PermOf n p) (i j : Nat) : PermOf n (bubble p i j) := (Array.perm_iff_toList_perm.mp (bubble_perm p i j)).trans h
theorem rev_get {p : Array Nat} {i j : Nat} (hj : j ≤ p.size) (k : Nat) : (kas_rev p i j).getD k 0 = if i ≤ k ∧ k < j then p.getD (i + j - 1 - k) 0 else p.getD k 0 := by
  by_cases h : i ≤ k ∧ k < j
  · rw [if_pos h]
    exact getD_of (by unfold kas_rev; rw [getElem?_mirror_all hj, if_pos h])
  · rw [if_neg h]
    exact getD_of (by unfold kas_rev; rw [getElem?_mirror_all hj, if_neg h])
theorem bub_get {p : Array Nat} {src d : Nat} (hs : src < p.size) (hd : d ≤ src) (k : Nat) : (bubble p src d).getD k 0 = if k = src - d then p.getD src 0 else if src - d < k ∧ k ≤ src then p.getD (k - 1) 0 else p.getD k 0 := by
  have e := getElem?_bubble hs d hd k
  by_cases h : k = src - d
  · rw [if_pos h] at e ⊢
    exact getD_of e
  · rw [if_neg h] at e ⊢
    by_cases h2 : src - d < k ∧ k ≤ src
    · rw [if_pos h2] at e ⊢
      exact getD_of e
    · rw [if_neg h2] at e ⊢
      exact getD_of e
theorem Up.step (O : Ord lt) {p : Array Nat} {m : Nat} (hu : Up lt p m) (e : lt (p.getD m 0) (p.getD (m - 1) 0) = false) : Up lt p (m + 1) := fun i j hij hj => by
  by_cases hjm : j = m
  · subst hjm
    by_cases him : i = j - 1
    · subst him; exact e
    · exact O.tran _ _ _ (hu i (j - 1) (by fail"o") (by fail"o")) e
  · exact hu i j hij (by fail"o")
theorem Dn.step (O : Ord lt) {p : Array Nat} {m : Nat} (hd : Dn lt p m) (e : lt (p.getD (m - 1) 0) (p.getD m 0) = false) : Dn lt p (m + 1) := fun i j hij hj => by
  by_cases hjm : j = m
  · subst hjm
    by_cases him : i = j - 1
    · subst him; exact e
    · exact O.tran _ _ _ e (hd i (j - 1) (by fail"o") (by fail"o"))
  · exact hd i j hij (by fail"o")
theorem asc_ok (O : Ord lt) {p : Array Nat} (P : PermOf n p) (f : Nat) : ∀ m : Nat, 1 ≤ m → m + f = n → Up lt p m → TOk lt n (kas_asc p f m) (fun r => m ≤ r ∧ r ≤ n ∧ Up lt p r ∧ (r < n → lt (p.getD r 0) (p.getD (r - 1) 0) = true)) := by
  induction f with
  | zero => exact fun m _ hn hu => ⟨Nat.le_refl _, Nat.le_of_eq hn, hu, fun h => absurd hn (Nat.ne_of_lt h)⟩
  | succ f ih =>
    intro m h1 hn hu; unfold kas_asc; refine ⟨P.bnd (by fail"o"), P.bnd (by fail"o"), ?_⟩
    cases e : lt (p.getD m 0) (p.getD (m - 1) 0) with
    | true => exact ⟨Nat.le_refl _, by fail"o", hu, fun _ => e⟩
    | false => exact TOk.no ((ih (m + 1) (Nat.succ_pos _) (by fail"o") (hu.step O e)).mono fun r h => ⟨Nat.le_of_succ_le h.1, h.2⟩)
theorem Dn.rev {p : Array Nat} {a m : Nat} (hm : m ≤ p.size) (h : Dn lt p m) (heq : ∀ i j, a ≤ i → i < m → a ≤ j → j < m → lt (p.getD i 0) (p.getD j 0) = false) : Dn lt (kas_rev p a m) m := by
  intro i j hij hj; rw [rev_get hm, rev_get hm]
  by_cases hi : a ≤ i
  · rw [if_pos ⟨hi, by fail"o"⟩, if_pos ⟨by fail"o", hj⟩]
    exact heq _ _ (by fail"o") (by fail"o") (by fail"o") (by fail"o")
  · rw [if_neg (by fail"o")]
    by_cases hja : a ≤ j
    · rw [if_pos ⟨hja, hj⟩]
      exact h i _ (by fail"o") (by fail"o")
    · rw [if_neg (by fail"o")]
      exact h i j hij hj
theorem desc_ok (O : Ord lt) : ∀ (f : Nat) (p : Array Nat) (m q : Nat), PermOf n p → q + 1 ≤ m → m + f ≤ n → Dn lt p m → (∀ i j, m - (q + 1) ≤ i → i < m → m - (q + 1) ≤ j → j < m → lt (p.getD i 0) (p.getD j 0) = false) →
    TOk lt n (kas_desc f p m q) (fun r => PermOf n r.1 ∧ r.2.2 + 1 ≤ r.2.1 ∧ m ≤ r.2.1 ∧ r.2.1 ≤ m + f ∧ Dn lt r.1 r.2.1 ∧ ∀ i j, r.2.1 - (r.2.2 + 1) ≤ i → i < r.2.1 → r.2.1 - (r.2.2 + 1) ≤ j → j < r.2.1 → lt (r.1.getD i 0) (r.1.getD j 0) = false)
  | 0, p, m, q, P, hq, hn, hd, he => ⟨P, hq, Nat.le_refl _, Nat.le_refl _, hd, he⟩
  | f + 1, p, m, q, P, hq, hn, hd, he => by
    have hs := P.size; unfold kas_desc; refine ⟨P.bnd (by fail"o"), P.bnd (by fail"o"), ?_⟩
    have one : ∀ (p' : Array Nat) (i j : Nat), (m + 1) - (0 + 1) ≤ i → i < m + 1 → (m + 1) - (0 + 1) ≤ j → j < m + 1 → lt (p'.getD i 0) (p'.getD j 0) = false := fun p' i j h1 h2 h3 h4 => by
      have : i = j := by fail"o"
      subst this; exact O.refl _
    cases e : lt (p.getD m 0) (p.getD (m - 1) 0) with
    | true =>
      refine TOk.yes ?_
      by_cases hq0 : q > 0
      · rw [if_pos hq0]
        have hrs : (kas_rev p (m - (q + 1)) m).size = n := (P.rev _ _).size; have hdr : Dn lt (kas_rev p (m - (q + 1)) m) m := hd.rev (by fail"o") he
        have eb : lt ((kas_rev p (m - (q + 1)) m).getD m 0) ((kas_rev p (m - (q + 1)) m).getD (m - 1) 0) = true := by
          rw [rev_get (by fail"o"), rev_get (by fail"o"), if_neg (by fail"o"), if_pos (by fail"o")]
          cases e2 : lt (p.getD m 0) (p.getD (m - (q + 1) + m - 1 - (m - 1)) 0) with
          | true => rfl
          | false =>
            have h3 := he (m - 1) (m - (q + 1) + m - 1 - (m - 1)) (by fail"o") (by fail"o") (by fail"o") (by fail"o")
            have h4 := he (m - (q + 1) + m - 1 - (m - 1)) (m - 1) (by fail"o") (by fail"o") (by fail"o") (by fail"o")
            rw [O.tran _ _ _ h4 e2] at e; cases e
        exact (desc_ok O f _ (m + 1) 0 (P.rev _ _) (by fail"o") (by fail"o") (hdr.step O (O.asym _ _ eb)) (one _)).mono fun r h => ⟨h.1, h.2.1, Nat.le_of_succ_le h.2.2.1, by have := h.2.2.2.1; fail"o", h.2.2.2.2⟩
      · rw [if_neg hq0]
        exact (desc_ok O f _ (m + 1) 0 P (by fail"o") (by fail"o") (hd.step O (O.asym _ _ e)) (one _)).mono fun r h => ⟨h.1, h.2.1, Nat.le_of_succ_le h.2.2.1, by have := h.2.2.2.1; fail"o", h.2.2.2.2⟩
    | false =>
      refine TOk.no ?_
      refine ⟨P.bnd (by fail"o"), P.bnd (by fail"o"), ?_⟩
      cases e2 : lt (p.getD (m - 1) 0) (p.getD m 0) with
      | true => exact ⟨P, hq, Nat.le_refl _, (by show m ≤ m + (f + 1); fail"o"), hd, he⟩
      | false =>
        refine TOk.no ?_
        refine (desc_ok O f p (m + 1) (q + 1) P (by fail"o") (by fail"o") (hd.step O e2) fun i j h1 h2 h3 h4 => ?_).mono fun r h => ⟨h.1, h.2.1, Nat.le_of_succ_le h.2.2.1, by have := h.2.2.2.1; fail"o", h.2.2.2.2⟩
        · have blk : ∀ k, m - (q + 1) ≤ k → k < m → lt (p.getD k 0) (p.getD m 0) = false ∧ lt (p.getD m 0) (p.getD k 0) = false := fun k hk1 hk2 =>
            ⟨O.tran _ _ _ e2 (he k (m - 1) hk1 hk2 (by fail"o") (by fail"o")), O.tran _ _ _ (he (m - 1) k (by fail"o") (by fail"o") hk1 hk2) e⟩
          by_cases hi : i = m
          · by_cases hj : j = m
            · subst hi; subst hj; exact O.refl _
            · subst hi; exact (blk j (by fail"o") (by fail"o")).2
          · by_cases hj : j = m
            · subst hj; exact (blk i (by fail"o") (by fail"o")).1
            · exact he i j (by fail"o") (by fail"o") (by fail"o") (by fail"o")
theorem tail3_ok (O : Ord lt) {p : Array Nat} {m : Nat} (P : PermOf n p) (h1 : 1 ≤ m) (hm : m ≤ n) (hd : Dn lt p m) : TOk lt n (kas_tail3 m n p) (fun r => PermOf n r.2 ∧ 1 ≤ r.1 ∧ r.1 ≤ n ∧ Up lt r.2 r.1) := by
  have hs := P.size; unfold kas_tail3; refine TOk.bind ((asc_ok O (P.rev 0 m) (n - m) m h1 (by fail"o") fun i j hij hj => ?_).mono fun r h => ⟨P.rev 0 m, Nat.le_trans h1 h.1, h.2.1, h.2.2.1⟩)
  rw [rev_get (by fail"o"), rev_get (by fail"o"), if_pos ⟨by fail"o", by fail"o"⟩, if_pos ⟨by fail"o", by fail"o"⟩]
  exact hd _ _ (by fail"o") (by fail"o")
theorem descPart_ok (O : Ord lt) {p : Array Nat} {m : Nat} (P : PermOf n p) (h1 : 1 ≤ m) (hm : m + 1 ≤ n) (hd : Dn lt p (m + 1)) : TOk lt n (kas_descPart m n p) (fun r => PermOf n r.2 ∧ 1 ≤ r.1 ∧ r.1 ≤ n ∧ Up lt r.2 r.1) := by
  have hs := P.size; unfold kas_descPart; refine TOk.bind ((desc_ok O (n - (m + 1)) p (m + 1) 0 P (by fail"o") (by fail"o") hd fun i j a b c d => ?_).mono fun r ⟨a1, a2, a3, a4, a5, a6⟩ => ?_)
  · have : i = j := by fail"o"
    subst this; exact O.refl _
  · have hrs := a1.size
    by_cases hq : r.2.2 > 0
    · rw [if_pos hq]
      exact tail3_ok O (a1.rev _ _) (by fail"o") (by fail"o") (a5.rev (by fail"o") a6)
    · rw [if_neg hq]
      exact tail3_ok O a1 (by fail"o") (by fail"o") a5
theorem count_ok (O : Ord lt) {p : Array Nat} (P : PermOf n p) (h1 : 1 ≤ n) : TOk lt n (kas_count n p) (fun r => PermOf n r.2 ∧ 1 ≤ r.1 ∧ r.1 ≤ n ∧ Up lt r.2 r.1) := by
  have hs := P.size; unfold kas_count; refine TOk.bind ((asc_ok O P (n - 1) 1 (Nat.le_refl _) (by fail"o") fun i j hij hj => by fail"o").mono fun m hz0 => ?_)
  obtain ⟨m1, m2, m3, m4⟩ := hz0
  by_cases hmn : m = n
  · rw [if_pos (by simp [hmn])]
    exact ⟨P, by fail"o", m2, m3⟩
  · rw [if_neg (by simp [hmn])]
    have hb := m4 (by fail"o")
    by_cases hm1 : m > 1
    · rw [if_pos hm1]
      refine ⟨P.bnd (by fail"o"), P.bnd (by fail"o"), ?_⟩
      cases e : lt (p.getD 0 0) (p.getD (m - 1) 0) with
      | true => exact ⟨P, by fail"o", m2, m3⟩
      | false =>
        refine TOk.no ?_
        have alike : ∀ i j, i < m → j < m → lt (p.getD i 0) (p.getD j 0) = false := by
          have up : ∀ i j, i ≤ j → j < m → lt (p.getD j 0) (p.getD i 0) = false := fun i j hij hj => by
            by_cases h : i = j
            · subst h; exact O.refl _
            · exact m3 i j (by fail"o") hj
          have dn : ∀ i j, i < m → j < m → lt (p.getD i 0) (p.getD j 0) = false := fun i j hi hj =>
            O.tran _ _ _ (O.tran _ _ _ (up j (m - 1) (by fail"o") (by fail"o")) e) (up 0 i (by fail"o") hi)
          exact dn
        refine descPart_ok O (P.rev 0 m) (by fail"o") (by fail"o") fun i j hij hj => ?_
        rw [rev_get (by fail"o"), rev_get (by fail"o")]
        by_cases hjm : j = m
        · subst hjm
          rw [if_pos (by fail"o"), if_neg (by fail"o")]
          have e' := O.asym _ _ hb; exact O.tran _ _ _ e' (alike _ _ (by fail"o") (by fail"o"))
        · rw [if_pos (by fail"o"), if_pos (by fail"o")]
          exact alike _ _ (by fail"o") (by fail"o")
    · rw [if_neg hm1]
      refine descPart_ok O P (by fail"o") (by fail"o") fun i j hij hj => ?_
      have : i = 0 ∧ j = 1 ∧ m = 1 := by fail"o"
      obtain ⟨rfl, rfl, rfl⟩ := this; exact O.asym _ _ hb
theorem place_ok (O : Ord lt) {p : Array Nat} {k : Nat} (P : PermOf n p) (hk : k < n) (hu : Up lt p k) : ∀ (f l r : Nat), l ≤ r → r ≤ k → r - l ≤ f → (∀ i, i < l → lt (p.getD k 0) (p.getD i 0) = false) → (∀ i, r ≤ i → i < k → lt (p.getD k 0) (p.getD i 0) = true) →
    TOk lt n (kas_place p k f l r) (fun x => x ≤ k ∧ (∀ i, i < x → lt (p.getD k 0) (p.getD i 0) = false) ∧ ∀ i, x ≤ i → i < k → lt (p.getD k 0) (p.getD i 0) = true)
  | 0, l, r, h1, h2, h3, h4, h5 => by
    have : l = r := by fail"o"
    subst this; exact ⟨h2, h4, h5⟩
  | f + 1, l, r, h1, h2, h3, h4, h5 => by
    unfold kas_place
    by_cases h : l ≥ r
    · rw [if_pos h]
      have : l = r := by fail"o"
      subst this; exact ⟨h2, h4, h5⟩
    · rw [if_neg h]
      have hmid : l ≤ (l + r) / 2 ∧ (l + r) / 2 < r := by fail"o"
      refine ⟨P.bnd hk, P.bnd (by fail"o"), ?_⟩
      cases e : lt (p.getD k 0) (p.getD ((l + r) / 2) 0) with
      | true =>
        refine TOk.yes ?_
        refine place_ok O P hk hu f l ((l + r) / 2) hmid.1 (by fail"o") (by fail"o") h4 fun i hi1 hi2 => ?_
        by_cases him : i = (l + r) / 2
        · rw [him]; exact e
        · cases e2 : lt (p.getD k 0) (p.getD i 0) with
          | true => rfl
          | false =>
            have := O.tran _ _ _ (hu ((l + r) / 2) i (by fail"o") hi2) e2
            rw [e] at this; cases this
      | false =>
        refine TOk.no ?_
        refine place_ok O P hk hu f ((l + r) / 2 + 1) r (by fail"o") h2 (by fail"o") (fun i hi => ?_) h5
        by_cases him : i = (l + r) / 2
        · rw [him]; exact e
        · exact O.tran _ _ _ (hu i ((l + r) / 2) (by fail"o") (by fail"o")) e
theorem bin_ok (O : Ord lt) : ∀ (f : Nat) (p : Array Nat) (k : Nat), PermOf n p → 1 ≤ k → k + f = n → Up lt p k → TOk lt n (kas_bin f p k) (fun r => PermOf n r ∧ Up lt r n)
  | 0, p, k, P, _, hn, hu => by
    have : k = n := by fail"o"
    subst this; exact ⟨P, hu⟩
  | f + 1, p, k, P, hk, hn, hu => by
    have hs := P.size; unfold kas_bin; refine TOk.bind ((place_ok O P (by fail"o") hu k 0 k (by fail"o") (Nat.le_refl _) (by fail"o") (fun i hi => by fail"o") (fun i hi hi2 => by fail"o")).mono fun l hz1 => ?_)
    obtain ⟨l1, l2, l3⟩ := hz1; refine bin_ok O f _ (k + 1) (P.bub _ _) (by fail"o") (by fail"o") fun i j hij hj => ?_
    rw [bub_get (by fail"o") (by fail"o"), bub_get (by fail"o") (by fail"o")]
    have e : k - (k - l) = l := by fail"o"
    rw [e]
    by_cases hjl : j = l
    · rw [if_pos hjl, if_neg (by fail"o"), if_neg (by fail"o")]
      exact l2 i (by fail"o")
    · rw [if_neg hjl]
      by_cases hj2 : l < j ∧ j ≤ k
      · rw [if_pos hj2]
        by_cases hil : i = l
        · rw [if_pos hil]
          exact O.asym _ _ (l3 (j - 1) (by fail"o") (by fail"o"))
        · rw [if_neg hil]
          by_cases hi2 : l < i ∧ i ≤ k
          · rw [if_pos hi2]
            exact hu _ _ (by fail"o") (by fail"o")
          · rw [if_neg hi2]
            exact hu _ _ (by fail"o") (by fail"o")
      · rw [if_neg hj2, if_neg (by fail"o"), if_neg (by fail"o")]
        exact hu _ _ hij (by fail"o")
theorem sort_ok (O : Ord lt) (h1 : 1 ≤ n) : TOk lt n (kas_sort n) (fun p => PermOf n p ∧ Up lt p n) := by
  unfold kas_sort; have P0 : PermOf n (List.toArray (List.range n)) := List.Perm.refl _; refine TOk.bind ((count_ok O P0 h1).mono fun r hz2 => ?_)
  obtain ⟨a1, a2, a3, a4⟩ := hz2
  by_cases h : r.1 < n
  · rw [if_pos h]
    have e : max r.1 1 = r.1 := by fail"o"
    rw [e]; exact bin_ok O _ _ _ a1 a2 (by fail"o") a4
  · rw [if_neg h]
    have e : r.1 = n := by fail"o"
    rw [e] at a4; exact ⟨a1, a4⟩
end MK
namespace MK
open PySem PySem.SetTable
def Ris (xs : Array Nat) : Prop := ∀ i j : Nat, i < j → j < xs.size → xs.getD i 0 < xs.getD j 0
theorem getD_any {xs : Array Nat} {i : Nat} (h : i < xs.size) (a b : Nat) : xs.getD i a = xs.getD i b := by simp [Array.getD, h]
theorem below_go {xs : Array Nat} {j : Nat} (R : Ris xs) : ∀ (fuel lo hi : Nat), hi - lo ≤ fuel → lo ≤ hi → hi ≤ xs.size → (∀ i, i < lo → xs.getD i 0 < j) → (∀ i, hi ≤ i → i < xs.size → j ≤ xs.getD i 0) →
    below.go xs j fuel lo hi ≤ xs.size ∧ (∀ i, i < below.go xs j fuel lo hi → xs.getD i 0 < j) ∧ ∀ i, below.go xs j fuel lo hi ≤ i → i < xs.size → j ≤ xs.getD i 0
  | 0, lo, hi, h1, h2, h3, h4, h5 => by
    have : lo = hi := by fail"o"
    subst this; exact ⟨h3, h4, h5⟩
  | fuel + 1, lo, hi, h1, h2, h3, h4, h5 => by
    unfold below.go
    by_cases h : lo < hi
    · rw [if_pos h]
      dsimp only; have hm : lo ≤ (lo + hi) / 2 ∧ (lo + hi) / 2 < hi := by fail"o"
      rw [getD_any (by fail"o") j 0]
      by_cases hc : xs.getD ((lo + hi) / 2) 0 < j
      · rw [if_pos hc]
        refine below_go R fuel _ _ (by fail"o") (by fail"o") h3 (fun i hi' => ?_) h5
        by_cases e : i = (lo + hi) / 2
        · rw [e]; exact hc
        · exact Nat.lt_trans (R i ((lo + hi) / 2) (by fail"o") (by fail"o")) hc
      · rw [if_neg hc]
        refine below_go R fuel _ _ (by fail"o") (by fail"o") (by fail"o") h4 fun i hi1 hi2 => ?_
        by_cases e : i = (lo + hi) / 2
        · rw [e]; fail"o"
        · have := R ((lo + hi) / 2) i (by fail"o") hi2
          fail"o"
    · rw [if_neg h]
      have : lo = hi := by fail"o"
      subst this; exact ⟨h3, h4, h5⟩
theorem below_spec {xs : Array Nat} (R : Ris xs) (j : Nat) : below xs j ≤ xs.size ∧ (∀ i, i < below xs j → xs.getD i 0 < j) ∧ ∀ i, below xs j ≤ i → i < xs.size → j ≤ xs.getD i 0 :=
  below_go R xs.size 0 xs.size (by fail"o") (by fail"o") (Nat.le_refl _) (fun i h => by fail"o") fun i h1 h2 => by fail"o"
theorem get?_getD {xs : Array Nat} {i v : Nat} : xs[i]? = some v ↔ i < xs.size ∧ xs.getD i 0 = v := by
  by_cases h : i < xs.size
  · simp [Array.getD, h]
  · simp [h]
structure Plain (t : SetTable) : Prop where
  ris : Ris t.place
  top : ∀ i, i < t.place.size → t.place.getD i 0 ≤ t.mask
  dum : t.dummies = #[]
theorem has_empty (j : Nat) : SetTable.has #[] j = false := rfl
theorem slot_cases {t : SetTable} (P : Plain t) (j : Nat) : (t.slot j = .empty ∧ ∀ i, i < t.place.size → t.place.getD i 0 ≠ j) ∨ ∃ i, t.slot j = .live i ∧ i < t.place.size ∧ t.place.getD i 0 = j := by
  obtain ⟨h1, h2, h3⟩ := below_spec P.ris j; unfold SetTable.slot; dsimp only
  by_cases h : t.place[below t.place j]? = some j
  · right
    rw [if_pos (by simp [h])]
    obtain ⟨a, b⟩ := get?_getD.mp h
    exact ⟨_, rfl, a, b⟩
  · left
    rw [if_neg (by simpa using h), P.dum, has_empty]
    refine ⟨rfl, fun i hi e => h ?_⟩
    rcases Nat.lt_or_ge i (below t.place j) with q | q
    · have := h2 i q
      fail"o"
    · rw [get?_getD]
      have := h3 (below t.place j) (Nat.le_refl _) (by fail"o")
      by_cases e2 : i = below t.place j
      · rw [← e2]; exact ⟨hi, e⟩
      · have := P.ris (below t.place j) i (by fail"o") hi
        fail"o"
theorem nodup_short : ∀ (n : Nat) (l : List Nat), l.length < n → ∃ j, j < n ∧ j ∉ l
  | 0, _, h => absurd h (Nat.not_lt_zero _)
  | n + 1, l, h => by
    by_cases hn : n ∈ l
    · obtain ⟨j, hj, hm⟩ := nodup_short n (l.erase n) (by rw [List.length_erase_of_mem hn]; have := List.length_pos_of_mem hn; fail"o")
      exact ⟨j, by fail"o", fun q => hm ((List.mem_erase_of_ne (by fail"o")).mpr q)⟩
    · exact ⟨n, by fail"o", hn⟩
theorem some_empty {t : SetTable} (P : Plain t) (h : t.place.size ≤ t.mask) : ∃ j, j ≤ t.mask ∧ t.slot j = .empty := by
  obtain ⟨j, hj, hm⟩ := nodup_short (t.mask + 1) t.place.toList (by simp; fail"o")
  refine ⟨j, by fail"o", ?_⟩
  rcases slot_cases P j with ⟨e, _⟩ | ⟨i, _, hi, e⟩
  · exact e
  · exact absurd (by rw [← e]; have e2 : t.place.getD i 0 = t.place[i] := by simp [Array.getD, hi]
                     rw [e2]; simp) hm
def hop (n i : Nat) : Nat := (i * 5 + 1) % n
def hops (n : Nat) : Nat → Nat → Nat
  | 0, i => i
  | k + 1, i => hops n k (hop n i)
def orbit (n : Nat) : Nat → Nat → List Nat
  | 0, _ => []
  | k + 1, i => i :: orbit n k (hop n i)
def sized (n : Nat) : Prop := n = 8 ∨ n = 32 ∨ n = 128
theorem hops_add (n : Nat) : ∀ (a b i : Nat), hops n (a + b) i = hops n b (hops n a i)
  | 0, b, i => by rw [Nat.zero_add]; rfl
  | a + 1, b, i => by
    rw [show a + 1 + b = (a + b) + 1 by fail"o"]
    exact hops_add n a b (hop n i)
theorem mem_orbit (n : Nat) {j : Nat} : ∀ (k i : Nat), j ∈ orbit n k i → ∃ m, m < k ∧ hops n m i = j
  | 0, _, h => by cases h
  | k + 1, i, h => by
    rcases List.mem_cons.mp h with rfl | h
    · exact ⟨0, by fail"o", rfl⟩
    · obtain ⟨m, hm, e⟩ := mem_orbit n k (hop n i) h
      exact ⟨m + 1, by fail"o", e⟩
def full (n : Nat) : Bool := (List.range n).all (fun j => (orbit n n 0).contains j) && hops n n 0 == 0
theorem full8 : full 8 = true := by decide +kernel
theorem full32 : full 32 = true := by decide +kernel
theorem full128 : full 128 = true := by decide +kernel
theorem sized.full {n : Nat} (h : sized n) : full n = true := by
  rcases h with rfl | rfl | rfl
  · exact full8
  · exact full32
  · exact full128
theorem hops_to {n : Nat} (h : sized n) {i j : Nat} (hi : i < n) (hj : j < n) : ∃ m, m < n ∧ hops n m i = j := by
  have hf := h.full; unfold MK.full at hf; rw [Bool.and_eq_true, List.all_eq_true, beq_iff_eq] at hf; obtain ⟨a, ha, ea⟩ := mem_orbit n n 0 (by simpa using hf.1 i (List.mem_range.mpr hi))
  obtain ⟨b, hb, eb⟩ := mem_orbit n n 0 (by simpa using hf.1 j (List.mem_range.mpr hj))
  by_cases hab : a ≤ b
  · refine ⟨b - a, by fail"o", ?_⟩
    rw [← ea, ← hops_add, show a + (b - a) = b by fail"o", eb]
  · refine ⟨n - a + b, by fail"o", ?_⟩
    rw [← ea, ← hops_add, show a + (n - a + b) = n + b by fail"o", hops_add, hf.2, eb]
def leaps (mask : Nat) : Nat → Nat × Nat → Nat × Nat
  | 0, p => p
  | k + 1, p => leaps mask k (leap mask p.1 p.2)
theorem leaps_add (mask : Nat) : ∀ (a b : Nat) (p : Nat × Nat), leaps mask (a + b) p = leaps mask b (leaps mask a p)
  | 0, b, p => by rw [Nat.zero_add]; rfl
  | a + 1, b, p => by
    rw [show a + 1 + b = (a + b) + 1 by fail"o"]
    exact leaps_add mask a b _
theorem leaps_lt {mask : Nat} : ∀ (k : Nat) (p : Nat × Nat), p.1 < mask + 1 → (leaps mask k p).1 < mask + 1
  | 0, _, h => h
  | k + 1, p, _ => leaps_lt k _ (by unfold leap; exact Nat.mod_lt _ (by fail"o"))
theorem leaps_snd {mask : Nat} : ∀ (k : Nat) (p : Nat × Nat), (leaps mask k p).2 = p.2 / 32 ^ k
  | 0, p => by simp [leaps]
  | k + 1, p => by
    show (leaps mask k (leap mask p.1 p.2)).2 = _
    rw [leaps_snd k]
    show p.2 / 32 / 32 ^ k = _
    rw [Nat.div_div_eq_div_mul, Nat.pow_succ, Nat.mul_comm 32]
theorem leaps_hops {mask : Nat} : ∀ (k i : Nat), leaps mask k (i, 0) = (hops (mask + 1) k i, 0)
  | 0, _ => rfl
  | k + 1, i => by
    show leaps mask k (leap mask i 0) = _
    have e : leap mask i 0 = (hop (mask + 1) i, 0) := by unfold leap hop; simp
    rw [e]; exact leaps_hops k _
theorem leaps_to {mask : Nat} (h : sized (mask + 1)) {i q j : Nat} (hi : i < mask + 1) (hq : q < 2 ^ 64) (hj : j < mask + 1) : ∃ k, k < 13 + (mask + 1) ∧ (leaps mask k (i, q)).1 = j := by
  have h13 : (leaps mask 13 (i, q)).2 = 0 := by
    rw [leaps_snd]; exact Nat.div_eq_of_lt (Nat.lt_of_lt_of_le hq (by decide))
  have hl := leaps_lt 13 (i, q) hi; obtain ⟨m, hm, e⟩ := hops_to h hl hj; refine ⟨13 + m, by fail"o", ?_⟩
  rw [leaps_add]; have e2 : leaps mask 13 (i, q) = ((leaps mask 13 (i, q)).1, 0) := Prod.ext rfl h13; rw [e2, leaps_hops]; exact e
def adv (t : SetTable) : Nat → Probe → Probe
  | 0, p => p
  | k + 1, p => adv t k (t.advance p)
theorem adv_add (t : SetTable) : ∀ (a b : Nat) (p : Probe), adv t (a + b) p = adv t b (adv t a p)
  | 0, b, p => by rw [Nat.zero_add]; rfl
  | a + 1, b, p => by
    rw [show a + 1 + b = (a + b) + 1 by fail"o"]
    exact adv_add t a b _
theorem adv_succ (t : SetTable) (k : Nat) (p : Probe) : adv t (k + 1) p = t.advance (adv t k p) := by rw [adv_add]; rfl
def stand (t : SetTable) (i q : Nat) : Probe := { j := i, more := runEnd t.mask i - i, i, perturb := q, dummy := none }
theorem adv_run (t : SetTable) : ∀ (m : Nat) (p : Probe), m ≤ p.more → adv t m p = { p with j := p.j + m, more := p.more - m }
  | 0, _, _ => rfl
  | m + 1, p, h => by
    show adv t m (t.advance p) = _
    have e : t.advance p = { p with j := p.j + 1, more := p.more - 1 } := by unfold SetTable.advance; rw [if_pos (by fail"o")]
    rw [e, adv_run t m _ (by show m ≤ p.more - 1; fail"o")]
    show ({ j := p.j + 1 + m, more := p.more - 1 - m, i := p.i, perturb := p.perturb, dummy := p.dummy } : Probe) = _
    congr 1
    · fail"o"
    · fail"o"
theorem runEnd_le (mask i : Nat) : runEnd mask i - i ≤ 9 := by
  unfold runEnd
  split <;> fail"o"
theorem adv_leap (t : SetTable) (i q : Nat) : adv t (runEnd t.mask i - i + 1) (stand t i q) = stand t (leap t.mask i q).1 (leap t.mask i q).2 := by
  rw [adv_succ, adv_run t _ _ (by show runEnd t.mask i - i ≤ runEnd t.mask i - i; exact Nat.le_refl _)]
  unfold SetTable.advance; rw [if_neg (by show ¬ (runEnd t.mask i - i - (runEnd t.mask i - i) > 0); fail"o")]
  rfl
theorem adv_leaps (t : SetTable) : ∀ (k i q : Nat), ∃ m, m ≤ 10 * k ∧ adv t m (stand t i q) = stand t (leaps t.mask k (i, q)).1 (leaps t.mask k (i, q)).2
  | 0, _, _ => ⟨0, by fail"o", rfl⟩
  | k + 1, i, q => by
    obtain ⟨m, hm, e⟩ := adv_leaps t k (leap t.mask i q).1 (leap t.mask i q).2; refine ⟨runEnd t.mask i - i + 1 + m, by have := runEnd_le t.mask i; fail"o", ?_⟩
    rw [adv_add, adv_leap, e]; rfl
theorem bits_lt (h : Int) : bits h < 2 ^ 64 := by unfold bits; fail"o"
theorem start_stand (t : SetTable) (h : Int) : t.probeStart h = stand t (bits h % (t.mask + 1)) (bits h) := rfl
theorem comes_empty {t : SetTable} (P : Plain t) (hz : sized (t.mask + 1)) (hf : t.place.size ≤ t.mask) (h : Int) : ∃ N, N < 10 * turns t.mask ∧ t.slot (adv t N (t.probeStart h)).j = .empty := by
  obtain ⟨j, hj, he⟩ := some_empty P hf; obtain ⟨k, hk, e⟩ := leaps_to hz (i := bits h % (t.mask + 1)) (q := bits h) (j := j) (Nat.mod_lt _ (by fail"o")) (bits_lt h) (by fail"o")
  obtain ⟨m, hm, e2⟩ := adv_leaps t k (bits h % (t.mask + 1)) (bits h); refine ⟨m, by unfold turns; fail"o", ?_⟩
  rw [start_stand, e2]
  show t.slot (leaps t.mask k _).1 = _
  rw [e]; exact he
theorem adv_dummy (t : SetTable) : ∀ (k : Nat) (p : Probe), (adv t k p).dummy = p.dummy
  | 0, _ => rfl
  | k + 1, p => by
    show (adv t k (t.advance p)).dummy = _
    rw [adv_dummy t k]; unfold SetTable.advance
    split <;> rfl
end MK
namespace MK
open PySem PySem.SetTable
theorem insertAt_toList {α : Type} (xs : Array α) (p : Nat) (x : α) : (insertAt xs p x).toList = xs.toList.take p ++ x :: xs.toList.drop p := by
  unfold insertAt; simp only [Array.toList_append, Array.toList_push, Array.toList_extract]
  have e : (xs.toList.extract p xs.size) = xs.toList.drop p := by
    rw [List.extract_eq_take_drop]; exact List.take_of_length_le (by simp)
  have e0 : (xs.toList.extract 0 p) = xs.toList.take p := by
    rw [List.extract_eq_take_drop]; simp
  rw [e, e0]; simp
theorem insertAt_perm {α : Type} (xs : Array α) (p : Nat) (x : α) : (insertAt xs p x).toList.Perm (x :: xs.toList) := by
  rw [insertAt_toList]; have h := (List.perm_middle (a := x) (l₁ := xs.toList.take p) (l₂ := xs.toList.drop p)); rwa [List.take_append_drop] at h
theorem insertAt_size {α : Type} (xs : Array α) (p : Nat) (x : α) : (insertAt xs p x).size = xs.size + 1 := by
  have := (insertAt_perm xs p x).length_eq; simpa using this
theorem ris_pairwise {xs : Array Nat} : Ris xs ↔ xs.toList.Pairwise (· < ·) := by
  rw [List.pairwise_iff_getElem]
  constructor
  · intro h i j hi hj hij
    have := h i j hij (by simpa using hj)
    have hi' : i < xs.size := by simpa using hi
    have hj' : j < xs.size := by simpa using hj
    simpa [Array.getD, hi', hj'] using this
  · intro h i j hij hj
    have := h i j (by simp; fail"o") (by simpa using hj) hij
    have hi' : i < xs.size := by fail"o"
    simpa [Array.getD, hi', hj] using this
theorem mem_getD {xs : Array Nat} {v : Nat} (h : v ∈ xs.toList) : ∃ i, i < xs.size ∧ xs.getD i 0 = v := by
  obtain ⟨i, hi, e⟩ := List.getElem_of_mem h; have hi' : i < xs.size := by simpa using hi
  exact ⟨i, hi', by simpa [Array.getD, hi'] using e⟩
theorem take_lt {xs : Array Nat} (R : Ris xs) (j : Nat) {v : Nat} (h : v ∈ xs.toList.take (below xs j)) : v < j := by
  obtain ⟨h1, h2, _⟩ := below_spec R j; obtain ⟨i, hi, e⟩ := List.getElem_of_mem h; have hi2 : i < below xs j ∧ i < xs.size := by simp at hi; fail"o"
  have := h2 i hi2.1; rw [List.getElem_take] at e; have e' : xs.getD i 0 = v := by simpa [Array.getD, hi2.2] using e
  fail"o"
theorem drop_ge {xs : Array Nat} (R : Ris xs) (j : Nat) {v : Nat} (h : v ∈ xs.toList.drop (below xs j)) : j ≤ v := by
  obtain ⟨h1, _, h3⟩ := below_spec R j; obtain ⟨i, hi, e⟩ := List.getElem_of_mem h; have hi2 : below xs j + i < xs.size := by simp at hi; fail"o"
  have := h3 (below xs j + i) (by fail"o") hi2
  rw [List.getElem_drop] at e; have e' : xs.getD (below xs j + i) 0 = v := by simpa [Array.getD, hi2] using e
  fail"o"
theorem put_place (t : SetTable) (P : Plain t) (j : Nat) : (t.put j).1 = { t with place := insertAt t.place (below t.place j) j, dummies := #[] } ∧ (t.put j).2 = below t.place j := by
  unfold SetTable.put; dsimp only; rw [P.dum, has_empty]; exact ⟨rfl, rfl⟩
theorem put_plain {t : SetTable} (P : Plain t) {j : Nat} (hj : j ≤ t.mask) (he : t.slot j = .empty) : Plain { t with place := insertAt t.place (below t.place j) j, dummies := #[] } := by
  have hne : ∀ v ∈ t.place.toList, v ≠ j := by
    intro v hv e; obtain ⟨i, hi, e2⟩ := mem_getD hv; rcases slot_cases P j with ⟨_, h⟩ | ⟨i', h, _⟩
    · exact h i hi (e2.trans e)
    · rw [he] at h; cases h
  refine ⟨?_, fun i hi => ?_, rfl⟩
  · rw [ris_pairwise]
    show (insertAt t.place (below t.place j) j).toList.Pairwise (· < ·)
    rw [insertAt_toList, List.pairwise_append, List.pairwise_cons]; have R := ris_pairwise.mp P.ris; refine ⟨R.sublist (List.take_sublist _ _), ⟨fun v hv => ?_, R.sublist (List.drop_sublist _ _)⟩, fun a ha b hb => ?_⟩
    · have := drop_ge P.ris j hv
      have := hne v (List.mem_of_mem_drop hv)
      fail"o"
    · have h1 := take_lt P.ris j ha
      rcases List.mem_cons.mp hb with rfl | hb
      · exact h1
      · have := drop_ge P.ris j hb
        fail"o"
  · have hmem : (insertAt t.place (below t.place j) j).getD i 0 ∈ j :: t.place.toList := by
      refine (insertAt_perm t.place (below t.place j) j).mem_iff.mp ?_
      have hi' : i < (insertAt t.place (below t.place j) j).size := hi; have e : (insertAt t.place (below t.place j) j).getD i 0 = (insertAt t.place (below t.place j) j)[i] := by simp [Array.getD, hi']
      rw [e]; simp
    show (insertAt t.place (below t.place j) j).getD i 0 ≤ t.mask
    rcases List.mem_cons.mp hmem with e | h
    · rw [e]; exact hj
    · obtain ⟨k, hk, e⟩ := mem_getD h
      rw [← e]; exact P.top k hk
abbrev Own := Array (Option Nat)
def lives (n : Nat) (o : Own) : List (Nat × Nat) := (List.range n).filterMap fun j => (o.getD j none).map (j, ·)
theorem fm_congr {α β : Type} {f g : α → Option β} : ∀ {l : List α}, (∀ a ∈ l, f a = g a) → l.filterMap f = l.filterMap g
  | [], _ => rfl
  | a :: r, h => by rw [List.filterMap_cons, List.filterMap_cons, h a (List.mem_cons_self ..), fm_congr fun b hb => h b (List.mem_cons_of_mem _ hb)]
theorem range_split {n j : Nat} (h : j < n) : List.range n = List.range j ++ j :: (List.range (n - j - 1)).map (· + (j + 1)) := by
  have e1 : n = j + ((n - j - 1) + 1) := by fail"o"
  rw [e1, List.range_add, List.range_succ_eq_map]; simp only [List.map_cons, List.map_map, Nat.add_zero]
  congr 2
  have e2 : j + ((n - j - 1) + 1) - j - 1 = n - j - 1 := by fail"o"
  rw [e2]
  apply List.map_congr_left
  intro a _; simp only [Function.comp]
  fail"o"
theorem lives_set {n : Nat} {o : Own} {j k : Nat} (hs : o.size = n) (hj : j < n) (he : o.getD j none = none) : ((lives n (o.setIfInBounds j (some k))).map (·.2)).Perm (k :: (lives n o).map (·.2)) := by
  have hg : ∀ i, (o.setIfInBounds j (some k)).getD i none = if i = j then some k else o.getD i none := by
    intro i
    by_cases h : i = j
    · subst h
      rw [if_pos rfl]; simp [Array.getD, hs, hj]
    · rw [if_neg h]
      simp only [Array.getD_eq_getD_getElem?]; rw [Array.getElem?_setIfInBounds_ne (Ne.symm h)]
  unfold lives; rw [range_split hj]; simp only [List.filterMap_append, List.filterMap_cons]; rw [hg j, if_pos rfl, he, Option.map_some, Option.map_none]; dsimp only
  have e1 : (List.range j).filterMap (fun i => ((o.setIfInBounds j (some k)).getD i none).map (i, ·)) = (List.range j).filterMap (fun i => (o.getD i none).map (i, ·)) :=
    fm_congr fun a ha => by rw [hg a, if_neg (by have := List.mem_range.mp ha; fail"o")]
  have e2 : ((List.range (n - j - 1)).map (· + (j + 1))).filterMap (fun i => ((o.setIfInBounds j (some k)).getD i none).map (i, ·)) = ((List.range (n - j - 1)).map (· + (j + 1))).filterMap (fun i => (o.getD i none).map (i, ·)) :=
    fm_congr fun a ha => by
      obtain ⟨b, _, rfl⟩ := List.mem_map.mp ha; rw [hg, if_neg (by fail"o")]
  rw [e1, e2]; simp only [List.map_append, List.map_cons]; exact List.perm_middle
theorem lives_full {n : Nat} {o : Own} (h : ∀ j, j < n → o.getD j none ≠ none) : (lives n o).length = n := by
  unfold lives
  have : ∀ l : List Nat, (∀ j ∈ l, j < n) → (l.filterMap fun j => (o.getD j none).map (j, ·)).length = l.length := by
    intro l
    induction l with
    | nil => intro _; rfl
    | cons a r ih =>
      intro hl; rw [List.filterMap_cons]
      cases e : o.getD a none with
      | none => exact absurd e (h a (hl a (List.mem_cons_self ..)))
      | some v =>
        rw [Option.map_some]; dsimp only; rw [List.length_cons, List.length_cons, ih fun j hj => hl j (List.mem_cons_of_mem _ hj)]
  rw [this _ fun j hj => List.mem_range.mp hj, List.length_range]
theorem free_at {mask : Nat} {o : Own} (hs : o.size = mask + 1) {j : Nat} (hj : j < mask + 1) (he : o.getD j none = none) : ∀ (k fuel i q : Nat), (leaps mask k (i, q)).1 = j → k < fuel → i < mask + 1 →
    ∃ x, layClean.free mask o fuel i q = some x ∧ x < mask + 1 ∧ o.getD x none = none
  | k, 0, i, q, _, h, _ => absurd h (Nat.not_lt_zero _)
  | k, fuel + 1, i, q, hk, hf, hi => by
    unfold layClean.free
    cases e : (List.range (runEnd mask i + 1 - i)).find? fun k => (o.getD (i + k) (some 0)).isNone with
    | some x =>
      dsimp only; have hx := List.find?_some e
      have hn : o.getD (i + x) (some 0) = none := by simpa using hx
      have hlt : i + x < o.size := by
        rcases Nat.lt_or_ge (i + x) o.size with z | z
        · exact z
        · simp only [Array.getD_eq_getD_getElem?, Array.getElem?_eq_none z] at hn
          cases hn
      refine ⟨i + x, rfl, by fail"o", ?_⟩
      simpa [Array.getD, hlt] using hn
    | none =>
      dsimp only
      cases k with
      | zero =>
        exfalso
        have hij : i = j := hk; subst hij; have h0 := List.find?_eq_none.mp e 0 (List.mem_range.mpr (by unfold runEnd; split <;> fail"o"))
        apply h0
        have hlt : i < o.size := by fail"o"
        have : o.getD i (some 0) = none := by simpa [Array.getD, hlt] using he
        rw [Nat.add_zero, this]; rfl
      | succ k =>
        exact free_at hs hj he k fuel _ _ hk (by fail"o") (by unfold leap; exact Nat.mod_lt _ (by fail"o"))
theorem free_spec {mask : Nat} {o : Own} (hz : sized (mask + 1)) (hs : o.size = mask + 1) (hl : (lives (mask + 1) o).length ≤ mask) (h : Int) :
    ∃ x, layClean.free mask o (turns mask) (bits h % (mask + 1)) (bits h) = some x ∧ x < mask + 1 ∧ o.getD x none = none := by
  have : ∃ j, j < mask + 1 ∧ o.getD j none = none := by
    apply Classical.byContradiction
    intro hc; have := lives_full (n := mask + 1) (o := o) fun j hj he => hc ⟨j, hj, he⟩
    fail"o"
  obtain ⟨j, hj, he⟩ := this; obtain ⟨k, hk, e⟩ := leaps_to hz (i := bits h % (mask + 1)) (q := bits h) (j := j) (Nat.mod_lt _ (by fail"o")) (bits_lt h) hj
  exact free_at hs hj he k _ _ _ e (by unfold turns; fail"o") (Nat.mod_lt _ (by fail"o"))
def layStep (mask : Nat) (acc : Option (Own × Nat)) (h : Int) : Option (Own × Nat) := do
  let (owner, k) ← acc
  let j ← layClean.free mask owner (turns mask) (bits h % (mask + 1)) (bits h)
  pure (owner.setIfInBounds j (some k), k + 1)
theorem lay_fold {mask : Nat} (hz : sized (mask + 1)) : ∀ (hs : List Int) (o : Own) (k : Nat), o.size = mask + 1 → ((lives (mask + 1) o).map (·.2)).Perm (List.range k) → k + hs.length ≤ mask →
    ∃ o', hs.foldl (layStep mask) (some (o, k)) = some (o', k + hs.length) ∧ o'.size = mask + 1 ∧ ((lives (mask + 1) o').map (·.2)).Perm (List.range (k + hs.length))
  | [], o, k, h1, h2, _ => ⟨o, rfl, h1, h2⟩
  | h :: r, o, k, h1, h2, h3 => by
    have hlen : (lives (mask + 1) o).length = k := by
      have := h2.length_eq; simpa using this
    simp only [List.length_cons] at h3; obtain ⟨x, e, hx, hn⟩ := free_spec hz h1 (by fail"o") h
    have hp : ((lives (mask + 1) (o.setIfInBounds x (some k))).map (·.2)).Perm (List.range (k + 1)) := by
      refine (lives_set h1 hx hn).trans ?_
      rw [List.range_succ]; exact (List.Perm.cons k h2).trans (List.perm_append_comm (l₁ := [k]) (l₂ := List.range k))
    obtain ⟨o', e2, s2, p2⟩ := lay_fold hz r (o.setIfInBounds x (some k)) (k + 1) (by simp [h1]) hp (by fail"o")
    refine ⟨o', ?_, s2, by rw [List.length_cons, show k + (r.length + 1) = k + 1 + r.length by fail"o"]; exact p2⟩
    have e3 : layStep mask (some (o, k)) h = some (o.setIfInBounds x (some k), k + 1) := by
      unfold layStep; simp [e]
    rw [List.foldl_cons, e3, e2, List.length_cons]
    congr 2
    fail"o"
theorem lives_nil (n m : Nat) : lives n (Array.replicate m none) = [] := by
  unfold lives; rw [List.filterMap_eq_nil_iff]; intro j _; simp only [Array.getD_eq_getD_getElem?, Array.getElem?_replicate]
  split <;> rfl
theorem layClean_spec {mask : Nat} (hz : sized (mask + 1)) (hs : Array Int) (hn : hs.size ≤ mask) : ∃ o, layClean mask hs = some o ∧ o.size = mask + 1 ∧ ((lives (mask + 1) o).map (·.2)).Perm (List.range hs.size) := by
  obtain ⟨o, e, h1, h2⟩ := lay_fold hz hs.toList (Array.replicate (mask + 1) none) 0 (by simp) (by rw [lives_nil]; exact List.Perm.refl _) (by simpa using hn)
  refine ⟨o, ?_, h1, by simpa using h2⟩
  unfold layClean
  have e' : hs.foldl (init := some (Array.replicate (mask + 1) none, 0)) (layStep mask) = some (o, 0 + hs.toList.length) := by
    rw [← Array.foldl_toList]; exact e
  show Option.map (·.1) (hs.foldl (layStep mask) (some (Array.replicate (mask + 1) none, 0))) = some o
  rw [e']; rfl
theorem lives_fst {n : Nat} {o : Own} : ((lives n o).map (·.1)).Pairwise (· < ·) ∧ ∀ v ∈ (lives n o).map (·.1), v < n := by
  unfold lives
  have sub : ∀ l : List Nat, ((l.filterMap fun j => (o.getD j none).map (j, ·)).map (·.1)).Sublist l := by
    intro l
    induction l with
    | nil => exact List.Sublist.refl _
    | cons a r ih =>
      rw [List.filterMap_cons]
      cases e : o.getD a none with
      | none => exact ih.cons _
      | some v => exact ih.cons₂ _
  exact ⟨List.pairwise_lt_range.sublist (sub _), fun v hv => List.mem_range.mp ((sub _).subset hv)⟩
theorem laid_spec {mask finger moves : Nat} {led plain : Bool} (hz : sized (mask + 1)) (hs : Array Int) (hn : hs.size ≤ mask) :
    ∃ t order, laid mask finger moves led plain hs = some (t, order) ∧ Plain t ∧ t.mask = mask ∧ t.place.size = hs.size ∧ t.led = led ∧ t.plain = plain ∧ order.toList.Perm (List.range hs.size) := by
  obtain ⟨o, e, h1, h2⟩ := layClean_spec hz hs hn; obtain ⟨f1, f2⟩ := lives_fst (n := mask + 1) (o := o)
  have hlen : (lives (mask + 1) o).length = hs.size := by
    have := h2.length_eq; simpa using this
  refine ⟨{ mask, place := ((lives (mask + 1) o).map (·.1)).toArray, dummies := #[], finger, led, moves, plain }, ((lives (mask + 1) o).map (·.2)).toArray, ?_, ⟨?_, fun i hi => ?_, rfl⟩, rfl, by simpa using hlen, rfl, rfl, by simpa using h2⟩
  · unfold laid
    rw [e]; rfl
  · rw [ris_pairwise]
    simpa using f1
  · have hi' : i < (lives (mask + 1) o).length := by simpa using hi
    have e2 : (((lives (mask + 1) o).map (·.1)).toArray).getD i 0 = (lives (mask + 1) o)[i].1 := by simp [Array.getD, hi']
    show (((lives (mask + 1) o).map (·.1)).toArray).getD i 0 ≤ mask
    rw [e2]; have := f2 _ (List.mem_map.mpr ⟨_, List.getElem_mem hi', rfl⟩)
    fail"o"
theorem order_perm {α : Type} {es : Array α} {order : Array Nat} (h : order.toList.Perm (List.range es.size)) : (order.filterMap (es[·]?)).toList.Perm es.toList := by
  rw [Array.toList_filterMap]; refine (h.filterMap _).trans ?_
  have e : (List.range es.size).filterMap (fun i => es[i]?) = es.toList := by
    have : ∀ l : List α, (List.range l.length).filterMap (fun i => l[i]?) = l := by
      intro l
      induction l with
      | nil => rfl
      | cons a r ih =>
        rw [List.length_cons, List.range_succ_eq_map, List.filterMap_cons]; simp only [List.getElem?_cons_zero, List.filterMap_map]
        congr 1
    have := this es.toList; simpa using this
  rw [e]
inductive Fits : Nat → Nat → Prop
  | a {n : Nat} : n ≤ 4 → Fits 7 n
  | b {n : Nat} : n ≤ 18 → Fits 31 n
  | c {n : Nat} : n ≤ 76 → Fits 127 n
theorem Fits.sized {m n : Nat} (h : Fits m n) : MK.sized (m + 1) := by
  cases h with
  | a => exact .inl rfl
  | b => exact .inr (.inl rfl)
  | c => exact .inr (.inr rfl)
theorem Fits.lt {m n : Nat} (h : Fits m n) : n + 1 ≤ m := by cases h <;> fail"o"
theorem sizeAbove20 : sizeAbove 20 = 32 := by decide
theorem sizeAbove76 : sizeAbove 76 = 128 := by decide
theorem Fits.more {m n : Nat} (h : Fits m n) (hn : n + 1 ≤ 76) : ((n + 1) * 5 < m * 3 ∧ Fits m (n + 1)) ∨ (m * 3 ≤ (n + 1) * 5 ∧ Fits (sizeAbove (grown (n + 1)) - 1) (n + 1) ∧ n + 1 ≤ sizeAbove (grown (n + 1)) - 1 ∧ sizeAbove (grown (n + 1)) ≤ 128) := by
  have hg : grown (n + 1) = (n + 1) * 4 := by unfold grown; rw [if_neg (by fail"o")]
  cases h with
  | a h =>
    by_cases e : n = 4
    · subst e
      right
      rw [hg, sizeAbove20]; exact ⟨by fail"o", .b (by fail"o"), by fail"o", by fail"o"⟩
    · exact .inl ⟨by fail"o", .a (by fail"o")⟩
  | b h =>
    by_cases e : n = 18
    · subst e
      right
      rw [hg, sizeAbove76]; exact ⟨by fail"o", .c (by fail"o"), by fail"o", by fail"o"⟩
    · exact .inl ⟨by fail"o", .b (by fail"o")⟩
  | c h => exact .inl ⟨by fail"o", .c (by fail"o")⟩
end MK
namespace MK
open PySem PySem.SetTable
def PIn (t : SetTable) (p : Probe) : Prop := p.j + p.more ≤ t.mask
theorem stand_in {t : SetTable} {i q : Nat} (h : i ≤ t.mask) : PIn t (stand t i q) := by
  show i + (runEnd t.mask i - i) ≤ t.mask
  unfold runEnd
  split <;> fail"o"
theorem advance_in {t : SetTable} {p : Probe} (h : PIn t p) : PIn t (t.advance p) := by
  unfold SetTable.advance
  by_cases e : p.more > 0
  · rw [if_pos e]
    show p.j + 1 + (p.more - 1) ≤ t.mask
    unfold PIn at h
    fail"o"
  · rw [if_neg e]
    exact stand_in (t := t) (q := 0) (by unfold leap; have := Nat.mod_lt (p.i * 5 + 1 + p.perturb / 32) (show t.mask + 1 > 0 by fail"o"); fail"o")
theorem adv_in {t : SetTable} : ∀ (m : Nat) {p : Probe}, PIn t p → PIn t (adv t m p)
  | 0, _, h => h
  | m + 1, _, h => adv_in m (advance_in h)
theorem start_in (t : SetTable) (h : Int) : PIn t (t.probeStart h) := by
  rw [start_stand]; exact stand_in (by have := Nat.mod_lt (bits h) (show t.mask + 1 > 0 by fail"o"); fail"o")
theorem probe_go2 {t : SetTable} (P : Plain t) {hashAt : Nat → Int} {h : Int} (hno : ∀ i, i < t.place.size → hashAt i ≠ h) {N : Nat} {p₀ : Probe} (hi : PIn t p₀) (hd : p₀.dummy = none) (he : t.slot (adv t N p₀).j = .empty) :
    ∀ (fuel m : Nat), m ≤ N → N - m < fuel → ∃ j, probe.go t hashAt h fuel (adv t m p₀) = some (.empty j none) ∧ t.slot j = .empty ∧ j ≤ t.mask
  | 0, m, _, hf => absurd hf (Nat.not_lt_zero _)
  | fuel + 1, m, hm, hf => by
    unfold probe.go; rcases slot_cases P (adv t m p₀).j with ⟨e, _⟩ | ⟨i, e, hl, _⟩
    · rw [e]
      dsimp only; rw [adv_dummy, hd]; refine ⟨_, rfl, e, ?_⟩
      have := adv_in m hi; unfold PIn at this
      fail"o"
    · rw [e]
      dsimp only
      have hlt : m < N := by
        rcases Nat.lt_or_ge m N with q | q
        · exact q
        · have : m = N := by fail"o"
          subst this; rw [e] at he; cases he
      rw [if_neg (by simpa using hno i hl), ← adv_succ]
      exact probe_go2 P hno hi hd he fuel (m + 1) hlt (by fail"o")
theorem probe_free {t : SetTable} (P : Plain t) (hz : sized (t.mask + 1)) (hf : t.place.size ≤ t.mask) {hashAt : Nat → Int} {h : Int} (hno : ∀ i, i < t.place.size → hashAt i ≠ h) :
    ∃ j, t.probe hashAt h (t.probeStart h) = some (.empty j none) ∧ t.slot j = .empty ∧ j ≤ t.mask := by
  obtain ⟨N, hN, he⟩ := comes_empty P hz hf h; exact probe_go2 P hno (start_in t h) rfl he _ 0 (Nat.zero_le _) (by fail"o")
theorem erase_perm {α : Type} : ∀ (l : List α) (i : Nat) (h : i < l.length), (l[i] :: l.eraseIdx i).Perm l
  | a :: r, 0, _ => List.Perm.refl _
  | a :: r, i + 1, h => (List.Perm.swap a (r[i]'(Nat.lt_of_succ_lt_succ h)) (r.eraseIdx i)).trans ((erase_perm r i (Nat.lt_of_succ_lt_succ h)).cons a)
theorem pick_go {α : Type} (next : Nat → Nat) : ∀ (fuel k : Nat) (left : List α) (out : Array α), left.length ≤ fuel → (pickOrder.go next fuel k left out).toList.Perm (out.toList ++ left)
  | 0, k, left, out, h => by
    have : left = [] := List.eq_nil_of_length_eq_zero (by fail"o")
    subst this; unfold pickOrder.go; simp
  | fuel + 1, k, left, out, h => by
    unfold pickOrder.go
    cases left with
    | nil => simp
    | cons a r =>
      have hlt : next k % (a :: r).length < (a :: r).length := Nat.mod_lt _ (by simp)
      rw [List.getElem?_eq_getElem hlt]
      dsimp only; refine (pick_go next fuel (k + 1) _ _ (by rw [List.length_eraseIdx]; split <;> (simp at h ⊢; try fail"o"))).trans ?_
      rw [Array.toList_push, List.append_assoc, List.singleton_append]; exact List.Perm.append_left _ (erase_perm _ _ hlt)
theorem pick_perm {α : Type} (next : Nat → Nat) (xs : Array α) : (pickOrder next xs).toList.Perm xs.toList := by
  have := pick_go next xs.size 0 xs.toList #[] (by simp)
  simpa [pickOrder] using this
theorem below_next {xs : Array Nat} (R : Ris xs) {i : Nat} (h : i < xs.size) : below xs (xs.getD i 0 + 1) = i + 1 := by
  obtain ⟨h1, h2, h3⟩ := below_spec R (xs.getD i 0 + 1); rcases Nat.lt_trichotomy (below xs (xs.getD i 0 + 1)) (i + 1) with e | e | e
  · have := h3 (below xs (xs.getD i 0 + 1)) (Nat.le_refl _) (by fail"o")
    by_cases e2 : below xs (xs.getD i 0 + 1) = i
    · rw [e2] at this
      fail"o"
    · have := R (below xs (xs.getD i 0 + 1)) i (by fail"o") h
      fail"o"
  · exact e
  · have := h2 (i + 1) e
    have := R i (i + 1) (by fail"o") (by fail"o")
    fail"o"
theorem below_zero {xs : Array Nat} (R : Ris xs) : below xs 0 = 0 := by
  obtain ⟨h1, h2, _⟩ := below_spec R 0; rcases Nat.eq_zero_or_pos (below xs 0) with e | e
  · exact e
  · have := h2 0 e
    fail"o"
end MK
namespace L2
open PySem PySem.Spec PyProof.Rows PySem.W
theorem getD_lt {α : Type} {l : List α} {i : Nat} {d : α} (h : i < l.length) : l.getD i d = l[i] := by simp [h]
def ltL : List Int → List Int → Bool
  | [], [] => false
  | [], _ :: _ => true
  | _ :: _, [] => false
  | x :: xs, y :: ys => if x = y then ltL xs ys else decide (x < y)
theorem ltL_asym : ∀ a b : List Int, ltL a b = true → ltL b a = false
  | [], [], _ => rfl
  | [], _ :: _, _ => rfl
  | _ :: _, [], h => by cases h
  | x :: xs, y :: ys, h => by
    unfold ltL at h ⊢
    by_cases e : x = y
    · subst e
      rw [if_pos rfl] at h ⊢; exact ltL_asym xs ys h
    · rw [if_neg e] at h
      rw [if_neg (Ne.symm e)]; have := of_decide_eq_true h; exact decide_eq_false (by fail"o")
theorem ltL_tran : ∀ a b c : List Int, ltL b a = false → ltL c b = false → ltL c a = false
  | [], [], [], _, _ => rfl
  | [], [], _ :: _, _, _ => rfl
  | [], _ :: _, [], _, h => by cases h
  | [], _ :: _, _ :: _, _, _ => rfl
  | _ :: _, [], _, h, _ => by cases h
  | _ :: _, _ :: _, [], _, h => by cases h
  | x :: xs, y :: ys, z :: zs, h1, h2 => by
    unfold ltL at h1 h2 ⊢
    by_cases e1 : y = x
    · by_cases e2 : z = y
      · subst e1; subst e2
        rw [if_pos rfl] at h1 h2 ⊢; exact ltL_tran xs ys zs h1 h2
      · subst e1
        rw [if_neg e2] at h2 ⊢; exact h2
    · rw [if_neg e1] at h1
      have a1 := of_decide_eq_false h1
      by_cases e2 : z = y
      · subst e2
        rw [if_neg e1]; exact h1
      · rw [if_neg e2] at h2
        have a2 := of_decide_eq_false h2; rw [if_neg (by fail"o")]
        exact decide_eq_false (by fail"o")
theorem ltL_eq : ∀ a b : List Int, ltL a b = false → ltL b a = false → a = b
  | [], [], _, _ => rfl
  | [], _ :: _, h, _ => by cases h
  | _ :: _, [], _, h => by cases h
  | x :: xs, y :: ys, h1, h2 => by
    unfold ltL at h1 h2
    by_cases e : x = y
    · subst e
      rw [if_pos rfl] at h1 h2; rw [ltL_eq xs ys h1 h2]
    · rw [if_neg e] at h1
      rw [if_neg (Ne.symm e)] at h2; have := of_decide_eq_false h1; have := of_decide_eq_false h2
      fail"o"
def ITup (h : Heap) (v : Value) (ks : List Int) : Prop := ∃ p o n its, v = .ref p ∧ h.get? p = some o ∧ o.cls = .type "tuple" ∧ o.data = .seq (List.toArray its) n ∧ IntsAre its ks
abbrev ITups (h : Heap) : List Value → LLI → Prop := Paired (ITup h)
theorem ITup.keep {h h' : Heap} {v : Value} {ks : List Int} (x : ITup h v ks) (k : ∀ b o, h.get? b = some o → o.cls = .type "tuple" → h'.get? b = some o) : ITup h' v ks := by
  obtain ⟨p, o, n, its, e, ho, hc, hd, hi⟩ := x; exact ⟨p, o, n, its, e, k p o ho hc, hc, hd, hi⟩
theorem Paired.at {α β : Type} {R : α → β → Prop} {xs : List α} {ys : List β} (i : Nat) (hx : i < xs.length) (hy : i < ys.length) (h : Paired R xs ys) : R xs[i] ys[i] := by
  induction h generalizing i with
  | nil => exact absurd hx (Nat.not_lt_zero _)
  | cons r t ih =>
    cases i with
    | zero => exact r
    | succ i => exact ih i (Nat.lt_of_succ_lt_succ hx) (Nat.lt_of_succ_lt_succ hy)
section
variable {prog : Program} {w : World} {A : Around} {E : VSP} {s : Shared}
theorem katlex_ints {b fin : Bool} {Q : Bool → Shared → Prop} {xs ys : List Value} {ks ls : List Int} (i : Nat) (hx : IntsAre xs ks) (hy : IntsAre ys ls) (e : fin = decide (ks.length < ls.length)) (h : Q (ltL ks ls) s) : KatLex prog w A b fin Q (xs.zip ys) i s := by
  induction hx generalizing ys ls i with
  | nil =>
    show Q fin s
    cases hy with
    | nil => rw [e]; exact h
    | cons _ _ _ => rw [e.trans (decide_eq_true (Nat.succ_pos _))]; exact h
  | cons x t hx ih =>
    cases hy with
    | nil =>
      show Q fin s
      rw [e.trans (decide_eq_false (Nat.not_lt_zero _))]; exact h
    | cons y u hy =>
      refine kat_cons ((intKind prog w).eqBool (a := x) (b := y) (intKind_is _ _ _ _) (intKind_is _ _ _ _) ?_)
      unfold ltL at h
      by_cases hxy : x = y
      · rw [decide_eq_true hxy]
        rw [if_pos hxy] at h; exact kat_yes (ih (i + 1) hy (by rw [e]; exact decide_eq_decide.mpr Nat.succ_lt_succ_iff) h)
      · rw [decide_eq_false hxy]
        rw [if_neg hxy] at h; refine kat_no ?_
        cases hb : (b && i == 0) with
        | true => exact oneLt_int h
        | false => exact kat_one _ _ (lt_int h)
theorem lt_tup {b : Bool} {x y : Value} {ks ls : List Int} {Q : Bool → Shared → Prop} (hx : ITup s.heap x ks) (hy : ITup s.heap y ls) (h : Q (ltL ks ls) s) : wpAny (model prog w) A (keyLt' (tuples' b) x y) Q E s := by
  obtain ⟨p, o, n, its, rfl, ho, hc, hd, hi⟩ := hx; obtain ⟨q, o', n', its', rfl, ho', hc', hd', hi'⟩ := hy; refine kat_lt ho hd ho' hd' (katlex_ints 0 hi hi' ?_ h)
  rw [List.size_toArray, List.size_toArray, hi.length, hi'.length]
theorem kind_tup {vs : List Value} {kss : LLI} {Q : SortKind → Shared → Prop} (ht : ITups s.heap vs kss) (hn : ∀ ks ∈ kss, ks ≠ []) (h0 : 0 < vs.length) (h : Q (tuples' true) s) : wpAny (model prog w) A (keyKind' vs.toArray) Q E s := by
  have key : ∀ {vs : List Value} {kss : LLI}, ITups s.heap vs kss → (∀ ks ∈ kss, ks ≠ []) → ∃ fs, KatTups s.heap vs fs ∧ fs.length = vs.length ∧ ∀ v ∈ fs, ∃ i t, v = Value.int i t := by
    intro vs kss ht hn
    induction ht with
    | nil => exact ⟨[], KatTups.nil, rfl, fun v hv => by simp at hv⟩
    | @cons v ks vs kss h1 _ ih =>
      obtain ⟨fs, f1, f2, f3⟩ := ih fun ks' hk => hn ks' (List.mem_cons_of_mem _ hk)
      obtain ⟨p, o, n, its, rfl, ho, hc, hd, hi⟩ := h1
      cases hi with
      | nil => exact absurd rfl (hn _ (List.mem_cons_self ..))
      | cons i t hr =>
        refine ⟨.int i t :: fs, KatTups.cons ho hc hd (by simp) f1, by simp [f2], fun v hv => ?_⟩
        rcases List.mem_cons.mp hv with rfl | hv
        · exact ⟨i, t, rfl⟩
        · exact f3 v hv
  obtain ⟨fs, f1, f2, f3⟩ := key ht hn; refine kat_kind (T := .type "int") f1 (by fail"o") (fun v hv => ?_) (by decide) h
  obtain ⟨i, t, rfl⟩ := f3 v hv; exact .now
theorem kasWp_of {α : Type} {cmp : Nat → Nat → (Bool → Shared → Prop) → Shared → Prop} {lt : Nat → Nat → Bool} {n : Nat} {Q : α → Prop} (hc : ∀ i j, i < n → j < n → ∀ C : Bool → Shared → Prop, C (lt i j) s → cmp i j C s) :
    ∀ {t : KasT α}, MK.TOk lt n t Q → t.kasWp cmp (fun a s' => s' = s ∧ Q a) s
  | .ret _, h => ⟨rfl, h⟩
  | .ask i j k, h => hc i j h.1 h.2.1 _ (kasWp_of hc h.2.2)
end
structure Sorts {α : Type} (lt : α → α → Bool) (vs : List Value) (ds : List α) (vs' : List Value) (ds' : List α) : Prop where
  ex : ∃ p : Array Nat, MK.PermOf vs.length p ∧ vs' = p.toList.map (fun i => vs.getD i Value.none) ∧ ∀ d₀, ds' = p.toList.map (fun i => ds.getD i d₀)
  up : ds'.Pairwise (fun a b => lt b a = false)
  perm : ds'.Perm ds
theorem Sorts.paired {α : Type} {lt : α → α → Bool} {vs vs' : List Value} {ds ds' : List α} {R : Value → α → Prop} (h : Sorts lt vs ds vs' ds') (hp : Paired R vs ds) : Paired R vs' ds' := by
  obtain ⟨p, P, e1, e2⟩ := h.ex; have hl : vs.length = ds.length := Paired.length hp
  have key : ∀ l : List Nat, (∀ i ∈ l, i < vs.length) → ∀ d₀, Paired R (l.map fun i => vs.getD i Value.none) (l.map fun i => ds.getD i d₀) := by
    intro l hl' d₀
    induction l with
    | nil => exact .nil
    | cons i r ih =>
      have hi := hl' i (List.mem_cons_self ..); refine .cons ?_ (ih fun j hj => hl' j (List.mem_cons_of_mem _ hj))
      have a1 : vs.getD i Value.none = vs[i] := by simp [hi]
      have a2 : ds.getD i d₀ = ds[i]'(by fail"o") := by simp [show i < ds.length by fail"o"]
      show R (vs.getD i Value.none) (ds.getD i d₀)
      rw [a1, a2]; exact Paired.at i hi (by fail"o") hp
  cases ds with
  | nil =>
    have : vs.length = 0 := hl; have hz := P.size; rw [this] at hz
    have e3 : p.toList = [] := by
      apply List.eq_nil_of_length_eq_zero
      simpa using hz
    have e4 : ds' = [] := List.Perm.eq_nil h.perm; rw [e1, e3, e4]; exact .nil
  | cons d r =>
    rw [e1, e2 d]; exact key p.toList (fun i hi => List.mem_range.mp (P.mem_iff.mp hi)) d
theorem sorts_mk {α : Type} {lt : α → α → Bool} {vs : List Value} {d₀ : α} {ds : List α} {p : Array Nat} (hl : vs.length = ds.length) (P : MK.PermOf vs.length p) (U : MK.Up (fun i j => lt (ds.getD i d₀) (ds.getD j d₀)) p vs.length) :
    Sorts lt vs ds (p.toList.map fun i => vs.getD i Value.none) (p.toList.map fun i => ds.getD i d₀) := by
  have hz := P.size; have hin : ∀ i ∈ p.toList, i < ds.length := fun i hi => by rw [← hl]; exact List.mem_range.mp (P.mem_iff.mp hi)
  refine ⟨⟨p, P, rfl, fun d => List.map_congr_left fun i hi => ?_⟩, ?_, ?_⟩
  · have := hin i hi
    simp [this]
  · rw [List.pairwise_iff_getElem]
    intro i j hi hj hij; have hi' : i < p.size := by simpa using hi
    have hj' : j < p.size := by simpa using hj
    have := U i j hij (by fail"o")
    simp only [List.getElem_map, Array.getElem_toList]; have g1 : p.getD i 0 = p[i] := by simp [Array.getD, hi']
    have g2 : p.getD j 0 = p[j] := by simp [Array.getD, hj']
    rw [g1, g2] at this; exact this
  · have e : (List.range vs.length).map (fun i => ds.getD i d₀) = ds := by
      apply List.ext_getElem
      · simp [hl]
      · intro i h1 h2
        simp [h2]
    have := List.Perm.map (fun i => ds.getD i d₀) P
    rwa [e] at this
section
variable {prog : Program} {w : World} {A : Around} {E : VSP} {s : Shared}
theorem sort_tree {α : Type} {R : Heap → Value → α → Prop} {lt : α → α → Bool} {κ : SortKind} {a : Addr} {vs : List Value} {ds : List α} {n : Nat} {P : PySem.Fin → Shared → Prop} (ho : s.heap.get? a = some (seqObj "list" vs.toArray n)) (h64 : vs.length < 64)
    (asym : ∀ x y, lt x y = true → lt y x = false) (tran : ∀ x y z, lt y x = false → lt z y = false → lt z x = false)
    (hR : ∀ (h' : Heap) v d, (∀ b o, b ≠ a → s.heap.get? b = some o → h'.get? b = some o) → R s.heap v d → R h' v d) (hp : Paired (R s.heap) vs ds)
    (hk : ∀ s', 2 ≤ vs.length → Paired (R s'.heap) vs ds → wpAny (model prog w) A (keyKind' vs.toArray) (fun κ' s'' => κ' = κ ∧ s'' = s') (fun _ _ => False) s')
    (hlt : ∀ s' x y d e, R s'.heap x d → R s'.heap y e → wpAny (model prog w) A (keyLt' κ x y) (fun r s'' => r = lt d e ∧ s'' = s') (fun _ _ => False) s')
    (h : ∀ vs' ds', Sorts lt vs ds vs' ds' → P (.done (.ret .none)) { s with heap := sortedHeap s.heap a vs vs'.toArray }) :
    wpAny (model prog w) A (Builtin.«list.sort» ⟨[.ref a], []⟩) P E s := by
  have hl : vs.length = ds.length := Paired.length hp; rw [list_sort_plain]; have ha : a < s.heap.objs.size := Heap.lt_size ho; refine wpAny_bind (listItems_at ho rfl ?_)
  refine wpAny_bind (listUpdate_at ho rfl ?_ (by rw [List.size_toArray, sizeLine_eq]; fail"o") (Nat.zero_le _))
  obtain ⟨e1, ho1⟩ : ∃ e1, (s.heap.update a (Obj.mapSeq fun _ => #[])).get? a = some (seqObj "list" #[] e1) := ⟨_, get?_update_seq ho (fun _ => #[])⟩
  refine wpAny_bind (seqEpoch_at ho1 rfl ?_)
  refine wpAny_bind (wpAny_newTuple ?_ (by show vs.length ≤ _; rw [sizeLine_eq]; fail"o"))
  refine wpAny_bind (wpAny_newList ?_ (Nat.zero_le _))
  refine wpAny_holding ?_
  have ho6 : (((s.heap.update a (Obj.mapSeq fun _ => #[])).push (seqObj "tuple" vs.toArray 0)).push (seqObj "list" #[] 0)).get? a = some (seqObj "list" #[] e1) := by
    rw [Heap.get?_push_ne _ _ _ (by rw [size_push', Heap.size_update]; exact Nat.ne_of_lt (Nat.lt_succ_of_lt ha)), Heap.get?_push_ne _ _ _ (by rw [Heap.size_update]; exact Nat.ne_of_lt ha)]
    exact ho1
  have keep : ∀ b o, b ≠ a → s.heap.get? b = some o → (((s.heap.update a (Obj.mapSeq fun _ => #[])).push (seqObj "tuple" vs.toArray 0)).push (seqObj "list" #[] 0)).get? b = some o := fun b o hb e =>
    Heap.get?_push_of_some _ (Heap.get?_push_of_some _ ((Heap.get?_update_other _ _ (Ne.symm hb)).trans e))
  have hp6 : Paired (R (((s.heap.update a (Obj.mapSeq fun _ => #[])).push (seqObj "tuple" vs.toArray 0)).push (seqObj "list" #[] 0))) vs ds := Paired.mapP hp fun v d x => hR _ v d keep x
  show wpAny (model prog w) A _ P E { s with heap := ((s.heap.update a (Obj.mapSeq fun _ => #[])).push (seqObj "tuple" vs.toArray 0)).push (seqObj "list" #[] 0) }
  dsimp only
  have fin : ∀ (st' : SortSt) (p : Array Nat), MK.PermOf vs.length p → (∀ d₀, MK.Up (fun i j => lt (ds.getD i d₀) (ds.getD j d₀)) p vs.length) → (arrOf st').map (·.2) = List.toArray (p.toList.map fun i => vs.getD i Value.none) → failedOf st' = none →
      wpAny (model prog w) A (do
        let touched := (← seqEpoch a) != e1
        Builtin.List.listUpdate (.ref a) fun _ => (arrOf st').map (·.2)
        if let some e := failedOf st' then rule "list.sort.comparison-raised"; throw e
        if touched then rule "list.sort.modified"; raiseError "ValueError" "list modified during sort"
        ret .none) P E { s with heap := ((s.heap.update a (Obj.mapSeq fun _ => #[])).push (seqObj "tuple" vs.toArray 0)).push (seqObj "list" #[] 0) } := by
    intro st' p hperm hup hout hf; have hsz : (List.toArray (p.toList.map fun i => vs.getD i Value.none)).size = vs.length := by rw [List.size_toArray, List.length_map, Array.length_toList, hperm.size]
    refine wpAny_bind (seqEpoch_at ho6 rfl ?_)
    rw [hout, hf]; refine wpAny_bind (listUpdate_at ho6 rfl ?_ (Nat.zero_le _) (Nat.le_trans (Nat.le_of_eq hsz) (by rw [sizeLine_eq]; fail"o")))
    (first | refine wpN (by simp) ?_ | simp only [bne_self_eq_false, Bool.false_eq_true, if_false])
    refine wpAny_pure ?_
    cases ds with
    | nil =>
      have e0 : vs.length = 0 := hl; have e2 : vs = [] := List.eq_nil_of_length_eq_zero e0; have e3 : p.toList = [] := List.eq_nil_of_length_eq_zero (by rw [Array.length_toList, hperm.size, e0])
      rw [e3]; exact h [] [] ⟨⟨p, hperm, by rw [e3]; rfl, fun _ => by rw [e3]; rfl⟩, .nil, .refl _⟩
    | cons d r => exact h _ _ (sorts_mk (d₀ := d) hl hperm (hup d))
  by_cases h2 : vs.toArray.size < 2
  · rw [if_pos h2, if_pos h2]
    refine wpAny_bind (wpAny_pure ?_)
    rw [StateT.run_pure]; refine wpAny_bind (wpAny_pure ?_)
    dsimp only; have hz : vs.length < 2 := by simpa using h2
    refine fin (SortSt.mk' general' (vs.toArray.zip vs.toArray) #[] 7 none) (List.toArray (List.range vs.length)) (List.Perm.refl _) (fun d₀ i j hij hj => by fail"o") ?_ rfl
    apply Array.toList_inj.mp
    show ((vs.toArray.zip vs.toArray).map (·.2)).toList = _
    have z1 : ((vs.toArray.zip vs.toArray).map (·.2)).toList = vs := by
      apply List.ext_getElem
      · simp
      · intro i h1 h2
        simp
    have z2 : (List.range vs.length).map (fun i => vs.getD i Value.none) = vs := by
      apply List.ext_getElem
      · simp
      · intro i h1 h2
        simp [h2]
    rw [z1]; exact z2.symm
  · rw [if_neg h2, if_neg h2]
    have h2' : 2 ≤ vs.length := by simpa using h2
    refine wpAny_bind (wpAny_mono (hk _ h2' hp6) (fun κ' s0 hz0 => ?_) fun _ _ x => x.elim)
    obtain ⟨q1, q2⟩ := hz0; subst q1; subst q2
    cases ds with
    | nil => rw [List.length_nil] at hl; fail"o"
    | cons d₀ r =>
      have ord : MK.Ord (fun i j => lt ((d₀ :: r).getD i d₀) ((d₀ :: r).getD j d₀)) := ⟨fun i j => asym _ _, fun i j k => tran _ _ _⟩
      have run := kat_run (E := E) (A := A) (prog := prog) (w := w) (κ := κ') (ks := vs) (vs := vs) (s := { s with heap := ((s.heap.update a (Obj.mapSeq fun _ => #[])).push (seqObj "tuple" vs.toArray 0)).push (seqObj "list" #[] 0) })
        (Q := fun st' s' => ∃ p : Array Nat, arrOf st' = p.map (kas_item (vs.toArray.zip vs.toArray)) ∧ failedOf st' = none ∧ s' = { s with heap := ((s.heap.update a (Obj.mapSeq fun _ => #[])).push (seqObj "tuple" vs.toArray 0)).push (seqObj "list" #[] 0) } ∧ MK.PermOf vs.length p ∧ MK.Up (fun i j => lt ((d₀ :: r).getD i d₀) ((d₀ :: r).getD j d₀)) p vs.length)
        rfl h2' h64 (fun p' st' s' a1 a2 a3 a4 => ⟨p', a2, a3, a4⟩)
        (kasWp_of (lt := fun i j => lt ((d₀ :: r).getD i d₀) ((d₀ :: r).getD j d₀)) (n := vs.length) (fun i j hi hj C hC => ?_) (MK.sort_ok ord (by fail"o")))
      · refine wpAny_bind (wpAny_mono run ?_ fun _ _ e => e)
        rintro ⟨⟨⟩, st'⟩ s' ⟨p, har, hf, rfl, hperm, hup⟩
        dsimp only; refine fin st' p hperm (fun d₁ i j hij hj => ?_) (kat_snds rfl har) hf
        have := hup i j hij hj; have b1 := hperm.bnd (i := i) (by fail"o")
        have b2 := hperm.bnd (i := j) hj; have g1 : ∀ d, (d₀ :: r).getD (p.getD i 0) d = (d₀ :: r)[p.getD i 0]'(by fail"o") := fun d => getD_lt (by fail"o")
        have g2 : ∀ d, (d₀ :: r).getD (p.getD j 0) d = (d₀ :: r)[p.getD j 0]'(by fail"o") := fun d => getD_lt (by fail"o")
        have this' : lt ((d₀ :: r).getD (p.getD j 0) d₀) ((d₀ :: r).getD (p.getD i 0) d₀) = false := this
        show lt ((d₀ :: r).getD (p.getD j 0) d₁) ((d₀ :: r).getD (p.getD i 0) d₁) = false
        rw [g1, g2] at this' ⊢; exact this'
      · unfold kas_ask
        have a1 : vs.getD i Value.none = vs[i] := by simp [hi]
        have a2 : vs.getD j Value.none = vs[j] := by simp [hj]
        have g1 : (d₀ :: r).getD i d₀ = (d₀ :: r)[i]'(by fail"o") := getD_lt (by fail"o")
        have g2 : (d₀ :: r).getD j d₀ = (d₀ :: r)[j]'(by fail"o") := getD_lt (by fail"o")
        have hC' : C (lt ((d₀ :: r).getD i d₀) ((d₀ :: r).getD j d₀)) _ := hC; rw [g1, g2] at hC'; rw [a1, a2]; refine wpAny_mono (hlt _ _ _ _ _ (Paired.at i hi (by fail"o") hp6) (Paired.at j hj (by fail"o") hp6)) (fun r' s' hz1 => ?_) fun _ _ x => x
        obtain ⟨q1, q2⟩ := hz1; subst q1; subst q2; exact hC'
end
end L2
namespace L2
open PySem PySem.Spec PyProof.Rows
def hT (ks : List Int) : Int := reduceHash (Builtin.Tuple.tupleHashOf (ks.map hashInt))
structure TSetO (o : Obj) (led : Bool) (xs : List (List Int × Addr)) : Prop where
  ex : ∃ es ep t, o = { cls := .type "set", dict := none, data := .set es ep t } ∧ MK.Plain t ∧ MK.Fits t.mask es.size ∧ t.place.size = es.size ∧ t.plain = true ∧ t.led = led ∧
    es.toList.Perm (xs.map fun q => (hT q.1, Value.ref q.2))
theorem Fits.odd {m n : Nat} (h : MK.Fits m n) : m % 2 = 1 := by cases h <;> rfl
theorem fits_of {t : SetTable} {n : Nat} (P : MK.Plain t) (hf : MK.Fits t.mask n) (hp : t.place.size = n) : t.fits n = true := by
  have := hf.lt; simp only [SetTable.fits, SetTable.fill, P.dum, Bool.and_eq_true, beq_iff_eq, decide_eq_true_eq]; exact ⟨hp, by simp; fail"o"⟩
theorem setRelay_eq (a : Addr) (wanted : Nat) : setRelay a wanted = (do
    let (es, _, t) ← setState a
    if SetTable.sizeAbove wanted > sizeLine then unsupported "set:memory"
    let (es, t) ← (do
      let some (t, order) := (t.relaid (es.map (·.1)) wanted) | unsupported "internal:set-table-without-room"
      let es' := order.filterMap (es[·]?)
      if es'.size != es.size then unsupported "internal:set-table-lost-an-element"
      pure (es', t))
    storeSet a es t) := rfl
section
variable {prog : Program} {w : World} {A : Around} {E : VSP} {s : Shared}
theorem hbv_int (n : Nat) (i : Int) (t : Tok) : hashByValue n (.int i t) = pure true := by
  cases n <;> rfl
theorem hbv_tup {ks : List Int} {a : Addr} {Q : Bool → Shared → Prop} (hk : IsTupleKey (intKind prog w) s.heap ks a) (h : Q true s) : wpAny (model prog w) A (hashByValue 8 (.ref a)) Q E s := by
  have hT' := hk.typeIs; obtain ⟨o, items, n, ho, hc, hd, hi⟩ := hk; unfold hashByValue; refine wpAny_bind (wpAny_specialOf hT' F.slot_tuple_hash.lookup ?_)
  show wpAny _ _ (seqItems? (.ref a) >>= _) _ _ s
  refine wpAny_bind (wpAny_seqItems ho hd ?_)
  refine wpAny_bind ?_
  show wpAny _ _ (forIn items _ _) _ _ s
  rw [← Array.forIn_toList]
  have hall : ∀ v ∈ items.toList, ∃ i t, v = Value.int i t := by
    have : ∀ {ks : List Int} {vs : List Value}, ItemsAre (intKind prog w) ks vs → ∀ v ∈ vs, ∃ i t, v = Value.int i t := by
      intro ks vs hi
      induction hi with
      | nil => intro v hv; simp at hv
      | @cons k v ks vs h1 _ ih =>
        intro u hu; rcases List.mem_cons.mp hu with rfl | hu
        · obtain ⟨t, e⟩ := Value.isInt_shape h1
          exact ⟨k, t, e⟩
        · exact ih u hu
    exact this hi
  refine wpAny_forIn_list _ (fun rest r s' => r.1 = none ∧ s' = s ∧ ∀ v ∈ rest, ∃ i t, v = Value.int i t) _ ?_ ?_ _ _ ⟨rfl, rfl, hall⟩
  · rintro v rest r s' ⟨hr, rfl, hall⟩
    obtain ⟨i, t, rfl⟩ := hall v List.mem_cons_self; rw [hbv_int]; refine wpAny_bind (wpAny_pure ?_)
    (first | refine wpN (by decide) ?_ | simp only [Bool.not_true, Bool.false_eq_true, if_false])
    exact wpAny_pure ⟨rfl, rfl, fun u hu' => hall u (List.mem_cons_of_mem _ hu')⟩
  · rintro ⟨r1, r2⟩ s' ⟨hr, rfl, _⟩
    simp only at hr; subst hr; exact wpAny_pure h
theorem get_putSet {h : Heap} {a : Addr} {es es' : Array (Int × Value)} {ep : Nat} {t t' : SetTable} (ho : h.get? a = some { cls := .type "set", dict := none, data := .set es ep t }) :
    (h.update a (Obj.putSet es' t')).get? a = some { cls := .type "set", dict := none, data := .set es' (ep + 1) t' } := by
  have := Heap.get?_update_self (Obj.putSet es' t') ho (by rfl)
  exact this
theorem add_tup {S a : Addr} {o : Obj} {led : Bool} {xs : List (List Int × Addr)} {ks : List Int} {Q : Bool → Shared → Prop} (hu : A.units < cLine) (ho : s.heap.get? S = some o) (hS : TSetO o led xs) (hk : IsTupleKey (intKind prog w) s.heap ks a)
    (hnew : ∀ q ∈ xs, hT q.1 ≠ hT ks) (hlen : xs.length + 1 ≤ 76)
    (hQ : ∀ h' o' tk, Heap.SameBut S s.heap h' → h'.get? S = some o' → TSetO o' led (xs ++ [(ks, a)]) → Q true { s with heap := h', toks := tk }) : wpAny (model prog w) A (setAdd S (.ref a)) Q E s := by
  obtain ⟨es, ep, t, rfl, P, hfit, hpl, hplain, hled, hperm⟩ := hS.ex
  have hn : es.size = xs.length := by
    have := hperm.length_eq; simpa using this
  have hne : S ≠ a := by
    rintro rfl
    obtain ⟨o', items, n, ho', hc, _, _⟩ := hk; rw [ho] at ho'; cases ho'; have hc' : Value.type "set" = Value.type "tuple" := hc; exact absurd hc' (by decide)
  unfold setAdd; refine wpAny_holding (wpAny_bind (wpAny_pyHash_tuple hu hk ?_))
  show wpAny (model prog w) A (setAddHashed S (.ref a) (hT ks)) Q E _
  have hf := fits_of P hfit hpl; unfold setAddHashed setAddHashedIn; refine wpAny_holding (wpAny_bind (wpAny_setState_of (s := { s with toks := _ }) ho rfl hf ?_))
  dsimp only; have hsc : byScan (.ref a) es = false := rfl; rw [hsc]
  (first | refine wpN (by decide) ?_ | simp only [Bool.false_eq_true, if_false])
  have hgw : t.gaveWay = false := by
    unfold SetTable.gaveWay; rw [Fits.odd hfit]; rfl
  have hno : ∀ i, i < t.place.size → ((es[i]?.map (·.1)).getD 0) ≠ hT ks := by
    intro i hi e; have hi' : i < es.size := by fail"o"
    have hm : es[i] ∈ es.toList := by simp
    obtain ⟨q, hq, e2⟩ := List.mem_map.mp (hperm.mem_iff.mp hm); refine hnew q hq ?_
    rw [← e]; simp [hi', ← e2]
  obtain ⟨j, hprobe, hslot, hj⟩ := MK.probe_free P hfit.sized (by have := hfit.lt; fail"o") (hashAt := fun i => (es[i]?.map (·.1)).getD 0) hno
  refine wpAny_bind ?_
  unfold setSearch; refine wpAny_bind (wpAny_setState_of (s := { s with toks := _ }) ho rfl hf ?_)
  dsimp only; rw [hgw]; simp only [Bool.false_eq_true, if_false, Option.getD_none]
  split
  · rename_i met heq
    have e := heq.symm.trans hprobe; cases e; dsimp only; refine wpAny_pure ?_
    dsimp only; refine wpAny_bind (wpAny_setState_of (s := { s with toks := _ }) ho rfl hf ?_)
    dsimp only; obtain ⟨p1, p2⟩ := MK.put_place t P j; have e3 : t.put j = ({ t with place := SetTable.insertAt t.place (SetTable.below t.place j) j, dummies := #[] }, SetTable.below t.place j) := Prod.ext p1 p2
    rw [e3]; dsimp only; rw [if_pos hplain]; refine wpAny_bind (hbv_tup (s := { s with toks := _ }) hk ?_)
    rw [if_pos rfl]; have hes : (SetTable.insertAt es (SetTable.below t.place j) (hT ks, Value.ref a)).size = es.size + 1 := MK.insertAt_size _ _ _; have hps : (SetTable.insertAt t.place (SetTable.below t.place j) j).size = t.place.size + 1 := MK.insertAt_size _ _ _; have hsl : 128 ≤ sizeLine := by rw [sizeLine_eq]; decide
    refine wpAny_bind (wpAny_storeSet_of (s := { s with toks := _ }) ho rfl ?_ (by fail"o"))
    have ho1 := get_putSet (es' := SetTable.insertAt es (SetTable.below t.place j) (hT ks, Value.ref a)) (t' := { t with place := SetTable.insertAt t.place (SetTable.below t.place j) j, dummies := #[] }) ho
    have P1 := MK.put_plain P hj hslot
    have hperm1 : (SetTable.insertAt es (SetTable.below t.place j) (hT ks, Value.ref a)).toList.Perm ((xs ++ [(ks, a)]).map fun q => (hT q.1, Value.ref q.2)) := by
      refine (MK.insertAt_perm _ _ _).trans ?_
      rw [List.map_append]; exact (hperm.cons _).trans (List.perm_append_comm (l₁ := [(hT ks, Value.ref a)]))
    have hsb := Heap.SameBut.update s.heap S (Obj.putSet (SetTable.insertAt es (SetTable.below t.place j) (hT ks, Value.ref a)) { t with place := SetTable.insertAt t.place (SetTable.below t.place j) j, dummies := #[] })
    have hfull : SetTable.tooFull { t with place := SetTable.insertAt t.place (SetTable.below t.place j) j, dummies := #[] } = decide (t.mask * 3 ≤ (es.size + 1) * 5) := by
      unfold SetTable.tooFull SetTable.fill; rw [show ({ t with place := SetTable.insertAt t.place (SetTable.below t.place j) j, dummies := #[] } : SetTable).place.size = es.size + 1 by show (SetTable.insertAt t.place (SetTable.below t.place j) j).size = _; rw [hps, hpl]]
      rfl
    rw [hfull]; rcases MK.Fits.more hfit (by fail"o") with ⟨q1, q2⟩ | ⟨q1, q2, q3, q4⟩
    · rw [decide_eq_false (by fail"o")]
      (first | refine wpN (by decide) ?_ | simp only [Bool.not_false, Bool.true_and, Bool.false_eq_true, if_false])
      exact wpAny_pure (hQ _ _ _ hsb ho1 ⟨_, _, _, rfl, P1, by rw [hes]; exact q2, by rw [hes]; exact hps.trans (by rw [hpl]), hplain, hled, hperm1⟩)
    · rw [decide_eq_true q1]
      (first | refine wpY (by decide) ?_ | simp only [Bool.not_false, Bool.true_and, if_true])
      have hz : MK.sized (SetTable.sizeAbove (SetTable.grown (es.size + 1)) - 1 + 1) := q2.sized
      obtain ⟨t2, order, l1, l2, l3, l4, l5, l6, l7⟩ := MK.laid_spec (finger := t.finger) (moves := SetTable.movedTo { t with place := SetTable.insertAt t.place (SetTable.below t.place j) j, dummies := #[] } (SetTable.sizeAbove (SetTable.grown (es.size + 1)) - 1)) (led := t.led) (plain := t.plain) hz
        ((SetTable.insertAt es (SetTable.below t.place j) (hT ks, Value.ref a)).map (·.1)) (by rw [Array.size_map, hes]; exact q3)
      rw [Array.size_map] at l4 l7; have hrel : SetTable.relaid { t with place := SetTable.insertAt t.place (SetTable.below t.place j) j, dummies := #[] } ((SetTable.insertAt es (SetTable.below t.place j) (hT ks, Value.ref a)).map (·.1)) (SetTable.grown (es.size + 1)) = some (t2, order) := l1
      have hop := MK.order_perm (es := SetTable.insertAt es (SetTable.below t.place j) (hT ks, Value.ref a)) l7
      have hos : (order.filterMap ((SetTable.insertAt es (SetTable.below t.place j) (hT ks, Value.ref a))[·]?)).size = es.size + 1 := by
        have := hop.length_eq; rw [Array.length_toList, Array.length_toList, hes] at this; exact this
      have hf1 : SetTable.fits { t with place := SetTable.insertAt t.place (SetTable.below t.place j) j, dummies := #[] } (SetTable.insertAt es (SetTable.below t.place j) (hT ks, Value.ref a)).size = true := by
        have := hfit.lt; simp only [SetTable.fits, SetTable.fill, Bool.and_eq_true, beq_iff_eq, decide_eq_true_eq]; refine ⟨by rw [hps, hes, hpl], decide_eq_true ?_⟩
        show (SetTable.insertAt t.place (SetTable.below t.place j) j).size + 0 ≤ t.mask
        rw [hps, hpl]; fail"o"
      rw [setRelay_eq]; refine wpAny_bind (wpAny_bind (wpAny_setState_of (s := { s with heap := _, toks := _ }) ho1 rfl hf1 ?_))
      dsimp only; rw [if_neg (by fail"o"), hrel]
      refine wpAny_bind ?_
      dsimp only; rw [hos, hes]
      (first | refine wpN (by simp) ?_ | simp only [bne_self_eq_false, Bool.false_eq_true, if_false])
      refine wpAny_pure ?_
      dsimp only; refine wpAny_storeSet_of (s := { s with heap := _, toks := _ }) ho1 rfl ?_ (by fail"o")
      have ho2 := get_putSet (es' := order.filterMap ((SetTable.insertAt es (SetTable.below t.place j) (hT ks, Value.ref a))[·]?)) (t' := t2) ho1
      refine wpAny_pure (hQ _ _ _ (hsb.trans (Heap.SameBut.update _ S _)) ho2 ⟨_, _, _, rfl, l2, by rw [hos, l3]; exact q2, by rw [l4, hes, hos], by rw [l6]; exact hplain, by rw [l5]; exact hled, hop.trans hperm1⟩)
  · rename_i heq
    exact absurd hprobe (fun z => heq _ z)
end
end L2
namespace L2
open PySem PySem.Spec PyProof.Rows
abbrev refsOf (xs : List (List Int × Addr)) : Array Value := (xs.map fun q => Value.ref q.2).toArray
section
variable {prog : Program} {w : World} {A : Around} {E : VSP} {s : Shared} {R : Result → Shared → Prop}
theorem tk_stay {h h' : Heap} {ks : List Int} {a S I : Addr} {oS oI : Obj} (x : IsTupleKey (intKind prog w) h ks a) (hS : h.get? S = some oS) (cS : oS.cls ≠ .type "tuple") (hI : h.get? I = some oI) (cI : oI.cls ≠ .type "tuple")
    (k : ∀ b o, b ≠ S → b ≠ I → h.get? b = some o → h'.get? b = some o) : IsTupleKey (intKind prog w) h' ks a := by
  obtain ⟨o, its, n, ho, hc, r⟩ := x; refine ⟨o, its, n, k a o ?_ ?_ ho, hc, r⟩
  · rintro rfl
    rw [ho] at hS; cases hS; exact cS hc
  · rintro rfl
    rw [ho] at hI; cases hI; exact cI hc
theorem TSetO.cls {o : Obj} {led : Bool} {xs : List (List Int × Addr)} (h : TSetO o led xs) : o.cls = .type "set" := by
  obtain ⟨es, ep, t, rfl, _⟩ := h.ex; rfl
theorem set_loopT {I S l : Addr} {led : Bool} {xs : List (List Int × Addr)} (hh : A.in1.handled = none) (hu : A.in1.units < cLine) (hlI : l ≠ I) (hSI : S ≠ I) (hSl : S ≠ l) (hd : (xs.map fun q => hT q.1).Nodup) (hlen : xs.length ≤ 76) :
    ∀ (k i : Nat) (s : Shared), xs.length - i = k → i ≤ xs.length → s.heap.IsListIter I l i → s.heap.IsList l (refsOf xs) → (∀ q ∈ xs, IsTupleKey (intKind prog w) s.heap q.1 q.2) → (∃ o, s.heap.get? S = some o ∧ TSetO o led (xs.take i)) →
      (∀ h' o tk, (∀ b ob, b ≠ S → b ≠ I → s.heap.get? b = some ob → h'.get? b = some ob) → h'.get? S = some o → TSetO o led xs → R (.ok (.ret .none)) { s with heap := h', toks := tk }) →
      codeAny (model prog w) A (.builtin "set.update.loop" ⟨[.ref S, .ref I], []⟩) R s := by
  have W := Walks.list (prog := prog) (w := w) (A := A.in1) hh I l hlI (refsOf xs); have hsz : (refsOf xs).size = xs.length := by simp [refsOf]
  intro k
  induction k with
  | zero =>
    intro i s hk hi hit hl ht hS hR; have hin : i = xs.length := by fail"o"
    subst hin; refine codeAny_builtin F.entry_set_update_loop ?_
    rw [Around.under_plainId F.plain_set_update_loop _]
    show wpAny _ A.in1 (pyNext (.ref I) >>= _) _ _ s
    refine wpAny_bind (W.done s _ _ (by rw [hsz]; exact ⟨hit, hl⟩) fun h' tk hk' => ?_)
    show wpAny _ A.in1 (ret Value.none) _ _ _
    obtain ⟨o, ho, hts⟩ := hS; rw [List.take_length] at hts; exact wpAny_pure (hR h' o tk (fun b ob hb1 hb2 e => hk' b ob (by simpa using hb2) e) (hk' S o (by simpa using hSI) ho) hts)
  | succ k ih =>
    intro i s hk hi hit hl ht hS hR; have hlt : i < xs.length := by fail"o"
    refine codeAny_builtin F.entry_set_update_loop ?_
    rw [Around.under_plainId F.plain_set_update_loop _]
    show wpAny _ A.in1 (pyNext (.ref I) >>= _) _ _ s
    refine wpAny_bind (W.item i s _ _ (by rw [hsz]; exact hlt) ⟨hit, hl⟩ fun v h' tk hv hst' hk' => ?_)
    have ev : v = Value.ref xs[i].2 := by
      have : (refsOf xs)[i]? = some (Value.ref xs[i].2) := by simp [refsOf, hlt]
      rw [this] at hv; exact (Option.some.inj hv).symm
    subst ev; obtain ⟨o, ho, hts⟩ := hS; obtain ⟨oI, hoI, cI, _⟩ := id hit; have ho' : h'.get? S = some o := hk' S o (by simpa using hSI) ho
    have keep1 : ∀ b ob, b ≠ S → b ≠ I → s.heap.get? b = some ob → h'.get? b = some ob := fun b ob _ hb e => hk' b ob (by simpa using hb) e
    have ht1 : ∀ q ∈ xs, IsTupleKey (intKind prog w) h' q.1 q.2 := fun q hq => tk_stay (ht q hq) ho (by rw [hts.cls]; decide) hoI (by rw [cI]; decide) keep1
    show wpAny _ A.in1 (holding [Value.ref xs[i].2] (setAdd S (Value.ref xs[i].2)) >>= _) _ _ _
    refine wpAny_bind (wpAny_holding ?_)
    have hnd := List.pairwise_iff_getElem.mp hd; refine add_tup (s := { s with heap := h', toks := tk }) hu ho' hts (ht1 xs[i] (List.getElem_mem hlt)) (fun q hq e => ?_) (by rw [List.length_take]; fail"o") fun h2 o2 tk2 hsb ho2 hts2 => ?_
    · obtain ⟨j, hj, rfl⟩ := List.getElem_of_mem hq
      have hj' : j < i := by rw [List.length_take] at hj; fail"o"
      rw [List.getElem_take] at e; have := hnd j i (by simp; fail"o") (by simpa using hlt) hj'
      simp only [List.getElem_map] at this; exact this e
    · have ets : xs.take (i + 1) = xs.take i ++ [xs[i]] := by rw [List.take_succ_eq_append_getElem hlt]
      have hts3 : TSetO o2 led (xs.take (i + 1)) := by rw [ets]; exact hts2
      obtain ⟨oI', hoI', cI', _⟩ := id hst'.1; refine wpAny_pure ⟨plainId_quiet F.plain_set_update_loop _, ih (i + 1) _ (by fail"o") hlt ?_ ?_ ?_ ⟨o2, ho2, hts3⟩ fun h3 o3 tk3 hk3 ho3 hts4 => ?_⟩
      · obtain ⟨oi, hoi, r⟩ := hst'.1
        exact ⟨oi, (hsb.2 I (Ne.symm hSI)).trans hoi, r⟩
      · obtain ⟨oi, hoi, r⟩ := hst'.2
        exact ⟨oi, (hsb.2 l (Ne.symm hSl)).trans hoi, r⟩
      · exact fun q hq => tk_stay (ht1 q hq) ho' (by rw [hts.cls]; decide) hoI' (by rw [cI']; decide) fun b ob hb _ e => (hsb.2 b hb).trans e
      · exact hR h3 o3 tk3 (fun b ob hb1 hb2 e => hk3 b ob hb1 hb2 ((hsb.2 b hb1).trans (keep1 b ob hb1 hb2 e))) ho3 hts4
theorem code_set_new_2 (a : Value) {Q₁ : VSP}
    (h : Q₁ (.ref s.heap.objs.size) { s with heap := s.heap.push { cls := .type "set", dict := none, data := .set #[] 0 (.fresh 0 0 (!(w.params.followText "set-order"))) } }) :
    codeAny (model prog w) A (.call (.builtin "set.__new__") ⟨[.type "set", a], []⟩) (wants Q₁ E) s := by
  refine codeAny_of_tree ?_
  show wpAny _ A.in1 (do checkBuiltinCall "set.__new__" ⟨[.type "set", a], []⟩; again (.builtin "set.__new__" ⟨[.type "set", a], []⟩)) _ _ s
  refine wpAny_bind (wpAny_of_eq (F.newCall_set_1 a) (wpAny_pure ⟨plainId_quiet F.plain_set_new _, codeAny_builtin F.entry_set_new ?_⟩))
  rw [Around.under_plainId F.plain_set_new _]; unfold Builtin.«set.__new__» Builtin.Frozenset.newClass; have hsub := sub_set_self; obtain ⟨hp, g, d, tk, os⟩ := s; dsimp only
  wp_walk
  refine wpAny_askSetting (wpAny_pure ?_)
  dsimp only; simp only [newObj]; refine wpAny_bind (wpAny_alloc (wpAny_pure ?_))
  exact wpAny_pure h
theorem call_setT {l : Addr} {xs : List (List Int × Addr)} {Q : VSP}
    (hh : A.handled = none) (hu : A.units + 8 < cLine) (hl : s.heap.IsList l (refsOf xs)) (ht : ∀ q ∈ xs, IsTupleKey (intKind prog w) s.heap q.1 q.2) (hd : (xs.map fun q => hT q.1).Nodup) (hlen : xs.length ≤ 76)
    (h : ∀ (h' : Heap) (o : Obj) (tk : Nat), h'.get? s.heap.objs.size = some o → TSetO o (!(w.params.followText "set-order")) xs →
      (∀ b o, b < s.heap.objs.size → s.heap.get? b = some o → h'.get? b = some o) → Q (.ref s.heap.objs.size) { s with heap := h', toks := tk }) :
    wpAny (model prog w) A (call (.type "set") [.ref l]) Q E s := by
  obtain ⟨c, tl, hmro⟩ := F.called_set.mro; have hmade := F.called_set.made; have hsub := F.called_set.sub; refine wpAny_call (codeAny_of_tree ?_)
  show wpAny _ _ (callAny (.type "set") _) _ _ _
  refine wpAny_pure ⟨Code.quiet_builtin _ (by decide +kernel), codeAny_builtin F.entry_type_call ?_⟩
  rw [Around.under_plain (weight_type_call_type "set" [.ref l] []) rfl]; have h1 := F.called_set.notType; have h2 := F.called_set.canCreate; have hct := F.typeCall_set_1 (.ref l)
  repeat (any_goals (first | assumption | wp_step))
  refine codeAny_mono (code_set_new_2 (.ref l) (E := E) (Q₁ := fun obj s₁ => obj = .ref s.heap.objs.size ∧ s₁ = { s with heap := s.heap.push { cls := .type "set", dict := none, data := .set #[] 0 (.fresh 0 0 (!(w.params.followText "set-order"))) } }) ⟨rfl, rfl⟩) fun r s₁ hr => ?_
  cases r with
  | error e => exact hr
  | ok fl =>
    cases fl with
    | ret obj =>
      obtain ⟨rfl, rfl⟩ := hr
      generalize hled : (!(w.params.followText "set-order")) = led at h ⊢
      have hS : (s.heap.push { cls := .type "set", dict := none, data := .set #[] 0 (.fresh 0 0 led) }).get? s.heap.objs.size = some { cls := .type "set", dict := none, data := .set #[] 0 (.fresh 0 0 led) } := Heap.get?_push_size _ rfl
      have hT : Shared.TypeIs { s with heap := s.heap.push { cls := .type "set", dict := none, data := .set #[] 0 (.fresh 0 0 led) } } (.ref s.heap.objs.size) "set" := ⟨_, hS, rfl⟩
      have hli := F.called_set.init.lookup; have hbi := F.called_set.init.bind (.ref s.heap.objs.size)
      repeat (any_goals (first | assumption | wp_step))
      refine codeAny_mono (codeAny_call_builtin (R := wants (fun r s₂ => r = .none ∧ ∃ h' o tk, s₂ = { s with heap := h', toks := tk } ∧
          h'.get? s.heap.objs.size = some o ∧ TSetO o led xs ∧
          (∀ b o, b < s.heap.objs.size → s.heap.get? b = some o → h'.get? b = some o)) E) F.called_set.init.plain F.entry_set_init (check_set_init_1 hT ?_)) fun r₂ s₂ hr₂ => ?_
      · obtain ⟨ol, hol, hcl, nl, hdl⟩ := hl
        obtain ⟨ocls, odict, odata, oslots⟩ := ol; simp only at hcl hdl; subst hcl; subst hdl; have hol' : (s.heap.push { cls := .type "set", dict := none, data := .set #[] 0 (.fresh 0 0 led) }).get? l = some { cls := .type "list", dict := odict, data := .seq (refsOf xs) nl, slots := oslots } := Heap.get?_push_of_some _ hol
        have hsls := F.sub_list_set; have hslf := F.sub_list_frozenset; have hne : (Value.type "list" == Value.type "dict") = false := by decide
        have hl1 : (s.heap.push { cls := .type "set", dict := none, data := .set #[] 0 (.fresh 0 0 led) }).IsList l (refsOf xs) := ⟨_, hol', rfl, nl, rfl⟩; unfold Builtin.«set.__init__» noKeywords Builtin.Frozenset.updateFrom
        generalize hPI : pyIter = PI
        wp_walk
        subst hPI; refine wpAny_pyIter_list hl1 ?_
        refine wpAny_bind (wpAny_runValue ?_)
        have hlS : l < s.heap.objs.size := Heap.lt_size hol
        have hneI : l ≠ (s.heap.push { cls := .type "set", dict := none, data := .set #[] 0 (.fresh 0 0 led) }).objs.size := by
          rw [Heap.size_push]; exact Nat.ne_of_lt (Nat.lt_succ_of_lt hlS)
        refine set_loopT (by simp [hh]) (by simp; fail"o") hneI (by rw [Heap.size_push]; exact Nat.ne_of_lt (Nat.lt_succ_self _)) (Nat.ne_of_gt hlS) hd hlen (xs.length - 0) 0 _ (by fail"o") (Nat.zero_le _) ⟨_, Heap.get?_push_size _ rfl, rfl, rfl⟩ (hl1.push _)
          (fun q hq => ?_) ⟨_, Heap.get?_push_of_some _ hS, ⟨_, _, _, rfl, ⟨fun i j _ hj => absurd hj (Nat.not_lt_zero _), fun i hi => absurd hi (Nat.not_lt_zero _), rfl⟩, .a (Nat.zero_le _), rfl, rfl, rfl, List.Perm.refl _⟩⟩ fun h' o tk hk' ho' hts => ?_
        · obtain ⟨oq, its, nq, hoq, r⟩ := ht q hq
          exact ⟨oq, its, nq, Heap.get?_push_of_some _ (Heap.get?_push_of_some _ hoq), r⟩
        · show wpAny _ _ _ _ _ _
          refine wpAny_pure ?_
          show wpAny _ _ (ret Value.none) _ _ _
          refine wpAny_pure ⟨rfl, h', o, tk, rfl, ho', hts, fun b ob hb e => ?_⟩
          refine hk' b ob (Nat.ne_of_lt hb) ?_ (Heap.get?_push_of_some _ (Heap.get?_push_of_some _ e))
          rw [Heap.size_push]; exact Nat.ne_of_lt (Nat.lt_succ_of_lt hb)
      · cases r₂ with
        | error e => exact hr₂
        | ok fl₂ =>
          cases fl₂ with
          | ret r =>
            obtain ⟨rfl, h', o, tk, rfl, ho', hts, hk'⟩ := hr₂
            repeat (any_goals (first | assumption | wp_step))
            exact h _ _ _ ho' hts hk'
          | _ => exact hr₂.elim
    | _ => exact hr.elim
end
end L2
namespace L2
open PySem PySem.Spec PyProof.Rows
theorem slot_seti_next : Slot "set_iterator" "__next__" "set_iterator.__next__" :=
  .of (owner := "set_iterator") (n := "__next__") (by rw [typeLookup_type, builtinLookup_eq_fast]; kernel_rfl) (by decide +kernel) (by decide +kernel) (by decide +kernel)
    (by first | exact .inl (by decide +kernel) | exact .inr (by decide +kernel)) (by rw [isSubtype_type]; kernel_rfl)
theorem entry_seti_next : entryFor table "set_iterator.__next__" = some Builtin.«set_iterator.__next__» := entryFor_of_tree (by kernel_rfl)
theorem args_seti_next (a : Value) : argsOk "set_iterator.__next__" ⟨[a], []⟩ := by unfold argsOk; kernel_rfl
theorem entry_set_iter' : entryFor table "set.__iter__" = some Builtin.«frozenset.__iter__» := entryFor_alias (id' := "frozenset.__iter__") (by kernel_rfl) rfl (by decide +kernel) (by kernel_rfl)
theorem entry_ext_loop : entryFor table "list.extend.loop" = some Builtin.«list.extend.loop» := entryFor_of_tree (by kernel_rfl)
theorem plain_ext_loop : plainId "list.extend.loop" = true := by decide +kernel
theorem setWalk_eq (a : Addr) : setWalk a = (do
    let (es, epoch, t) ← setState a
    if ← setsByText then return pickOrder ((← ask).params.setOrder a epoch) es
    if (!t.plain && decide (es.size > 1)) then return (← drawOrder es.size es.toList).toArray
    let () ← (if (!t.led && decide (es.size > 1)) = true then unsupported "set:maker-not-led" else pure () : Sem Unit)
    return es) := rfl
theorem setNext_eq (a : Addr) (slot given epochThen : Nat) : setNext a slot given epochThen = (do
    let (es, epoch, t) ← setState a
    if ← setsByText then
      if epoch != epochThen then unsupported "set_iterator.__next__:elements-changed"
      return ((← setWalk a)[given]?).map fun e => (e.2, slot)
    if (!t.plain && decide (es.size > 1)) then unsupported "set_iterator.__next__:the-table-is-plain-no-more"
    let () ← (if (!t.led && !es.isEmpty) = true then unsupported "set:maker-not-led" else pure () : Sem Unit)
    let i := SetTable.below t.place slot
    return match es[i]?, t.place[i]? with
      | some (_, x), some j => some (x, j + 1)
      | _, _ => none) := rfl
theorem setDrawn_eq (a : Addr) : setDrawn a = (do
    let (es, _, t) ← setState a
    let byText ← setsByText
    return !byText && (!t.plain && decide (es.size > 1))) := rfl
def walkO (w : World) (S : Addr) (ep : Nat) (es : Array (Int × Value)) : Array (Int × Value) := if w.params.followText "set-order" = true then pickOrder (w.params.setOrder S ep) es else es
theorem walkO_perm (w : World) (S : Addr) (ep : Nat) (es : Array (Int × Value)) : (walkO w S ep es).toList.Perm es.toList := by
  unfold walkO
  split
  · exact MK.pick_perm _ _
  · exact List.Perm.refl _
theorem walkO_size (w : World) (S : Addr) (ep : Nat) (es : Array (Int × Value)) : (walkO w S ep es).size = es.size := by
  have := (walkO_perm w S ep es).length_eq; simpa using this
def slotAt (w : World) (t : SetTable) (i : Nat) : Nat := if w.params.followText "set-order" = true then 0 else if i = 0 then 0 else t.place.getD (i - 1) 0 + 1
def IsSetIter (h : Heap) (it S : Addr) (slot i n ep : Nat) : Prop := h.get? it = some { cls := .type "set_iterator", data := .fields #[.int slot 0, .int i 0, .ref S, .int n 0, .int ep 0] }
structure WSet (w : World) (o : Obj) (es : Array (Int × Value)) (ep : Nat) (t : SetTable) : Prop where
  ob : o = { cls := .type "set", dict := none, data := .set es ep t }
  pl : MK.Plain t
  ft : t.fits es.size = true
  ps : t.place.size = es.size
  pn : t.plain = true
  ld : t.led = !(w.params.followText "set-order")
section
variable {prog : Program} {w : World} {A : Around} {E : VSP} {s : Shared}
theorem wp_byText {Q : Bool → Shared → Prop} (h : Q (w.params.followText "set-order") s) : wpAny (model prog w) A setsByText Q E s := by
  unfold setsByText; exact wpAny_bind (wpAny_askSetting (wpAny_pure h))
theorem wp_next {S : Addr} {o : Obj} {es : Array (Int × Value)} {ep i : Nat} {t : SetTable} {Q : Option (Value × Nat) → Shared → Prop} (ho : s.heap.get? S = some o) (W : WSet w o es ep t) (hi : i ≤ es.size)
    (h : Q (((walkO w S ep es)[i]?).map fun e => (e.2, slotAt w t (i + 1))) s) : wpAny (model prog w) A (setNext S (slotAt w t i) i ep) Q E s := by
  obtain ⟨rfl, P, ft, ps, pn, ld⟩ := W; rw [setNext_eq]; refine wpAny_bind (wpAny_setState_of ho rfl ft ?_)
  dsimp only; refine wpAny_bind (wp_byText ?_)
  cases hb : w.params.followText "set-order" with
  | true =>
    simp only [if_true, bne_self_eq_false, Bool.false_eq_true, if_false]; refine wpAny_bind ?_
    rw [setWalk_eq]; refine wpAny_bind (wpAny_setState_of ho rfl ft ?_)
    dsimp only; refine wpAny_bind (wp_byText ?_)
    rw [hb]; simp only [if_true]; refine wpAny_bind (wpAny_askSetting ?_)
    refine wpAny_pure (wpAny_pure ?_)
    have e1 : walkO w S ep es = pickOrder (w.params.setOrder S ep) es := by unfold walkO; rw [if_pos hb]
    have e2 : ∀ j, slotAt w t j = 0 := fun j => by unfold slotAt; rw [if_pos hb]
    rw [e1, e2] at h; rw [e2]; exact h
  | false =>
    rw [hb] at ld; simp only [pn, ld, Bool.not_true, Bool.not_false, Bool.false_and, Bool.false_eq_true, if_false]; refine wpAny_bind (wpAny_pure ?_)
    refine wpAny_pure ?_
    have e1 : walkO w S ep es = es := by unfold walkO; rw [if_neg (by rw [hb]; decide)]
    have e3 : SetTable.below t.place (slotAt w t i) = i := by
      unfold slotAt; rw [if_neg (by rw [hb]; decide)]
      by_cases hz : i = 0
      · rw [if_pos hz, hz]; exact MK.below_zero P.ris
      · rw [if_neg hz]
        have := MK.below_next P.ris (i := i - 1) (by fail"o")
        rw [this]; fail"o"
    rw [e1] at h; rw [e3]
    by_cases hlt : i < es.size
    · have hlt2 : i < t.place.size := by fail"o"
      have e4 : slotAt w t (i + 1) = t.place[i] + 1 := by
        unfold slotAt; rw [if_neg (by rw [hb]; decide), if_neg (by fail"o")]
        simp [Array.getD, hlt2]
      rw [e4] at h; rw [Array.getElem?_eq_getElem hlt] at h ⊢
      rw [Array.getElem?_eq_getElem hlt2]
      exact h
    · rw [Array.getElem?_eq_none (by fail"o")] at h ⊢
      rw [Array.getElem?_eq_none (by fail"o")]
      exact h
theorem IsSetIter.typeIs {it S : Addr} {slot i n ep : Nat} (h : IsSetIter s.heap it S slot i n ep) : s.TypeIs (.ref it) "set_iterator" := ⟨_, h, rfl⟩
theorem next_item {it S : Addr} {o : Obj} {es : Array (Int × Value)} {ep i : Nat} {t : SetTable} {x : Int × Value} {Q : Option Value → Shared → Prop} (hit : IsSetIter s.heap it S (slotAt w t i) i es.size ep) (ho : s.heap.get? S = some o) (W : WSet w o es ep t)
    (hx : (walkO w S ep es)[i]? = some x) (hQ : ∀ h', IsSetIter h' it S (slotAt w t (i + 1)) (i + 1) es.size ep → Heap.SameBut it s.heap h' → Q (some x.2) { s with heap := h' }) : wpAny (model prog w) A (pyNext (.ref it)) Q E s := by
  have hi : i < es.size := by
    rw [← walkO_size w S ep es]; rcases Nat.lt_or_ge i (walkO w S ep es).size with q | q
    · exact q
    · rw [Array.getElem?_eq_none q] at hx; cases hx
  unfold pyNext; refine wpAny_bind (wpAny_attempt (wpAny_callSpecial?_slot (name := Str.ofString "__next__") hit.typeIs slot_seti_next (wpAny_call_entry slot_seti_next hit.typeIs entry_seti_next ?_ (args_seti_next _))))
  refine wpAny_bind (wpAny_pure ?_)
  refine wpAny_bind (wpAny_fieldsOf hit rfl ?_)
  dsimp only; have hw := W.ob; unfold setEntries; refine wpAny_bind (wpAny_bind (wpAny_setState_of ho (by rw [hw]) W.ft (wpAny_pure ?_)))
  dsimp only; simp only [bne_self_eq_false, Bool.false_eq_true, if_false, Int.toNat_natCast]; refine wpAny_bind (wp_next ho W (Nat.le_of_lt hi) ?_)
  rw [hx]; dsimp only [Option.map]; refine wpAny_bind (wpAny_setField hit rfl (by simp) ?_)
  have h1 : (s.heap.update it (Obj.mapFields (·.setIfInBounds 0 (rawInt (slotAt w t (i + 1) : Nat))))).get? it = some { cls := .type "set_iterator", data := .fields #[.int (slotAt w t (i + 1) : Nat) 0, .int i 0, .ref S, .int es.size 0, .int ep 0] } :=
    Heap.get?_update_self _ hit rfl
  refine wpAny_bind (wpAny_setField (s := { s with heap := _ }) h1 rfl (by simp) ?_)
  have h2 : ((s.heap.update it (Obj.mapFields (·.setIfInBounds 0 (rawInt (slotAt w t (i + 1) : Nat))))).update it (Obj.mapFields (·.setIfInBounds 1 (rawInt ((i : Int) + 1))))).get? it = some { cls := .type "set_iterator", data := .fields #[.int (slotAt w t (i + 1) : Nat) 0, .int ((i : Int) + 1) 0, .ref S, .int es.size 0, .int ep 0] } :=
    Heap.get?_update_self _ h1 rfl
  refine wpAny_pure ⟨_, rfl, wpAny_pure (hQ _ ?_ ((Heap.SameBut.update ..).trans (Heap.SameBut.update ..)))⟩
  exact h2
theorem next_end {it S : Addr} {o : Obj} {es : Array (Int × Value)} {ep : Nat} {t : SetTable} {Q : Option Value → Shared → Prop} (hh : A.handled = none) (hit : IsSetIter s.heap it S (slotAt w t es.size) es.size es.size ep) (ho : s.heap.get? S = some o) (W : WSet w o es ep t)
    (hQ : ∀ h', Heap.ExtBut it s.heap h' → Q none { s with heap := h' }) : wpAny (model prog w) A (pyNext (.ref it)) Q E s := by
  unfold pyNext; refine wpAny_bind (wpAny_attempt (wpAny_callSpecial?_slot (name := Str.ofString "__next__") hit.typeIs slot_seti_next (wpAny_call_entry slot_seti_next hit.typeIs entry_seti_next ?_ (args_seti_next _))))
  refine wpAny_bind (wpAny_pure ?_)
  refine wpAny_bind (wpAny_fieldsOf hit rfl ?_)
  dsimp only; have hw := W.ob; unfold setEntries; refine wpAny_bind (wpAny_bind (wpAny_setState_of ho (by rw [hw]) W.ft (wpAny_pure ?_)))
  dsimp only; simp only [bne_self_eq_false, Bool.false_eq_true, if_false, Int.toNat_natCast]; refine wpAny_bind (wp_next ho W (Nat.le_refl _) ?_)
  rw [Array.getElem?_eq_none (by rw [walkO_size]; exact Nat.le_refl _)]
  dsimp only [Option.map]; refine wpAny_bind (wpAny_setField hit rfl (by simp) ?_)
  refine wpAny_bind ?_
  simp only [newExc, newTuple]; refine wpAny_bind (wpAny_newObj_type ?_ (by size_fits))
  refine wpAny_bind (m := firstArgMember _ _) (wpAny_of_eq (a := Value.none) (by first | rfl | (simp only [firstArgMember]; rfl)) ?_)
  refine wpAny_newObj_type ?_ (by size_fits)
  simp only [raiseNew]; refine wpAny_bind (wpAny_handled ?_)
  rw [show A.in1.handled = none from hh]
  refine wpAny_bind (wpAny_pure (wpAny_throw ?_))
  refine wpAny_bind (wpAny_isInstance (T := "StopIteration") (b := true) ⟨_, Heap.get?_push_size _ rfl, rfl⟩ isSubtype_stop ?_)
  exact wpAny_pure (hQ _ (((Heap.SameBut.update ..).extBut.push _).push _))
theorem iter_set {S : Addr} {o : Obj} {es : Array (Int × Value)} {ep : Nat} {t : SetTable} {Q : VSP} (ho : s.heap.get? S = some o) (W : WSet w o es ep t)
    (hQ : ∀ h', h' = s.heap.push { cls := .type "set_iterator", data := .fields #[.int 0 0, .int 0 0, .ref S, .int es.size 0, .int ep 0] } → Q (.ref s.heap.objs.size) { s with heap := h' }) : wpAny (model prog w) A (pyIter (.ref S)) Q E s := by
  have hw := W.ob; have hT' : s.TypeIs (.ref S) "set" := ⟨_, ho, by rw [hw]⟩
  refine wpAny_pyIter_slot hT' F.slot_set_iter (wpAny_call_entry F.slot_set_iter hT' entry_set_iter' ?_ (F.args_set_iter_1 _))
  unfold Builtin.«frozenset.__iter__»; refine wpAny_bind (wpAny_pure ?_)
  unfold Builtin.Frozenset.sizeOf setEntries; refine wpAny_bind (wpAny_bind (wpAny_bind (wpAny_setState_of ho (by rw [hw]) W.ft (wpAny_pure (wpAny_pure ?_)))))
  rw [setDrawn_eq]; refine wpAny_bind (wpAny_bind (wpAny_setState_of ho (by rw [hw]) W.ft ?_))
  dsimp only; refine wpAny_bind (wp_byText (wpAny_pure ?_))
  simp only [W.pn, Bool.not_true, Bool.false_and, Bool.and_false, Bool.false_eq_true, if_false]; refine wpAny_bind (wpAny_pure ?_)
  refine wpAny_bind (wpAny_setEpoch_of ho (by rw [hw]) W.ft ?_)
  exact wpAny_bind (wpAny_newObj_type (wpAny_pure ⟨_, rfl, "set_iterator", _, ⟨_, Heap.get?_push_size _ rfl, rfl⟩, slot_seti_next.lookup, hQ _ rfl⟩))
end
end L2
namespace L2
open PySem PySem.Spec PyProof.Rows
theorem split_set_len : splitId "set.__len__" = some ("set", "__len__") := by kernel_rfl
section
variable {prog : Program} {w : World} {A : Around} {E : VSP} {s : Shared} {R : Result → Shared → Prop}
theorem hint_set {S : Addr} {Q : Bool → Shared → Prop} (hT : s.TypeIs (.ref S) "set") (h : Q false s) : wpAny (model prog w) A (Builtin.List.listLengthHint (.ref S)) Q E s := by
  unfold Builtin.List.listLengthHint; refine wpAny_bind (wpAny_specialOf hT F.slot_set_len.lookup ?_)
  dsimp only; rw [split_set_len]; dsimp only; refine wpAny_bind (wpAny_isInstance hT sub_set_self ?_)
  (first | refine wpN (by decide) ?_ | simp only [Bool.not_true, Bool.false_eq_true, if_false])
  rw [if_pos]
  rotate_left
  · kernel_rfl
  refine wpAny_bind (wpAny_typeOf hT ?_)
  exact wpAny_pure h
theorem ext_loop {it S D : Addr} {o : Obj} {es : Array (Int × Value)} {ep : Nat} {t : SetTable} (hh : A.in1.handled = none) (W : WSet w o es ep t) (hSi : S ≠ it) (hDi : D ≠ it) (hDS : D ≠ S) (hz : es.size ≤ 100) :
    ∀ (k i : Nat) (s : Shared) (n : Nat), es.size - i = k → i ≤ es.size → IsSetIter s.heap it S (slotAt w t i) i es.size ep → s.heap.get? S = some o → s.heap.get? D = some (seqObj "list" ((((walkO w S ep es).toList.take i).map (·.2)).toArray) n) →
      (∀ h' n', (∀ b ob, b ≠ it → b ≠ D → s.heap.get? b = some ob → h'.get? b = some ob) → h'.get? D = some (seqObj "list" (((walkO w S ep es).toList.map (·.2)).toArray) n') → R (.ok (.ret (.ref D))) { s with heap := h' }) →
      codeAny (model prog w) A (.builtin "list.extend.loop" ⟨[.ref D, .ref it, .ref D], []⟩) R s := by
  have hwz := walkO_size w S ep es; intro k
  induction k with
  | zero =>
    intro i s n hk hi hit ho hD hR; have hin : i = es.size := by fail"o"
    subst hin; refine codeAny_builtin entry_ext_loop ?_
    rw [Around.under_plainId plain_ext_loop _]
    show wpAny _ A.in1 (pyNext (.ref it) >>= _) _ _ s
    refine wpAny_bind (next_end hh hit ho W fun h' hk' => ?_)
    show wpAny _ A.in1 (ret (Value.ref D)) _ _ _
    have et : (walkO w S ep es).toList.take es.size = (walkO w S ep es).toList := List.take_of_length_le (by simp [hwz])
    rw [et] at hD; exact wpAny_pure (hR h' n (fun b ob hb _ e => hk' b ob hb e) (hk' D _ hDi hD))
  | succ k ih =>
    intro i s n hk hi hit ho hD hR; have hlt : i < es.size := by fail"o"
    have hlt2 : i < (walkO w S ep es).size := by fail"o"
    refine codeAny_builtin entry_ext_loop ?_
    rw [Around.under_plainId plain_ext_loop _]
    show wpAny _ A.in1 (pyNext (.ref it) >>= _) _ _ s
    refine wpAny_bind (next_item hit ho W (Array.getElem?_eq_getElem hlt2) fun h' hit' hsb => ?_)
    have hD' : h'.get? D = some (seqObj "list" ((((walkO w S ep es).toList.take i).map (·.2)).toArray) n) := (hsb.2 D hDi).trans hD
    have ho' : h'.get? S = some o := (hsb.2 S hSi).trans ho; have hsl : 200 ≤ sizeLine := by rw [sizeLine_eq]; decide
    show wpAny _ A.in1 (Builtin.List.listUpdate (.ref D) (·.push (walkO w S ep es)[i].2) >>= _) _ _ _
    refine wpAny_bind (listUpdate_at (s := { s with heap := h' }) hD' rfl ?_ (by simp; fail"o") (by simp; fail"o"))
    have hD2 := get?_update_seq hD' (fun xs => xs.push (walkO w S ep es)[i].2)
    have ee : (((walkO w S ep es).toList.take i).map (·.2)).toArray.push (walkO w S ep es)[i].2 = (((walkO w S ep es).toList.take (i + 1)).map (·.2)).toArray := by
      rw [List.take_succ_eq_append_getElem (by simpa using hlt2)]
      simp
    rw [ee] at hD2; refine wpAny_pure ⟨plainId_quiet plain_ext_loop _, ih (i + 1) _ _ (by fail"o") hlt ?_ ?_ hD2 fun h3 n3 hk3 hD3 => ?_⟩
    · exact (Heap.get?_update_other _ _ hDi).trans hit'
    · exact (Heap.get?_update_other _ _ hDS).trans ho'
    · exact hR h3 n3 (fun b ob hb1 hb2 e => hk3 b ob hb1 hb2 ((Heap.get?_update_other _ _ (Ne.symm hb2)).trans ((hsb.2 b hb1).trans e))) hD3
theorem collect_set {S : Addr} {o : Obj} {es : Array (Int × Value)} {ep : Nat} {t : SetTable} {Q : List Value → Shared → Prop} (hh : A.handled = none) (ho : s.heap.get? S = some o) (W : WSet w o es ep t) (hz : es.size ≤ 100)
    (h : ∀ h', (∀ b ob, s.heap.get? b = some ob → h'.get? b = some ob) → s.heap.objs.size ≤ h'.objs.size → Q ((walkO w S ep es).toList.map (·.2)) { s with heap := h' }) : wpAny (model prog w) A (collect (.ref S)) Q E s := by
  have hS := Heap.lt_size ho; unfold collect; refine wpAny_bind (wpAny_runValue (codeAny_builtin entry_proto_collect' ?_))
  show wpAny _ _ (do again (.builtin "list.__iadd__" ⟨[← newList [], .ref S], []⟩)) _ _ s
  refine wpAny_bind (wpAny_newList (wpAny_pure ⟨Code.quiet_builtin _ (by decide +kernel), codeAny_builtin entry_list_iadd' ?_⟩))
  show wpAny _ _ (Builtin.List.listExtendWith (.ref s.heap.objs.size) (.ref S) (.ref s.heap.objs.size)) _ _ { s with heap := s.heap.push (seqObj "list" #[] 0) }
  unfold Builtin.List.listExtendWith; have ho' : (s.heap.push (seqObj "list" #[] 0)).get? S = some o := Heap.get?_push_of_some _ ho
  have hT : Shared.TypeIs { s with heap := s.heap.push (seqObj "list" #[] 0) } (.ref S) "set" := ⟨o, ho', by rw [W.ob]⟩
  refine wpAny_bind (wpAny_typeOf hT ?_)
  have hne : (s.heap.objs.size == S) = false := by
    rw [beq_eq_false_iff_ne]; exact Nat.ne_of_gt hS
  rw [if_neg (by show ¬ ((s.heap.objs.size == S) || _ || _) = true; rw [hne]; decide)]
  refine wpAny_bind (iter_set ho' W fun h1 e1 => ?_)
  have hsz : (s.heap.push (seqObj "list" #[] 0)).objs.size = s.heap.objs.size + 1 := size_push' _ _
  have keep1 : ∀ b ob, (s.heap.push (seqObj "list" #[] 0)).get? b = some ob → h1.get? b = some ob := fun b ob e => by
    rw [e1]; exact Heap.get?_push_of_some _ e
  refine wpAny_bind (wpAny_holding (hint_set (s := { s with heap := h1 }) ⟨o, keep1 _ _ ho', by rw [W.ob]⟩ ?_))
  rw [if_pos]
  rotate_left
  · rfl
  refine wpAny_bind (wpAny_rule ?_)
  have hD1 : h1.get? s.heap.objs.size = some (seqObj "list" #[] 0) := keep1 _ _ (Heap.get?_push_size _ rfl)
  unfold Builtin.List.listTouch; refine wpAny_bind (wpAny_bind (listUpdate_at (s := { s with heap := h1 }) hD1 rfl ?_ (Nat.zero_le _) (by show 1 ≤ _; fail"o")))
  have hD2 := get?_update_seq hD1 (fun xs => xs.push Value.none)
  refine listUpdate_at (s := { s with heap := _ }) hD2 rfl ?_ (by show 1 ≤ sizeLine; rw [sizeLine_eq]; decide) (by show 0 ≤ _; fail"o")
  have hD3 := get?_update_seq hD2 (fun xs => xs.pop)
  have keep3 : ∀ b ob, b ≠ s.heap.objs.size → h1.get? b = some ob → ((h1.update s.heap.objs.size (Obj.mapSeq fun xs => xs.push Value.none)).update s.heap.objs.size (Obj.mapSeq fun xs => xs.pop)).get? b = some ob := fun b ob hb e =>
    (Heap.get?_update_other _ _ (Ne.symm hb)).trans ((Heap.get?_update_other _ _ (Ne.symm hb)).trans e)
  have hI : h1.get? (s.heap.push (seqObj "list" #[] 0)).objs.size = some { cls := .type "set_iterator", data := .fields #[.int 0 0, .int 0 0, .ref S, .int es.size 0, .int ep 0] } := by rw [e1]; exact Heap.get?_push_size _ rfl
  have s0 : slotAt w t 0 = 0 := by unfold slotAt; split <;> rfl
  refine wpAny_pure ⟨plainId_quiet plain_ext_loop _, ext_loop ?hh W (by rw [hsz]; exact Nat.ne_of_lt (Nat.lt_succ_of_lt hS)) (by rw [hsz]; exact Nat.ne_of_lt (Nat.lt_succ_self _)) (Nat.ne_of_gt hS) hz (es.size - 0) 0 _ _ (by fail"o") (Nat.zero_le _) ?it (keep3 _ _ (Nat.ne_of_lt hS) (keep1 _ _ ho')) hD3 fun h' n' hk' hD' => ?fin⟩
  case hh => simp [hh]
  case it => rw [s0]; exact keep3 _ _ (by rw [hsz]; fail"o") hI
  case fin =>
    show wpAny (model prog w) A (do
      let o ← load s.heap.objs.size
      match o.data with
      | .seq xs _ => pure xs.toList
      | _ => unsupported "internal:collect") Q E { s with heap := h' }
    refine wpAny_bind (wpAny_load hD' ?_)
    refine wpAny_pure (h h' (fun b ob e => ?_) (Nat.le_of_lt (Heap.lt_size hD')))
    have hb := Heap.lt_size e; exact hk' b ob (by rw [hsz]; exact Nat.ne_of_lt (Nat.lt_succ_of_lt hb)) (Nat.ne_of_lt hb) (keep3 b ob (Nat.ne_of_lt hb) (keep1 b ob (Heap.get?_push_of_some _ e)))
end
end L2
namespace L2
open PySem PySem.Spec PyProof.Rows PySem.W
section
variable {prog : Program} {w : World} {A : Around} {E : VSP} {s : Shared}
theorem collect_tuple {l : Addr} {vs : List Value} {Q : List Value → Shared → Prop} (hl : IsTup s.heap l vs.toArray)
    (h : Q vs { s with heap := (s.heap.push (seqObj "list" #[] 0)).update s.heap.objs.size (Obj.mapSeq (· ++ vs.toArray)) }) (hsz : vs.length ≤ sizeLine := by size_fits) :
    wpAny (model prog w) A (collect (.ref l)) Q E s := by
  obtain ⟨o, ho, hc, n, hd⟩ := id hl; unfold collect; refine wpAny_bind (wpAny_runValue (codeAny_builtin entry_proto_collect' ?_))
  show wpAny _ _ (do again (.builtin "list.__iadd__" ⟨[← newList [], .ref l], []⟩)) _ _ s
  refine wpAny_bind (wpAny_newList (wpAny_pure ⟨Code.quiet_builtin _ (by decide +kernel), codeAny_builtin entry_list_iadd' ?_⟩))
  show wpAny _ _ (Builtin.List.listExtendWith (.ref s.heap.objs.size) (.ref l) (.ref s.heap.objs.size)) _ _ { s with heap := s.heap.push (seqObj "list" #[] 0) }
  unfold Builtin.List.listExtendWith; have ho' : (s.heap.push (seqObj "list" #[] 0)).get? l = some o := Heap.get?_push_of_some _ ho
  refine wpAny_bind (wpAny_typeOf (T := "tuple") ⟨o, ho', hc⟩ ?_)
  have ht : (Value.type "tuple" == Value.type "tuple") = true := by rfl
  rw [if_pos (by rw [ht]; simp)]
  refine wpAny_bind (listItems_at ho' hd ?_)
  refine wpAny_bind (listItems_at (xs := #[]) (n := 0) (Heap.get?_push_size _ rfl) rfl ?_)
  rw [if_neg (by simp)]
  refine wpAny_bind (listUpdate_at (xs := #[]) (n := 0) (Heap.get?_push_size _ rfl) rfl ?_ (Nat.zero_le _) (by show (#[] ++ vs.toArray).size ≤ sizeLine + 1; simp only [Array.size_append, List.size_toArray, List.length_nil]; fail"o"))
  refine wpAny_pure ?_
  show wpAny (model prog w) A (do
      let o ← load s.heap.objs.size
      match o.data with
      | .seq xs _ => pure xs.toList
      | _ => unsupported "internal:collect") Q E { s with heap := (s.heap.push (seqObj "list" #[] 0)).update s.heap.objs.size (Obj.mapSeq (· ++ vs.toArray)) }
  refine wpAny_bind (wpAny_load (get?_update_seq (Heap.get?_push_size _ rfl) _) ?_)
  show wpAny _ _ (pure ((#[] : Array Value) ++ vs.toArray).toList) Q E _
  rw [show ((#[] : Array Value) ++ vs.toArray).toList = vs by simp]
  exact wpAny_pure h
theorem keep_col {h : Heap} {vs : List Value} (b : Addr) (o : Obj) (e : h.get? b = some o) : ((h.push (seqObj "list" #[] 0)).update h.objs.size (Obj.mapSeq (· ++ vs.toArray))).get? b = some o :=
  (Heap.get?_update_other _ _ (Ne.symm (Nat.ne_of_lt (Heap.lt_size e)))).trans (Heap.get?_push_of_some _ e)
theorem sorted_of {α : Type} {v : Value} {R : Heap → Value → α → Prop} {lt : α → α → Bool} {κ : SortKind} {vs : List Value} {ds : List α} {Q : VSP}
    (hcol : ∀ Q' : List Value → Shared → Prop, (∀ h', (∀ b o, s.heap.get? b = some o → h'.get? b = some o) → s.heap.objs.size ≤ h'.objs.size → Q' vs { s with heap := h' }) → wpAny (model prog w) A.in1 (collect v) Q' E s)
    (h64 : vs.length < 64) (asym : ∀ x y, lt x y = true → lt y x = false) (tran : ∀ x y z, lt y x = false → lt z y = false → lt z x = false)
    (hR : ∀ (h h' : Heap) v d, (∀ b o, h.get? b = some o → o.cls = .type "tuple" → h'.get? b = some o) → R h v d → R h' v d) (hp : Paired (R s.heap) vs ds)
    (hk : ∀ (A' : Around) s', 2 ≤ vs.length → Paired (R s'.heap) vs ds → wpAny (model prog w) A' (keyKind' vs.toArray) (fun κ' s'' => κ' = κ ∧ s'' = s') (fun _ _ => False) s')
    (hlt : ∀ (A' : Around) s' x y d e, R s'.heap x d → R s'.heap y e → wpAny (model prog w) A' (keyLt' κ x y) (fun r s'' => r = lt d e ∧ s'' = s') (fun _ _ => False) s')
    (h : ∀ h' D n vs' ds', s.heap.objs.size ≤ D → (∀ b o, s.heap.get? b = some o → h'.get? b = some o) → h'.get? D = some (seqObj "list" vs'.toArray n) → Sorts lt vs ds vs' ds' → Q (.ref D) { s with heap := h' }) :
    wpAny (model prog w) A (call (.builtin "sorted") [v]) Q E s := by
  refine Calls.call_function_entry kind_sorted plain_sorted entry_sorted (args_sorted1 _) ?_
  unfold Builtin.«sorted»; refine wpAny_bind (m := checkCount "sorted" 1 1 _) (wpAny_pure ?_)
  refine wpAny_bind (hcol _ fun h1 keep1 le1 => ?_)
  have hsz : vs.length ≤ sizeLine := by rw [sizeLine_eq]; fail"o"
  refine wpAny_bind (wpAny_newList ?_ hsz)
  have hoL : (h1.push (seqObj "list" vs.toArray 0)).get? h1.objs.size = some (seqObj "list" vs.toArray 0) := Heap.get?_push_size _ rfl
  refine wpAny_bind (wpAny_holding (wpAny_call_entry slot_list_sort ⟨_, hoL, rfl⟩ entry_list_sort ?body (args_list_sort _)))
  case body =>
    have keep2 : ∀ b o, s.heap.get? b = some o → (h1.push (seqObj "list" vs.toArray 0)).get? b = some o := fun b o e => Heap.get?_push_of_some _ (keep1 b o e)
    have hp2 : Paired (R (h1.push (seqObj "list" vs.toArray 0))) vs ds := Paired.mapP hp fun v d x => hR _ _ v d (fun b o e _ => keep2 b o e) x
    refine sort_tree (s := { s with heap := h1.push (seqObj "list" vs.toArray 0) }) (R := R) hoL h64 asym tran (fun h' v d kp x => hR _ _ v d (fun b o e hc => kp b o (by
      rintro rfl
      have e' : (h1.push (seqObj "list" vs.toArray 0)).get? h1.objs.size = some o := e; rw [hoL] at e'; cases e'; exact absurd (show Value.type "list" = Value.type "tuple" from hc) (by decide)) e) x) hp2 (hk _) (hlt _) fun vs' ds' hs => ?_
    refine ⟨_, rfl, wpAny_pure ⟨_, rfl, ?_⟩⟩
    obtain ⟨e1, ho1⟩ : ∃ e1, ((h1.push (seqObj "list" vs.toArray 0)).update h1.objs.size (Obj.mapSeq fun _ => #[])).get? h1.objs.size = some (seqObj "list" #[] e1) := ⟨_, get?_update_seq hoL (fun _ => #[])⟩
    have ho3 : ((((h1.push (seqObj "list" vs.toArray 0)).update h1.objs.size (Obj.mapSeq fun _ => #[])).push (seqObj "tuple" vs.toArray 0)).push (seqObj "list" #[] 0)).get? h1.objs.size = some (seqObj "list" #[] e1) := Heap.get?_push_of_some _ (Heap.get?_push_of_some _ ho1)
    refine h _ h1.objs.size _ vs' ds' le1 (fun b o e => ?_) (get?_update_seq ho3 (fun _ => vs'.toArray)) hs
    have hne : h1.objs.size ≠ b := Nat.ne_of_gt (Heap.lt_size (keep1 b o e)); exact (Heap.get?_update_other _ _ hne).trans (Heap.get?_push_of_some _ (Heap.get?_push_of_some _ ((Heap.get?_update_other _ _ hne).trans (keep2 b o e))))
theorem col_list {l : Addr} {vs : List Value} (hl : s.heap.IsList l vs.toArray) (hz : vs.length < 64) (Q' : List Value → Shared → Prop) (h : ∀ h', (∀ b o, s.heap.get? b = some o → h'.get? b = some o) → s.heap.objs.size ≤ h'.objs.size → Q' vs { s with heap := h' }) :
    wpAny (model prog w) A (collect (.ref l)) Q' E s :=
  collect_list hl (h _ (fun b o e => keep_col b o e) (by rw [Heap.size_update, size_push']; exact Nat.le_succ _)) (by rw [sizeLine_eq]; fail"o")
theorem col_tuple {l : Addr} {vs : List Value} (hl : IsTup s.heap l vs.toArray) (hz : vs.length < 64) (Q' : List Value → Shared → Prop) (h : ∀ h', (∀ b o, s.heap.get? b = some o → h'.get? b = some o) → s.heap.objs.size ≤ h'.objs.size → Q' vs { s with heap := h' }) :
    wpAny (model prog w) A (collect (.ref l)) Q' E s :=
  collect_tuple hl (h _ (fun b o e => keep_col b o e) (by rw [Heap.size_update, size_push']; exact Nat.le_succ _)) (by rw [sizeLine_eq]; fail"o")
theorem sortedT {v : Value} {vs : List Value} {kss : LLI} {Q : VSP}
    (hcol : ∀ Q' : List Value → Shared → Prop, (∀ h', (∀ b o, s.heap.get? b = some o → h'.get? b = some o) → s.heap.objs.size ≤ h'.objs.size → Q' vs { s with heap := h' }) → wpAny (model prog w) A.in1 (collect v) Q' E s)
    (h64 : vs.length < 64) (hp : ITups s.heap vs kss) (hn : 2 ≤ vs.length → ∀ ks ∈ kss, ks ≠ [])
    (h : ∀ h' D n vs' kss', s.heap.objs.size ≤ D → (∀ b o, s.heap.get? b = some o → h'.get? b = some o) → h'.get? D = some (seqObj "list" vs'.toArray n) → Sorts ltL vs kss vs' kss' → Q (.ref D) { s with heap := h' }) :
    wpAny (model prog w) A (call (.builtin "sorted") [v]) Q E s :=
  sorted_of (R := ITup) (lt := ltL) (κ := tuples' true) hcol h64 ltL_asym ltL_tran (fun _ _ _ _ k x => x.keep k) hp (fun A' s' h2 hp' => kind_tup hp' (hn h2) (by fail"o") ⟨rfl, rfl⟩) (fun A' s' x y d e hx hy => lt_tup hx hy ⟨rfl, rfl⟩) h
theorem sortedI {v : Value} {vs : List Value} {ns : List Int} {Q : VSP}
    (hcol : ∀ Q' : List Value → Shared → Prop, (∀ h', (∀ b o, s.heap.get? b = some o → h'.get? b = some o) → s.heap.objs.size ≤ h'.objs.size → Q' vs { s with heap := h' }) → wpAny (model prog w) A.in1 (collect v) Q' E s)
    (h64 : vs.length < 64) (hp : Paired (fun (v : Value) (d : Int) => ∃ t, v = .int d t) vs ns)
    (h : ∀ h' D n vs' ns', s.heap.objs.size ≤ D → (∀ b o, s.heap.get? b = some o → h'.get? b = some o) → h'.get? D = some (seqObj "list" vs'.toArray n) → Sorts (fun a b : Int => decide (a < b)) vs ns vs' ns' → Q (.ref D) { s with heap := h' }) :
    wpAny (model prog w) A (call (.builtin "sorted") [v]) Q E s := by
  refine sorted_of (R := fun _ (v : Value) (d : Int) => ∃ t, v = .int d t) (lt := fun a b : Int => decide (a < b)) (κ := oneType') hcol h64 (fun x y hx => by simp at hx ⊢; fail"o") (fun x y z h1 h2 => by simp at h1 h2 ⊢; fail"o") (fun _ _ _ _ _ x => x) hp (fun A' s' h2 hp' => ?_) (fun A' s' x y d e hx hy => ?_) h
  · refine kas_kind (T := .type "int") h2 (fun v hv => ?_) (by decide) (by decide) ⟨rfl, rfl⟩
    obtain ⟨i, hi, rfl⟩ := List.getElem_of_mem hv; obtain ⟨t, e⟩ := Paired.at i hi (by rw [← Paired.length hp']; exact hi) hp'
    rw [e]; exact .now
  · obtain ⟨t, rfl⟩ := hx
    obtain ⟨u, rfl⟩ := hy; exact kat_lt_int ⟨rfl, rfl⟩
end
end L2
namespace L2
open PySem PySem.Spec PyProof.Rows PySem.W
theorem perm_of_map {α β : Type} {f : α → β} : ∀ {l m : List β}, l.Perm m → ∀ ks : List α, m = ks.map f → ∃ ks' : List α, ks'.Perm ks ∧ l = ks'.map f := by
  intro l m h
  induction h with
  | nil => intro ks e; exact ⟨ks, .refl _, e⟩
  | @cons x l m _ ih =>
    intro ks e
    cases ks with
    | nil => cases e
    | cons k ks =>
      rw [List.map_cons] at e; injection e with e1 e2
      obtain ⟨ks', p, e3⟩ := ih ks e2; exact ⟨k :: ks', p.cons k, by rw [List.map_cons, e1, e3]⟩
  | swap x y l =>
    intro ks e
    match ks, e with
    | a :: b :: r, e =>
      rw [List.map_cons, List.map_cons] at e; injection e with e1 e2
      injection e2 with e3 e4
      exact ⟨b :: a :: r, List.Perm.swap _ _ _, by rw [List.map_cons, List.map_cons, e1, e3, e4]⟩
  | trans _ _ ih1 ih2 =>
    intro ks e; obtain ⟨k2, p2, e2⟩ := ih2 ks e; obtain ⟨k1, p1, e1⟩ := ih1 k2 e2; exact ⟨k1, p1.trans p2, e1⟩
theorem ints_vals : ∀ {ns : List Int} {us : List Value}, Vals (ns.map V.int) us → IntsAre us ns
  | [], _, h => by cases h; exact .nil
  | n :: r, _, h => by
    cases h with
    | cons a b =>
      obtain ⟨t, rfl⟩ := a; exact .cons n t (ints_vals b)
theorem ints_pair {ns : List Int} {us : List Value} (h : IntsAre us ns) : Paired (fun (v : Value) (d : Int) => ∃ t, v = .int d t) us ns := by
  induction h with
  | nil => exact .nil
  | cons n t h ih => exact .cons ⟨t, rfl⟩ ih
theorem pair_ints {ns : List Int} {us : List Value} (h : Paired (fun (v : Value) (d : Int) => ∃ t, v = .int d t) us ns) : IntsAre us ns := by
  induction h with
  | nil => exact .nil
  | cons r t ih => obtain ⟨u, rfl⟩ := r; exact .cons _ u ih
theorem ints_items {prog : Program} {w : World} : ∀ {ns : List Int} {us : List Value}, IntsAre us ns → ItemsAre (intKind prog w) ns us
  | _, _, .nil => .nil
  | _, _, .cons n t r => .cons (intKind_is _ _ _ _) (ints_items r)
section
variable {X : Cx} {pins : Pins} {σ : St} {H : Hp} {s : Shared}
theorem Inv.itup (I : Inv X pins σ H s) {v : V} {u : Value} {ks : List Int} (h : Is X.K H v (dM ks)) (r : RelV v u) : ITup s.heap u ks ∧ ∃ a, u = .ref a ∧ IsTupleKey (intKind X.prog X.w) s.heap ks a := by
  obtain ⟨a, rfl, hq⟩ := is_dM.mp h; cases r; obtain ⟨its, rv, ⟨o, e, c, n, dd⟩, _⟩ := I.tuple (SqT.of hq); have hi := ints_vals rv; exact ⟨⟨a, o, n, its, rfl, e, c, dd, hi⟩, a, rfl, o, _, n, e, c, dd, by simpa using ints_items hi⟩
theorem Inv.itups (I : Inv X pins σ H s) : ∀ {vs : List V} {us : List Value} {kss : LLI}, IsAll X.K H vs (kss.map dM) → Vals vs us → ITups s.heap us kss
  | _, _, [], h, r => by
    rw [List.map_nil] at h; cases h; cases r; exact .nil
  | _, _, ks :: kss, h, r => by
    rw [List.map_cons] at h
    cases h with
    | cons h1 h2 =>
      cases r with
      | cons r1 r2 => exact .cons (I.itup h1 r1).1 (Inv.itups I h2 r2)
end
theorem perm_isAll {K : PySem.W.Frag} {H : Hp} {α : Type} {f : α → PyData} {lt : α → α → Bool} {vs : List V} {us us' : List Value} {ds ds' : List α} (h : IsAll K H vs (ds.map f)) (r : Vals vs us) (S : Sorts lt us ds us' ds') :
    ∃ vs', Vals vs' us' ∧ IsAll K H vs' (ds'.map f) := by
  have key : ∀ {vs : List V} {us : List Value} {ds : List α}, IsAll K H vs (ds.map f) → Vals vs us → Paired (fun (u : Value) (d : α) => ∃ v, RelV v u ∧ Is K H v (f d)) us ds := by
    intro vs us ds
    induction ds generalizing vs us with
    | nil =>
      intro h r; rw [List.map_nil] at h; cases h; cases r; exact .nil
    | cons d ds ih =>
      intro h r; rw [List.map_cons] at h
      cases h with
      | cons h1 h2 =>
        cases r with
        | cons r1 r2 => exact .cons ⟨_, r1, h1⟩ (ih h2 r2)
  have p := S.paired (key h r)
  have back : ∀ {us : List Value} {ds : List α}, Paired (fun (u : Value) (d : α) => ∃ v, RelV v u ∧ Is K H v (f d)) us ds → ∃ vs, Vals vs us ∧ IsAll K H vs (ds.map f) := by
    intro us ds q
    induction q with
    | nil => exact ⟨[], .nil, .nil⟩
    | cons h1 _ ih =>
      obtain ⟨v, r1, i1⟩ := h1; obtain ⟨vs, r2, i2⟩ := ih; exact ⟨v :: vs, .cons r1 r2, .cons i1 i2⟩
  exact back p
theorem Sorts.len {α : Type} {lt : α → α → Bool} {vs vs' : List Value} {ds ds' : List α} (h : Sorts lt vs ds vs' ds') : vs'.length = vs.length := by
  obtain ⟨p, P, e1, _⟩ := h.ex; rw [e1, List.length_map, Array.length_toList, P.size]
section
variable {X : Cx}
def rSortedI (K : PySem.W.Frag) : List V → Hp → VK → Prop := fun xs H Q => ∃ (p : Addr) (ns : List Int), xs = [.ref p] ∧ (SqL K H p (ns.map V.int) ∨ SqT K H p (ns.map V.int)) ∧ ns.length < 64 ∧
  ∀ (ns' : List Int) (D : Addr), ns'.Perm ns → ns'.Pairwise (· ≤ ·) → H D = none → Q (.ref D) (upd H D (.lst (ns'.map V.int)))
theorem call_sortedI : CallR X (.builtin "sorted") (rSortedI X.K) := by
  intro pins s σ H xs us Q I r h; obtain ⟨p, ns, rfl, hq, hn, q⟩ := h; obtain ⟨u, rfl, rx⟩ := vals1 r; cases rx
  have fin : ∀ (its : List Value), Vals (ns.map V.int) its → ∀ h' D n vs' ns', s.heap.objs.size ≤ D → (∀ b o, s.heap.get? b = some o → h'.get? b = some o) → h'.get? D = some (seqObj "list" vs'.toArray n) → Sorts (fun a b : Int => decide (a < b)) its ns vs' ns' →
      EP X pins σ Q (.ref D) { s with heap := h' } := by
    intro its rv h' D n vs' ns' hD kp e S; have hi := ints_vals rv; have hi' := pair_ints (S.paired (ints_pair hi)); have hl := S.len; have hl2 := hi.length; have hl3 := S.perm.length_eq; refine ⟨.ref D, _, I.laid (t' := s.toks) kp hD (show ObjOk X.prog X.w _ h' _ (.lst (ns'.map V.int)) from ⟨?_, vs', n, vals_ints hi', e⟩), rfl, q ns' D S.perm (S.up.imp fun {a b} z => ?_) (I.hok.fresh hD)⟩
    · rw [List.length_map, sizeLine_eq]; fail"o"
    · simp at z; exact z
  rcases hq with hq | hq
  · obtain ⟨its, rv, pl, hz⟩ := I.list hq
    have hl := rv.length; rw [List.length_map] at hl; exact sortedI (col_list pl.isList (by fail"o")) (by fail"o") (ints_pair (ints_vals rv)) (fin its rv)
  · obtain ⟨its, rv, pl, hz⟩ := I.tuple hq
    have hl := rv.length; rw [List.length_map] at hl; exact sortedI (col_tuple pl (by fail"o")) (by fail"o") (ints_pair (ints_vals rv)) (fin its rv)
def rSortedT (K : PySem.W.Frag) : List V → Hp → VK → Prop := fun xs H Q => ∃ (p : Addr) (vs : List V) (kss : LLI) (Hm : Hp), xs = [.ref p] ∧ Same Hm H ∧ (SqL K H p vs ∨ SqT K H p vs) ∧ IsAll K Hm vs (kss.map dM) ∧ kss.length < 64 ∧ (2 ≤ kss.length → ∀ ks ∈ kss, ks ≠ []) ∧
  ∀ (vs' : List V) (kss' : LLI) (D : Addr), kss'.Perm kss → kss'.Pairwise (fun a b => ltL b a = false) → IsAll K Hm vs' (kss'.map dM) → H D = none → Q (.ref D) (upd H D (.lst vs'))
theorem fin_sortedT {pins : Pins} {σ : St} {H Hm : Hp} {s : Shared} {Q : VK} (I : Inv X pins σ H s) {vs : List V} {its : List Value} {kss : LLI} (hr : IsAll X.K Hm vs (kss.map dM)) (rv : Vals vs its) (hn : kss.length < 64)
    (q : ∀ (vs' : List V) (kss' : LLI) (D : Addr), kss'.Perm kss → kss'.Pairwise (fun a b => ltL b a = false) → IsAll X.K Hm vs' (kss'.map dM) → H D = none → Q (.ref D) (upd H D (.lst vs'))) :
    ∀ h' D n vs' kss', s.heap.objs.size ≤ D → (∀ b o, s.heap.get? b = some o → h'.get? b = some o) → h'.get? D = some (seqObj "list" vs'.toArray n) → Sorts ltL its kss vs' kss' → EP X pins σ Q (.ref D) { s with heap := h' } := by
  intro h' D n vs' kss' hD kp e S; obtain ⟨ws, r', i'⟩ := perm_isAll hr rv S; have hl := r'.length; have hl2 := i'.length; have hl3 := S.perm.length_eq; rw [List.length_map] at hl2; exact ⟨.ref D, _, I.laid (t' := s.toks) kp hD (show ObjOk X.prog X.w _ h' _ (.lst ws) from ⟨by rw [sizeLine_eq]; fail"o", vs', n, r', e⟩), rfl, q ws kss' D S.perm S.up i' (I.hok.fresh hD)⟩
theorem call_sortedT : CallR X (.builtin "sorted") (rSortedT X.K) := by
  intro pins s σ H xs us Q I r h; obtain ⟨p, vs, kss, Hm, rfl, sm, hq, hr, hn, hne, q⟩ := h; obtain ⟨u, rfl, rx⟩ := vals1 r; cases rx; have hl2 := hr.length; rw [List.length_map] at hl2; rcases hq with hq | hq
  · obtain ⟨its, rv, pl, hz⟩ := I.list hq
    have hl := rv.length; exact sortedT (col_list pl.isList (by fail"o")) (by fail"o") (I.itups (sm.isAll hr) rv) (fun h2 => hne (by fail"o")) (fin_sortedT I hr rv hn q)
  · obtain ⟨its, rv, pl, hz⟩ := I.tuple hq
    have hl := rv.length; exact sortedT (col_tuple pl (by fail"o")) (by fail"o") (I.itups (sm.isAll hr) rv) (fun h2 => hne (by fail"o")) (fin_sortedT I hr rv hn q)
def SetT (w : World) (a : Addr) (xs : List (List Int × Addr)) : HO := .ext fun h => ∃ o, h.get? a = some o ∧ TSetO o (!(w.params.followText "set-order")) xs
theorem setT_ok {P : Program} {w : World} {H : Hp} {h : Heap} {a : Addr} {xs : List (List Int × Addr)} : ObjOk P w H h a (SetT w a xs) ↔ ∃ o, h.get? a = some o ∧ TSetO o (!(w.params.followText "set-order")) xs := by
  constructor
  · intro z; exact z.1
  · rintro ⟨o, e, t⟩
    exact ⟨⟨o, e, t⟩, ⟨o, e⟩, fun h1 h2 ⟨o', e', t'⟩ k => ⟨o', k o' e', t'⟩⟩
def refs (xs : List (List Int × Addr)) : List V := xs.map fun q => V.ref q.2
theorem refs_vals : ∀ {xs : List (List Int × Addr)}, Vals (refs xs) (xs.map fun q => Value.ref q.2)
  | [] => .nil
  | _ :: r => .cons rfl refs_vals
def rSetT (K : PySem.W.Frag) (w : World) : List V → Hp → VK → Prop := fun xs H Q => ∃ (p : Addr) (ks : List (List Int × Addr)), xs = [.ref p] ∧ SqL K H p (refs ks) ∧ IsAll K H (refs ks) (ks.map fun q => dM q.1) ∧ ks.length ≤ 60 ∧ (ks.map fun q => hT q.1).Nodup ∧
  ∀ S, H S = none → Q (.ref S) (upd H S (SetT w S ks))
theorem isAll_mem {K : PySem.W.Frag} {H : Hp} : ∀ {ks : List (List Int × Addr)}, IsAll K H (refs ks) (ks.map fun q => dM q.1) → ∀ q ∈ ks, Is K H (.ref q.2) (dM q.1)
  | [], _, q, hq => by simp at hq
  | a :: r, h, q, hq => by
    cases h with
    | cons h1 h2 =>
      rcases List.mem_cons.mp hq with rfl | hq
      · exact h1
      · exact isAll_mem h2 q hq
theorem call_setT' (hc : X.calm = true) (hu : X.A.units + 64 < cLine) : CallR X (.type "set") (rSetT X.K X.w) := by
  intro pins s σ H xs us Q I r h; obtain ⟨p, ks, rfl, hq, hr, hn, hd, q⟩ := h; obtain ⟨u, rfl, rx⟩ := vals1 r; cases rx; obtain ⟨its, rv, pl, hz⟩ := I.list hq
  have e : its = ks.map fun q => Value.ref q.2 := by
    have : ∀ {ks : List (List Int × Addr)} {its : List Value}, Vals (refs ks) its → its = ks.map fun q => Value.ref q.2 := by
      intro ks
      induction ks with
      | nil => intro its h; cases h; rfl
      | cons a r ih =>
        intro its h
        cases h with
        | cons h1 h2 => rw [ih h2]; cases h1; rfl
    exact this rv
  subst e; refine call_setT (I.ok.hd hc) (by fail"o") pl.isList (fun q' hq' => ?_) hd (by fail"o") fun h' o tk ho' hts kp => ?_
  · obtain ⟨_, a, e, k⟩ := I.itup (isAll_mem hr q' hq') rfl
    cases e; exact k
  · exact ⟨.ref _, _, I.laid (t' := tk) (fun b u e => kp b u (Heap.lt_size e) e) (Nat.le_refl _) (setT_ok.mpr ⟨o, ho', hts⟩), rfl, q _ (I.hok.fresh (Nat.le_refl _))⟩
def rSortedS (K : PySem.W.Frag) (w : World) : List V → Hp → VK → Prop := fun xs H Q => ∃ (S : Addr) (ks : List (List Int × Addr)) (Hm : Hp), xs = [.ref S] ∧ Same Hm H ∧ H S = some (SetT w S ks) ∧ IsAll K Hm (refs ks) (ks.map fun q => dM q.1) ∧ ks.length ≤ 60 ∧ (∀ q ∈ ks, q.1 ≠ []) ∧
  ∀ (vs' : List V) (kss' : LLI) (D : Addr), kss'.Perm (ks.map (·.1)) → kss'.Pairwise (fun a b => ltL b a = false) → IsAll K Hm vs' (kss'.map dM) → H D = none → Q (.ref D) (upd H D (.lst vs'))
theorem isAll_of_mem {K : PySem.W.Frag} {H : Hp} : ∀ {ks : List (List Int × Addr)}, (∀ q ∈ ks, Is K H (.ref q.2) (dM q.1)) → IsAll K H (refs ks) ((ks.map (·.1)).map dM)
  | [], _ => .nil
  | a :: r, h => .cons (h a (List.mem_cons_self ..)) (isAll_of_mem fun q hq => h q (List.mem_cons_of_mem _ hq))
theorem call_sortedS (hc : X.calm = true) : CallR X (.builtin "sorted") (rSortedS X.K X.w) := by
  intro pins s σ H xs us Q I r h; obtain ⟨S, ks, Hm, rfl, sm, hS, hr, hn, hne, q⟩ := h; obtain ⟨u, rfl, rx⟩ := vals1 r; cases rx; obtain ⟨o, ho, hts⟩ := setT_ok.mp (I.hok S _ hS); obtain ⟨es, ep, t, rfl, P, hfit, hps, hpn, hld, hperm⟩ := hts.ex; have W : WSet X.w { cls := .type "set", dict := none, data := .set es ep t } es ep t := ⟨rfl, P, fits_of P hfit hps, hps, hpn, hld⟩
  have hz : es.size = ks.length := by
    have := hperm.length_eq; simpa using this
  have hw : (walkO X.w S ep es).toList.Perm (ks.map fun q => (hT q.1, Value.ref q.2)) := (walkO_perm _ _ _ _).trans hperm
  have ex : ∀ {l : List (Int × Value)} {ks : List (List Int × Addr)}, l.Perm (ks.map fun q => (hT q.1, Value.ref q.2)) → ∃ ks' : List (List Int × Addr), ks'.Perm ks ∧ l = ks'.map fun q => (hT q.1, Value.ref q.2) := by
    intro l ks hp; exact perm_of_map hp ks rfl
  obtain ⟨ks', hp', ew⟩ := ex hw; have ev : (walkO X.w S ep es).toList.map (·.2) = ks'.map fun q => Value.ref q.2 := by rw [ew, List.map_map]; rfl
  have hr' : IsAll X.K Hm (refs ks') ((ks'.map (·.1)).map dM) := isAll_of_mem fun q' hq' => isAll_mem hr q' (hp'.mem_iff.mp hq')
  have hl' := hp'.length_eq; refine sortedT (vs := ks'.map fun q => Value.ref q.2) (kss := ks'.map (·.1)) (fun Q' h => ?_) (by rw [List.length_map]; fail"o") (I.itups (sm.isAll hr') refs_vals) (fun _ k hk => ?_) (fin_sortedT I hr' refs_vals (by rw [List.length_map]; fail"o") fun vs' kss' D p1 p2 p3 p4 => q vs' kss' D (p1.trans (hp'.map _)) p2 p3 p4)
  · refine collect_set (by show X.A.in1.handled = none; simp [I.ok.hd hc]) ho W (by fail"o") fun h' kp le => ?_
    rw [ev]; exact h h' kp le
  · obtain ⟨q', hq', rfl⟩ := List.mem_map.mp hk
    exact hne q' (hp'.mem_iff.mp hq')
end
end L2
namespace L2
open PySem PySem.Spec PyProof.Rows PySem.W
section
variable {X : Cx} {a b c d : Expr} {ta tb tc td : TE} {pos : Pos}
def tChain3 (r r' r'' : R2) (ta tb tc td : TE) : TE := fun σ H Q => ta σ H fun x H1 => tb σ H1 fun y H2 => r x y H2 fun z H3 => ∃ k, z = .bl k ∧
  (if k = true then tc σ H3 fun w' H4 => r' y w' H4 fun z' H5 => ∃ k', z' = .bl k' ∧ (if k' = true then td σ H5 fun w'' H6 => r'' w' w'' H6 Q else Q (.bl false) H5) else Q (.bl false) H3)
theorem pe_chain3 {op op' op'' : CmpOp} {r r' r'' : R2} (ho : OpR X (compareOp op) r) (ho' : OpR X (compareOp op') r') (ho'' : OpR X (compareOp op'') r'') (ha : PE X a ta) (hb : PE X b tb) (hc : PE X c tc) (hd : PE X d td)
    (hm : lastMarks [op, op', op''] [b, c, d] = false := by with_unfolding_all rfl) : PE X (.Compare a [op, op', op''] [b, c, d] pos) (tChain3 r r' r'' ta tb tc td) := by
  intro pins s σ H Q I h
  refine Compare_chain (thn (ha pins s σ H _ I h) fun v s1 ⟨x, H1, I1, r1, q1⟩ => chain_link (thn (hb pins s1 σ H1 _ I1 q1) fun u s2 ⟨y, H2, I2, r2, q2⟩ =>
    thn (ho pins s2 σ H2 x y v u _ I2 r1 r2 q2) fun d s3 ⟨z, H3, I3, r3, k, e, q3⟩ => ?_)) hm
  subst e; cases r3; refine wpAny_truthy_bool ?_
  cases k with
  | false => exact ite_ff ⟨.bl false, H3, I3, rfl, q3⟩
  | true =>
    refine ite_tt (chain_link (thn (hc pins s3 σ H3 _ I3 q3) fun u' s4 ⟨y', H4, I4, r4, q4⟩ => thn (ho' pins s4 σ H4 y y' u u' _ I4 r2 r4 q4) fun d' s5 hz0 => ?_))
    obtain ⟨z', H5, I5, r5, k', e', q5⟩ := hz0; subst e'; cases r5; refine wpAny_truthy_bool ?_
    cases k' with
    | false => exact ite_ff ⟨.bl false, H5, I5, rfl, q5⟩
    | true => exact ite_tt (chain_last (thn (hd pins s5 σ H5 _ I5 q5) fun w' s6 ⟨z'', H6, I6, r6, q6⟩ => ho'' pins s6 σ H6 y' z'' u' w' Q I6 r4 r6 q6))
end
section
variable {prog : Program} {w : World} {A : Around} {E : VSP} {s : Shared}
inductive GeJ (prog : Program) (w : World) (s : Shared) (x y : List Int) (l1 l2 : Nat) {β : Type} (r : Option β) (rest : List (Value × Value)) (s' : Shared) : Prop
  | mk (c0 : r = none) (c1 : s' = s) (x' y' : List Int) (xs' ys' : List Value) (c2 : rest = List.zip xs' ys') (c3 : ItemsAre (intKind prog w) x' xs') (c4 : ItemsAre (intKind prog w) y' ys') (c5 : ltL x' y' = ltL x y) (c6 : (decide (xs'.length ≥ ys'.length)) = (decide (l1 ≥ l2))) : GeJ prog w s x y l1 l2 r rest s'
theorem ge_tree {x y : List Int} {a b : Addr} {P : PySem.Fin → Shared → Prop} (hx : IsTupleKey (intKind prog w) s.heap x a) (hy : IsTupleKey (intKind prog w) s.heap y b) (h : P (.done (.ret (.bool (!ltL x y)))) s) :
    wpAny (model prog w) A (Builtin.«tuple.__ge__» ⟨[.ref a, .ref b], []⟩) P E s := by
  have hTb := hy.typeIs; obtain ⟨oa, xs, na, hoa, _, hda, hia⟩ := hx; obtain ⟨ob, ys, nb, hob, _, hdb, hib⟩ := hy
  show wpAny _ _ (isInstance (.ref b) (.type "tuple") >>= _) _ _ s
  refine wpAny_bind (wpAny_isInstance hTb isSubtype_tuple_tuple ?_)
  (first | refine wpN (by decide) ?_ | simp only [Bool.not_true, Bool.false_eq_true, if_false])
  refine wpAny_bind (wpAny_tupleItemsOf hoa hda ?_)
  refine wpAny_bind (wpAny_tupleItemsOf hob hdb ?_)
  refine wpAny_bind ?_
  refine wpAny_forIn_list _
    (fun rest r s' => GeJ prog w s x y xs.size ys.size r.1 rest s')
    _ ?_ ?_ _ _ ⟨rfl, rfl, x, y, xs.toList, ys.toList, rfl, hia, hib, rfl, by simp⟩
  · rintro ⟨u, v⟩ rest r s' ⟨hr, rfl, x', y', xs', ys', hz, hx', hy', hdec, hlen⟩
    cases hx' with
    | nil => simp at hz
    | @cons k1 u' x'' xs'' h1 hx'' =>
      cases hy' with
      | nil => simp at hz
      | @cons k2 v' y'' ys'' h2 hy'' =>
        simp only [List.zip_cons_cons, List.cons.injEq, Prod.mk.injEq] at hz; obtain ⟨⟨rfl, rfl⟩, rfl⟩ := hz; refine wpAny_bind ((intKind prog w).eqBool (a := k1) (b := k2) h1 h2 ?_)
        rw [show ltL (k1 :: x'') (k2 :: y'') = if k1 = k2 then ltL x'' y'' else decide (k1 < k2) from rfl] at hdec
        by_cases hk : k1 = k2
        · subst hk
          rw [decide_eq_true rfl]; rw [if_pos rfl] at hdec
          (first | refine wpN (by decide) ?_ | simp only [Bool.not_true, Bool.false_eq_true, if_false])
          exact wpAny_pure ⟨rfl, rfl, x'', y'', xs'', ys'', rfl, hx'', hy'', hdec, by simpa using hlen⟩
        · rw [decide_eq_false hk]
          rw [if_neg hk] at hdec
          (first | refine wpY (by decide) ?_ | simp only [Bool.not_false, if_true])
          obtain ⟨t1, rfl⟩ := Value.isInt_shape h1; obtain ⟨t2, rfl⟩ := Value.isInt_shape h2; refine wpAny_bind (wpAny_rule (wpAny_bind (ge_int (wpAny_bind (wpAny_pure (wpAny_pure ?_))))))
          refine wpAny_pure ?_
          have e : decide (k2 ≤ k1) = !ltL x y := by
            rw [← hdec]
            by_cases q : k1 < k2
            · rw [decide_eq_true q, decide_eq_false (by fail"o")]; rfl
            · rw [decide_eq_false q, decide_eq_true (by fail"o")]; rfl
          rw [e]; exact h
  · rintro ⟨r1, r2⟩ s' ⟨hr, rfl, x', y', xs', ys', hz, hx', hy', hdec, hlen⟩
    simp only at hr; subst hr; refine wpAny_pure ?_
    have hfin : (decide (xs.size ≥ ys.size)) = !ltL x y := by
      rw [← hdec, ← hlen]
      cases hx' with
      | nil =>
        cases hy' with
        | nil => rfl
        | cons _ _ => simp [ltL]
      | cons _ _ =>
        cases hy' with
        | nil => simp [ltL]
        | cons _ _ => simp at hz
    show P (.done (.ret (.bool (decide (xs.size ≥ ys.size))))) s'
    rw [hfin]; exact h
end
section
variable {X : Cx}
def rGeT (X : Cx) : R2 := fun x y H Q => ∃ ks ls, Is X.K H x (dM ks) ∧ Is X.K H y (dM ls) ∧ Q (.bl (!ltL ks ls)) H
theorem op_geT (hu : X.A.units + 64 < cLine) : OpR X (compareOp .GtE) (rGeT X) := by
  intro pins s σ H x y v u Q I rx ry h; obtain ⟨ks, ls, hx, hy, q⟩ := h; obtain ⟨_, a, rfl, ka⟩ := I.itup hx rx; obtain ⟨_, b, rfl, kb⟩ := I.itup hy ry
  exact wpAny_richCompare_same_room (op := .GtE) ka.typeIs kb.typeIs F.slot_tuple_ge
      (wpAny_call_entry F.slot_tuple_ge ka.typeIs F.entry_tuple_ge (ge_tree ka kb ⟨_, rfl, (fun e => nomatch e), .bl _, H, I, rfl, q⟩) (F.args_tuple_ge_2 _ _)) (by fail"o")
def rCatE (K : PySem.W.Frag) : R2 := fun x y H Q => ∃ a b xs zs, x = .ref a ∧ y = .ref b ∧ SqT K H a xs ∧ SqT K H b zs ∧ xs.length + zs.length ≤ sizeLine ∧ (xs = [] → Q (.ref b) H) ∧ (xs ≠ [] → zs = [] → Q (.ref a) H) ∧ ∀ p, H p = none → Q (.ref p) (upd H p (.tup (xs ++ zs)))
theorem op_catE : OpR X (binaryOp .Add) (rCatE X.K) := by
  intro pins s σ H x y v u Q I rx ry h; obtain ⟨a, b, xs, zs, rfl, rfl, hx, hy, hz, q0, q1, q2⟩ := h; cases rx; cases ry; obtain ⟨its, r1, p1, z1⟩ := I.tuple hx; obtain ⟨its2, r2, p2, z2⟩ := I.tuple hy; have l1 := r1.length; have l2 := r2.length; obtain ⟨⟨cls, dd, data, sl⟩, ho, hc, n, hd⟩ := id p1; obtain ⟨⟨cls2, dd2, data2, sl2⟩, ho2, hc2, n2, hd2⟩ := id p2; simp only at hc hd hc2 hd2; subst hc hd hc2 hd2
  by_cases hv : its = []
  · exact concat_meets ⟨_, ho, rfl⟩ ⟨_, ho2, rfl⟩ noFill_tuple_add seq_tuple_add PySem.F.slot_tuple_add PySem.F.entry_tuple_add (PySem.F.args_tuple_add_2 _ _)
      (tuple_addW0 a b its.toArray its2.toArray n n2 dd dd2 sl sl2 (by simp [hv])) ⟨ho, ho2, .ref b, H, I, rfl, q0 (List.eq_nil_of_length_eq_zero (by rw [l1, hv]; rfl))⟩
  · have hv' : xs ≠ [] := fun e => hv (List.eq_nil_of_length_eq_zero (by rw [← l1, e]; rfl))
    by_cases hw : its2 = []
    · exact concat_meets ⟨_, ho, rfl⟩ ⟨_, ho2, rfl⟩ noFill_tuple_add seq_tuple_add PySem.F.slot_tuple_add PySem.F.entry_tuple_add (PySem.F.args_tuple_add_2 _ _)
        (tuple_addW1 a b its.toArray its2.toArray n n2 dd dd2 sl sl2 (by simpa using hv) (by simp [hw])) ⟨ho, ho2, .ref a, H, I, rfl, q1 hv' (List.eq_nil_of_length_eq_zero (by rw [l2, hw]; rfl))⟩
    · refine concat_meets ⟨_, ho, rfl⟩ ⟨_, ho2, rfl⟩ noFill_tuple_add seq_tuple_add PySem.F.slot_tuple_add PySem.F.entry_tuple_add (PySem.F.args_tuple_add_2 _ _)
        (tuple_addW2 a b its.toArray its2.toArray n n2 dd dd2 sl sl2 (by simpa using hv) (by simpa using hw) (by rw [List.size_toArray, List.size_toArray]; fail"o")) ⟨ho, ho2, ?_⟩
      have e : its.toArray ++ its2.toArray = (its ++ its2).toArray := by simp
      rw [e]; exact ⟨.ref s.heap.objs.size, _, I.laid (t' := s.toks) (fun b o e => Heap.get?_push_of_some _ e) (Nat.le_refl _) (show ObjOk X.prog X.w _ _ _ (.tup (xs ++ zs)) from ⟨by rw [List.length_append]; exact hz, its ++ its2, r1.append r2, IsTup.new _ _⟩), rfl, q2 _ (I.hok.fresh (Nat.le_refl _))⟩
def rCatL (K : PySem.W.Frag) : R2 := fun x y H Q => ∃ a b xs zs, x = .ref a ∧ y = .ref b ∧ SqL K H a xs ∧ SqL K H b zs ∧ xs.length + zs.length ≤ sizeLine ∧ ∀ p, H p = none → Q (.ref p) (upd H p (.lst (xs ++ zs)))
theorem op_catL : OpR X (binaryOp .Add) (rCatL X.K) := by
  intro pins s σ H x y v u Q I rx ry h; obtain ⟨a, b, xs, zs, rfl, rfl, hx, hy, hz, q2⟩ := h; cases rx; cases ry; obtain ⟨its, r1, ⟨⟨cls, dd, data, sl⟩, n, ho, hc, _, hd⟩, z1⟩ := I.list hx; obtain ⟨its2, r2, ⟨⟨cls2, dd2, data2, sl2⟩, n2, ho2, hc2, _, hd2⟩, z2⟩ := I.list hy; have l1 := r1.length; have l2 := r2.length; simp only at hc hd hc2 hd2; subst hc hd hc2 hd2
  refine concat_meets ⟨_, ho, rfl⟩ ⟨_, ho2, rfl⟩ noFill_list_add seq_list_add PySem.F.slot_list_add PySem.F.entry_list_add (PySem.F.args_list_add_2 _ _)
        (list_addW a b its.toArray its2.toArray n n2 dd dd2 sl sl2 (by rw [List.size_toArray, List.size_toArray]; fail"o")) ⟨ho, ho2, ?_⟩
  have e : its.toArray ++ its2.toArray = (its ++ its2).toArray := by simp
  rw [e]; exact ⟨.ref _, _, I.lnew (t' := s.toks) (r1.append r2) (by rw [List.length_append]; exact hz), rfl, q2 _ I.fresh⟩
def rAny (K : PySem.W.Frag) : List V → Hp → VK → Prop := fun xs H Q => ∃ (p : Addr) (bs : List Bool), xs = [.ref p] ∧ SqL K H p (bs.map V.bl) ∧ Q (.bl (bs.any id)) H
theorem bls_vals : ∀ {bs : List Bool} {us : List Value}, Vals (bs.map V.bl) us → us = bs.map Value.bool
  | [], _, h => by cases h; rfl
  | b :: r, _, h => by
    cases h with
    | cons h1 h2 =>
      rw [bls_vals h2]; cases h1; rfl
theorem call_any (hc : X.calm = true) : CallR X (.builtin "any") (rAny X.K) := by
  intro pins s σ H xs us Q I r h; obtain ⟨p, bs, rfl, hq, q⟩ := h; obtain ⟨u, rfl, rx⟩ := vals1 r; cases rx; obtain ⟨its, rv, pl, hz⟩ := I.list hq; have e := bls_vals rv; subst e; have hl := pl.isList
  have hlp : p < s.heap.objs.size := by
    obtain ⟨o, ho, _⟩ := hl; exact Heap.lt_size ho
  refine call_any_walk (wpAny_pyIter_list hl ⟨s.heap.objs.size, [s.heap.objs.size, p], [s.heap.objs.size], _, _, _, fun i => bs.getD i false, rfl,
    Walks.list (by show X.A.in1.handled = none; simp [I.ok.hd hc]) s.heap.objs.size p (Nat.ne_of_lt hlp) (bs.map Value.bool).toArray, ⟨⟨_, Heap.get?_push_size _ rfl, rfl, rfl⟩, hl.push _⟩, ?_, fun h' tk kp => ?_⟩)
  · intro i v s' Q' E' hv hq'
    have hv' : (bs.map Value.bool).toArray[i]? = some v := hv; rw [List.getElem?_toArray, List.getElem?_map] at hv'
    cases e : bs[i]? with
    | none => rw [e] at hv'; cases hv'
    | some b =>
      rw [e] at hv'; cases hv'; have e2 : bs.getD i false = b := by simp [List.getD, e]
      have hq2 : Q' (bs.getD i false) s' := hq'; rw [e2] at hq2; exact wpAny_truthy_bool hq2
  · have e3 : (List.range (bs.map Value.bool).toArray.size).any (fun i => bs.getD i false) = bs.any id := by
      rw [List.size_toArray, List.length_map]
      have : (List.range bs.length).map (fun i => bs.getD i false) = bs := by
        apply List.ext_getElem
        · simp
        · intro i h1 h2
          simp [h2]
      conv => rhs; rw [← this]
      rw [List.any_map]; rfl
    rw [e3]; have kp' : ∀ b o, s.heap.get? b = some o → h'.get? b = some o := fun b o e => kp b o (by simp; exact Nat.ne_of_lt (Heap.lt_size e)) (Heap.get?_push_of_some _ e)
    exact ⟨.bl _, H, I.kept (t' := tk) kp', rfl, q⟩
end
end L2
namespace L2
open PySem PySem.Spec PyProof.Rows PySem.W PySem.Calls PySem.Builtin.ObjectAttr PySem.Builtin.Getset_descriptor
structure ExcC (K : Frag) (C : Addr) : Prop where
  ga : findIn K (.ref C) "__getattribute__" = some (some (.builtin "BaseException.__getattribute__"))
  gn : findIn K (.ref C) "__getattr__" = some none
  cl : findIn K (.ref C) "__class__" = some (some (.builtin "object.__class__"))
  gg : specialIn K (.builtin "object.__class__") "__get__" = some (some (.builtin "getset_descriptor.__get__"))
  tk : takesIn K (.builtin "object.__class__") = some true
  mo : mroIn K C (.type "object") = some true
  mb : mroIn K C (.type "BaseException") = some true
  cs : (clsIn K C).isSome = true
section
variable {K : Frag} {prog : Program} {w : World} {A : Around} {E : VSP} {h : Heap} {g : Array GenState} {d : Drawn} {t : Nat} {os : OsState} {x C : Addr} {ox : Obj}
theorem exc_type {M : Model} (hx : h.get? x = some ox) (hc : ox.cls = .ref C) : Looks M h (typeOf (.ref x)) (.ref C) := hc ▸ (Looks.ld hx).andThen .now
theorem exc_find {M : Model} (X : K.In h) (e : ExcC K C) : Looks M h (find (.ref x) (.ref C) "__class__") (.bind (.builtin "getset_descriptor.__get__") (.builtin "object.__class__")) := by
  have L1 := looks_findIn (M := M) X e.cl; have L2 := looks_specialIn (M := M) X e.gg; have L3 := looks_takesIn (M := M) X e.tk; have L2' : Looks M h (getOf (some (.builtin "object.__class__"))) (some (.builtin "getset_descriptor.__get__")) := L2; refine L1.andThen (L2'.andThen ?_)
  exact (show Looks M h (dataDescriptor? (some (.builtin "object.__class__")) (some (.builtin "getset_descriptor.__get__"))) (some (.builtin "getset_descriptor.__get__", .builtin "object.__class__")) from L3.andThen .now).andThen (Looks.tag .now)
theorem exc_get {R : Result → Shared → Prop} {tp : Value} (X : K.In h) (hx : h.get? x = some ox) (hc : ox.cls = .ref C) (e : ExcC K C) (hq : R (.ok (.ret (.ref C))) ⟨h, g, d, t, os⟩) :
    codeAny (model prog w) A (.call (.builtin "getset_descriptor.__get__") ⟨[.builtin "object.__class__", .ref x, tp], []⟩) R ⟨h, g, d, t, os⟩ := by
  have L0 := exc_type (M := model prog w) hx hc; have L1 := looks_mroIn (M := model prog w) X e.mo; refine codeAny_call_builtin KF.slot_gs.plain KF.entry_gs (KF.slot_gs.check _ _ _ _ _ _ _ _ KF.type_class (KF.args_gs _ _ _) ?_)
  unfold Builtin.«getset_descriptor.__get__» descrGet; rw [dga_obj]; refine wpAny_bind (wpAny_pure ?_)
  unfold descrGetter descrCheckInstance descrNameAndClass isInstance; simp only [KF.owner_class]
  repeat lk
  refine ⟨Code.quiet_builtin _ (by decide +kernel), codeAny_builtin KF.entry_class ?_⟩
  unfold Builtin.«object.__class__» shownTypeOf
  repeat lk
  exact hq
theorem exc_entry {tk : Tok} {Q : PySem.Fin → Shared → Prop} (X : K.In h) (hx : h.get? x = some ox) (hc : ox.cls = .ref C) (e : ExcC K C) (hq : Q (.done (.ret (.ref C))) ⟨h, g, d, t, os⟩) :
    wpAny (model prog w) A (Builtin.«object.__getattribute__» ⟨[.ref x, .str "__class__" tk], []⟩) Q E ⟨h, g, d, t, os⟩ := by
  have L0 := exc_type (M := model prog w) hx hc; have L1 := exc_find (x := x) (M := model prog w) X e; refine wpAny_bind (wpAny_pure (wpAny_bind (wpAny_pure (wpAny_bind (L0.at (wpAny_bind (L1.at ?_)))))))
  show wpAny _ _ (holding [Value.builtin "object.__class__"] (call (.builtin "getset_descriptor.__get__") [.builtin "object.__class__", .ref x, .ref C]) >>= ret) _ _ _
  exact wpAny_bind (wpAny_holding (wpAny_call (exc_get X hx hc e (wpAny_pure hq))))
theorem exc_check {M : Model} {nameV : Value} {Q : Unit → Shared → Prop} (X : K.In h) (hx : h.get? x = some ox) (hc : ox.cls = .ref C) (e : ExcC K C) (hq : Q () ⟨h, g, d, t, os⟩) : wpAny M A (checkBuiltinCall "BaseException.__getattribute__" ⟨[.ref x, nameV], []⟩) Q E ⟨h, g, d, t, os⟩ := by
  have hk : builtinKind "BaseException.__getattribute__" = some .slot := by decide +kernel
  have hsplit : splitId "BaseException.__getattribute__" = some ("BaseException", "__getattribute__") := by decide +kernel
  have ha := F.args_bexc_ga (.ref x) nameV; have L0 := exc_type (M := M) hx hc; have L1 := looks_mroIn (M := M) X e.mb; simp only [checkBuiltinCall, hk, hsplit]; refine wpAny_bind ?_
  unfold isInstance; refine wpAny_bind (L0.at (L1.at ?_))
  (first | refine wpN (by decide) ?_ | simp only [Bool.not_true, Bool.false_eq_true, if_false])
  exact wpAny_of_eq ha hq
theorem exc_class {Q : Option Value → Shared → Prop} (X : K.In h) (hx : h.get? x = some ox) (hc : ox.cls = .ref C) (e : ExcC K C) (hq : Q (some (.ref C)) ⟨h, g, d, t + 1, os⟩) :
    wpAny (model prog w) A (getAttr? (.ref x) "__class__") Q E ⟨h, g, d, t, os⟩ := by
  have L0 := exc_type (M := model prog w) hx hc; have L1 := looks_findIn (M := model prog w) X e.ga; have L2 := looks_findIn (M := model prog w) X e.gn; unfold getAttr? getAttrBy? getAttrBy; refine wpAny_bind (wpAny_mkText (wpAny_bind (wpAny_attempt (wpAny_holding (wpAny_bind (L0.at (wpAny_bind (L1.at ?_))))))))
  dsimp only; rw [if_neg (by show ¬ ((true && (Value.builtin "BaseException.__getattribute__" == Value.builtin "object.__getattribute__")) = true); decide +kernel)]
  unfold getAttrByItsOwn hookBefore; rw [if_pos (by rfl)]
  refine wpAny_bind (L2.at ?_)
  refine wpAny_bind (wpAny_attempt (wpAny_holding ?_))
  unfold callGetattribute boundAndCalled; rw [if_neg (by decide +kernel)]
  refine wpAny_bind (wpAny_of_eq (F.excAttr_ValueError.ga.bind (.ref x)) ?_)
  refine wpAny_call (codeAny_call_builtin F.excAttr_ValueError.ga.plain F.entry_bexc_ga (exc_check X hx hc e (exc_entry X hx hc e ?_)))
  show wpAny _ _ (handedOut (.ref C)) _ _ _
  exact handed_on rfl (wpAny_pure hq)
theorem kitx_exc (e : ExcC K C) : KitX K (.ref x) (.ref C) (ExcAt x C) where
  ty := fun _ _ _ ⟨_, _, hx, hc, _⟩ => exc_type hx hc
  it := fun _ _ X _ => by
    obtain ⟨cdD, hcD⟩ := Option.isSome_iff_exists.mp e.cs; unfold clsIn at hcD
    split at hcD
    · rename_i c' d' cd' sl' ho
      intro A' Q' E' s' k q; unfold isType loadHead; exact wpAny_bind (wpAny_loadPart (k _ _ (X _ _ ho)) (wpAny_pure q))
    · cases hcD
  ne := fun h tp dd its n sl X htp => by
    obtain ⟨cdD, hcD⟩ := Option.isSome_iff_exists.mp e.cs; refine Bool.eq_false_iff.mpr fun q => ?_
    have e : C = tp := Value.ref.inj (beq_iff_eq.mp q); subst e; unfold clsIn at hcD
    split at hcD
    · rename_i c' d' cd' sl' ho
      have z := (X _ _ ho).symm.trans htp; cases z
    · cases hcD
  ca := fun {_ _ _ _ _ s} X ⟨_, _, hx, hc, _⟩ k => by
    obtain ⟨h0, g0, d0, t0, os0⟩ := s; exact exc_class X hx hc e k
end
section
variable {X : Cx}
theorem call_isExc : CallR X (.builtin "isinstance") (fun xs H Q => ∃ (ea C : Addr) (c : V) (cv : Value) (b : Bool), xs = [.ref ea, c] ∧ RelV c cv ∧ H ea = some (.ext (ExcAt ea C)) ∧ ExcC X.K C ∧ kitOne X.K (.ref C) cv = some b ∧ Q (.bl b) H) := by
  intro pins s σ H xs us Q I r h; obtain ⟨ea, C, c, cv, b, rfl, rc, hH, ec, hk, q⟩ := h; obtain ⟨u, u2, rfl, r1, r2⟩ := vals2 r; cases r1
  have e2 : u2 = cv := by
    cases c with
    | ref a => cases r2; cases rc; rfl
    | ty n => cases r2; cases rc; rfl
    | non => cases r2; cases rc; rfl
    | bl y => cases r2; cases rc; rfl
    | _ => 
      obtain ⟨t, rfl⟩ := r2; obtain ⟨t', rfl⟩ := rc; unfold kitOne kitCls at hk; simp at hk
  subst e2; have ho := I.hok ea _ hH; exact kia_one (kitx_exc ec) I.kIn ho.1 hk (fun z => nomatch z) fun tk => ⟨.bl b, H, I.tok tk, rfl, q⟩
theorem call_isTy : CallR X (.builtin "isinstance") (fun xs H Q => ∃ (x c : V) (t cv : Value) (b : Bool), xs = [x, c] ∧ (∀ u, RelV c u → u = cv) ∧ TyOf X.K H x t ∧ kitOne X.K t cv = some b ∧ Q (.bl b) H) := by
  intro pins s σ H xs us Q I r h; obtain ⟨x, c, t, cv, b, rfl, rc, hT, hk, q⟩ := h; obtain ⟨u, u2, rfl, r1, r2⟩ := vals2 r; cases rc u2 r2; exact isinst_ok I r1 hT hk fun tk => ⟨.bl b, H, I.tok tk, rfl, q⟩
end
end L2
namespace L2
open PySem PySem.Spec PyProof.Rows PySem.W
section
variable {X : Cx}
theorem countP_eqU {x : V} {xs : List V} {us : List Value} (h : Vals xs us) : xs.all flatV = true → us.countP (eqU x) = xs.countP fun y => eqV y x := by
  induction h with
  | nil => exact fun _ => rfl
  | cons r t ih =>
    intro f; rw [List.all_cons, Bool.and_eq_true] at f; rw [List.countP_cons, List.countP_cons, ih f.2, eqU_of r f.1]
def rCount (K : Frag) : V → List V → Hp → VK → Prop := fun x vs H Q => ∃ l xs y, x = .ref l ∧ vs = [y] ∧ SqL K H l xs ∧ flatV y = true ∧ xs.all flatV = true ∧ Q (.int ((xs.countP fun z => eqV z y : Nat) : Int)) H
theorem mt_count : MtM X "list.count" (rCount X.K) := by
  intro pins s σ H x vs v us Q I rx rv h; obtain ⟨l, xs, y, rfl, rfl, hH, fy, fx, q⟩ := h; cases rx; obtain ⟨u, rfl, ru⟩ := rv.one; obtain ⟨its, r, ⟨⟨cls, dd, data, sl⟩, n, ho, hc, _, hd⟩, hz⟩ := I.list hH; simp only at hc hd; subst hc hd; refine call_meets F.slot_list_count ⟨_, ho, rfl⟩ F.entry_list_count (F.args_list_count_2 _ _) (SeqAt.list_countAt l its.toArray n dd sl u (eqU y)) ⟨ho, fun z hz' => mem_eqAt ru fy r fx z (by simpa using hz'), ?_⟩
  have e := countP_eqU (x := y) r fx; refine ⟨.int _, H, I.tok _, ⟨_, rfl⟩, ?_⟩
  show Q (V.int ((its.countP (eqU y) : Nat) : Int)) H
  rw [e]; exact q
def rIndex (K : Frag) : V → List V → Hp → VK → Prop := fun x vs H Q => ∃ l xs y j, x = .ref l ∧ vs = [y] ∧ SqL K H l xs ∧ flatV y = true ∧ xs.all flatV = true ∧ (xs[j]?.map fun z => eqV z y) = some true ∧ (∀ i, i < j → (xs[i]?.map fun z => eqV z y) = some false) ∧ Q (.int ((j : Nat) : Int)) H
theorem mt_index : MtM X "list.index" (rIndex X.K) := by
  intro pins s σ H x vs v us Q I rx rv h; obtain ⟨l, xs, y, j, rfl, rfl, hH, fy, fx, hj, hlt, q⟩ := h; cases rx; obtain ⟨u, rfl, ru⟩ := rv.one; obtain ⟨its, r, ⟨⟨cls, dd, data, sl⟩, n, ho, hc, _, hd⟩, hz⟩ := I.list hH; simp only at hc hd; subst hc hd; have hl := r.length
  have at_ : ∀ i b, (xs[i]?.map fun z => eqV z y) = some b → ∃ hi : i < its.length, eqU y its[i] = b := by
    intro i b hb
    cases e : xs[i]? with
    | none => rw [e] at hb; cases hb
    | some z =>
      rw [e] at hb; obtain ⟨w', h1, h2⟩ := r.get e; obtain ⟨hi, h3⟩ := List.getElem?_eq_some_iff.mp h1
      refine ⟨hi, ?_⟩
      have hf : flatV z = true := List.all_eq_true.mp fx z (List.mem_of_getElem? e); rw [h3, eqU_of h2 hf]; exact Option.some.inj hb
  obtain ⟨hjl, ej⟩ := at_ j true hj; have hs : sizeLine = 16777216 := sizeLine_eq; refine call_meets F.slot_list_index ⟨_, ho, rfl⟩ F.entry_list_index (F.args_list_index_2 _ _) (SeqAt.list_indexAt l its.toArray n dd sl u (eqU y) j (by simpa using hjl) (by fail"o") (by simpa using ej) (fun m hm hmj => ?_)) ⟨ho, fun z hz' => mem_eqAt ru fy r fx z (by simpa using hz'), ?_⟩
  · obtain ⟨_, em⟩ := at_ m false (hlt m hmj)
    simpa using em
  · exact ⟨.int j, H, I.tok _, ⟨_, rfl⟩, q⟩
def rSetI (K : Frag) : List V → Hp → VK → Prop := fun xs H Q => ∃ (p : Addr) (ns : List Int), xs = [.ref p] ∧ SqL K H p (ns.map V.int) ∧ ns.length ≤ 4000 ∧
  ∀ (S : Addr) (ds : List Int), H S = none → ds.Nodup → (∀ k, k ∈ ds ↔ k ∈ ns) → Q (.ref S) (upd H S (.set (fun k => decide (k ∈ ds)) ds.length))
theorem dedup_ok (val : Nat → Int) : ∀ i, (firstMet val i).Nodup ∧ ∀ k, k ∈ firstMet val i ↔ k ∈ (List.range i).map val
  | 0 => ⟨List.nodup_nil, fun k => by rw [firstMet_zero]; simp⟩
  | i + 1 => by
    obtain ⟨h1, h2⟩ := dedup_ok val i; rw [firstMet_succ]; unfold step_dedup
    by_cases h : (firstMet val i).any (· == val i) = true
    · rw [if_pos h]
      refine ⟨h1, fun k => ?_⟩
      rw [h2, List.range_succ, List.map_append, List.mem_append]; refine ⟨.inl, fun q => q.elim id fun q => ?_⟩
      have e : k = val i := by simpa using q
      subst e; obtain ⟨y, hy, e⟩ := List.any_eq_true.mp h; rw [beq_iff_eq] at e; rw [← h2, ← e]; exact hy
    · rw [if_neg h]
      have hn : val i ∉ firstMet val i := fun z => h (List.any_eq_true.mpr ⟨_, z, by simp⟩)
      refine ⟨?_, fun k => ?_⟩
      · rw [List.nodup_append]
        refine ⟨h1, by simp, fun a ha b hb => ?_⟩
        have : b = val i := by simpa using hb
        rw [this]; exact fun e => hn (e ▸ ha)
      · rw [List.mem_append, h2, List.range_succ, List.map_append, List.mem_append]
        simp
theorem call_setI (hc : X.calm = true) : CallR X (.type "set") (rSetI X.K) := by
  intro pins s σ H xs us Q I r h; obtain ⟨p, ns, rfl, hq, hn, q⟩ := h; obtain ⟨u, rfl, rx⟩ := vals1 r; cases rx; obtain ⟨its, rv, pl, hz⟩ := I.list hq; have hi := ints_vals rv; have hl := hi.length; obtain ⟨d1, d2⟩ := dedup_ok (fun i => ns.getD i 0) its.toArray.size
  have hsz : its.toArray.size = ns.length := by rw [List.size_toArray, hl]
  refine PySem.call_set_list (ns := ns) (I.ok.hd hc) pl.isList (by simpa using hi) (by rw [hsz]; unfold scanBound; fail"o") fun h' tk hS kp => ?_
  refine ⟨.ref _, _, I.laid (t' := tk) (o := .set (fun k => decide (k ∈ firstMet (fun i => ns.getD i 0) its.toArray.size)) (firstMet (fun i => ns.getD i 0) its.toArray.size).length) (fun b u e => kp b u (Heap.lt_size e) e) (Nat.le_refl _) ?_, rfl, q _ _ (I.hok.fresh (Nat.le_refl _)) d1 fun k => ?_⟩
  · refine SetOf_congr hS (fun k => ?_) rfl
    rw [Bool.eq_iff_iff, List.any_eq_true, decide_eq_true_eq]; exact ⟨fun ⟨y, hy, e⟩ => by rw [beq_iff_eq] at e; rw [← e]; exact hy, fun hk => ⟨k, hk, by simp⟩⟩
  · rw [d2, hsz]
    have e : (List.range ns.length).map (fun i => ns.getD i 0) = ns := by
      apply List.ext_getElem
      · simp
      · intro i h1 h2
        simp [h2]
    rw [e]
theorem call_lenS : CallR X (.builtin "len") (fun xs H Q => ∃ (p : Addr) (S : Int → Bool) (n : Nat), xs = [.ref p] ∧ H p = some (.set S n) ∧ Q (.int n) H) := by
  intro pins s σ H xs us Q I r h; obtain ⟨p, S, n, rfl, hH, q⟩ := h; obtain ⟨u, rfl, rx⟩ := vals1 r; cases rx; obtain ⟨o, es, ep, t, ho, hex, hd, _, _, hb, hf, hn⟩ := I.hok p _ hH; refine PySem.call_len_set ho hex hd hf (by unfold scanBound at hb; fail"o") ?_
  rw [hn]; exact ⟨.int n, H, I.tok _, ⟨_, rfl⟩, q⟩
end
end L2
namespace MK
def rises {α : Type} (lt : α → α → Bool) : List α → Bool
  | [] => true
  | [_] => true
  | a :: b :: r => lt a b && rises lt (b :: r)
def ltI (a b : Int) : Bool := decide (a < b)
theorem rises_pairwise : ∀ {l : List Int}, rises ltI l = true ↔ l.Pairwise (· < ·)
  | [] => by simp [rises]
  | [a] => by simp [rises]
  | a :: b :: r => by
    have ih := rises_pairwise (l := b :: r); rw [rises, Bool.and_eq_true, ih]
    constructor
    · rintro ⟨h1, h2⟩
      have h1' : a < b := of_decide_eq_true h1; refine List.pairwise_cons.mpr ⟨fun x hx => ?_, h2⟩
      rcases List.mem_cons.mp hx with rfl | hx
      · exact h1'
      · exact Int.lt_trans h1' ((List.pairwise_cons.mp h2).1 x hx)
    · intro h
      obtain ⟨h1, h2⟩ := List.pairwise_cons.mp h; exact ⟨decide_eq_true (h1 b (List.mem_cons_self ..)), h2⟩
def spots (n : Int) : List Int := (List.range n.toNat).map fun (i : Nat) => (i : Int)
theorem mem_spots {n x : Int} : x ∈ spots n ↔ 0 ≤ x ∧ x < n := by
  unfold spots; rw [List.mem_map]
  constructor
  · rintro ⟨i, hi, rfl⟩
    rw [List.mem_range] at hi
    fail"o"
  · intro h
    exact ⟨x.toNat, List.mem_range.mpr (by fail"o"), by fail"o"⟩
theorem spots_pairwise (n : Int) : (spots n).Pairwise (· < ·) := by
  unfold spots; rw [List.pairwise_map]; exact List.pairwise_lt_range.imp fun {a b} h => by fail"o"
theorem nodup_of_lt {l : List Int} (h : l.Pairwise (· < ·)) : l.Nodup := h.imp fun {a b} h => by fail"o"
theorem spots_nodup (n : Int) : (spots n).Nodup := nodup_of_lt (spots_pairwise n)
theorem spots_length (n : Int) : (spots n).length = n.toNat := by simp [spots]
abbrev Edges := List (Int × Int)
def has (m : List Int) (x : Int) : Bool := m.any fun y => y == x
theorem has_iff {m : List Int} {x : Int} : has m x = true ↔ x ∈ m := by simp [has]
def apart (E : Edges) (m : List Int) : Bool := !(E.any fun e => has m e.1 && has m e.2)
theorem apart_iff {E : Edges} {m : List Int} : apart E m = true ↔ ∀ e ∈ E, ¬ (e.1 ∈ m ∧ e.2 ∈ m) := by
  unfold apart; rw [Bool.not_eq_true', List.any_eq_false]
  constructor
  · intro h e he hc
    exact h e he (by rw [Bool.and_eq_true, has_iff, has_iff]; exact hc)
  · intro h e he hc
    rw [Bool.and_eq_true, has_iff, has_iff] at hc; exact h e he hc
theorem apart_mono {E : Edges} {m m' : List Int} (hs : ∀ x ∈ m, x ∈ m') (h : apart E m' = true) : apart E m = true := by
  rw [apart_iff] at h ⊢; exact fun e he hc => h e he ⟨hs _ hc.1, hs _ hc.2⟩
def inside (n : Int) (m : List Int) : Bool := m.all fun x => decide (0 ≤ x) && decide (x < n)
theorem inside_iff {n : Int} {m : List Int} : inside n m = true ↔ ∀ x ∈ m, 0 ≤ x ∧ x < n := by
  unfold inside; rw [List.all_eq_true]
  constructor
  · intro h x hx
    have := h x hx; rw [Bool.and_eq_true] at this; exact ⟨of_decide_eq_true this.1, of_decide_eq_true this.2⟩
  · intro h x hx
    rw [Bool.and_eq_true]; exact ⟨decide_eq_true (h x hx).1, decide_eq_true (h x hx).2⟩
def areMarks (n : Int) (E : Edges) (m : List Int) : Bool := inside n m && (apart E m && rises ltI m)
structure Marks (n : Int) (E : Edges) (m : List Int) : Prop where
  inn : ∀ x ∈ m, 0 ≤ x ∧ x < n
  apt : apart E m = true
  ris : m.Pairwise (· < ·)
theorem areMarks_iff {n : Int} {E : Edges} {m : List Int} : areMarks n E m = true ↔ Marks n E m := by
  unfold areMarks; rw [Bool.and_eq_true, Bool.and_eq_true, inside_iff, rises_pairwise]; exact ⟨fun h => ⟨h.1, h.2.1, h.2.2⟩, fun h => ⟨h.1, h.2, h.3⟩⟩
theorem Marks.nil {n : Int} {E : Edges} : Marks n E [] := ⟨fun _ h => (nomatch h), (by rw [apart_iff]; intro e _ h; exact (nomatch h.1)), List.Pairwise.nil⟩
def beyond (m : List Int) (x : Int) : Bool := m == [] || (match m.getLast? with | some y => decide (y < x) | none => false)
def set1 (n : Int) (m : List Int) : LLI := ((spots n).filter (beyond m)).map fun x => m ++ [x]
def sets (n : Int) : Nat → LLI
  | 0 => [[]]
  | k + 1 => (sets n k).flatMap (set1 n)
theorem last_lt {m : List Int} {x y : Int} (h : m.Pairwise (· < ·)) (hy : m.getLast? = some y) (hxy : y < x) : ∀ z ∈ m, z < x := by
  intro z hz
  obtain ⟨l, rfl⟩ : ∃ l, m = l ++ [y] := by
    have := List.getLast?_eq_some_iff.mp hy
    exact this
  rw [List.pairwise_append] at h; rcases List.mem_append.mp hz with hz | hz
  · exact Int.lt_trans (h.2.2 z hz y (by simp)) hxy
  · have : z = y := by simpa using hz
    fail"o"
theorem beyond_iff {m : List Int} {x : Int} (h : m.Pairwise (· < ·)) : beyond m x = true ↔ ∀ z ∈ m, z < x := by
  unfold beyond
  cases m with
  | nil => simp
  | cons a r =>
    have hne : ((a :: r) == ([] : List Int)) = false := by simp
    rw [hne, Bool.false_or]; have hl : (a :: r).getLast? = some ((a :: r).getLast (by simp)) := by simp [List.getLast?_eq_some_getLast]
    rw [hl]
    constructor
    · intro hx z hz
      exact last_lt h hl (of_decide_eq_true hx) z hz
    · intro hz
      exact decide_eq_true (hz _ (List.getLast_mem _))
theorem mem_sets {n : Int} : ∀ {k : Nat} {m : List Int}, (∀ x ∈ m, 0 ≤ x ∧ x < n) → m.Pairwise (· < ·) → m.length = k → m ∈ sets n k
  | 0, m, _, _, h3 => by
    have e : m = [] := List.length_eq_zero_iff.mp h3; subst e; simp [sets]
  | k + 1, m, h1, h2, h3 => by
    have hne : m ≠ [] := by intro e; subst e; cases h3
    obtain ⟨l, x, rfl⟩ : ∃ l x, m = l ++ [x] := ⟨m.dropLast, m.getLast hne, (List.dropLast_concat_getLast hne).symm⟩
    rw [List.pairwise_append] at h2; have hl : l ∈ sets n k := mem_sets (fun y hy => h1 y (List.mem_append_left _ hy)) h2.1 (by simpa using h3)
    rw [sets, List.mem_flatMap]; refine ⟨l, hl, ?_⟩
    unfold set1; rw [List.mem_map]; refine ⟨x, ?_, rfl⟩
    rw [List.mem_filter, mem_spots, beyond_iff h2.1]; exact ⟨h1 x (by simp), fun z hz => h2.2.2 z hz x (by simp)⟩
end MK
namespace MK
def adj (E : Edges) (x y : Int) : Prop := (x, y) ∈ E ∨ (y, x) ∈ E
inductive Reach (E : Edges) : Int → Prop
  | zero : Reach E 0
  | step {x y : Int} : Reach E x → adj E x y → Reach E y
def touching (E : Edges) (x : Int) : List Int := E.flatMap fun e => (if e.1 = x then [e.2] else []) ++ (if e.2 = x then [e.1] else [])
theorem mem_touching {E : Edges} {x y : Int} : y ∈ touching E x ↔ adj E x y := by
  unfold touching adj; rw [List.mem_flatMap]
  constructor
  · rintro ⟨⟨a, b⟩, he, hm⟩
    rcases List.mem_append.mp hm with hm | hm
    · split at hm
      · rename_i h
        have : y = b := by simpa using hm
        subst this; subst h; exact .inl he
      · cases hm
    · split at hm
      · rename_i h
        have : y = a := by simpa using hm
        subst this; subst h; exact .inr he
      · cases hm
  · rintro (h | h)
    · exact ⟨(x, y), h, List.mem_append_left _ (by simp)⟩
    · exact ⟨(y, x), h, List.mem_append_right _ (by simp)⟩
def touchesAny (E : Edges) (x : Int) (some : List Int) : Bool := (touching E x).any fun y => has some y
theorem touchesAny_iff {E : Edges} {x : Int} {some : List Int} : touchesAny E x some = true ↔ ∃ y ∈ some, adj E x y := by
  unfold touchesAny; rw [List.any_eq_true]
  constructor
  · rintro ⟨y, h1, h2⟩
    exact ⟨y, has_iff.mp h2, mem_touching.mp h1⟩
  · rintro ⟨y, h1, h2⟩
    exact ⟨y, mem_touching.mpr h2, has_iff.mpr h1⟩
theorem adj_comm {E : Edges} {x y : Int} (h : adj E x y) : adj E y x := h.elim .inr .inl
structure Good (n : Int) (E : Edges) : Prop where
  pos : 1 ≤ n
  lin : ∀ e ∈ E, 0 ≤ e.1 ∧ e.1 < e.2 ∧ e.2 < n
theorem Good.adj {n : Int} {E : Edges} (g : Good n E) {x y : Int} (h : adj E x y) : (0 ≤ x ∧ x < n) ∧ (0 ≤ y ∧ y < n) := by
  rcases h with h | h
  · have := g.lin _ h; dsimp only at this; fail"o"
  · have := g.lin _ h; dsimp only at this; fail"o"
theorem Good.reach {n : Int} {E : Edges} (g : Good n E) {x : Int} (h : Reach E x) : 0 ≤ x ∧ x < n := by
  cases h with
  | zero => have := g.pos; fail"o"
  | step _ h => exact (g.adj h).2
theorem nodup_le {l₁ l₂ : List Int} (h : l₁.Nodup) (hs : ∀ x ∈ l₁, x ∈ l₂) : l₁.length ≤ l₂.length := by
  induction l₁ generalizing l₂ with
  | nil => simp
  | cons a r ih =>
    obtain ⟨h1, h2⟩ := List.nodup_cons.mp h; have ha := hs a (List.mem_cons_self ..); have := ih (l₂ := l₂.erase a) h2 fun x hx => (List.mem_erase_of_ne (fun (e : x = a) => h1 (by rw [← e]; exact hx))).mpr (hs x (List.mem_cons_of_mem _ hx))
    rw [List.length_erase_of_mem ha] at this; have hp : 0 < l₂.length := List.length_pos_of_mem ha; simp only [List.length_cons]
    fail"o"
def Whole (n : Int) (E : Edges) : Prop := ∀ x, 0 ≤ x ∧ x < n → Reach E x
theorem nodup_whole {n : Int} {E : Edges} {r : List Int} (w : Good n E) (nd : r.Nodup) (h : ∀ x, x ∈ r ↔ Reach E x) : (r.length : Int) = n ↔ Whole n E := by
  have hn := w.pos
  constructor
  · intro hl x hx
    apply Classical.byContradiction
    intro hc
    have h1 : (x :: r).length ≤ (spots n).length := nodup_le (List.nodup_cons.mpr ⟨fun hm => hc ((h x).mp hm), nd⟩) fun y hy => by
      rcases List.mem_cons.mp hy with rfl | hy
      · exact mem_spots.mpr hx
      · exact mem_spots.mpr (w.reach ((h y).mp hy))
    rw [spots_length, List.length_cons] at h1
    fail"o"
  · intro hw
    have h1 : r.length ≤ (spots n).length := nodup_le nd fun y hy => mem_spots.mpr (w.reach ((h y).mp hy))
    have h2 : (spots n).length ≤ r.length := nodup_le (spots_nodup n) fun y hy => (h y).mpr (hw y (mem_spots.mp hy))
    rw [spots_length] at h1 h2
    fail"o"
def know1 (k : List Int) (e : Int × Int) : List Int := if has k e.1 != has k e.2 then k ++ [e.1, e.2] else k
def knowRound (E : Edges) (k : List Int) : List Int := E.foldl know1 k
def knowAll (E : Edges) : Nat → List Int → List Int
  | 0, k => k
  | t + 1, k => knowAll E t (knowRound E k)
def distinct : List Int → List Int
  | [] => []
  | a :: r => let d := distinct r; if has d a then d else a :: d
theorem mem_distinct {x : Int} : ∀ {l : List Int}, x ∈ distinct l ↔ x ∈ l
  | [] => Iff.rfl
  | a :: r => by
    have ih := mem_distinct (x := x) (l := r); unfold distinct; dsimp only
    split
    · rename_i h
      rw [ih, List.mem_cons]
      constructor
      · exact .inr
      · rintro (rfl | h')
        · exact mem_distinct.mp (has_iff.mp h)
        · exact h'
    · rw [List.mem_cons, List.mem_cons, ih]
theorem nodup_distinct : ∀ (l : List Int), (distinct l).Nodup
  | [] => List.nodup_nil
  | a :: r => by
    unfold distinct; dsimp only
    split
    · exact nodup_distinct r
    · rename_i h
      exact List.nodup_cons.mpr ⟨fun hm => h (has_iff.mpr hm), nodup_distinct r⟩
theorem know1_sub {k : List Int} {e : Int × Int} {x : Int} (h : x ∈ k) : x ∈ know1 k e := by
  unfold know1
  split
  · exact List.mem_append_left _ h
  · exact h
theorem know1_reach {E : Edges} {k : List Int} {e : Int × Int} (he : e ∈ E) (hk : ∀ x ∈ k, Reach E x) : ∀ x ∈ know1 k e, Reach E x := by
  intro x hx; unfold know1 at hx
  split at hx
  · rename_i h
    rcases List.mem_append.mp hx with hx | hx
    · exact hk x hx
    · have h' : has k e.1 ≠ has k e.2 := by simpa using h
      have cases2 : (e.1 ∈ k ∧ e.2 ∉ k) ∨ (e.1 ∉ k ∧ e.2 ∈ k) := by
        cases e1 : has k e.1 <;> cases e2 : has k e.2
        · exact absurd (e1.trans e2.symm) h'
        · exact .inr ⟨(fun q => by rw [has_iff.mpr q] at e1; cases e1), has_iff.mp e2⟩
        · exact .inl ⟨has_iff.mp e1, (fun q => by rw [has_iff.mpr q] at e2; cases e2)⟩
        · exact absurd (e1.trans e2.symm) h'
      have hx' : x = e.1 ∨ x = e.2 := by simpa using hx
      rcases cases2 with ⟨h1, _⟩ | ⟨_, h2⟩
      · rcases hx' with rfl | rfl
        · exact hk _ h1
        · exact .step (hk _ h1) (.inl he)
      · rcases hx' with rfl | rfl
        · exact .step (hk _ h2) (.inr he)
        · exact hk _ h2
  · exact hk x hx
theorem round_sub {x : Int} : ∀ {E : Edges} {k : List Int}, x ∈ k → x ∈ knowRound E k
  | [], _, h => h
  | e :: r, k, h => by
    show x ∈ knowRound r (know1 k e)
    exact round_sub (know1_sub h)
theorem round_reach {E : Edges} : ∀ {E' : Edges} {k : List Int}, (∀ e ∈ E', e ∈ E) → (∀ x ∈ k, Reach E x) → ∀ x ∈ knowRound E' k, Reach E x
  | [], _, _, hk => hk
  | e :: r, k, hs, hk => by
    show ∀ x ∈ knowRound r (know1 k e), Reach E x
    exact round_reach (fun e' he' => hs e' (List.mem_cons_of_mem _ he')) (know1_reach (hs e (List.mem_cons_self ..)) hk)
theorem know1_both {k : List Int} {e : Int × Int} (h : e.1 ∈ k ∨ e.2 ∈ k) : e.1 ∈ know1 k e ∧ e.2 ∈ know1 k e := by
  unfold know1
  split
  · simp
  · rename_i hn
    have hn' : has k e.1 = has k e.2 := by simpa using hn
    rcases h with h | h
    · exact ⟨h, has_iff.mp (by rw [← hn']; exact has_iff.mpr h)⟩
    · exact ⟨has_iff.mp (by rw [hn']; exact has_iff.mpr h), h⟩
theorem round_both : ∀ {E : Edges} {k : List Int} {e : Int × Int}, e ∈ E → (e.1 ∈ k ∨ e.2 ∈ k) → e.1 ∈ knowRound E k ∧ e.2 ∈ knowRound E k
  | [], _, _, he, _ => by cases he
  | e' :: r, k, e, he, h => by
    show e.1 ∈ knowRound r (know1 k e') ∧ e.2 ∈ knowRound r (know1 k e')
    rcases List.mem_cons.mp he with rfl | he
    · have := know1_both h
      exact ⟨round_sub this.1, round_sub this.2⟩
    · exact round_both he (h.elim (fun q => .inl (know1_sub q)) fun q => .inr (know1_sub q))
theorem closed_all {E : Edges} {k : List Int} (h0 : (0 : Int) ∈ k) (hc : ∀ e ∈ E, e.1 ∈ k ∨ e.2 ∈ k → e.1 ∈ k ∧ e.2 ∈ k) : ∀ x, Reach E x → x ∈ k := by
  intro x hx
  induction hx with
  | zero => exact h0
  | @step a b ha hab ih =>
    rcases hab with h | h
    · exact (hc _ h (.inl ih)).2
    · exact (hc _ h (.inr ih)).1
theorem round_grows {n : Int} {E : Edges} {k : List Int} (h0 : (0 : Int) ∈ k) (hk : ∀ x ∈ k, Reach E x) :
    (∀ x, Reach E x → x ∈ k) ∨ (distinct k).length < (distinct (knowRound E k)).length := by
  by_cases hc : ∀ e ∈ E, e.1 ∈ k ∨ e.2 ∈ k → e.1 ∈ k ∧ e.2 ∈ k
  · exact .inl (closed_all h0 hc)
  · right
    have : ∃ e ∈ E, (e.1 ∈ k ∨ e.2 ∈ k) ∧ ¬ (e.1 ∈ k ∧ e.2 ∈ k) := by
      apply Classical.byContradiction
      intro hn; exact hc fun e he ho => Classical.byContradiction fun hb => hn ⟨e, he, ho, hb⟩
    obtain ⟨e, he, ho, hb⟩ := this; have hboth := round_both he ho
    have hnew : ∃ z, z ∉ k ∧ z ∈ knowRound E k := by
      by_cases h1 : e.1 ∈ k
      · exact ⟨e.2, fun h2 => hb ⟨h1, h2⟩, hboth.2⟩
      · exact ⟨e.1, h1, hboth.1⟩
    obtain ⟨z, hz, hz'⟩ := hnew
    have := nodup_le (l₁ := z :: distinct k) (l₂ := distinct (knowRound E k)) (List.nodup_cons.mpr ⟨fun h => hz (mem_distinct.mp h), nodup_distinct k⟩) fun y hy => by
      rcases List.mem_cons.mp hy with rfl | hy
      · exact mem_distinct.mpr hz'
      · exact mem_distinct.mpr (round_sub (mem_distinct.mp hy))
    rw [List.length_cons] at this
    fail"o"
theorem knowAll_props {n : Int} {E : Edges} : ∀ (t : Nat) (k : List Int), (0 : Int) ∈ k → (∀ x ∈ k, Reach E x) →
    (∀ x ∈ knowAll E t k, Reach E x) ∧ ((∀ x, Reach E x → x ∈ knowAll E t k) ∨ (distinct k).length + t ≤ (distinct (knowAll E t k)).length)
  | 0, k, h0, hk => ⟨hk, .inr (Nat.le_refl _)⟩
  | t + 1, k, h0, hk => by
    have h0' : (0 : Int) ∈ knowRound E k := round_sub h0; have hk' : ∀ x ∈ knowRound E k, Reach E x := round_reach (fun _ h => h) hk
    obtain ⟨i1, i2⟩ := knowAll_props (n := n) t (knowRound E k) h0' hk'; refine ⟨i1, ?_⟩
    rcases i2 with i2 | i2
    · exact .inl i2
    · rcases round_grows (n := n) h0 hk with g | g
      · left
        have sub : ∀ (t : Nat) (k : List Int) (x : Int), x ∈ k → x ∈ knowAll E t k := by
          intro t
          induction t with
          | zero => exact fun _ _ h => h
          | succ t ih => exact fun k x h => ih _ x (round_sub h)
        exact fun x hx => sub (t + 1) k x (g x hx)
      · right
        show (distinct k).length + (t + 1) ≤ (distinct (knowAll E t (knowRound E k))).length
        fail"o"
theorem law_whole {n : Int} {E : Edges} (w : Good n E) : ((distinct (knowAll E n.toNat [0])).length : Int) = n ↔ Whole n E := by
  obtain ⟨h1, h2⟩ := knowAll_props (n := n) (E := E) n.toNat [0] (by simp) fun x hx => by
    have : x = 0 := by simpa using hx
    subst this; exact .zero
  have hall : ∀ x, Reach E x → x ∈ knowAll E n.toNat [0] := by
    rcases h2 with h2 | h2
    · exact h2
    · exfalso
      have hle : (distinct (knowAll E n.toNat [0])).length ≤ (spots n).length := nodup_le (nodup_distinct _) fun y hy => mem_spots.mpr (w.reach (h1 y (mem_distinct.mp hy)))
      rw [spots_length] at hle; have e1 : (distinct [0]).length = 1 := by rfl
      rw [e1] at h2
      fail"o"
  refine nodup_whole w (nodup_distinct _) fun x => ?_
  rw [mem_distinct]; exact ⟨h1 x, hall x⟩
end MK
namespace L2
open PySem PySem.Spec PyProof.Rows PySem.W
theorem pass1 {X : Cx} : Passes (CX1 X.prog X.w) X E0 := fun _ _ _ _ _ _ _ ⟨_, _, _, _, _, _, F⟩ => F.wish.elim
section
variable {P : Program} {w : World} {K : Frag} {mg : MgT} {base : Heap}
theorem Fun.ok1 {x qual : Str} {st : Stmt} {f : Addr} {fd : FuncData} {N ps : List Str} {k : Nat} {sp : Sp} (F : Fun K x qual st f fd) (S : FnScope N ps (defScope st)) (len : ∀ vs H Q E, sp vs H Q E → vs.length = ps.length)
    (hbody : ∀ (cdv : Value) (A : Around) (outer : List Env) (s : Shared) (H : Hp) (vs : List V) (Q : VK) (E : XK), Room k (A.deeper (envOfC qual (defScope st) s.heap.objs.size f cdv)) → sp vs H Q E →
      ∃ t, PSs (cxOf (CX1 P w) P w K mg base N qual (defScope st) f cdv A outer s H E) (defBody st) t ∧ t { nx := fun _ H' => Q .non H', rt := Q } (start N vs) H) : FnOk P w K mg base (CX1 P w) (k + 1) f fd ps sp := by
  obtain ⟨oc, od, kV, doc, pm, an, cdv, ct, osl, rfl, lk, hcd⟩ := F.ex; exact fn_of lk hcd S len fun A outer s H vs Q E hr hsp => hbody cdv A outer s H vs Q E hr hsp
structure Dfn (P : Program) (w : World) (K : Frag) (mg : MgT) (base : Heap) (k : Nat) (x : Str) (ps : List Str) (sp : Sp) : Prop where
  ex : ∃ f fd, mg x = some (.ref f) ∧ keepIn K (.ref f) = true ∧ Binds K fd ps [] ∧ FnOk P w K mg base (CX1 P w) k f fd ps sp
theorem Dfn.mono {j k : Nat} {x : Str} {ps : List Str} {sp : Sp} (D : Dfn P w K mg base j x ps sp) (h : j ≤ k) : Dfn P w K mg base k x ps sp := by
  obtain ⟨f, fd, a, b, c, d⟩ := D.ex; exact ⟨f, fd, a, b, c, d.mono h⟩
theorem dfn {x qual : Str} {st : Stmt} {f : Addr} {fd : FuncData} {ps : List Str} {k : Nat} {sp : Sp} (F : Fun K x qual st f fd) (hm : mg x = some (.ref f)) (hb : Binds K fd ps []) (h : FnOk P w K mg base (CX1 P w) k f fd ps sp) : Dfn P w K mg base k x ps sp :=
  ⟨f, fd, hm, F.kp, hb, h⟩
end
section
variable {X : Cx} {e : Expr} {es : List Expr} {t : TA} {x : Str} {p pos : Pos} {k : Nat} {ps : List Str} {sp : Sp} {E : XK}
theorem pe_defX (D : Dfn X.prog X.w X.K X.mg X.base k x ps sp) (hr : Room k X.A) (hx : Passes (CX1 X.prog X.w) X E) (ha : PA X (e :: es) t) (hg : Gl X x := by rfl) (hdb : Dbg x := by decide)
    (he : starEach (e :: es) X.env = (false, eval e X.env) :: starEach es X.env := by rfl) (hpl : (backTo pos (starEach es X.env)).any (·.1) = false := by rfl) :
    PE X (.Call (.Name x p) (e :: es) [] pos) (tCall sp [] E t) := by
  obtain ⟨f, fd, a, b, c, d⟩ := D.ex; exact pe_call d hr hg a b c .nil hx ha hdb he hpl
theorem pe_def (D : Dfn X.prog X.w X.K X.mg X.base k x ps sp) (hr : Room k X.A) (ha : PA X (e :: es) t) (hg : Gl X x := by rfl) (hdb : Dbg x := by decide)
    (he : starEach (e :: es) X.env = (false, eval e X.env) :: starEach es X.env := by rfl) (hpl : (backTo pos (starEach es X.env)).any (·.1) = false := by rfl) :
    PE X (.Call (.Name x p) (e :: es) [] pos) (tCall sp [] E0 t) := pe_defX D hr pass1 ha hg hdb he hpl
end
theorem owns {P : Program} {w : World} {K : Frag} {mg : MgT} {base : Heap} {N : List Str} {qual : Str} {scope : Scope} {f : Addr} {cd : Value} {A : Around} {outer : List Env} {s : Shared} {H : Hp} {E : XK} :
    PassesOwn (model P w) (A.deeper (envOfC qual scope s.heap.objs.size f cd)) (envOfC qual scope s.heap.objs.size f cd) (cxOf (CX1 P w) P w K mg base N qual scope f cd A outer s H E).xe := PassesOwn.leaving
end L2
namespace L2
open PySem PySem.Spec PyProof.Rows PySem.W
open PySem.MeetsSeq3 (plain_eq_loop entry_eq_loop)
open PySem.AutoSeq1 (wpAny_loadPart')
section
variable {α : Type} [DecidableEq α]
def lexL (lt : α → α → Bool) : List α → List α → Bool
  | [], [] => false
  | [], _ :: _ => true
  | _ :: _, [] => false
  | x :: xs, y :: ys => if x = y then lexL lt xs ys else lt x y
end
section
variable {prog : Program} {w : World} {A : Around} {E : VSP} {s : Shared}
end
end L2
namespace L2
theorem _root_.Exists.el {α : Type} {A B : α → Prop} {C : Prop} (h : ∃ a, A a ∧ B a) (f : ∀ a, A a → B a → C) : C := h.elim fun a h => f a h.1 h.2
theorem ex2 {α : Type} {A B : α → Prop} {C : Prop} (f : ∀ a, A a → B a → C) : (∃ a, A a ∧ B a) → C := fun h => h.elim fun a h => f a h.1 h.2
theorem ex3 {α : Type} {A B D : α → Prop} {C : Prop} (f : ∀ a, A a → B a → D a → C) : (∃ a, A a ∧ B a ∧ D a) → C := fun h => h.elim fun a h => f a h.1 h.2.1 h.2.2
theorem ex4 {α : Type} {A B D E : α → Prop} {C : Prop} (f : ∀ a, A a → B a → D a → E a → C) : (∃ a, A a ∧ B a ∧ D a ∧ E a) → C := fun h => h.elim fun a h => f a h.1 h.2.1 h.2.2.1 h.2.2.2
open PySem PySem.Spec PyProof.Rows PySem.W
def Own (o : Option HO) : Prop := o ≠ none ∧ ∀ xs, o ≠ some (.tup xs)
theorem Own.same {H H' : Hp} (e : Same H H') {a : Addr} (h : Own (H a)) : Own (H' a) := by
  cases q : H a with
  | none => exact absurd q h.1
  | some o => rw [e a o q]; rw [q] at h; exact h
structure Gr (Hm H Hm' H' : Hp) : Prop where
  m : Same Hm Hm'
  h : Same H H'
  i : Same Hm' H'
  o : ∀ a, Hm a = none → Own (H a) → Hm' a = none
theorem Gr.refl {Hm H : Hp} (i : Same Hm H) : Gr Hm H Hm H := ⟨Same.refl _, Same.refl _, i, fun _ e _ => e⟩
theorem Gr.trans {A B C D E F : Hp} (x : Gr A B C D) (y : Gr C D E F) : Gr A B E F :=
  ⟨x.m.trans y.m, x.h.trans y.h, y.i, fun a e n => y.o a (x.o a e n) (n.same x.h)⟩
theorem Gr.new {Hm H : Hp} (i : Same Hm H) {p : Addr} (n : H p = none) (o : HO) : Gr Hm H (upd Hm p o) (upd H p o) := by
  have nm : Hm p = none := i.free n; refine ⟨Same.upd nm, Same.upd n, fun b u e => ?_, fun a e1 e2 => ?_⟩
  · by_cases hb : b = p
    · subst hb; rw [upd_same] at e ⊢; exact e
    · rw [upd_ne hb] at e ⊢; exact i b u e
  · have : a ≠ p := fun z => e2.1 (by rw [z]; exact n)
    rw [upd_ne this]; exact e1
theorem Gr.grow {Hm H H' : Hp} (i : Same Hm H) (h : Same H H') : Gr Hm H Hm H' := ⟨Same.refl _, h, i.trans h, fun _ e _ => e⟩
theorem Gr.put {B H0 Hm H : Hp} (g : Gr B H0 Hm H) {a : Addr} (n0 : H0 a = none) (nm : Hm a = none) (o : HO) : Gr B H0 Hm (upd H a o) :=
  ⟨g.m, fun b u e => by rw [upd_ne (ne_of_none e n0)]; exact g.h b u e, fun b u e => by rw [upd_ne (ne_of_none e nm)]; exact g.i b u e, g.o⟩
inductive Dt where
  | py (d : PyData)
  | sp (p : Hp → V → Prop)
abbrev dI (i : Int) : Dt := .py (.int i)
abbrev dB (b : Bool) : Dt := .py (.bool b)
abbrev dS (x : Str) : Dt := .py (.str x)
abbrev dN : Dt := .py .none
def IsD (K : Frag) (H : Hp) (v : V) : Dt → Prop
  | .py d => Is K H v d
  | .sp p => ∀ H', Same H H' → p H' v
theorem IsD.mono {K : Frag} {H H' : Hp} (e : Same H H') {v : V} : ∀ {d : Dt}, IsD K H v d → IsD K H' v d
  | .py _, h => e.is h
  | .sp _, h => fun H2 e2 => h H2 (e.trans e2)
theorem isD_int {K : Frag} {H : Hp} {v : V} {i : Int} (h : IsD K H v (dI i)) : v = .int i := by
  cases (show Is K H v (.int i) from h); rfl
theorem isD_bl {K : Frag} {H : Hp} {v : V} {b : Bool} (h : IsD K H v (dB b)) : v = .bl b := by
  cases (show Is K H v (.bool b) from h); rfl
theorem isD_str {K : Frag} {H : Hp} {v : V} {x : Str} (h : IsD K H v (dS x)) : v = .str x := by
  cases (show Is K H v (.str x) from h); rfl
theorem isD_non {K : Frag} {H : Hp} {v : V} (h : IsD K H v dN) : v = .non := by
  cases (show Is K H v .none from h); rfl
theorem isD_lst {K : Frag} {H : Hp} {v : V} {ds : LPD} (h : IsD K H v (.py (.list ds))) : ∃ a vs, v = .ref a ∧ SqL K H a vs ∧ IsAll K H vs ds := by
  cases (show Is K H v (.list ds) from h) with
  | lst q r => exact ⟨_, _, rfl, q, r⟩
theorem isD_tup {K : Frag} {H : Hp} {v : V} {ds : LPD} (h : IsD K H v (.py (.tuple ds))) : ∃ a vs, v = .ref a ∧ SqT K H a vs ∧ IsAll K H vs ds := by
  cases (show Is K H v (.tuple ds) from h) with
  | tup q r => exact ⟨_, _, rfl, SqT.of q, r⟩
abbrev IsDs (K : Frag) (H : Hp) : List V → List Dt → Prop := Paired (IsD K H)
inductive Bd where
  | un
  | dat (d : Dt)
  | obj (φ : Hp → HO → Prop)
inductive ObjAt (B2 Hm H : Hp) (σ : St) (i : Nat) (φ : Hp → HO → Prop) : Prop
  | mk (a : Addr) (o : HO) (c0 : σ[i]? = some (some (.ref a))) (c1 : B2 a = none) (c2 : Hm a = none) (c3 : H a = some o) (c4 : ∀ xs, o ≠ .tup xs) (c5 : ∀ Hm', Same Hm Hm' → φ Hm' o) : ObjAt B2 Hm H σ i φ
structure StD (X : Cx) (B : Hp × Hp) (Hm H : Hp) (σ : St) (ρ : List Bd) : Prop where
  gr : Gr B.1 B.2 Hm H
  len : σ.length = X.N.length
  dat : ∀ (i : Nat) (d : Dt), ρ[i]? = some (.dat d) → ∃ v, σ[i]? = some (some v) ∧ IsD X.K Hm v d
  obj : ∀ (i : Nat) (φ : Hp → HO → Prop), ρ[i]? = some (.obj φ) → ObjAt B.2 Hm H σ i φ
  dis : ∀ (i j : Nat) (φ ψ : Hp → HO → Prop) (a : Addr), ρ[i]? = some (.obj φ) → ρ[j]? = some (.obj ψ) → σ[i]? = some (some (.ref a)) → σ[j]? = some (some (.ref a)) → i = j
section
variable {X : Cx} {B : Hp × Hp} {Hm H Hm' H' : Hp} {σ : St} {ρ : List Bd}
theorem StD.grow (S : StD X B Hm H σ ρ) (g : Gr Hm H Hm' H') : StD X B Hm' H' σ ρ where
  gr := S.gr.trans g
  len := S.len
  dat := fun i d e => let ⟨v, a, b⟩ := S.dat i d e; ⟨v, a, b.mono g.m⟩
  obj := fun i φ e => let ⟨a, o, e1, n0, nm, eH, nt, c⟩ := S.obj i φ e; ⟨a, o, e1, n0, g.o a nm (by rw [eH]; exact And.intro (fun z => nomatch z) fun xs z => nt xs (Option.some.inj z)), g.h _ _ eH, nt, fun H2 s => c H2 (g.m.trans s)⟩
  dis := S.dis
theorem getElem_set_cases {α : Type} {l : List α} {i j : Nat} {x y : α} (h : (l.set i x)[j]? = some y) : (j = i ∧ y = x) ∨ (j ≠ i ∧ l[j]? = some y) := by
  by_cases e : j = i
  · subst e
    rw [List.getElem?_set] at h
    simp at h; exact .inl ⟨rfl, h.2.symm⟩
  · rw [List.getElem?_set_ne (Ne.symm e)] at h
    exact .inr ⟨e, h⟩
theorem StD.set (S : StD X B Hm H σ ρ) {i : Nat} {v : V} {d : Dt} (hi : i < X.N.length) (hv : IsD X.K Hm v d) : StD X B Hm H (σ.set i (some v)) (ρ.set i (.dat d)) where
  gr := S.gr
  len := by simpa using S.len
  dat := fun j d' e => by
    rcases getElem_set_cases e with ⟨rfl, ee⟩ | ⟨ne, e⟩
    · cases ee; exact ⟨v, by rw [List.getElem?_set_self (by rw [S.len]; exact hi)], hv⟩
    · obtain ⟨v', a, b⟩ := S.dat j d' e
      exact ⟨v', by rw [List.getElem?_set_ne (Ne.symm ne)]; exact a, b⟩
  obj := fun j φ e => by
    rcases getElem_set_cases e with ⟨rfl, ee⟩ | ⟨ne, e⟩
    · cases ee
    · obtain ⟨a, o, e1, r0, r1, r2, r3, r4⟩ := S.obj j φ e
      exact ⟨a, o, by rw [List.getElem?_set_ne (Ne.symm ne)]; exact e1, r0, r1, r2, r3, r4⟩
  dis := fun j k φ ψ a e1 e2 q1 q2 => by
    rcases getElem_set_cases e1 with ⟨rfl, ee⟩ | ⟨n1, e1⟩
    · cases ee
    · rcases getElem_set_cases e2 with ⟨rfl, ee⟩ | ⟨n2, e2⟩
      · cases ee
      · rw [List.getElem?_set_ne (Ne.symm n1)] at q1
        rw [List.getElem?_set_ne (Ne.symm n2)] at q2
        exact S.dis j k φ ψ a e1 e2 q1 q2
theorem StD.setObj (S : StD X B Hm H σ ρ) {i : Nat} {p : Addr} {o : HO} {φ : Hp → HO → Prop} (hi : i < X.N.length) (n : H p = none) (nt : ∀ xs, o ≠ .tup xs) (hφ : ∀ Hm', Same Hm Hm' → φ Hm' o) : StD X B Hm (upd H p o) (σ.set i (some (.ref p))) (ρ.set i (.obj φ)) := by
  have nm : Hm p = none := S.gr.i.free n; have n0 : B.2 p = none := S.gr.h.free n; refine ⟨S.gr.put n0 nm o, by simpa using S.len, fun j d' e => ?_, fun j ψ e => ?_, fun j k ψ χ a e1 e2 q1 q2 => ?_⟩
  · rcases getElem_set_cases e with ⟨rfl, ee⟩ | ⟨ne, e⟩
    · cases ee
    · obtain ⟨v', a, b⟩ := S.dat j d' e
      exact ⟨v', by rw [List.getElem?_set_ne (Ne.symm ne)]; exact a, b⟩
  · rcases getElem_set_cases e with ⟨rfl, ee⟩ | ⟨ne, e⟩
    · cases ee; exact ⟨p, o, by rw [List.getElem?_set_self (by rw [S.len]; exact hi)], n0, nm, upd_same, nt, hφ⟩
    · obtain ⟨a, o', e1, a0, am, eH, r1, r2⟩ := S.obj j ψ e
      exact ⟨a, o', by rw [List.getElem?_set_ne (Ne.symm ne)]; exact e1, a0, am, by rw [upd_ne (ne_of_none eH n)]; exact eH, r1, r2⟩
  · have apart : ∀ m χ, m ≠ i → ρ[m]? = some (.obj χ) → σ[m]? = some (some (.ref p)) → False := fun m χ nm' em qm => by
      obtain ⟨a', o', e1, _, _, eH, _, _⟩ := S.obj m χ em; rw [qm] at e1; cases e1; rw [n] at eH; cases eH
    rcases getElem_set_cases e1 with ⟨j1, _⟩ | ⟨n1, f1⟩
    · subst j1
      rw [List.getElem?_set_self (by rw [S.len]; exact hi)] at q1
      cases q1; rcases getElem_set_cases e2 with ⟨j2, _⟩ | ⟨n2, f2⟩
      · exact j2.symm
      · rw [List.getElem?_set_ne (Ne.symm n2)] at q2
        exact (apart k χ n2 f2 q2).elim
    · rw [List.getElem?_set_ne (Ne.symm n1)] at q1
      rcases getElem_set_cases e2 with ⟨j2, _⟩ | ⟨n2, f2⟩
      · rw [j2, List.getElem?_set_self (by rw [S.len]; exact hi)] at q2
        cases q2; exact (apart j ψ n1 f1 q1).elim
      · rw [List.getElem?_set_ne (Ne.symm n2)] at q2
        exact S.dis j k ψ χ a f1 f2 q1 q2
theorem StD.put (S : StD X B Hm H σ ρ) {i : Nat} {p : Addr} {o : HO} {φ ψ : Hp → HO → Prop} (hi : ρ[i]? = some (.obj φ)) (hp : σ[i]? = some (some (.ref p))) (nt : ∀ xs, o ≠ .tup xs) (hψ : ∀ Hm', Same Hm Hm' → ψ Hm' o) : StD X B Hm (upd H p o) σ (ρ.set i (.obj ψ)) := by
  obtain ⟨a, o0, e0, n0, nm, eH, _, _⟩ := S.obj i φ hi; rw [hp] at e0; cases e0; refine ⟨S.gr.put n0 nm o, S.len, fun j d' e => ?_, fun j χ e => ?_, fun j k χ χ' b e1 e2 q1 q2 => ?_⟩
  · rcases getElem_set_cases e with ⟨rfl, ee⟩ | ⟨ne, e⟩
    · cases ee
    · exact S.dat j d' e
  · rcases getElem_set_cases e with ⟨rfl, ee⟩ | ⟨ne, e⟩
    · cases ee; exact ⟨p, o, hp, n0, nm, upd_same, nt, hψ⟩
    · obtain ⟨b, o', e1, a0, am, eH', r1, r2⟩ := S.obj j χ e
      have : b ≠ p := fun z => ne (S.dis j i χ φ b e hi e1 (by rw [z]; exact hp))
      exact ⟨b, o', e1, a0, am, by rw [upd_ne this]; exact eH', r1, r2⟩
  · have back : ∀ (m : Nat) (χ : Hp → HO → Prop), (ρ.set i (.obj ψ))[m]? = some (.obj χ) → ∃ χ', ρ[m]? = some (Bd.obj χ') := fun m χ e => by
      rcases getElem_set_cases e with ⟨rfl, _⟩ | ⟨_, e⟩
      · exact ⟨φ, hi⟩
      · exact ⟨χ, e⟩
    obtain ⟨c1, e1⟩ := back j χ e1; obtain ⟨c2, e2⟩ := back k χ' e2; exact S.dis j k c1 c2 b e1 e2 q1 q2
theorem StD.give (S : StD X B Hm H σ ρ) {i : Nat} {φ : Hp → HO → Prop} {d : Dt} (hi : ρ[i]? = some (.obj φ)) (hd : ∀ a o, Hm a = none → φ Hm o → IsD X.K (upd Hm a o) (.ref a) d) : ∃ Hm', Same Hm Hm' ∧ StD X B Hm' H σ (ρ.set i (.dat d)) := by
  obtain ⟨a, o, e0, n0, nm, eH, nt, c⟩ := S.obj i φ hi; have sm : Same Hm (upd Hm a o) := Same.upd nm; refine ⟨upd Hm a o, sm, ⟨S.gr.m.trans sm, S.gr.h, fun b u e => ?_, fun b e1 e2 => ?_⟩, S.len, fun j d' e => ?_, fun j χ e => ?_, fun j k χ χ' b e1 e2 q1 q2 => ?_⟩
  · by_cases hb : b = a
    · subst hb; rw [upd_same] at e; cases e; exact eH
    · rw [upd_ne hb] at e; exact S.gr.i b u e
  · have : b ≠ a := fun z => e2.1 (by rw [z]; exact n0)
    rw [upd_ne this]; exact S.gr.o b e1 e2
  · rcases getElem_set_cases e with ⟨rfl, ee⟩ | ⟨ne, e⟩
    · cases ee; exact ⟨_, e0, hd a o nm (c Hm (Same.refl _))⟩
    · obtain ⟨v, q1, q2⟩ := S.dat j d' e
      exact ⟨v, q1, q2.mono sm⟩
  · rcases getElem_set_cases e with ⟨rfl, ee⟩ | ⟨ne, e⟩
    · cases ee
    · obtain ⟨b, o', e1, a0, am, eH', r1, r2⟩ := S.obj j χ e
      have : b ≠ a := fun z => ne (S.dis j i χ φ b e hi e1 (by rw [z]; exact e0))
      exact ⟨b, o', e1, a0, by rw [upd_ne this]; exact am, eH', r1, fun H2 s => r2 H2 (sm.trans s)⟩
  · have back : ∀ (m : Nat) (χ : Hp → HO → Prop), (ρ.set i (.dat d))[m]? = some (.obj χ) → ρ[m]? = some (Bd.obj χ) := fun m χ e => by
      rcases getElem_set_cases e with ⟨_, e⟩ | ⟨_, e⟩
      · cases e
      · exact e
    exact S.dis j k χ χ' b (back j χ e1) (back k χ' e2) q1 q2
end
def ownL (K : Frag) (ds : LPD) : Bd := .obj fun Hm o => ∃ vs, o = .lst vs ∧ IsAll K Hm vs ds
inductive TD (X : Cx) (B : Hp × Hp) (ρ : List Bd) (d : Dt) (σ : St) (H : Hp) (Q : VK) : Prop
  | mk (Hm : Hp) (S : StD X B Hm H σ ρ) (k : ∀ v Hm' H', Gr Hm H Hm' H' → IsD X.K Hm' v d → Q v H') : TD X B ρ d σ H Q
theorem TD.el {X : Cx} {B : Hp × Hp} {ρ : List Bd} {d : Dt} {σ : St} {H : Hp} {Q : VK} {b : Prop} (h : TD X B ρ d σ H Q) (k : ∀ (Hm : Hp) (S : StD X B Hm H σ ρ) (k : ∀ v Hm' H', Gr Hm H Hm' H' → IsD X.K Hm' v d → Q v H'), b) : b := h.casesOn k
def tD (X : Cx) (B : Hp × Hp) (ρ : List Bd) (d : Dt) : TE := fun σ H Q => TD X B ρ d σ H Q
@[irreducible] def Ev (X : Cx) (B : Hp × Hp) (ρ : List Bd) (e : Expr) (d : Dt) : Prop := PE X e (tD X B ρ d)
inductive TTd (X : Cx) (B : Hp × Hp) (ρ : List Bd) (c : Bool) (σ : St) (H : Hp) (Q : Bool → Hp → Prop) : Prop
  | mk (Hm : Hp) (S : StD X B Hm H σ ρ) (k : ∀ Hm' H', Gr Hm H Hm' H' → Q c H') : TTd X B ρ c σ H Q
theorem TTd.el {X : Cx} {B : Hp × Hp} {ρ : List Bd} {c : Bool} {σ : St} {H : Hp} {Q : Bool → Hp → Prop} {b : Prop} (h : TTd X B ρ c σ H Q) (k : ∀ (Hm : Hp) (S : StD X B Hm H σ ρ) (k : ∀ Hm' H', Gr Hm H Hm' H' → Q c H'), b) : b := h.casesOn k
def tTd (X : Cx) (B : Hp × Hp) (ρ : List Bd) (b : Bool) : TT := fun σ H Q => TTd X B ρ b σ H Q
@[irreducible] def Tv (X : Cx) (B : Hp × Hp) (ρ : List Bd) (e : Expr) (b : Bool) : Prop := PT X e (tTd X B ρ b)
@[irreducible] def Tw (X : Cx) (B : Hp × Hp) (ρ : List Bd) (e : Expr) (b : Bool) : Prop := PW X e (tTd X B ρ b)
inductive TAd (X : Cx) (B : Hp × Hp) (ρ : List Bd) (ds : List Dt) (σ : St) (H : Hp) (Q : List V → Hp → Prop) : Prop
  | mk (Hm : Hp) (S : StD X B Hm H σ ρ) (k : ∀ vs Hm' H', Gr Hm H Hm' H' → IsDs X.K Hm' vs ds → Q vs H') : TAd X B ρ ds σ H Q
theorem TAd.el {X : Cx} {B : Hp × Hp} {ρ : List Bd} {ds : List Dt} {σ : St} {H : Hp} {Q : List V → Hp → Prop} {b : Prop} (h : TAd X B ρ ds σ H Q) (k : ∀ (Hm : Hp) (S : StD X B Hm H σ ρ) (k : ∀ vs Hm' H', Gr Hm H Hm' H' → IsDs X.K Hm' vs ds → Q vs H'), b) : b := h.casesOn k
def tAd (X : Cx) (B : Hp × Hp) (ρ : List Bd) (ds : List Dt) : TA := fun σ H Q => TAd X B ρ ds σ H Q
@[irreducible] def EvA (X : Cx) (B : Hp × Hp) (ρ : List Bd) (es : List Expr) (ds : List Dt) : Prop := PA X es (tAd X B ρ ds)
inductive TPd (X : Cx) (B : Hp × Hp) (ρ : List Bd) (ds : LPD) (σ : St) (H : Hp) (Q : List V → Hp → Prop) : Prop
  | mk (Hm : Hp) (S : StD X B Hm H σ ρ) (k : ∀ vs Hm' H', Gr Hm H Hm' H' → IsAll X.K Hm' vs ds → Q vs H') : TPd X B ρ ds σ H Q
theorem TPd.el {X : Cx} {B : Hp × Hp} {ρ : List Bd} {ds : LPD} {σ : St} {H : Hp} {Q : List V → Hp → Prop} {b : Prop} (h : TPd X B ρ ds σ H Q) (k : ∀ (Hm : Hp) (S : StD X B Hm H σ ρ) (k : ∀ vs Hm' H', Gr Hm H Hm' H' → IsAll X.K Hm' vs ds → Q vs H'), b) : b := h.casesOn k
def tPd (X : Cx) (B : Hp × Hp) (ρ : List Bd) (ds : LPD) : TA := fun σ H Q => TPd X B ρ ds σ H Q
@[irreducible] def EvP (X : Cx) (B : Hp × Hp) (ρ : List Bd) (es : List Expr) (ds : LPD) : Prop := PA X es (tPd X B ρ ds)
@[irreducible] def Ra (X : Cx) (B : Hp × Hp) (ρ : List Bd) (e : Expr) : Prop := PE X e fun σ H _ => ∃ Hm, StD X B Hm H σ ρ
structure DE where
  nx : List Bd → Prop
  rt : Dt → Prop
  bk : List Bd → Prop := fun _ => False
  ct : List Bd → Prop := fun _ => False
structure EndOk (X : Cx) (B : Hp × Hp) (Hm : Hp) (D : DE) (De : Ends) : Prop where
  nx : ∀ ρ Hm' H σ, D.nx ρ → StD X B Hm' H σ ρ → Same Hm Hm' → De.nx σ H
  bk : ∀ ρ Hm' H σ, D.bk ρ → StD X B Hm' H σ ρ → Same Hm Hm' → De.bk σ H
  ct : ∀ ρ Hm' H σ, D.ct ρ → StD X B Hm' H σ ρ → Same Hm Hm' → De.ct σ H
  rt : ∀ d v Hm H, D.rt d → Gr B.1 B.2 Hm H → IsD X.K Hm v d → De.rt v H
theorem EndOk.up {X : Cx} {B : Hp × Hp} {Hm Hm1 : Hp} {D : DE} {De : Ends} (k : EndOk X B Hm D De) (e : Same Hm Hm1) : EndOk X B Hm1 D De :=
  ⟨fun ρ Hm' H σ a b c => k.nx ρ Hm' H σ a b (e.trans c), fun ρ Hm' H σ a b c => k.bk ρ Hm' H σ a b (e.trans c), fun ρ Hm' H σ a b c => k.ct ρ Hm' H σ a b (e.trans c), k.rt⟩
inductive TRd (X : Cx) (B : Hp × Hp) (ρ : List Bd) (D : DE) (De : Ends) (σ : St) (H : Hp) : Prop
  | mk (Hm : Hp) (S : StD X B Hm H σ ρ) (k : EndOk X B Hm D De) : TRd X B ρ D De σ H
theorem TRd.el {X : Cx} {B : Hp × Hp} {ρ : List Bd} {D : DE} {De : Ends} {σ : St} {H : Hp} {b : Prop} (h : TRd X B ρ D De σ H) (k : ∀ (Hm : Hp) (S : StD X B Hm H σ ρ) (k : EndOk X B Hm D De), b) : b := h.casesOn k
def tR (X : Cx) (B : Hp × Hp) (ρ : List Bd) (D : DE) : TS := fun De σ H => TRd X B ρ D De σ H
@[irreducible] def Run1 (X : Cx) (B : Hp × Hp) (ρ : List Bd) (s : Stmt) (D : DE) : Prop := PS X s (tR X B ρ D)
@[irreducible] def RunS (X : Cx) (B : Hp × Hp) (ρ : List Bd) (ss : List Stmt) (D : DE) : Prop := PSs X ss (tR X B ρ D)
section
variable {X : Cx}
theorem PE.imp {e : Expr} {t t' : TE} (h : PE X e t) (i : ∀ σ H Q, t' σ H Q → t σ H Q) : PE X e t' := fun pins s σ H Q I q => h pins s σ H Q I (i σ H Q q)
theorem PT.imp {e : Expr} {t t' : TT} (h : PT X e t) (i : ∀ σ H Q, t' σ H Q → t σ H Q) : PT X e t' := fun pins s σ H Q I q => h pins s σ H Q I (i σ H Q q)
theorem PW.imp {e : Expr} {t t' : TT} (h : PW X e t) (i : ∀ σ H Q, t' σ H Q → t σ H Q) : PW X e t' := fun wh pins s σ H Q I q => h wh pins s σ H Q I (i σ H Q q)
theorem PA.imp {es : List Expr} {t t' : TA} (h : PA X es t) (i : ∀ σ H Q, t' σ H Q → t σ H Q) : PA X es t' := fun pos pins s σ H Q I q => h pos pins s σ H Q I (i σ H Q q)
theorem PS.imp {st : Stmt} {t t' : TS} (h : PS X st t) (i : ∀ D σ H, t' D σ H → t D σ H) : PS X st t' := fun pins s σ H D I q => h pins s σ H D I (i D σ H q)
theorem PSs.imp {st : List Stmt} {t t' : TS} (h : PSs X st t) (i : ∀ D σ H, t' D σ H → t D σ H) : PSs X st t' := fun pins s σ H D I q => h pins s σ H D I (i D σ H q)
theorem PG.imp {e : Expr} {t t' : TG} (h : PG X e t) (i : ∀ v σ H Q, t' v σ H Q → t v σ H Q) : PG X e t' := fun pins s σ H v u Q I r q => h pins s σ H v u Q I r (i v σ H Q q)
theorem OpR.imp {f : Value → Value → Sem Value} {r r' : R2} (h : OpR X f r) (i : ∀ x y H Q, r' x y H Q → r x y H Q) : OpR X f r' := fun pins s σ H x y v u Q I rx ry q => h pins s σ H x y v u Q I rx ry (i x y H Q q)
theorem CallR.imp {f : Value} {r r' : List V → Hp → VK → Prop} (h : CallR X f r) (i : ∀ xs H Q, r' xs H Q → r xs H Q) : CallR X f r' := fun pins s σ H xs us Q I rv q => h pins s σ H xs us Q I rv (i xs H Q q)
theorem IxR.imp {r r' : R2} (h : IxR X r) (i : ∀ x y H Q, r' x y H Q → r x y H Q) : IxR X r' := fun value slice pins s σ H x y v u Q I rx ry q hs => h value slice pins s σ H x y v u Q I rx ry (i x y H Q q) hs
def uE (X : Cx) (e : Expr) : TE := fun σ H Q => ∃ t, PE X e t ∧ t σ H Q
def uT (X : Cx) (e : Expr) : TT := fun σ H Q => ∃ t, PT X e t ∧ t σ H Q
def uW (X : Cx) (e : Expr) : TT := fun σ H Q => ∃ t, PW X e t ∧ t σ H Q
def uS (X : Cx) (ss : List Stmt) : TS := fun D σ H => ∃ t, PSs X ss t ∧ t D σ H
def uG (X : Cx) (e : Expr) : TG := fun v σ H Q => ∃ t, PG X e t ∧ t v σ H Q
def uO (X : Cx) (f : Value → Value → Sem Value) : R2 := fun x y H Q => ∃ r, OpR X f r ∧ r x y H Q
theorem pu_E {e : Expr} : PE X e (uE X e) := fun pins s σ H Q I ⟨_, h, q⟩ => h pins s σ H Q I q
theorem pu_T {e : Expr} : PT X e (uT X e) := fun pins s σ H Q I ⟨_, h, q⟩ => h pins s σ H Q I q
theorem pu_W {e : Expr} : PW X e (uW X e) := fun wh pins s σ H Q I ⟨_, h, q⟩ => h wh pins s σ H Q I q
theorem pu_S {ss : List Stmt} : PSs X ss (uS X ss) := fun pins s σ H D I ⟨_, h, q⟩ => h pins s σ H D I q
theorem pu_G {e : Expr} : PG X e (uG X e) := fun pins s σ H v u Q I r ⟨_, h, q⟩ => h pins s σ H v u Q I r q
theorem pu_O {f : Value → Value → Sem Value} : OpR X f (uO X f) := fun pins s σ H x y v u Q I rx ry ⟨_, h, q⟩ => h pins s σ H x y v u Q I rx ry q
end
section
variable {X : Cx} {B : Hp × Hp} {ρ : List Bd} {a b c e : Expr} {es : List Expr} {da db dc d : Dt} {pos : Pos}
theorem ev_var {i : Nat} {x : Str} (hN : X.N[i]? = some x) (hρ : ρ[i]? = some (.dat d)) (hv : Vis X.env.scope x) (hd : Dbg x) (hcd : Cdt x) : Ev X B ρ (.Name x pos) d := by
  with_unfolding_all
    exact (
      (pe_var hN hv hd hcd).imp fun σ H Q zq => zq.el fun Hm S k => let ⟨v, e, hv⟩ := S.dat i d hρ; ⟨v, e, k v Hm H (Gr.refl S.gr.i) hv⟩)
theorem ev_c {v : V} (h : PE X e (tC v)) (hd : ∀ H, IsD X.K H v d) : Ev X B ρ e d := by
  with_unfolding_all
    exact (h.imp fun σ H Q zq => zq.el fun Hm S k => k v Hm H (Gr.refl S.gr.i) (hd Hm))
theorem ev_int {i j} : Ev X B ρ (.Constant (.int i) j pos) (dI i) := by
  with_unfolding_all
    exact (ev_c pe_int fun _ => .int i)
theorem ev_bl {b j} : Ev X B ρ (.Constant (.bool b) j pos) (dB b) := by
  with_unfolding_all
    exact (ev_c pe_bl fun _ => .bl b)
theorem ev_str {x j} : Ev X B ρ (.Constant (.str x) j pos) (dS x) := by
  with_unfolding_all
    exact (ev_c pe_str fun _ => .str x)
theorem ev_non {j} : Ev X B ρ (.Constant .none j pos) dN := by
  with_unfolding_all
    exact (ev_c pe_non fun _ => .non)
theorem ev_glob {x : Str} {v : V} {u : Value} (hg : Gl X x) (hm : X.mg x = some u) (r : RelV v u) (hdb : Dbg x) (hd : ∀ H, IsD X.K H v d) : Ev X B ρ (.Name x pos) d := by
  with_unfolding_all
    exact (ev_c (pe_glob hg hm r hdb) hd)
@[irreducible] def OpD (X : Cx) (f : Value → Value → Sem Value) (da db d : Dt) : Prop :=
  OpR X f fun x y H Q => ∃ Hm, Same Hm H ∧ IsD X.K Hm x da ∧ IsD X.K Hm y db ∧ ∀ v Hm' H', Gr Hm H Hm' H' → IsD X.K Hm' v d → Q v H'
abbrev BinD (X : Cx) (op : Operator) (da db d : Dt) : Prop := OpD X (binaryOp op) da db d
abbrev CmpD (X : Cx) (op : CmpOp) (da db : Dt) (b : Bool) : Prop := OpD X (compareOp op) da db (dB b)
theorem ev_bin {op : Operator} (ha : Ev X B ρ a da) (hb : Ev X B ρ b db) (ho : BinD X op da db d) : Ev X B ρ (.BinOp a op b pos) d := by
  with_unfolding_all
    exact (
      (pe_op ho ha hb).imp fun σ H Q zq => zq.el fun Hm S k => ⟨Hm, S, fun x Hm1 H1 g1 h1 => ⟨Hm1, S.grow g1, fun y Hm2 H2 g2 h2 => ⟨Hm2, g2.i, h1.mono g2.m, h2, fun v Hm3 H3 g3 h3 => k v Hm3 H3 ((g1.trans g2).trans g3) h3⟩⟩⟩)
theorem ev_cmp {op : CmpOp} {r : Bool} (ha : Ev X B ρ a da) (hb : Ev X B ρ b db) (ho : CmpD X op da db r) (hm : behindInMarks op b = false) : Ev X B ρ (.Compare a [op] [b] pos) (dB r) := by
  with_unfolding_all
    exact (
      (pe_cmpR ho ha hb hm).imp fun σ H Q zq => zq.el fun Hm S k => ⟨Hm, S, fun x Hm1 H1 g1 h1 => ⟨Hm1, S.grow g1, fun y Hm2 H2 g2 h2 => ⟨Hm2, g2.i, h1.mono g2.m, h2, fun v Hm3 H3 g3 h3 => k v Hm3 H3 ((g1.trans g2).trans g3) h3⟩⟩⟩)
theorem tv_cmp {op : CmpOp} {r : Bool} (ha : Ev X B ρ a da) (hb : Ev X B ρ b db) (ho : CmpD X op da db r) (hm : behindInMarks op b = false) : Tv X B ρ (.Compare a [op] [b] pos) r := by
  with_unfolding_all
    exact (
      (pt_cmpR ho ha hb hm).imp fun σ H Q zq => zq.el fun Hm S k => ⟨Hm, S, fun x Hm1 H1 g1 h1 => ⟨Hm1, S.grow g1, fun y Hm2 H2 g2 h2 => ⟨Hm2, g2.i, h1.mono g2.m, h2, fun v Hm3 H3 g3 h3 => ⟨r, isD_bl h3, k Hm3 H3 ((g1.trans g2).trans g3)⟩⟩⟩⟩)
theorem chain_in {op op' : CmpOp} {r1 r2 : Bool} {H : Hp} {σ : St} {Q : VK} {Hm : Hp} (hc : r1 = true → Ev X B ρ c dc ∧ CmpD X op' db dc r2) (S : StD X B Hm H σ ρ)
    (k : ∀ v Hm' H', Gr Hm H Hm' H' → IsD X.K Hm' v (dB (r1 && r2)) → Q v H') :
    TD X B ρ da σ H fun v H' => TD X B ρ db σ H' fun y H'' =>
      ∃ Hm, Same Hm H'' ∧ IsD X.K Hm v da ∧ IsD X.K Hm y db ∧ ∀ z Hm' H', Gr Hm H'' Hm' H' → IsD X.K Hm' z (dB r1) → ∃ k, z = .bl k ∧ if k = true then uE X c σ H' fun w' H4 => uO X (compareOp op') y w' H4 Q else Q (.bl false) H' := by
  with_unfolding_all
    refine ⟨Hm, S, fun x Hm1 H1 g1 h1 => ⟨Hm1, S.grow g1, fun y Hm2 H2 g2 h2 => ⟨Hm2, g2.i, h1.mono g2.m, h2, fun z Hm3 H3 g3 h3 => ⟨r1, isD_bl h3, ?_⟩⟩⟩⟩
    have g := (g1.trans g2).trans g3
    cases r1 with
    | false => rw [if_neg (by simp)]; exact k _ Hm3 H3 g (.bl false)
    | true =>
      rw [if_pos rfl]; obtain ⟨hc, hr⟩ := hc rfl; exact ⟨_, hc, Hm3, S.grow g, fun w' Hm4 H4 g4 h4 => ⟨_, hr, Hm4, g4.i, h2.mono (g3.m.trans g4.m), h4, fun v Hm5 H5 g5 h5 => k v Hm5 H5 (g.trans (g4.trans g5)) h5⟩⟩
theorem tv_chain {op op' : CmpOp} {r1 r2 : Bool} (ha : Ev X B ρ a da) (hb : Ev X B ρ b db) (ho : CmpD X op da db r1) (hc : r1 = true → Ev X B ρ c dc ∧ CmpD X op' db dc r2) (hm : lastMarks [op, op'] [b, c] = false) :
    Tv X B ρ (.Compare a [op, op'] [b, c] pos) (r1 && r2) := by
  with_unfolding_all
    exact (
      (pt_chain ho pu_O ha hb pu_E hm).imp fun σ H Q zq => zq.el fun Hm S k => chain_in (op := op) (da := da) (Q := fun x H' => ∃ k, x = .bl k ∧ Q k H') hc S fun v Hm' H' g h => ⟨_, isD_bl h, k Hm' H' g⟩)
theorem ev_chain3 {op op' op'' : CmpOp} {f : Expr} {df : Dt} {r1 r2 r3 : Bool} (ha : Ev X B ρ a da) (hb : Ev X B ρ b db) (ho : CmpD X op da db r1) (hc : r1 = true → Ev X B ρ c dc ∧ CmpD X op' db dc r2)
    (hf : r1 = true → r2 = true → Ev X B ρ f df ∧ CmpD X op'' dc df r3) (hm : lastMarks [op, op', op''] [b, c, f] = false) :
    Ev X B ρ (.Compare a [op, op', op''] [b, c, f] pos) (dB (r1 && (r2 && r3))) := by
  with_unfolding_all
    refine (pe_chain3 ho pu_O pu_O ha hb pu_E pu_E hm).imp fun σ H Q zq => zq.el fun Hm S k => ?_
    refine ⟨Hm, S, fun x Hm1 H1 g1 h1 => ⟨Hm1, S.grow g1, fun y Hm2 H2 g2 h2 => ⟨Hm2, g2.i, h1.mono g2.m, h2, fun z Hm3 H3 g3 h3 => ⟨r1, isD_bl h3, ?_⟩⟩⟩⟩
    have g := (g1.trans g2).trans g3
    cases r1 with
    | false => rw [if_neg (by simp)]; exact k _ Hm3 H3 g (.bl false)
    | true =>
      rw [if_pos rfl]; obtain ⟨hc, hr⟩ := hc rfl; refine ⟨_, hc, Hm3, S.grow g, fun w' Hm4 H4 g4 h4 => ⟨_, hr, Hm4, g4.i, h2.mono (g3.m.trans g4.m), h4, fun v Hm5 H5 g5 h5 => ⟨r2, isD_bl h5, ?_⟩⟩⟩
      have g' := (g.trans g4).trans g5
      cases r2 with
      | false => rw [if_neg (by simp)]; exact k _ Hm5 H5 g' (.bl false)
      | true =>
        rw [if_pos rfl]; obtain ⟨hf, hs⟩ := hf rfl rfl; exact ⟨_, hf, Hm5, S.grow g', fun w6 Hm6 H6 g6 h6 => ⟨_, hs, Hm6, g6.i, h4.mono (g5.m.trans g6.m), h6, fun v Hm7 H7 g7 h7 => k v Hm7 H7 (g'.trans (g6.trans g7)) h7⟩⟩
variable {r r' : Bool} {rest : List Expr}
theorem ev_one {op} (h : Ev X B ρ a d) : Ev X B ρ (.BoolOp op [a] pos) d := by
  with_unfolding_all
    exact (pe_one h)
theorem ev_and (ha : Ev X B ρ a (dB r)) (hb : r = true → Ev X B ρ (.BoolOp .And (b :: rest) pos) (dB r')) : Ev X B ρ (.BoolOp .And (a :: b :: rest) pos) (dB (r && r')) := by
  with_unfolding_all
    refine (pe_and ha pu_E).imp fun σ H Q zq => zq.el fun Hm S k => ⟨Hm, S, fun x Hm1 H1 g1 h1 => ⟨r, isD_bl h1, ?_⟩⟩
    cases r with
    | false => rw [if_neg (by simp)]; exact k _ Hm1 H1 g1 (.bl false)
    | true => rw [if_pos rfl]; exact ⟨_, hb rfl, Hm1, S.grow g1, fun v Hm2 H2 g2 h2 => k v Hm2 H2 (g1.trans g2) h2⟩
theorem ev_not (ha : Ev X B ρ a (dB r)) : Ev X B ρ (.UnaryOp .Not a pos) (dB (!r)) := by
  with_unfolding_all
    exact (
      (pe_not ha).imp fun σ H Q zq => zq.el fun Hm S k => ⟨Hm, S, fun x Hm1 H1 g1 h1 => ⟨r, isD_bl h1, k _ Hm1 H1 g1 (.bl (!r))⟩⟩)
theorem tv_not (ha : Tv X B ρ a r) : Tv X B ρ (.UnaryOp .Not a pos) (!r) := by
  with_unfolding_all
    exact (
      (pt_not ha).imp fun σ H Q zq => zq.el fun Hm S k => ⟨Hm, S, fun Hm1 H1 g1 => k Hm1 H1 g1⟩)
theorem tw_and1 (ha : Tv X B ρ a r) : Tw X B ρ (.BoolOp .And [a] pos) r := by
  with_unfolding_all
    exact (pw_and1 ha)
theorem tw_or1 (ha : Tv X B ρ a r) : Tw X B ρ (.BoolOp .Or [a] pos) r := by
  with_unfolding_all
    exact (pw_or1 ha)
theorem tw_and (ha : Tv X B ρ a r) (hb : r = true → Tw X B ρ (.BoolOp .And (b :: rest) pos) r') : Tw X B ρ (.BoolOp .And (a :: b :: rest) pos) (r && r') := by
  with_unfolding_all
    refine (pw_and ha pu_W).imp fun σ H Q zq => zq.el fun Hm S k => ⟨Hm, S, fun Hm1 H1 g1 => ?_⟩
    cases r with
    | false => rw [if_neg (by simp)]; exact k Hm1 H1 g1
    | true => rw [if_pos rfl]; exact ⟨_, hb rfl, Hm1, S.grow g1, fun Hm2 H2 g2 => k Hm2 H2 (g1.trans g2)⟩
theorem tw_or (ha : Tv X B ρ a r) (hb : r = false → Tw X B ρ (.BoolOp .Or (b :: rest) pos) r') : Tw X B ρ (.BoolOp .Or (a :: b :: rest) pos) (r || r') := by
  with_unfolding_all
    refine (pw_or ha pu_W).imp fun σ H Q zq => zq.el fun Hm S k => ⟨Hm, S, fun Hm1 H1 g1 => ?_⟩
    cases r with
    | true => rw [if_pos rfl]; exact k Hm1 H1 g1
    | false => rw [if_neg (by simp)]; exact ⟨_, hb rfl, Hm1, S.grow g1, fun Hm2 H2 g2 => k Hm2 H2 (g1.trans g2)⟩
theorem tv_bool {op : BoolOp} {es : List Expr} (h : Tw X B ρ (.BoolOp op es pos) r) : Tv X B ρ (.BoolOp op es pos) r := by
  with_unfolding_all
    exact (PW.pt h)
theorem ev_if {d1 d2 : Dt} (hc : Tv X B ρ c r) (ha : r = true → Ev X B ρ a d) (hb : r = false → Ev X B ρ b d) : Ev X B ρ (.IfExp c a b pos) d := by
  with_unfolding_all
    refine (pe_ifExp hc (pu_E (e := a)) (pu_E (e := b))).imp fun σ H Q zq => zq.el fun Hm S k => ⟨Hm, S, fun Hm1 H1 g1 => ?_⟩
    cases r with
    | true => rw [if_pos rfl]; exact ⟨_, ha rfl, Hm1, S.grow g1, fun v Hm2 H2 g2 h2 => k v Hm2 H2 (g1.trans g2) h2⟩
    | false => rw [if_neg (by simp)]; exact ⟨_, hb rfl, Hm1, S.grow g1, fun v Hm2 H2 g2 h2 => k v Hm2 H2 (g1.trans g2) h2⟩
theorem ra_if (hc : Tv X B ρ c r) (ha : r = true → Ra X B ρ a) (hb : r = false → Ra X B ρ b) : Ra X B ρ (.IfExp c a b pos) := by
  with_unfolding_all
    refine (pe_ifExp hc (pu_E (e := a)) (pu_E (e := b))).imp fun σ H Q ⟨Hm, S⟩ => ⟨Hm, S, fun Hm1 H1 g1 => ?_⟩
    cases r with
    | true => rw [if_pos rfl]; exact ⟨_, ha rfl, Hm1, S.grow g1⟩
    | false => rw [if_neg (by simp)]; exact ⟨_, hb rfl, Hm1, S.grow g1⟩
def TruD : PyData → Bool → Prop
  | .none, b => b = false
  | .bool x, b => b = x
  | .int i, b => b = (i != 0)
  | .list ds, b => b = !ds.isEmpty
  | .tuple ds, b => b = !ds.isEmpty
  | _, _ => False
theorem empty_of {K : Frag} {H : Hp} {vs : List V} {ds : LPD} (h : IsAll K H vs ds) : vs.isEmpty = ds.isEmpty := by cases h <;> rfl
theorem TruD.ok {K : Frag} {H Hm : Hp} (s : Same Hm H) {v : V} {d : PyData} {b : Bool} (t : TruD d b) (h : IsD K Hm v (.py d)) : TruV K v H b := by
  cases (show Is K Hm v d from h) with
  | non => exact t
  | bl x => exact t
  | int i => exact t
  | str x => exact t.elim
  | lst q a => exact .inl ⟨_, s.seq q, by rw [empty_of a]; exact t⟩
  | tup q a => exact .inr (.inl ⟨_, s.tseq (SqT.of q), by rw [empty_of a]; exact t⟩)
theorem tv_tru {x : PyData} (ha : Ev X B ρ a (.py x)) (t : TruD x r) (he : ∀ whole, isTrue a X.env whole = (do let v ← whole; standAt a.pos; holding [v] (truthy v))) : Tv X B ρ a r := by
  with_unfolding_all
    exact (
      (pt_truth ha he).imp fun σ H Q zq => zq.el fun Hm S k => ⟨Hm, S, fun v Hm1 H1 g1 h1 => ⟨r, t.ok g1.i h1, k Hm1 H1 g1⟩⟩)
theorem eva_nil : EvA X B ρ [] [] := by
  with_unfolding_all
    exact (pa_nil.imp fun σ H Q zq => zq.el fun Hm S k => k [] Hm H (Gr.refl S.gr.i) .nil)
theorem eva_cons {ds : List Dt} (ha : Ev X B ρ e d) (hr : EvA X B ρ es ds) (hs : starEach (e :: es) X.env = (false, eval e X.env) :: starEach es X.env) : EvA X B ρ (e :: es) (d :: ds) := by
  with_unfolding_all
    exact (
      (pa_cons ha hr hs).imp fun σ H Q zq => zq.el fun Hm S k => ⟨Hm, S, fun x Hm1 H1 g1 h1 => ⟨Hm1, S.grow g1, fun xs Hm2 H2 g2 h2 => k _ Hm2 H2 (g1.trans g2) (.cons (h1.mono g2.m) h2)⟩⟩)
theorem evp_nil : EvP X B ρ [] [] := by
  with_unfolding_all
    exact (pa_nil.imp fun σ H Q zq => zq.el fun Hm S k => k [] Hm H (Gr.refl S.gr.i) .nil)
theorem evp_cons {x : PyData} {ds : LPD} (ha : Ev X B ρ e (.py x)) (hr : EvP X B ρ es ds) (hs : starEach (e :: es) X.env = (false, eval e X.env) :: starEach es X.env) : EvP X B ρ (e :: es) (x :: ds) := by
  with_unfolding_all
    exact (
      (pa_cons ha hr hs).imp fun σ H Q zq => zq.el fun Hm S k => ⟨Hm, S, fun y Hm1 H1 g1 h1 => ⟨Hm1, S.grow g1, fun xs Hm2 H2 g2 h2 => k _ Hm2 H2 (g1.trans g2) (.cons (h1.mono g2.m) h2)⟩⟩)
theorem is_newL {K : Frag} {Hm : Hp} {p : Addr} {vs : List V} {ds : LPD} (n : Hm p = none) (h : IsAll K Hm vs ds) : IsD K (upd Hm p (.lst vs)) (.ref p) (.py (.list ds)) :=
  .lst (SqL.of upd_same) ((Same.upd n).isAll h)
theorem is_newT {K : Frag} {Hm : Hp} {p : Addr} {vs : List V} {ds : LPD} (n : Hm p = none) (h : IsAll K Hm vs ds) : IsD K (upd Hm p (.tup vs)) (.ref p) (.py (.tuple ds)) :=
  .tup upd_same ((Same.upd n).isAll h)
theorem ev_tup {ds : LPD} {j} (h : EvP X B ρ es ds) (hl : ds.length ≤ sizeLine) : Ev X B ρ (.Tuple es j pos) (.py (.tuple ds)) := by
  with_unfolding_all
    exact (
      (pe_tup h).imp fun σ H Q zq => zq.el fun Hm S k => ⟨Hm, S, fun vs Hm1 H1 g1 h1 => ⟨by rw [h1.length]; exact hl, fun p hp => k _ _ _ (g1.trans (Gr.new g1.i hp _)) (is_newT (g1.i.free hp) h1)⟩⟩)
theorem ev_lst {ds : LPD} (h : EvP X B ρ es ds) (hl : ds.length ≤ sizeLine) : Ev X B ρ (.List es pos) (.py (.list ds)) := by
  with_unfolding_all
    exact (
      (pe_lst h).imp fun σ H Q zq => zq.el fun Hm S k => ⟨Hm, S, fun vs Hm1 H1 g1 h1 => ⟨by rw [h1.length]; exact hl, fun p hp => k _ _ _ (g1.trans (Gr.new g1.i hp _)) (is_newL (g1.i.free hp) h1)⟩⟩)
@[irreducible] def IxD (X : Cx) (da db d : Dt) : Prop := IxR X fun x y H Q => ∃ Hm, Same Hm H ∧ IsD X.K Hm x da ∧ IsD X.K Hm y db ∧ ∀ v Hm' H', Gr Hm H Hm' H' → IsD X.K Hm' v d → Q v H'
theorem ev_ix (ha : Ev X B ρ a da) (hb : Ev X B ρ b db) (ho : IxD X da db d) (hs : PlainIx b) : Ev X B ρ (.Subscript a b pos) d := by
  with_unfolding_all
    exact (
      (pe_ix ho ha hb hs).imp fun σ H Q zq => zq.el fun Hm S k => ⟨Hm, S, fun x Hm1 H1 g1 h1 => ⟨Hm1, S.grow g1, fun y Hm2 H2 g2 h2 => ⟨Hm2, g2.i, h1.mono g2.m, h2, fun v Hm3 H3 g3 h3 => k v Hm3 H3 ((g1.trans g2).trans g3) h3⟩⟩⟩)
@[irreducible] def CallD (X : Cx) (f : Value) (ds : List Dt) (d : Dt) : Prop := CallR X f fun xs H Q => ∃ Hm, Same Hm H ∧ IsDs X.K Hm xs ds ∧ ∀ v Hm' H', Gr Hm H Hm' H' → IsD X.K Hm' v d → Q v H'
theorem ev_callB {x : Str} {p : Pos} {id : String} {ds : List Dt} (ha : EvA X B ρ (e :: es) ds) (ho : CallD X (.builtin id) ds d) (hg : Gl X x) (hm : X.mg x = none) (hv : bootBuiltins x = some (.builtin id)) (hn : x ≠ "__name__")
    (hdb : Dbg x) (he : starEach (e :: es) X.env = (false, eval e X.env) :: starEach es X.env) (hpl : (backTo pos (starEach es X.env)).any (·.1) = false) : Ev X B ρ (.Call (.Name x p) (e :: es) [] pos) d := by
  with_unfolding_all
    exact (
      (pe_callB ho hg hm hv ha hn hdb he hpl).imp fun σ H Q zq => zq.el fun Hm S k => ⟨Hm, S, fun vs Hm1 H1 g1 h1 => ⟨Hm1, g1.i, h1, fun v Hm3 H3 g3 h3 => k v Hm3 H3 (g1.trans g3) h3⟩⟩)
theorem ev_callTy {x : Str} {p : Pos} {T : String} {ds : List Dt} (ha : EvA X B ρ (e :: es) ds) (ho : CallD X (.type T) ds d) (hg : Gl X x) (hm : X.mg x = none) (hv : bootBuiltins x = some (.type T)) (hn : x ≠ "__name__")
    (hdb : Dbg x) (he : starEach (e :: es) X.env = (false, eval e X.env) :: starEach es X.env) (hpl : (backTo pos (starEach es X.env)).any (·.1) = false) : Ev X B ρ (.Call (.Name x p) (e :: es) [] pos) d := by
  with_unfolding_all
    exact (
      (pe_callTy ho hg hm hv ha hn hdb he hpl).imp fun σ H Q zq => zq.el fun Hm S k => ⟨Hm, S, fun vs Hm1 H1 g1 h1 => ⟨Hm1, g1.i, h1, fun v Hm3 H3 g3 h3 => k v Hm3 H3 (g1.trans g3) h3⟩⟩)
theorem give_own {Hm H : Hp} {σ : St} {i : Nat} {ds : LPD} (S : StD X B Hm H σ ρ) (hi : ρ[i]? = some (ownL X.K ds)) : ∃ Hm', Same Hm Hm' ∧ StD X B Hm' H σ (ρ.set i (.dat (.py (.list ds)))) :=
  S.give hi fun a o n ⟨vs, e, h⟩ => by subst e; exact is_newL n h
theorem IsAll.atI {K : Frag} {H : Hp} {vs : List V} {ds : LPD} (h : IsAll K H vs ds) {k : Int} {y : PyData} (hy : L2.atI ds k = some y) : ∃ v, L2.atI vs k = some v ∧ Is K H v y := by
  unfold L2.atI at hy ⊢; rw [h.length]
  cases e : ixN ds.length k with
  | none => rw [e] at hy; cases hy
  | some j =>
    rw [e] at hy; obtain ⟨v, a, b⟩ := h.at (show ds[j]? = some y from hy)
    exact ⟨v, a, b⟩
theorem tv_own {i : Nat} {ds : LPD} (hi : ρ[i]? = some (ownL X.K ds)) (h : Tv X B (ρ.set i (.dat (.py (.list ds)))) e r) : Tv X B ρ e r := by
  with_unfolding_all
    exact (
      PT.imp h fun σ H Q zq => zq.el fun Hm S k => let ⟨Hm', _, S'⟩ := give_own S hi; ⟨Hm', S', fun Hm2 H2 g2 => k Hm H2 (Gr.grow S.gr.i g2.h)⟩)
theorem ev_ownIx {i : Nat} {x : Str} {ds : LPD} {k : Int} {y : PyData} {p : Pos} (hi : ρ[i]? = some (ownL X.K ds)) (hb : Ev X B ρ b (dI k)) (hy : atI ds k = some y) (hs : PlainIx b) (hN : X.N[i]? = some x) (hv : Vis X.env.scope x)
    (hd : Dbg x) (hcd : Cdt x) : Ev X B ρ (.Subscript (.Name x p) b pos) (.py y) := by
  with_unfolding_all
    refine (pe_ix ix_list (pe_var hN hv hd hcd) hb hs).imp fun σ H Q hz0 => ?_
    obtain ⟨Hm, S, k'⟩ := hz0; obtain ⟨a, o, e0, n0, nm, eH, _, c⟩ := S.obj i _ hi; refine ⟨.ref a, e0, Hm, S, fun v Hm1 H1 g1 h1 => ?_⟩
    obtain ⟨vs, e, hv⟩ := c Hm1 g1.m; subst e; obtain ⟨w', q3, q4⟩ := hv.atI hy; exact ⟨a, vs, k, w', rfl, isD_int h1, SqL.of (g1.h _ _ eH), q3, k' w' Hm1 H1 g1 q4⟩
end
end L2
namespace L2
open PySem PySem.Spec PyProof.Rows PySem.W
section
variable {X : Cx} {B : Hp × Hp} {ρ : List Bd} {e c : Expr} {s : Stmt} {ss : List Stmt} {D : DE} {d : Dt} {pos : Pos} {r : Bool}
theorem run_nil (h : D.nx ρ) : RunS X B ρ [] D := by
  with_unfolding_all
    exact (PSs.imp pss_nil fun De σ H zq => zq.el fun Hm S k => k.nx ρ Hm H σ h S (Same.refl _))
theorem run_cons (h : Run1 X B ρ s { D with nx := fun ρ' => RunS X B ρ' ss D }) : RunS X B ρ (s :: ss) D := by
  with_unfolding_all
    exact (
      PSs.imp (pss_cons h pu_S) fun De σ H zq => zq.el fun Hm S k => ⟨Hm, S, ⟨fun ρ' Hm' H' σ' h' S' sm => ⟨_, h', Hm', S', k.up sm⟩, k.bk, k.ct, k.rt⟩⟩)
theorem run_expr (he : Ev X B ρ e d) (h : D.nx ρ) (hs : swapsWith e none pos.line X.env = pure false) : Run1 X B ρ (.Expr e pos) D := by
  with_unfolding_all
    exact (
      PS.imp (ps_expr he hs) fun De σ H zq => zq.el fun Hm S k => ⟨Hm, S, fun v Hm1 H1 g1 h1 => k.nx ρ Hm1 H1 σ h (S.grow g1) g1.m⟩)
theorem run_exprR (he : Ra X B ρ e) (hs : swapsWith e none pos.line X.env = pure false) : Run1 X B ρ (.Expr e pos) D := by
  with_unfolding_all
    exact (
      PS.imp (ps_expr he hs) fun De σ H zq => zq.el fun Hm S k => ⟨Hm, S⟩)
theorem run_ret (he : Ev X B ρ e d) (h : D.rt d) : Run1 X B ρ (.Return (some e) pos) D := by
  with_unfolding_all
    exact (
      PS.imp (ps_ret he) fun De σ H zq => zq.el fun Hm S k => ⟨Hm, S, fun v Hm1 H1 g1 h1 => k.rt d v Hm1 H1 h (S.gr.trans g1) h1⟩)
theorem run_if {a b : List Stmt} (hc : Tv X B ρ c r) (ha : r = true → RunS X B ρ a D) (hb : r = false → RunS X B ρ b D) : Run1 X B ρ (.If c a b pos) D := by
  with_unfolding_all
    refine PS.imp (ps_if hc (pu_S (ss := a)) (pu_S (ss := b))) fun De σ H zq => zq.el fun Hm S k => ⟨Hm, S, fun Hm1 H1 g1 => ?_⟩
    cases r with
    | true => rw [if_pos rfl]; exact ⟨_, ha rfl, Hm1, S.grow g1, k.up g1.m⟩
    | false => rw [if_neg (by simp)]; exact ⟨_, hb rfl, Hm1, S.grow g1, k.up g1.m⟩
@[irreducible] def TgD (X : Cx) (tg : Expr) (d : Dt) (ρ ρ' : List Bd) (is : List Nat) : Prop :=
  PG X tg fun v σ H Q => ∃ B Hm, StD X B Hm H σ ρ ∧ IsD X.K Hm v d ∧ ∀ σ', StD X B Hm H σ' ρ' → σ'.length = σ.length → (∀ k, k ∉ is → σ'[k]? = σ[k]?) → Q σ' H
theorem tg_name {i : Nat} {x : Str} (hN : X.N.Nodup) (hi : X.N[i]? = some x) (hx : Loc X.env.scope x) (hf : X.fn x = true ∨ X.env.scope.names.lookup x = some .local) : TgD X (.Name x pos) d ρ (ρ.set i (.dat d)) [i] := by
  with_unfolding_all
    exact (
      PG.imp (pg_name hN hi hx hf) fun v σ H Q ⟨B, Hm, S, hv, k⟩ => k _ (S.set (List.getElem?_eq_some_iff.mp hi).1 hv) (by simp) fun j hj => List.getElem?_set_ne (fun z => hj (by simp [z])))
theorem tg_pair {i j : Nat} {x y : Str} {u w' : PyData} {kk : Nat} {p1 p2 : Pos} (hc : X.calm = true) (hN : X.N.Nodup) (hi : X.N[i]? = some x) (hj : X.N[j]? = some y) (hx : Loc X.env.scope x) (hy : Loc X.env.scope y)
    (hf : X.fn x = true ∨ X.env.scope.names.lookup x = some .local) (hg : X.fn y = true ∨ X.env.scope.names.lookup y = some .local) :
    TgD X (.Tuple [.Name x p1, .Name y p2] kk pos) (.py (.tuple [u, w'])) ρ ((ρ.set i (.dat (.py u))).set j (.dat (.py w'))) [i, j] := by
  with_unfolding_all
    refine PG.imp (pg_tup hc (pgs_cons (pg_name (pos := p1) hN hi hx hf) (pgs_cons (pg_name (pos := p2) hN hj hy hg) pgs_nil))) fun v σ H Q hz0 => ?_
    obtain ⟨B, Hm, S, hv, k⟩ := hz0; obtain ⟨a, vs, rfl, q, al⟩ := isD_tup hv
    cases al with
    | cons h1 al =>
      cases al with
      | cons h2 al =>
        cases al; refine ⟨a, _, rfl, S.gr.i.tseq q, rfl, _, _, rfl, _, _, rfl, rfl, ?_⟩
        refine k _ ((S.set (d := .py u) (List.getElem?_eq_some_iff.mp hi).1 h1).set (d := .py w') (List.getElem?_eq_some_iff.mp hj).1 h2) (by simp) fun m hm => ?_
        rw [List.getElem?_set_ne (fun z => hm (by simp [z])), List.getElem?_set_ne (fun z => hm (by simp [z]))]
theorem run_set {i : Nat} {x : Str} {pos' : Pos} (he : Ev X B ρ e d) (h : D.nx (ρ.set i (.dat d))) (hN : X.N.Nodup) (hi : X.N[i]? = some x) (hx : Loc X.env.scope x) (hs : swapsWith e (some (.Name x pos')) pos.line X.env = pure false)
    (hf : X.fn x = true ∨ X.env.scope.names.lookup x = some .local) : Run1 X B ρ (.Assign [.Name x pos'] e pos) D := by
  with_unfolding_all
    exact (
      PS.imp (ps_set hN hi hx he hs hf) fun De σ H zq => zq.el fun Hm S k => ⟨Hm, S, fun v Hm1 H1 g1 h1 => k.nx _ Hm1 H1 _ h ((S.grow g1).set (List.getElem?_eq_some_iff.mp hi).1 h1) g1.m⟩)
theorem run_setR {i : Nat} {x : Str} {pos' : Pos} (he : Ra X B ρ e) (hN : X.N.Nodup) (hi : X.N[i]? = some x) (hx : Loc X.env.scope x) (hs : swapsWith e (some (.Name x pos')) pos.line X.env = pure false)
    (hf : X.fn x = true ∨ X.env.scope.names.lookup x = some .local) : Run1 X B ρ (.Assign [.Name x pos'] e pos) D := by
  with_unfolding_all
    exact (
      PS.imp (ps_set hN hi hx he hs hf) fun De σ H zq => zq.el fun Hm S k => ⟨Hm, S⟩)
theorem run_own {i : Nat} {x : Str} {pos' lp : Pos} {es : List Expr} {ds : LPD} (he : EvP X B ρ es ds) (h : D.nx (ρ.set i (ownL X.K ds))) (hl : ds.length ≤ sizeLine) (hN : X.N.Nodup) (hi : X.N[i]? = some x) (hx : Loc X.env.scope x)
    (hs : swapsWith (.List es lp) (some (.Name x pos')) pos.line X.env = pure false) (hf : X.fn x = true ∨ X.env.scope.names.lookup x = some .local) : Run1 X B ρ (.Assign [.Name x pos'] (.List es lp) pos) D := by
  with_unfolding_all
    exact (
      PS.imp (ps_set hN hi hx (pe_lst he) hs hf) fun De σ H zq => zq.el fun Hm S k => ⟨Hm, S, fun vs Hm1 H1 g1 h1 => ⟨by rw [h1.length]; exact hl, fun p hp =>
        k.nx _ Hm1 (upd H1 p (.lst vs)) _ h ((S.grow g1).setObj (List.getElem?_eq_some_iff.mp hi).1 hp (fun _ z => nomatch z) fun Hm' sm => ⟨vs, rfl, sm.isAll h1⟩) g1.m⟩⟩)
theorem run_append {i : Nat} {x : Str} {np apos cpos : Pos} {ds : LPD} {y : PyData} (hi : ρ[i]? = some (ownL X.K ds)) (he : Ev X B ρ e (.py y)) (h : D.nx (ρ.set i (ownL X.K (ds ++ [y])))) (hl : ds.length < sizeLine)
    (hN : X.N[i]? = some x) (hv : Vis X.env.scope x) (hd : Dbg x) (hcd : Cdt x)
    (hs : swapsWith (.Call (.Attribute (.Name x np) "append" apos) [e] [] cpos) none pos.line X.env = pure false)
    (hbase : attributeBase (.Name x np) "append" X.env (eval (.Name x np) X.env) = eval (.Name x np) X.env)
    (hfew : ((backTo cpos (starEach [e] X.env)).all (fun x => !x.1) && (backToKw cpos (keywordEach [] X.env)).all (fun x => x.1.isSome)
      && decide ([e].length + ([] : List Keyword).length + (if ([] : List Keyword).isEmpty then 0 else 1) < 30)) = true)
    (hline : (apos.endLine == cpos.line) = true) (hst : starEach [e] X.env = [(false, eval e X.env)]) :
    Run1 X B ρ (.Expr (.Call (.Attribute (.Name x np) "append" apos) [e] [] cpos) pos) D := by
  with_unfolding_all
    have hA : PA X [e] (tAd X B ρ [.py y]) := eva_cons he eva_nil hst; refine PS.imp (ps_expr (pe_bm PySem.F.plainAttrs_list PySem.F.slot_list_append PySem.F.type_list_append mt_append (pe_var (pos := np) hN hv hd hcd) hA hbase hfew hline hst rfl) hs) fun De σ H zq => zq.el fun Hm S k => ?_
    obtain ⟨a, o, e0, n0, nm, eH, _, c⟩ := S.obj i _ hi; obtain ⟨vs, rfl, hvs⟩ := c Hm (Same.refl _); refine ⟨.ref a, e0, .inl ⟨rfl, _, SqL.of eH⟩, Hm, S, fun us Hm1 H1 g1 h1 => ?_⟩
    cases h1 with
    | cons h1 hr =>
      cases hr; have hl1 := hvs.length; refine ⟨a, vs, _, rfl, rfl, g1.h _ _ eH, by fail"o", ?_⟩
      refine k.nx _ Hm1 _ _ h ((S.grow g1).put hi e0 (fun _ z => nomatch z) fun Hm' sm => ⟨_, rfl, ?_⟩) g1.m
      exact ((g1.m.trans sm).isAll hvs).append (.cons (sm.is h1) .nil)
theorem run_give {i : Nat} {ds : LPD} (hi : ρ[i]? = some (ownL X.K ds)) (h : RunS X B (ρ.set i (.dat (.py (.list ds)))) ss D) : RunS X B ρ ss D := by
  with_unfolding_all
    exact (
      PSs.imp h fun De σ H zq => zq.el fun Hm S k => let ⟨Hm', sm, S'⟩ := give_own S hi; ⟨Hm', S', k.up sm⟩)
theorem run_while {body : List Stmt} (hp : PassesOwn (model X.prog X.w) X.A X.env X.xe) (J : Nat → List Bd → Prop) (h0 : ∃ m, J m ρ)
    (hs : ∀ m ρ', J m ρ' → ∃ b, Tv X B ρ' c b ∧ (b = true → RunS X B ρ' body { nx := fun ρ'' => ∃ m', m' < m ∧ J m' ρ'', rt := D.rt, bk := D.nx, ct := fun ρ'' => ∃ m', m' < m ∧ J m' ρ'' }) ∧ (b = false → D.nx ρ')) :
    Run1 X B ρ (.While c body [] pos) D := by
  with_unfolding_all
    refine PS.imp (ps_while hp (pu_T (e := c)) (pu_S (ss := body))) fun De σ H zq => zq.el fun Hm S k => ?_
    obtain ⟨m0, j0⟩ := h0; refine ⟨fun m σ H => ∃ ρ' Hm1, J m ρ' ∧ StD X B Hm1 H σ ρ' ∧ Same Hm Hm1, ⟨m0, ρ, Hm, j0, S, Same.refl _⟩, ?_⟩
    rintro m σ H ⟨ρ', Hm1, j, S, sm⟩
    obtain ⟨b, ht, h1, h2⟩ := hs m ρ' j; refine ⟨_, ht, Hm1, S, fun Hm2 H2 g2 => ?_⟩
    have sm2 := sm.trans g2.m
    cases b with
    | true =>
      refine iteT ?_
      refine ⟨fun σ' H' => ∃ m', m' < m ∧ ∃ ρ'' Hm3, J m' ρ'' ∧ StD X B Hm3 H' σ' ρ'' ∧ Same Hm Hm3, fun σ' H' h => h, _, h1 rfl, Hm2, S.grow g2, ?_⟩
      exact ⟨fun ρ'' Hm' H' σ' ⟨m', lt, j'⟩ S' s' => ⟨m', lt, ρ'', Hm', j', S', sm2.trans s'⟩, fun ρ'' Hm' H' σ' h S' s' => k.nx ρ'' Hm' H' σ' h S' (sm2.trans s'), fun ρ'' Hm' H' σ' ⟨m', lt, j'⟩ S' s' => ⟨m', lt, ρ'', Hm', j', S', sm2.trans s'⟩, k.rt⟩
    | false => exact iteF (k.nx ρ' Hm2 H2 σ (h2 rfl) (S.grow g2) sm2)
def WalksD (K : Frag) (J : It) (Hm : Hp) (xs : LPD) : Prop := ∀ i Hm' H, Same Hm Hm' → Same Hm' H →
  (∀ d, xs[i]? = some d → J.go i H ∧ ∀ x H', J.yld i H x H' → H' = H ∧ Is K Hm' x d) ∧ (xs.length ≤ i → J.stop i H)
@[irreducible] def ItD (X : Cx) (B : Hp × Hp) (ρ : List Bd) (tg iter : Expr) (xs : LPD) : Prop :=
  PI X tg iter fun σ H R => ∃ Hm, StD X B Hm H σ ρ ∧ ∀ J Hm' H', Gr Hm H Hm' H' → WalksD X.K J Hm' xs → R J H'
theorem PI.imp {tg iter : Expr} {t t' : TI} (h : PI X tg iter t) (i : ∀ σ H R, t' σ H R → t σ H R) : PI X tg iter t' := fun pins s σ H R I q => h pins s σ H R I (i σ H R q)
theorem it_list {tg : Expr} {xs : LPD} (he : Ev X B ρ e (.py (.list xs))) : ItD X B ρ tg e xs := by
  with_unfolding_all
    refine PI.imp (pi_list he) fun σ H R zq => zq.el fun Hm S k => ⟨Hm, S, fun v Hm1 H1 g1 h1 => ?_⟩
    obtain ⟨a, vs, rfl, q, al⟩ := isD_lst h1; refine ⟨a, rfl, ⟨vs, g1.i.seq q⟩, k _ Hm1 H1 g1 fun i Hm2 H2 s2 t2 => ⟨fun d hd => ?_, fun hl => ⟨vs, (s2.trans t2).seq q, by rw [al.length]; exact hl⟩⟩⟩
    obtain ⟨v, e1, e2⟩ := al.at hd; refine ⟨⟨vs, v, (s2.trans t2).seq q, e1⟩, fun x H' ⟨y1, y2⟩ => ⟨y1, ?_⟩⟩
    have e3 := y2 vs ((s2.trans t2).seq q); rw [e1] at e3; cases e3; exact s2.is e2
theorem it_tup {tg : Expr} {xs : LPD} (he : Ev X B ρ e (.py (.tuple xs))) : ItD X B ρ tg e xs := by
  with_unfolding_all
    refine PI.imp (pi_tup he) fun σ H R zq => zq.el fun Hm S k => ⟨Hm, S, fun v Hm1 H1 g1 h1 => ?_⟩
    obtain ⟨a, vs, rfl, q, al⟩ := isD_tup h1; refine ⟨a, rfl, ⟨vs, g1.i.tseq q⟩, k _ Hm1 H1 g1 fun i Hm2 H2 s2 t2 => ⟨fun d hd => ?_, fun hl => ⟨vs, (s2.trans t2).tseq q, by rw [al.length]; exact hl⟩⟩⟩
    obtain ⟨v, e1, e2⟩ := al.at hd; refine ⟨⟨vs, v, (s2.trans t2).tseq q, e1⟩, fun x H' ⟨y1, y2⟩ => ⟨y1, ?_⟩⟩
    have e3 := y2 vs ((s2.trans t2).tseq q); rw [e1] at e3; cases e3; exact s2.is e2
def rng (lo : Int) (n : Nat) : LPD := (List.range n).map fun (i : Nat) => .int (lo + (i : Int))
theorem rng_walks {K : Frag} {lo : Int} {n : Nat} {Hm : Hp} : WalksD K (Itr lo n) Hm (rng lo n) := fun i Hm' H _ _ => by
  refine ⟨fun d hd => ?_, fun hl => show n ≤ i by simpa [rng] using hl⟩
  unfold rng at hd; rw [List.getElem?_map] at hd
  cases e : (List.range n)[i]? with
  | none => rw [e] at hd; cases hd
  | some j =>
    rw [e] at hd; have hj := List.getElem?_eq_some_iff.mp e
    obtain ⟨h1, h2⟩ := hj; simp at h1 h2; subst h2; cases hd; exact ⟨h1, fun x H' ⟨y1, y2⟩ => ⟨y1, by subst y2; exact .int _⟩⟩
theorem it_range1 {tg a : Expr} {p : Pos} {j : Int} (ha : Ev X B ρ a (dI j)) (h1 : -(2 ^ 62) ≤ j) (h2 : j < 2 ^ 62) (hg : Gl X "range") (hm : X.mg "range" = none) (hs : starEach [a] X.env = [(false, eval a X.env)]) :
    ItD X B ρ tg (.Call (.Name "range" p) [a] [] pos) (rng 0 j.toNat) := by
  with_unfolding_all
    refine PI.imp (pi_range1 hg hm (eva_cons ha eva_nil hs) hs) fun σ H R zq => zq.el fun Hm S k => ⟨Hm, S, fun vs Hm1 H1 g1 h => ?_⟩
    cases h with
    | cons h hr => cases hr; exact ⟨j, by rw [isD_int h], h1, h2, k _ Hm1 H1 g1 rng_walks⟩
theorem it_range2 {tg a b : Expr} {p : Pos} {i j : Int} (ha : Ev X B ρ a (dI i)) (hb : Ev X B ρ b (dI j)) (hb4 : -(2 ^ 62) ≤ i ∧ i < 2 ^ 62 ∧ -(2 ^ 62) ≤ j ∧ j < 2 ^ 62) (hg : Gl X "range") (hm : X.mg "range" = none)
    (hs : starEach [a, b] X.env = [(false, eval a X.env), (false, eval b X.env)]) (hs2 : starEach [b] X.env = [(false, eval b X.env)]) :
    ItD X B ρ tg (.Call (.Name "range" p) [a, b] [] pos) (rng i (j - i).toNat) := by
  with_unfolding_all
    refine PI.imp (pi_range2 hg hm (eva_cons ha (eva_cons hb eva_nil hs2) (by rw [hs, hs2])) hs hs2) fun σ H R zq => zq.el fun Hm S k => ⟨Hm, S, fun vs Hm1 H1 g1 h => ?_⟩
    cases h with
    | cons h hr =>
      cases hr with
      | cons h' hr => cases hr; exact ⟨i, j, by rw [isD_int h, isD_int h'], hb4, k _ Hm1 H1 g1 rng_walks⟩
inductive RunJ (X : Cx) (B : Hp × Hp) (Hm1 : Hp) (l : Nat) (J : Nat → List Bd → Prop) (i m : Nat) (σ : St) (H : Hp) : Prop
  | mk (c0 : m = l - i) (c1 : i ≤ l) (ρ' : List Bd) (Hm2 : Hp) (c2 : J i ρ') (c3 : StD X B Hm2 H σ ρ') (c4 : Same Hm1 Hm2) : RunJ X B Hm1 l J i m σ H
theorem run_for {tg iter : Expr} {body : List Stmt} {xs : LPD} (hp : PassesOwn (model X.prog X.w) X.A X.env X.xe) (hc : X.calm = true) (hi : ItD X B ρ tg iter xs) (J : Nat → List Bd → Prop) (h0 : J 0 ρ)
    (hs : ∀ i d ρ', xs[i]? = some d → J i ρ' → ∃ ρ'' is, TgD X tg (.py d) ρ' ρ'' is ∧ RunS X B ρ'' body { nx := J (i + 1), rt := D.rt, bk := D.nx, ct := J (i + 1) })
    (hd : ∀ ρ', J xs.length ρ' → D.nx ρ') (hss : ∀ x, foldedSetIterable iter X.env x = pure x) : Run1 X B ρ (.For tg iter body [] pos) D := by
  with_unfolding_all
    refine PS.imp (ps_for hp hc hi pu_G (pu_S (ss := body)) hss) fun De σ H zq => zq.el fun Hm S k => ⟨Hm, S, fun It Hm1 H1 g1 wk => ?_⟩
    refine ⟨RunJ X B Hm1 xs.length J, ⟨xs.length, by simp, Nat.zero_le _, ρ, Hm1, h0, S.grow g1, Same.refl _⟩, ?_⟩
    rintro i m σ H ⟨rfl, hle, ρ', Hm2, j, S2, sm⟩
    obtain ⟨w1, w2⟩ := wk i Hm2 H sm S2.gr.i
    by_cases hlt : i < xs.length
    · have e : xs[i]? = some xs[i] := by simp [hlt]
      obtain ⟨go, yl⟩ := w1 _ e; obtain ⟨ρ'', is, tg', rb⟩ := hs i _ ρ' e j; refine .inr ⟨go, fun σ' H' => ∃ ρ3 Hm3, J (i + 1) ρ3 ∧ StD X B Hm3 H' σ' ρ3 ∧ Same Hm1 Hm3, fun σ' H' ⟨ρ3, Hm3, j3, S3, sm3⟩ => ⟨xs.length - (i + 1), by fail"o", rfl, hlt, ρ3, Hm3, j3, S3, sm3⟩, fun x H' hy => ?_⟩
      obtain ⟨rfl, hx⟩ := yl x H' hy; refine ⟨_, tg', B, Hm2, S2, hx, fun σ' S' _ _ => ⟨_, rb, Hm2, S', ?_⟩⟩
      exact ⟨fun ρ3 Hm' H' σ' j' S' s' => ⟨ρ3, Hm', j', S', sm.trans s'⟩, fun ρ3 Hm' H' σ' h S' s' => k.nx ρ3 Hm' H' σ' h S' ((g1.m.trans sm).trans s'), fun ρ3 Hm' H' σ' j' S' s' => ⟨ρ3, Hm', j', S', sm.trans s'⟩, k.rt⟩
    · have e : i = xs.length := by fail"o"
      subst e; exact .inl ⟨w2 (Nat.le_refl _), k.nx ρ' Hm2 H σ (hd ρ' j) S2 (g1.m.trans sm)⟩
end
end L2
namespace L2
open PySem PySem.Spec PyProof.Rows PySem.W
def seenB (src : List (Option Nat)) (ρ : List Bd) : List Bd := src.map fun o => match o with
  | some k => (match ρ[k]? with | some (.dat d) => .dat d | _ => .un)
  | none => .un
@[irreducible] def Tvs (X : Cx) (B : Hp × Hp) (ρ : List Bd) (ifs : List Expr) (b : Bool) : Prop := PTs X ifs (tTd X B ρ b)
theorem PTs.imp {X : Cx} {ifs : List Expr} {t t' : TT} (h : PTs X ifs t) (i : ∀ σ H Q, t' σ H Q → t σ H Q) : PTs X ifs t' := fun pins s σ H Q I q => h pins s σ H Q I (i σ H Q q)
theorem tvs_nil {X : Cx} {B : Hp × Hp} {ρ : List Bd} : Tvs X B ρ [] true := by
  with_unfolding_all
    exact (PTs.imp pts_nil fun σ H Q zq => zq.el fun Hm S k => k Hm H (Gr.refl S.gr.i))
theorem tvs_one {X : Cx} {B : Hp × Hp} {ρ : List Bd} {c : Expr} {b : Bool} (h : Tv X B ρ c b) : Tvs X B ρ [c] b := by
  with_unfolding_all
    exact (pts_one h)
theorem StD.cx {X Y : Cx} {B : Hp × Hp} {Hm H : Hp} {σ : St} {ρ : List Bd} (S : StD X B Hm H σ ρ) (hK : Y.K = X.K) (hN : Y.N.length = X.N.length) : StD Y B Hm H σ ρ :=
  ⟨S.gr, S.len.trans hN.symm, fun i d e => by rw [hK]; exact S.dat i d e, S.obj, S.dis⟩
theorem sub_of : ∀ {a b : St}, a.length = b.length → (∀ (k : Nat) (v : V), a[k]? = some (some v) → b[k]? = some (some v)) → Sub a b
  | [], [], _, _ => .nil
  | [], _ :: _, h, _ => by simp at h
  | _ :: _, [], h, _ => by simp at h
  | none :: a, w' :: b, h, k => .skip (sub_of (by simpa using h) fun j v e => by simpa using k (j + 1) v (by simpa using e))
  | some x :: a, w' :: b, h, k => by
    have := k 0 x (by simp)
    simp at this; subst this; exact .keep (sub_of (by simpa using h) fun j v e => by simpa using k (j + 1) v (by simpa using e))
section
variable {X : Cx} {B : Hp × Hp} {ρ : List Bd} {tg elt iter : Expr} {ifs : List Expr} {scope : Scope} {N : List Str} {src : List (Option Nat)} {pos : Pos} {xs : LPD}
theorem seen_none {σ : St} {i : Nat} (h : src[i]? = some none) : (seen src σ)[i]? = some none := by
  unfold seen; rw [List.getElem?_map, h]; rfl
theorem seen_st {Hm H : Hp} {σ : St} (S : StD X B Hm H σ ρ) (hl : src.length = N.length) {L : Addr} {s₀ : Shared} {H₀ : Hp} {fp : List Addr} : StD (X.comp scope N L s₀ H₀ fp) (Hm, H) Hm H (seen src σ) (seenB src ρ) := by
  have get : ∀ (i : Nat) (b : Bd), (seenB src ρ)[i]? = some b → b = .un ∨ ∃ (k : Nat) (d : Dt), src[i]? = some (some k) ∧ ρ[k]? = some (.dat d) ∧ b = .dat d := fun i b e => by
    unfold seenB at e; rw [List.getElem?_map] at e
    cases q : src[i]? with
    | none => rw [q] at e; cases e
    | some o =>
      rw [q] at e
      cases o with
      | none => cases e; exact .inl rfl
      | some k =>
        have e' : (match ρ[k]? with | some (.dat d) => Bd.dat d | _ => .un) = b := Option.some.inj e
        split at e'
        · rename_i d hd; exact .inr ⟨k, d, rfl, hd, e'.symm⟩
        · exact .inl e'.symm
  refine ⟨Gr.refl S.gr.i, ?_, fun i d e => ?_, fun i φ e => ?_, fun i j φ ψ a e => ?_⟩
  · unfold seen; rw [List.length_map]; exact hl
  · rcases get i _ e with q | ⟨k, d', e1, e2, e3⟩
    · cases q
    · cases e3
      obtain ⟨v, q1, q2⟩ := S.dat k d e2; refine ⟨v, ?_, q2⟩
      unfold seen; rw [List.getElem?_map, e1]
      show some ((σ[k]?).join) = _
      rw [q1]; rfl
  · rcases get i _ e with q | ⟨k, d', e1, e2, e3⟩
    · cases q
    · cases e3
  · rcases get i _ e with q | ⟨k, d', e1, e2, e3⟩
    · cases q
    · cases e3
@[irreducible] def CompD (X : Cx) (scope : Scope) (N : List Str) (src : List (Option Nat)) (tg : Expr) (ifs : List Expr) (elt : Expr) (ρc : List Bd) (xs : LPD) (ρx : PyData → List Bd) (b : PyData → Bool) (f : PyData → PyData) : Prop :=
  ∀ L s₀ H₀ fp d, d ∈ xs → ∃ is, TgD (X.comp scope N L s₀ H₀ fp) tg (.py d) ρc (ρx d) is ∧ (∀ i ∈ is, src[i]? = some none) ∧
    ∀ B, Tvs (X.comp scope N L s₀ H₀ fp) B (ρx d) ifs (b d) ∧ (b d = true → Ev (X.comp scope N L s₀ H₀ fp) B (ρx d) elt (.py (f d)))
def cG (X : Cx) (scope : Scope) (N : List Str) (tg : Expr) : TG := fun v σ H Q => ∀ L s₀ H₀ fp, uG (X.comp scope N L s₀ H₀ fp) tg v σ H Q
def cT (X : Cx) (scope : Scope) (N : List Str) (ifs : List Expr) : TT := fun σ H Q => ∀ L s₀ H₀ fp, ∃ t, PTs (X.comp scope N L s₀ H₀ fp) ifs t ∧ t σ H Q
def cE (X : Cx) (scope : Scope) (N : List Str) (elt : Expr) : TE := fun σ H Q => ∀ L s₀ H₀ fp, uE (X.comp scope N L s₀ H₀ fp) elt σ H Q
theorem c_all (L : Addr) (s₀ : Shared) (H₀ : Hp) (fp : List Addr) : PG (X.comp scope N L s₀ H₀ fp) tg (cG X scope N tg) ∧ PTs (X.comp scope N L s₀ H₀ fp) ifs (cT X scope N ifs) ∧ PE (X.comp scope N L s₀ H₀ fp) elt (cE X scope N elt) :=
  ⟨fun pins s σ H v u Q I r h => pu_G pins s σ H v u Q I r (h L s₀ H₀ fp), fun pins s σ H Q I h => let ⟨_, h, q⟩ := h L s₀ H₀ fp; h pins s σ H Q I q, fun pins s σ H Q I h => pu_E pins s σ H Q I (h L s₀ H₀ fp)⟩
theorem comp_go {J : It} {Hm1 H1 : Hp} {σ : St} {ρx : PyData → List Bd} {b : PyData → Bool} {f : PyData → PyData} {Q : List V → Hp → Prop} (wk : WalksD X.K J Hm1 xs) (S : StD X B Hm1 H1 σ ρ) (hl : src.length = N.length)
    (hc : CompD X scope N src tg ifs elt (seenB src ρ) xs ρx b f) (hz : xs.length ≤ sizeLine) (k : ∀ acc Hm2 H2, Gr Hm1 H1 Hm2 H2 → IsAll X.K Hm2 acc ((xs.filter b).map f) → Q acc H2) :
    compW J H1 (seen src σ) (cG X scope N tg) (cT X scope N ifs) (cE X scope N elt) Q := by
  with_unfolding_all
    refine ⟨fun i m acc H => m = xs.length - i ∧ i ≤ xs.length ∧ ∃ Hm2, Gr Hm1 H1 Hm2 H ∧ IsAll X.K Hm2 acc (((xs.take i).filter b).map f), ⟨xs.length, by simp, Nat.zero_le _, Hm1, Gr.refl S.gr.i, by simpa using IsAll.nil⟩, ?_⟩
    rintro i m acc H ⟨rfl, hle, Hm2, g, al⟩
    have hal : acc.length ≤ i := by
      have h1 := al.length; rw [List.length_map] at h1; have h2 := List.length_filter_le b (xs.take i); have h3 : (xs.take i).length ≤ i := by rw [List.length_take]; fail"o"
      fail"o"
    obtain ⟨w1, w2⟩ := wk i Hm2 H g.m g.i
    by_cases hlt : i < xs.length
    · have e : xs[i]? = some xs[i] := by simp [hlt]
      have hmem : xs[i] ∈ xs := List.getElem_mem hlt; obtain ⟨go, yl⟩ := w1 _ e; have htk : xs.take (i + 1) = xs.take i ++ [xs[i]] := by rw [List.take_succ, e]; rfl
      refine .inr ⟨go, fun x H' hy => ?_⟩
      obtain ⟨eH, hx⟩ := yl x H' hy; subst eH; intro L s₀ H₀ fp; obtain ⟨is, tg', his, _⟩ := hc L s₀ H₀ fp _ hmem; have S0 : StD (X.comp scope N L s₀ H₀ fp) (Hm1, H1) Hm2 H' (seen src σ) (seenB src ρ) := (seen_st S hl).grow g; refine ⟨_, tg', (Hm1, H1), Hm2, S0, hx, fun σ' S' hlen hag => ⟨sub_of hlen.symm fun j v ej => ?_, ?_⟩⟩
      · by_cases hj : j ∈ is
        · rw [seen_none (his j hj)] at ej; cases ej
        · rw [hag j hj]; exact ej
      intro L s₀ H₀ fp; obtain ⟨_, _, _, hB⟩ := hc L s₀ H₀ fp _ hmem; obtain ⟨tv, ev⟩ := hB (Hm1, H1); refine ⟨_, tv, Hm2, S'.cx rfl rfl, fun Hm3 H3 g3 => ?_⟩
      cases hb : b xs[i] with
      | false =>
        rw [if_neg (by simp)]
        refine ⟨xs.length - (i + 1), by fail"o", rfl, hlt, Hm3, g.trans g3, ?_⟩
        rw [htk, List.filter_append, List.map_append]; simpa [hb] using g3.m.isAll al
      | true =>
        rw [if_pos rfl]; intro L s₀ H₀ fp; obtain ⟨_, _, _, hB⟩ := hc L s₀ H₀ fp _ hmem; obtain ⟨_, ev⟩ := hB (Hm1, H1); refine ⟨_, ev hb, Hm3, (S'.grow g3).cx rfl rfl, fun v Hm4 H4 g4 h4 => ⟨by fail"o", xs.length - (i + 1), by fail"o", rfl, hlt, Hm4, (g.trans g3).trans g4, ?_⟩⟩
        rw [htk, List.filter_append, List.map_append]; have : (List.filter b [xs[i]]).map f = [f xs[i]] := by simp [hb]
        rw [this]; exact ((g3.m.trans g4.m).isAll al).append (.cons h4 .nil)
    · have e : i = xs.length := by fail"o"
      subst e; refine .inl ⟨w2 (Nat.le_refl _), by fail"o", k acc Hm2 H g ?_⟩
      simpa using al
variable {ρx : PyData → List Bd} {b : PyData → Bool} {f : PyData → PyData}
theorem ev_comp (hc : X.calm = true) (C : CompOk X scope N src) (hi : ItD X B ρ tg iter xs) (hd : CompD X scope N src tg ifs elt (seenB src ρ) xs ρx b f) (hz : xs.length ≤ sizeLine) (hs : ∀ x, foldedSetIterable iter X.env x = pure x) :
    Ev X B ρ (.ListComp elt [⟨tg, iter, ifs, 0⟩] scope pos) (.py (.list ((xs.filter b).map f))) := by
  with_unfolding_all
    exact (
      PE.imp (pe_comp hc C hi c_all hs) fun σ H Q zq => zq.el fun Hm S k => ⟨Hm, S, fun J Hm1 H1 g1 wk => comp_go wk (S.grow g1) C.len hd hz fun acc Hm2 H2 g2 al p hp => k _ _ _ ((g1.trans g2).trans (Gr.new g2.i hp _)) (is_newL (g2.i.free hp) al)⟩)
theorem run_setComp {D : DE} {i : Nat} {y : Str} {py spos : Pos} (hc : X.calm = true) (C : CompOk X scope N src) (hi : ItD X B ρ tg iter xs) (hd : CompD X scope N src tg ifs elt (seenB src ρ) xs ρx b f) (h : D.nx (ρ.set i (.dat (.py (.list ((xs.filter b).map f)))))) (hz : xs.length ≤ sizeLine)
    (hN : X.N.Nodup) (hi' : X.N[i]? = some y) (hy : X.env.scope.names.lookup y = some .local) (hsw : swapsWith (.ListComp elt [⟨tg, iter, ifs, 0⟩] scope pos) (some (.Name y py)) spos.line X.env = pure true) (hs : ∀ x, foldedSetIterable iter X.env x = pure x) :
    Run1 X B ρ (.Assign [.Name y py] (.ListComp elt [⟨tg, iter, ifs, 0⟩] scope pos) spos) D := by
  with_unfolding_all
    exact (
      PS.imp (ps_setComp hc hN hi' hy C hi c_all hsw hs) fun De σ H zq => zq.el fun Hm S k => ⟨Hm, S, fun J Hm1 H1 g1 wk => comp_go wk (S.grow g1) C.len hd hz fun acc Hm2 H2 g2 al p hp =>
        k.nx _ _ _ _ h ((S.grow ((g1.trans g2).trans (Gr.new g2.i hp (.lst acc)))).set (List.getElem?_eq_some_iff.mp hi').1 (is_newL (g2.i.free hp) al)) ((g1.m.trans g2.m).trans (Same.upd (g2.i.free hp)))⟩)
end
end L2
namespace L2
open PySem PySem.Spec PyProof.Rows PySem.W
inductive DRes where
  | val (d : Dt)
  | exc (C : Addr)
abbrev Fc := List Dt → DRes → Prop
def spD (K : Frag) (f : Fc) : Sp := fun vs H Q E => ∃ ds r Hm, Same Hm H ∧ IsDs K Hm vs ds ∧ f ds r ∧ match r with
  | .val d => ∀ v Hm' H', Gr Hm H Hm' H' → IsD K Hm' v d → Q v H'
  | .exc C => ∀ Hm' H', Gr Hm H Hm' H' → E (.ref C) none H'
structure PassOk (X : Cx) (B : Hp × Hp) (xc : Addr → Prop) : Prop where
  ex : ∃ E, Passes (CX1 X.prog X.w) X E ∧ ∀ C Hm H, xc C → Gr B.1 B.2 Hm H → E (.ref C) none H
structure RaiseOk (X : Cx) (B : Hp × Hp) (xc : Addr → Prop) : Prop where
  ex : ∃ E, IsDef X E ∧ ∀ C Hm H, xc C → Gr B.1 B.2 Hm H → E (.ref C) none H
theorem RaiseOk.pass {X : Cx} {B : Hp × Hp} {xc : Addr → Prop} (R : RaiseOk X B xc) : PassOk X B xc := let ⟨E, D, h⟩ := R.ex; ⟨E, D.passes, h⟩
abbrev DfD (X : Cx) (k : Nat) (x : Str) (ps : List Str) (f : Fc) : Prop := Dfn X.prog X.w X.K X.mg X.base k x ps (spD X.K f)
section
variable {X : Cx} {B : Hp × Hp} {ρ : List Bd} {e : Expr} {es : List Expr} {d : Dt} {ds : List Dt} {x : Str} {p pos : Pos} {k : Nat} {ps : List Str} {f : Fc} {xc : Addr → Prop} {C : Addr}
theorem ev_def (D : DfD X k x ps f) (hr : Room k X.A) (ha : EvA X B ρ (e :: es) ds) (hf : f ds (.val d)) (hg : Gl X x) (hdb : Dbg x)
    (he : starEach (e :: es) X.env = (false, eval e X.env) :: starEach es X.env) (hpl : (backTo pos (starEach es X.env)).any (·.1) = false) : Ev X B ρ (.Call (.Name x p) (e :: es) [] pos) d := by
  with_unfolding_all
    exact (
      PE.imp (pe_def D hr ha hg hdb he hpl) fun σ H Q zq => zq.el fun Hm S k => ⟨Hm, S, fun vs Hm1 H1 g1 h1 => by
        show spD X.K f (vs ++ []) H1 Q E0
        rw [List.append_nil]; exact ⟨ds, .val d, Hm1, g1.i, h1, hf, fun v Hm2 H2 g2 h2 => k v Hm2 H2 (g1.trans g2) h2⟩⟩)
theorem ra_def (R : PassOk X B xc) (D : DfD X k x ps f) (hr : Room k X.A) (ha : EvA X B ρ (e :: es) ds) (hf : f ds (.exc C)) (hC : xc C) (hg : Gl X x) (hdb : Dbg x)
    (he : starEach (e :: es) X.env = (false, eval e X.env) :: starEach es X.env) (hpl : (backTo pos (starEach es X.env)).any (·.1) = false) : Ra X B ρ (.Call (.Name x p) (e :: es) [] pos) := by
  with_unfolding_all
    obtain ⟨E, hP, hE⟩ := R.ex; refine PE.imp (pe_defX D hr hP ha hg hdb he hpl) fun σ H Q ⟨Hm, S⟩ => ⟨Hm, S, fun vs Hm1 H1 g1 h1 => ?_⟩
    show spD X.K f (vs ++ []) H1 Q E
    rw [List.append_nil]; exact ⟨ds, .exc C, Hm1, g1.i, h1, hf, fun Hm2 H2 g2 => hE C Hm2 H2 hC (S.gr.trans (g1.trans g2))⟩
theorem run_raise {D : DE} (R : RaiseOk X B xc) (c : ExcCls X.K C) (hC : xc C) {np cpos sp : Pos} {txt : Str} {j : Nat} (hc : X.calm = true) (hm : X.mg x = some (.ref C)) (hg : Gl X x) (hd : Dbg x) :
    Run1 X B ρ (.Raise (some (.Call (.Name x np) [.Constant (.str txt) j sp] [] cpos)) none pos) D := by
  with_unfolding_all
    obtain ⟨E, hD, hE⟩ := R.ex; exact PS.imp (ps_raise hD hc c hg hm hd) fun De σ H zq => zq.el fun Hm S k => hE C Hm H hC S.gr
end
def dEnd : DRes → DE
  | .val d => { nx := fun _ => d = dN, rt := fun d' => d' = d }
  | .exc _ => { nx := fun _ => False, rt := fun _ => False }
def xcOf (r : DRes) : Addr → Prop := fun C => r = .exc C
def ent (N ps : List Str) (ds : List Dt) : List Bd := ds.map .dat ++ List.replicate (N.length - ps.length) .un
theorem ent_st {X : Cx} {Hm H : Hp} {vs : List V} {ds : List Dt} {ps : List Str} (hs : Same Hm H) (hd : IsDs X.K Hm vs ds) (hl : vs.length ≤ X.N.length) : StD X (Hm, H) Hm H (start X.N vs) (ent X.N ps ds) := by
  have hlen : vs.length = ds.length := Paired.length hd
  have get : ∀ (i : Nat) (b : Bd), (ent X.N ps ds)[i]? = some b → b = .un ∨ ∃ d : Dt, ds[i]? = some d ∧ b = .dat d := fun i b e => by
    unfold ent at e
    by_cases hi : i < (ds.map Bd.dat).length
    · rw [List.getElem?_append_left hi, List.getElem?_map] at e
      cases q : ds[i]? with
      | none => rw [q] at e; cases e
      | some d => rw [q] at e; exact .inr ⟨d, rfl, (Option.some.inj e).symm⟩
    · rw [List.getElem?_append_right (Nat.not_lt.mp hi), List.getElem?_replicate] at e
      split at e
      · exact .inl (Option.some.inj e).symm
      · cases e
  refine ⟨Gr.refl hs, ?_, fun i d e => ?_, fun i φ e => ?_, fun i j φ ψ a e => ?_⟩
  · unfold start; rw [List.length_append, List.length_map, List.length_replicate]; fail"o"
  · rcases get i _ e with q | ⟨d', e1, e2⟩
    · cases q
    · cases e2
      have : ∀ {vs : List V} {ds : List Dt} {i : Nat}, IsDs X.K Hm vs ds → ds[i]? = some d → ∃ v, vs[i]? = some v ∧ IsD X.K Hm v d := by
        intro vs ds i h
        induction h generalizing i with
        | nil => intro q; simp at q
        | cons h1 hr ih =>
          intro q
          cases i with
          | zero => simp at q; subst q; exact ⟨_, rfl, h1⟩
          | succ i => simpa using ih (by simpa using q)
      obtain ⟨v, q1, q2⟩ := this hd e1; refine ⟨v, ?_, q2⟩
      have hi : i < (vs.map some).length := by rw [List.length_map]; exact (List.getElem?_eq_some_iff.mp q1).1
      unfold start; rw [List.getElem?_append_left hi, List.getElem?_map, q1]; rfl
  · rcases get i _ e with q | ⟨d', e1, e2⟩
    · cases q
    · cases e2
  · rcases get i _ e with q | ⟨d', e1, e2⟩
    · cases q
    · cases e2
section
variable {P : Program} {w : World} {K : Frag} {mg : MgT} {base : Heap}
theorem Fun.okD {x qual : Str} {st : Stmt} {f : Addr} {fd : FuncData} {N ps : List Str} {k : Nat} {g : Fc} (F : Fun K x qual st f fd) (S : FnScope N ps (defScope st)) (hps : ps.length ≤ N.length) (len : ∀ ds r, g ds r → ds.length = ps.length)
    (hbody : ∀ (cdv : Value) (A : Around) (outer : List Env) (s : Shared) (H : Hp) (E : XK) (B : Hp × Hp) (ds : List Dt) (r : DRes), Room k (A.deeper (envOfC qual (defScope st) s.heap.objs.size f cdv)) →
      RaiseOk (cxOf (CX1 P w) P w K mg base N qual (defScope st) f cdv A outer s H E) B (xcOf r) → g ds r →
      RunS (cxOf (CX1 P w) P w K mg base N qual (defScope st) f cdv A outer s H E) B (ent N ps ds) (defBody st) (dEnd r)) : FnOk P w K mg base (CX1 P w) (k + 1) f fd ps (spD K g) := by
  with_unfolding_all
    have hlen : ∀ vs H Q E, spD K g vs H Q E → vs.length = ps.length := by
      intro vs H Q E hz; obtain ⟨ds, r, Hm, _, h1, h2, _⟩ := hz; exact (Paired.length h1).trans (len ds r h2)
    refine F.ok1 S hlen fun cdv A outer s H vs Q E hr hsp => ?_
    have hl := hlen _ _ _ _ hsp; obtain ⟨ds, r, Hm, hs, hv, hg, hk⟩ := hsp
    have RO : RaiseOk (cxOf (CX1 P w) P w K mg base N qual (defScope st) f cdv A outer s H E) (Hm, H) (xcOf r) := by
      refine ⟨E, isDef_cxOf, fun C Hm' H' hC g' => ?_⟩
      have hC' : r = .exc C := hC; subst hC'; exact hk Hm' H' g'
    refine ⟨_, hbody cdv A outer s H E (Hm, H) ds r hr RO hg, Hm, ent_st (X := cxOf (CX1 P w) P w K mg base N qual (defScope st) f cdv A outer s H E) hs hv (by rw [hl]; exact hps), ?_⟩
    cases r with
    | val d =>
      refine ⟨fun ρ Hm' H' σ h S' _ => ?_, fun ρ Hm' H' σ h S' _ => h.elim, fun ρ Hm' H' σ h S' _ => h.elim, fun d' v Hm' H' h g' hv => ?_⟩
      · have hd : d = dN := h
        subst hd; exact hk .non Hm' H' S'.gr .non
      · have hd : d' = d := h
        subst hd; exact hk v Hm' H' g' hv
    | exc C => exact ⟨fun ρ Hm' H' σ h S' _ => h.elim, fun ρ Hm' H' σ h S' _ => h.elim, fun ρ Hm' H' σ h S' _ => h.elim, fun d' v Hm' H' h g' hv => h.elim⟩
end
def excD (C : Addr) : Dt := .sp fun H v => ∃ ea, v = .ref ea ∧ H ea = some (.ext (ExcAt ea C))
def kept (n j : Nat) (C : Addr) : List Bd := (List.replicate n Bd.un).set j (.dat (excD C))
section
variable {X : Cx} {B : Hp × Hp} {ρ : List Bd}
theorem PassOk.tryIn {pins : Pins} {E' : VSP} {Ew : XK} {xc : Addr → Prop} (h : Passes (CX1 X.prog X.w) (X.tryIn pins E') Ew) (hE : ∀ C Hm H, xc C → Gr B.1 B.2 Hm H → Ew (.ref C) none H) : PassOk (X.tryIn pins E') B xc := ⟨Ew, h, hE⟩
theorem Gr.base {A1 A2 Hm H Hm' H' : Hp} (g0 : Gr A1 A2 Hm H) (g : Gr Hm A2 Hm' H') : Gr A1 A2 Hm' H' := ⟨g0.m.trans g.m, g.h, g.i, fun a e n => g.o a (g0.o a e n) n⟩
theorem StD.base {Hm H Hm' H' : Hp} {σ : St} {ρ' : List Bd} (g0 : Gr B.1 B.2 Hm H) (S : StD X (Hm, B.2) Hm' H' σ ρ') : StD X B Hm' H' σ ρ' := ⟨g0.base S.gr, S.len, S.dat, S.obj, S.dis⟩
theorem StD.rebase {Hm H : Hp} {σ : St} (S : StD X B Hm H σ ρ) : StD X (Hm, B.2) Hm H σ ρ := ⟨⟨Same.refl _, S.gr.h, S.gr.i, fun _ e _ => e⟩, S.len, S.dat, S.obj, S.dis⟩
theorem kept_st {Hm H : Hp} {C ea : Addr} {j : Nat} (g : Gr B.1 B.2 Hm H) (hj : j < X.N.length) (n : H ea = none) : StD X B (upd Hm ea (.ext (ExcAt ea C))) (upd H ea (.ext (ExcAt ea C))) ((List.replicate X.N.length none).set j (some (.ref ea))) (kept X.N.length j C) := by
  have un : ∀ (i : Nat) (b : Bd), (List.replicate X.N.length Bd.un)[i]? = some b → b = .un := fun i b e => by
    rw [List.getElem?_replicate] at e
    split at e
    · exact (Option.some.inj e).symm
    · cases e
  refine ⟨g.trans (Gr.new g.i n _), by simp, fun i d e => ?_, fun i φ e => ?_, fun i k φ ψ a e => ?_⟩
  · rcases getElem_set_cases e with ⟨rfl, ee⟩ | ⟨ne, e⟩
    · cases ee
      exact ⟨.ref ea, by rw [List.getElem?_set_self (by simpa using hj)], fun H2 s2 => ⟨ea, rfl, s2 _ _ upd_same⟩⟩
    · cases un i _ e
  · rcases getElem_set_cases e with ⟨rfl, ee⟩ | ⟨ne, e⟩
    · cases ee
    · cases un i _ e
  · rcases getElem_set_cases e with ⟨rfl, ee⟩ | ⟨ne, e⟩
    · cases ee
    · cases un i _ e
theorem run_try {D : DE} (hD : InDef X) {i j : Nat} {n kp cn : Str} {C0 : Addr} {body : List Stmt} {np p1 p2 p3 hp pos : Pos} {xc : Addr → Prop} (hx : ∀ C, xc C → PySem.W.exmOne X.K (.ref C) (.ref C0) = some true)
    (hb : ∀ pins E' B, PassOk (X.tryIn pins E') B xc → RunS (X.tryIn pins E') B ρ body D) (hk : ∀ C, xc C → D.nx (kept X.N.length j C))
    (hN : X.N.Nodup) (hi : X.N[i]? = some n) (hj : X.N[j]? = some kp) (hij : i ≠ j)
    (hn : X.env.scope.names.lookup n = some .local) (hkl : X.env.scope.names.lookup kp = some .local) (hm : X.mg cn = some (.ref C0)) (hg : Gl X cn)
    (hdb : Dbg cn) (hdn : Dbg n) (hcd : Cdt n) :
    Run1 X B ρ (.Try body [.ExceptHandler (some (.Name cn np)) (some n) [.Assign [.Name kp p1] (.Name n p2) p3] hp] [] [] pos) D := by
  with_unfolding_all
    refine PS.imp (ps_try hD (t := fun Ew De σ H => ∃ B' : Hp × Hp, ∃ Hm, StD X B' Hm H σ ρ ∧ EndOk X B' Hm D De ∧ ∀ C Hm H, xc C → Gr B'.1 B'.2 Hm H → Ew (.ref C) none H) hN hi hj hij hn hkl hg hm (fun pins E' Ew hP pins' s σ H De I h => ?_) hdb hdn hcd) fun De σ H zq => zq.el fun Hm S k => ?_
    · obtain ⟨B', Hm, S, k, hE⟩ := h
      refine hb pins E' B' (PassOk.tryIn hP hE) pins' s σ H De I ⟨Hm, S.cx rfl rfl, ?_⟩
      exact ⟨fun ρ Hm' H' σ' h S' => k.nx ρ Hm' H' σ' h (S'.cx rfl rfl), fun ρ Hm' H' σ' h S' => k.bk ρ Hm' H' σ' h (S'.cx rfl rfl), fun ρ Hm' H' σ' h S' => k.ct ρ Hm' H' σ' h (S'.cx rfl rfl), k.rt⟩
    · refine ⟨(Hm, B.2), Hm, S.rebase, ⟨fun ρ Hm' H' σ' h S' => k.nx ρ Hm' H' σ' h (S'.base S.gr), fun ρ Hm' H' σ' h S' => k.bk ρ Hm' H' σ' h (S'.base S.gr), fun ρ Hm' H' σ' h S' => k.ct ρ Hm' H' σ' h (S'.base S.gr), fun d v Hm' H' h g => k.rt d v Hm' H' h (S.gr.base g)⟩, fun C Hm1 H1 hC g1 => ⟨C, rfl, hx C hC, fun ea hea => ?_⟩⟩
      have g2 := S.gr.base g1; exact k.nx _ _ _ _ (hk C hC) (kept_st g2 (List.getElem?_eq_some_iff.mp hj).1 hea) (g1.m.trans (Same.upd (g1.i.free hea)))
end
end L2
namespace L2
open PySem PySem.Spec PyProof.Rows PySem.W
section
variable {X : Cx} {i j : Int}
theorem opd_I {f : Value → Value → Sem Value} {g : Int → Int → Int} (h : OpR X f (rI0 fun i j => .int (g i j))) : OpD X f (dI i) (dI j) (dI (g i j)) := by
  with_unfolding_all
    exact (
      h.imp fun x y H Q => ex4 fun Hm s hx hy k => ⟨i, j, isD_int hx, isD_int hy, k _ Hm H (Gr.refl s) (.int _)⟩)
theorem opd_IC {f : Value → Value → Sem Value} {C : Int → Int → Prop} {g : Int → Int → Int} (h : OpR X f (rI C fun i j => .int (g i j))) (hc : C i j) : OpD X f (dI i) (dI j) (dI (g i j)) := by
  with_unfolding_all
    exact (
      h.imp fun x y H Q => ex4 fun Hm s hx hy k => ⟨i, j, isD_int hx, isD_int hy, hc, k _ Hm H (Gr.refl s) (.int _)⟩)
theorem opd_B {f : Value → Value → Sem Value} {g : Int → Int → Bool} (h : OpR X f (rI0 fun i j => .bl (g i j))) : OpD X f (dI i) (dI j) (dB (g i j)) := by
  with_unfolding_all
    exact (
      h.imp fun x y H Q => ex4 fun Hm s hx hy k => ⟨i, j, isD_int hx, isD_int hy, k _ Hm H (Gr.refl s) (.bl _)⟩)
theorem o_add : BinD X .Add (dI i) (dI j) (dI (i + j)) := by
  with_unfolding_all
    exact (opd_I op_add)
theorem o_sub : BinD X .Sub (dI i) (dI j) (dI (i - j)) := by
  with_unfolding_all
    exact (opd_I op_sub)
theorem o_mul (h : CMul i j) : BinD X .Mult (dI i) (dI j) (dI (i * j)) := by
  with_unfolding_all
    exact (opd_IC op_mul h)
theorem o_mod (h : 0 < j) : BinD X .Mod (dI i) (dI j) (dI (i % j)) := by
  with_unfolding_all
    exact (opd_IC op_mod h)
theorem o_fdiv (h : CDiv i j) : BinD X .FloorDiv (dI i) (dI j) (dI (i / j)) := by
  with_unfolding_all
    exact (opd_IC op_fdiv h)
theorem o_lt : CmpD X .Lt (dI i) (dI j) (decide (i < j)) := by
  with_unfolding_all
    exact (opd_B op_lt)
theorem o_le : CmpD X .LtE (dI i) (dI j) (decide (i ≤ j)) := by
  with_unfolding_all
    exact (opd_B op_le)
theorem o_gt : CmpD X .Gt (dI i) (dI j) (decide (j < i)) := by
  with_unfolding_all
    exact (opd_B op_gt)
theorem o_ge : CmpD X .GtE (dI i) (dI j) (decide (j ≤ i)) := by
  with_unfolding_all
    exact (opd_B op_ge)
theorem o_geM {a b : List Int} (hu : X.A.units + 64 < cLine) : CmpD X .GtE (.py (dM a)) (.py (dM b)) (!ltL a b) := by
  with_unfolding_all
    exact (
      (op_geT hu).imp fun x y H Q => ex4 fun Hm s hx hy k => ⟨a, b, s.is hx, s.is hy, k _ Hm H (Gr.refl s) (.bl _)⟩)
theorem o_eq {d e : PyData} {r : Bool} (hu : X.A.units + 64 < cLine) (l1 : d.canLay0 = true) (l2 : e.canLay0 = true) (hd : d.depth ≤ 60) (hr : PyData.eqv d e = r) : CmpD X .Eq (.py d) (.py e) r := by
  with_unfolding_all
    exact (
      (op_eqD hu).imp fun x y H Q => ex4 fun Hm s hx hy k => ⟨d, e, s.is hx, s.is hy, l1, l2, hd, k _ Hm H (Gr.refl s) (by rw [hr]; exact .bl _)⟩)
theorem o_ne {d e : PyData} {r : Bool} (hu : X.A.units + 64 < cLine) (l1 : d.canLay0 = true) (l2 : e.canLay0 = true) (hd : d.depth ≤ 60) (hr : PyData.eqv d e = r) : CmpD X .NotEq (.py d) (.py e) (!r) := by
  with_unfolding_all
    exact (
      (op_neD hu).imp fun x y H Q => ex4 fun Hm s hx hy k => ⟨d, e, s.is hx, s.is hy, l1, l2, hd, k _ Hm H (Gr.refl s) (by rw [hr]; exact .bl _)⟩)
theorem o_eqI (hu : X.A.units + 64 < cLine) : CmpD X .Eq (dI i) (dI j) (decide (i = j)) := by
  with_unfolding_all
    exact (o_eq hu rfl rfl (by show 0 ≤ 60; decide) (goodInt.eqv i j))
theorem o_neI (hu : X.A.units + 64 < cLine) : CmpD X .NotEq (dI i) (dI j) (!decide (i = j)) := by
  with_unfolding_all
    exact (o_ne hu rfl rfl (by show 0 ≤ 60; decide) (goodInt.eqv i j))
theorem o_neB {a b : Bool} (hu : X.A.units + 64 < cLine) : CmpD X .NotEq (dB a) (dB b) (a != b) := by
  with_unfolding_all
    have := o_ne (X := X) (d := .bool a) (e := .bool b) (r := a == b) hu rfl rfl (by show 0 ≤ 60; decide) (by cases a <;> cases b <;> rfl)
    exact this
theorem o_isN {d : PyData} {r : Bool} (h : (match d with | .none => true | _ => false) = r) : CmpD X .Is (.py d) dN r := by
  with_unfolding_all
    exact (
      op_isN.imp fun x y H Q => ex4 fun Hm s hx hy k => ⟨isD_non hy, by
        have e : decide (x = .non) = r := by
          subst h; cases (show Is X.K Hm x d from hx) <;> rfl
        rw [e]; exact k _ Hm H (Gr.refl s) (.bl _)⟩)
theorem o_isNx {C : Addr} : CmpD X .Is (excD C) dN false := by
  with_unfolding_all
    exact (
      op_isN.imp fun x y H Q => ex4 fun Hm s hx hy k => ⟨isD_non hy, by
        obtain ⟨ea, rfl, _⟩ := hx Hm (Same.refl _); exact k _ Hm H (Gr.refl s) (.bl _)⟩)
theorem flat_ints (ns : List Int) : (ns.map V.int).all flatV = true := by
  induction ns with
  | nil => rfl
  | cons n r ih => exact ih
theorem inV_ints {n : Int} {ns : List Int} : inV (.int n) (ns.map V.int) = decide (n ∈ ns) := by
  induction ns with
  | nil => rfl
  | cons m r ih =>
    show ((m == n) || inV (.int n) (r.map V.int)) = _
    rw [ih, Bool.beq_eq_decide_eq, decide_eq_decide.mpr (eq_comm (a := m)), ← Bool.decide_or]; exact decide_eq_decide.mpr List.mem_cons.symm
theorem o_inSq {n : Int} {ns : List Int} (d : PyData) (hd : d = .list (ns.map .int) ∨ d = .tuple (ns.map .int)) : CmpD X .In (dI n) (.py d) (decide (n ∈ ns)) := by
  with_unfolding_all
    exact (
      op_in_seq.imp fun x y H Q hz => by
        obtain ⟨Hm, s, hx, hy, k⟩ := hz; have e := isD_int hx; subst e; rcases hd with rfl | rfl
        · obtain ⟨a, vs, rfl, q, al⟩ := isD_lst hy
          have e := ints_isAll al; subst e; exact ⟨a, _, rfl, .inl (s.seq q), rfl, flat_ints ns, by rw [if_neg (by simp), inV_ints]; exact k _ Hm H (Gr.refl s) (.bl _)⟩
        · obtain ⟨a, vs, rfl, q, al⟩ := isD_tup hy
          have e := ints_isAll al; subst e; exact ⟨a, _, rfl, .inr (s.tseq q), rfl, flat_ints ns, by rw [if_neg (by simp), inV_ints]; exact k _ Hm H (Gr.refl s) (.bl _)⟩)
theorem o_ninSq {n : Int} {ns : List Int} (d : PyData) (hd : d = .list (ns.map .int) ∨ d = .tuple (ns.map .int)) : CmpD X .NotIn (dI n) (.py d) (!decide (n ∈ ns)) := by
  with_unfolding_all
    exact (
      op_notIn_seq.imp fun x y H Q hz => by
        obtain ⟨Hm, s, hx, hy, k⟩ := hz; have e := isD_int hx; subst e; rcases hd with rfl | rfl
        · obtain ⟨a, vs, rfl, q, al⟩ := isD_lst hy
          have e := ints_isAll al; subst e; exact ⟨a, _, rfl, .inl (s.seq q), rfl, flat_ints ns, by rw [if_pos rfl, inV_ints]; exact k _ Hm H (Gr.refl s) (.bl _)⟩
        · obtain ⟨a, vs, rfl, q, al⟩ := isD_tup hy
          have e := ints_isAll al; subst e; exact ⟨a, _, rfl, .inr (s.tseq q), rfl, flat_ints ns, by rw [if_pos rfl, inV_ints]; exact k _ Hm H (Gr.refl s) (.bl _)⟩)
abbrev dL (ns : List Int) : PyData := .list (ns.map .int)
theorem o_inM {n : Int} {m : List Int} : CmpD X .In (dI n) (.py (dM m)) (decide (n ∈ m)) := by
  with_unfolding_all
    exact (o_inSq _ (.inr rfl))
theorem o_ninM {n : Int} {m : List Int} : CmpD X .NotIn (dI n) (.py (dM m)) (!decide (n ∈ m)) := by
  with_unfolding_all
    exact (o_ninSq _ (.inr rfl))
theorem o_inL {n : Int} {m : List Int} : CmpD X .In (dI n) (.py (dL m)) (decide (n ∈ m)) := by
  with_unfolding_all
    exact (o_inSq _ (.inl rfl))
theorem o_ninL {n : Int} {m : List Int} : CmpD X .NotIn (dI n) (.py (dL m)) (!decide (n ∈ m)) := by
  with_unfolding_all
    exact (o_ninSq _ (.inl rfl))
theorem dec_any {p : Prop} (i j : Decidable p) : @decide p i = @decide p j := by cases i <;> cases j <;> first | rfl | contradiction
theorem o_inMs {m : List Int} {ms : LLI} (hu : X.A.units + 64 < cLine) : CmpD X .In (.py (dM m)) (.py (dMs ms)) (decide (m ∈ ms)) := by
  with_unfolding_all
    exact (
      (op_inD (X := X) goodM (by decide) hu).imp fun x y H Q => ex4 fun Hm s hx hy k => ⟨m, ms, s.is hx, s.is hy, by rw [if_neg (by simp), dec_any _ inferInstance]; exact k _ Hm H (Gr.refl s) (.bl _)⟩)
theorem o_ninMs {m : List Int} {ms : LLI} (hu : X.A.units + 64 < cLine) : CmpD X .NotIn (.py (dM m)) (.py (dMs ms)) (!decide (m ∈ ms)) := by
  with_unfolding_all
    exact (
      (op_notinD (X := X) goodM (by decide) hu).imp fun x y H Q => ex4 fun Hm s hx hy k => ⟨m, ms, s.is hx, s.is hy, by rw [if_pos rfl, dec_any _ inferInstance]; exact k _ Hm H (Gr.refl s) (.bl _)⟩)
theorem o_catT {xs ys : LPD} (h : xs.length + ys.length ≤ sizeLine) : BinD X .Add (.py (.tuple xs)) (.py (.tuple ys)) (.py (.tuple (xs ++ ys))) := by
  with_unfolding_all
    exact (
      op_catE.imp fun x y H Q hz => by
        obtain ⟨Hm, s, hx, hy, k⟩ := hz; obtain ⟨a, vs, rfl, q, al⟩ := isD_tup hx; obtain ⟨b, us, rfl, q', al'⟩ := isD_tup hy; have l1 := al.length; have l2 := al'.length; refine ⟨a, b, vs, us, rfl, rfl, s.tseq q, s.tseq q', by fail"o", fun e => ?_, fun _ e => ?_, fun p hp => k _ _ _ (Gr.new s hp _) (is_newT (s.free hp) (al.append al'))⟩
        · subst e; cases al; exact k _ Hm H (Gr.refl s) hy
        · subst e; cases al'; rw [List.append_nil] at k; exact k _ Hm H (Gr.refl s) hx)
theorem o_catL {xs ys : LPD} (h : xs.length + ys.length ≤ sizeLine) : BinD X .Add (.py (.list xs)) (.py (.list ys)) (.py (.list (xs ++ ys))) := by
  with_unfolding_all
    exact (
      op_catL.imp fun x y H Q hz => by
        obtain ⟨Hm, s, hx, hy, k⟩ := hz; obtain ⟨a, vs, rfl, q, al⟩ := isD_lst hx; obtain ⟨b, us, rfl, q', al'⟩ := isD_lst hy; have l1 := al.length; have l2 := al'.length; exact ⟨a, b, vs, us, rfl, rfl, s.seq q, s.seq q', by fail"o", fun p hp => k _ _ _ (Gr.new s hp _) (is_newL (s.free hp) (al.append al'))⟩)
theorem ixd_L {ds : LPD} {d : PyData} (h : atI ds i = some d) : IxD X (.py (.list ds)) (dI i) (.py d) := by
  with_unfolding_all
    exact (
      ix_list.imp fun x y H Q hz => by
        obtain ⟨Hm, s, hx, hy, k⟩ := hz; obtain ⟨a, vs, rfl, q, al⟩ := isD_lst hx; obtain ⟨v, e1, e2⟩ := al.atI h; exact ⟨a, vs, i, v, rfl, isD_int hy, s.seq q, e1, k _ Hm H (Gr.refl s) e2⟩)
theorem ixd_T {ds : LPD} {d : PyData} (h : atI ds i = some d) : IxD X (.py (.tuple ds)) (dI i) (.py d) := by
  with_unfolding_all
    exact (
      ix_tup.imp fun x y H Q hz => by
        obtain ⟨Hm, s, hx, hy, k⟩ := hz; obtain ⟨a, vs, rfl, q, al⟩ := isD_tup hx; obtain ⟨v, e1, e2⟩ := al.atI h; exact ⟨a, vs, i, v, rfl, isD_int hy, s.tseq q, e1, k _ Hm H (Gr.refl s) e2⟩)
theorem isDs1 {K : Frag} {H : Hp} {xs : List V} {d : Dt} (h : IsDs K H xs [d]) : ∃ v, xs = [v] ∧ IsD K H v d := by
  cases h with
  | cons h r => cases r; exact ⟨_, rfl, h⟩
theorem isDs2 {K : Frag} {H : Hp} {xs : List V} {d e : Dt} (h : IsDs K H xs [d, e]) : ∃ v u, xs = [v, u] ∧ IsD K H v d ∧ IsD K H u e := by
  cases h with
  | cons h r =>
    cases r with
    | cons h' r => cases r; exact ⟨_, _, rfl, h, h'⟩
theorem c_lenL {ds : LPD} : CallD X (.builtin "len") [.py (.list ds)] (dI ds.length) := by
  with_unfolding_all
    exact (
      call_len_seq.imp fun xs H Q hz => by
        obtain ⟨Hm, s, h0, k⟩ := hz; obtain ⟨v, rfl, h⟩ := isDs1 h0; obtain ⟨a, vs, rfl, q, al⟩ := isD_lst h; exact ⟨a, vs, rfl, .inl (s.seq q), by rw [al.length]; exact k _ Hm H (Gr.refl s) (.int _)⟩)
theorem c_lenT {ds : LPD} : CallD X (.builtin "len") [.py (.tuple ds)] (dI ds.length) := by
  with_unfolding_all
    exact (
      call_len_seq.imp fun xs H Q hz => by
        obtain ⟨Hm, s, h0, k⟩ := hz; obtain ⟨v, rfl, h⟩ := isDs1 h0; obtain ⟨a, vs, rfl, q, al⟩ := isD_tup h; exact ⟨a, vs, rfl, .inr (s.tseq q), by rw [al.length]; exact k _ Hm H (Gr.refl s) (.int _)⟩)
theorem bools_isAll {K : Frag} {H : Hp} : ∀ {bs : List Bool} {vs : List V}, IsAll K H vs (bs.map .bool) → vs = bs.map V.bl
  | [], _, h => by cases h; rfl
  | n :: r, _, h => by
    rw [List.map_cons] at h
    cases h with
    | cons a b => cases a; rw [bools_isAll b]; rfl
theorem c_any {bs : List Bool} (hc : X.calm = true) : CallD X (.builtin "any") [.py (.list (bs.map .bool))] (dB (bs.any id)) := by
  with_unfolding_all
    exact (
      (call_any hc).imp fun xs H Q hz => by
        obtain ⟨Hm, s, h0, k⟩ := hz; obtain ⟨v, rfl, h⟩ := isDs1 h0; obtain ⟨a, vs, rfl, q, al⟩ := isD_lst h; rw [bools_isAll al] at q; exact ⟨a, bs, rfl, s.seq q, k _ Hm H (Gr.refl s) (.bl _)⟩)
theorem c_tuple {ds : LPD} {d : PyData} (hd : d = .list ds ∨ d = .tuple ds) : CallD X (.type "tuple") [.py d] (.py (.tuple ds)) := by
  with_unfolding_all
    exact (
      call_tuple_of.imp fun xs H Q hz => by
        obtain ⟨Hm, s, h0, k⟩ := hz; obtain ⟨v, rfl, h⟩ := isDs1 h0; rcases hd with rfl | rfl
        · obtain ⟨a, vs, rfl, q, al⟩ := isD_lst h
          exact ⟨a, vs, rfl, .inl ⟨s.seq q, fun p hp => k _ _ _ (Gr.new s hp _) (is_newT (s.free hp) al)⟩⟩
        · have h' := h
          obtain ⟨a, vs, rfl, q, al⟩ := isD_tup h; exact ⟨a, vs, rfl, .inr ⟨s.tseq q, k _ Hm H (Gr.refl s) h'⟩⟩)
end
section
variable {α : Type}
def ins (lt : α → α → Bool) (x : α) : List α → List α
  | [] => [x]
  | y :: r => if lt y x then y :: ins lt x r else x :: y :: r
def isort (lt : α → α → Bool) : List α → List α
  | [] => []
  | x :: r => ins lt x (isort lt r)
theorem ins_perm {lt : α → α → Bool} {x : α} : ∀ l : List α, (ins lt x l).Perm (x :: l)
  | [] => .refl _
  | y :: r => by
    unfold ins
    split
    · exact ((ins_perm r).cons y).trans (.swap x y r)
    · exact .refl _
theorem isort_perm {lt : α → α → Bool} : ∀ l : List α, (isort lt l).Perm l
  | [] => .refl _
  | x :: r => (ins_perm _).trans ((isort_perm r).cons x)
structure Ord (lt : α → α → Bool) : Prop where
  asym : ∀ a b, lt a b = true → lt b a = false
  tran : ∀ a b c, lt b a = false → lt c b = false → lt c a = false
  eq : ∀ a b, lt a b = false → lt b a = false → a = b
theorem ins_up {lt : α → α → Bool} (O : Ord lt) {x : α} : ∀ {l : List α}, l.Pairwise (fun a b => lt b a = false) → (ins lt x l).Pairwise (fun a b => lt b a = false)
  | [], _ => by simp [ins]
  | y :: r, h => by
    rw [List.pairwise_cons] at h; unfold ins
    split
    · rename_i hl
      rw [List.pairwise_cons]; refine ⟨fun z hz => ?_, ins_up O h.2⟩
      rcases List.mem_cons.mp ((ins_perm r).mem_iff.mp hz) with rfl | hz
      · exact O.asym _ _ hl
      · exact h.1 z hz
    · rename_i hl
      have hl' : lt y x = false := by simpa using hl
      rw [List.pairwise_cons]; refine ⟨fun z hz => ?_, by rw [List.pairwise_cons]; exact h⟩
      rcases List.mem_cons.mp hz with rfl | hz
      · exact hl'
      · exact O.tran _ _ _ hl' (h.1 z hz)
theorem isort_up {lt : α → α → Bool} (O : Ord lt) : ∀ l : List α, (isort lt l).Pairwise (fun a b => lt b a = false)
  | [] => .nil
  | x :: r => ins_up O (isort_up O r)
theorem up_unique {lt : α → α → Bool} (O : Ord lt) : ∀ {l m : List α}, l.Perm m → l.Pairwise (fun a b => lt b a = false) → m.Pairwise (fun a b => lt b a = false) → l = m
  | [], m, p, _, _ => by rw [List.nil_perm.mp p]
  | x :: l, m, p, hl, hm => by
    cases m with
    | nil => exact absurd p.length_eq (by simp)
    | cons y m =>
      have e : x = y := by
        have h1 : x ∈ y :: m := p.mem_iff.mp (List.mem_cons_self ..); have h2 : y ∈ x :: l := p.mem_iff.mpr (List.mem_cons_self ..); rw [List.pairwise_cons] at hl hm; rcases List.mem_cons.mp h1 with e | h1
        · exact e
        · rcases List.mem_cons.mp h2 with e | h2
          · exact e.symm
          · exact O.eq x y (hm.1 x h1) (hl.1 y h2)
      subst e; rw [up_unique O (List.Perm.cons_inv p) (List.pairwise_cons.mp hl).2 (List.pairwise_cons.mp hm).2]
theorem isort_eq {lt : α → α → Bool} (O : Ord lt) {l m : List α} (p : m.Perm l) (h : m.Pairwise (fun a b => lt b a = false)) : m = isort lt l := up_unique O (p.trans (isort_perm l).symm) h (isort_up O l)
end
def ltI' (a b : Int) : Bool := decide (a < b)
theorem ordI : Ord ltI' := ⟨fun a b h => by simp [ltI'] at *; fail"o", fun a b c h1 h2 => by simp [ltI'] at *; fail"o", fun a b h1 h2 => by simp [ltI'] at *; fail"o"⟩
theorem ordL : Ord ltL := ⟨ltL_asym, ltL_tran, ltL_eq⟩
abbrev sortI : List Int → List Int := isort ltI'
abbrev sortM : LLI → LLI := isort ltL
section
variable {X : Cx}
theorem c_sortedI {ns : List Int} {d : PyData} (hd : d = .list (ns.map .int) ∨ d = .tuple (ns.map .int)) (hl : ns.length < 64) : CallD X (.builtin "sorted") [.py d] (.py (dL (sortI ns))) := by
  with_unfolding_all
    exact (
      call_sortedI.imp fun xs H Q hz => by
        obtain ⟨Hm, s, h0, k⟩ := hz; obtain ⟨v, rfl, h⟩ := isDs1 h0
        have fin : ∀ (ns' : List Int) (D : Addr), ns'.Perm ns → ns'.Pairwise (· ≤ ·) → H D = none → Q (.ref D) (upd H D (.lst (ns'.map V.int))) := fun ns' D p u hD => by
          have e : ns' = sortI ns := isort_eq ordI p (u.imp fun {a b} z => by simp [ltI']; exact z)
          subst e; exact k _ _ _ (Gr.new s hD _) (is_newL (s.free hD) (isAll_ints _))
        rcases hd with rfl | rfl
        · obtain ⟨a, vs, rfl, q, al⟩ := isD_lst h
          have e := ints_isAll al; subst e; exact ⟨a, ns, rfl, .inl (s.seq q), hl, fin⟩
        · obtain ⟨a, vs, rfl, q, al⟩ := isD_tup h
          have e := ints_isAll al; subst e; exact ⟨a, ns, rfl, .inr (s.tseq q), hl, fin⟩)
theorem c_sortedM {ms : LLI} (hl : ms.length < 64) (hn : 2 ≤ ms.length → ∀ m ∈ ms, m ≠ []) : CallD X (.builtin "sorted") [.py (dMs ms)] (.py (dMs (sortM ms))) := by
  with_unfolding_all
    exact (
      call_sortedT.imp fun xs H Q hz => by
        obtain ⟨Hm, s, h0, k⟩ := hz; obtain ⟨v, rfl, h⟩ := isDs1 h0; obtain ⟨a, vs, rfl, q, al⟩ := isD_lst h; refine ⟨a, vs, ms, Hm, rfl, s, .inl (s.seq q), al, hl, hn, fun vs' ms' D p u al' hD => ?_⟩
        have e : ms' = sortM ms := isort_eq ordL p u; subst e; exact k _ _ _ (Gr.new s hD _) (is_newL (s.free hD) al'))
def setMD (K : Frag) (w : World) (ms : LLI) : Dt := .sp fun H v => ∃ S ks, v = .ref S ∧ H S = some (SetT w S ks) ∧ IsAll K H (refs ks) (ks.map fun q => dM q.1) ∧ ks.map (·.1) = ms
theorem refs_of {K : Frag} {H : Hp} : ∀ {ms : LLI} {vs : List V}, IsAll K H vs (ms.map dM) → ∃ ks : List (List Int × Addr), vs = refs ks ∧ ks.map (·.1) = ms
  | [], _, h => by cases h; exact ⟨[], rfl, rfl⟩
  | m :: r, _, h => by
    rw [List.map_cons] at h
    cases h with
    | cons h1 h2 =>
      obtain ⟨a, rfl, _⟩ := is_dM.mp h1; obtain ⟨ks, rfl, e⟩ := refs_of h2; exact ⟨(m, a) :: ks, rfl, by rw [List.map_cons, e]⟩
theorem map_fst {ms : LLI} {ks : List (List Int × Addr)} (e : ks.map (·.1) = ms) {β : Type} (f : List Int → β) : (ks.map fun q => f q.1) = ms.map f := by rw [← e, List.map_map]; rfl
theorem c_setM {ms : LLI} (hc : X.calm = true) (hu : X.A.units + 64 < cLine) (hl : ms.length ≤ 60) (hh : (ms.map hT).Nodup) : CallD X (.type "set") [.py (dMs ms)] (setMD X.K X.w ms) := by
  with_unfolding_all
    exact (
      (call_setT' hc hu).imp fun xs H Q hz => by
        obtain ⟨Hm, s, h0, k⟩ := hz; obtain ⟨v, rfl, h⟩ := isDs1 h0; obtain ⟨a, vs, rfl, q, al⟩ := isD_lst h; obtain ⟨ks, rfl, e⟩ := refs_of al; have al' : IsAll X.K Hm (refs ks) (ks.map fun q => dM q.1) := by rw [map_fst e dM]; exact al
        refine ⟨a, ks, rfl, s.seq q, s.isAll al', by rw [← List.length_map (f := (·.1)) (as := ks), e]; exact hl, by rw [map_fst e hT]; exact hh, fun S hS => ?_⟩
        refine k _ _ _ (Gr.new s hS _) fun H2 s2 => ⟨S, ks, rfl, s2 _ _ upd_same, ((Same.upd (s.free hS)).trans s2).isAll al', e⟩)
theorem c_sortedS {ms : LLI} (hc : X.calm = true) (hl : ms.length ≤ 60) (hn : ∀ m ∈ ms, m ≠ []) : CallD X (.builtin "sorted") [setMD X.K X.w ms] (.py (dMs (sortM ms))) := by
  with_unfolding_all
    exact (
      (call_sortedS hc).imp fun xs H Q hz => by
        obtain ⟨Hm, s, h0, k⟩ := hz; obtain ⟨v, rfl, h⟩ := isDs1 h0; obtain ⟨S, ks, rfl, hS, al, e⟩ := h Hm (Same.refl _); refine ⟨S, ks, Hm, rfl, s, s _ _ hS, al, by rw [← List.length_map (f := (·.1)) (as := ks), e]; exact hl, fun q hq => hn q.1 (by rw [← e]; exact List.mem_map_of_mem hq), fun vs' ms' D p u al' hD => ?_⟩
        have e2 : ms' = sortM ms := isort_eq ordL (by rw [← e]; exact p) u
        subst e2; exact k _ _ _ (Gr.new s hD _) (is_newL (s.free hD) al'))
def setID (ns : List Int) : Dt := .sp fun H v => ∃ (S : Addr) (ds : List Int), v = .ref S ∧ H S = some (.set (fun k => decide (k ∈ ds)) ds.length) ∧ ds.Nodup ∧ ∀ k : Int, k ∈ ds ↔ k ∈ ns
theorem c_setI {ns : List Int} (hc : X.calm = true) (hl : ns.length ≤ 4000) : CallD X (.type "set") [.py (dL ns)] (setID ns) := by
  with_unfolding_all
    exact (
      (call_setI hc).imp fun xs H Q hz => by
        obtain ⟨Hm, s, h0, k⟩ := hz; obtain ⟨v, rfl, h⟩ := isDs1 h0; obtain ⟨a, vs, rfl, q, al⟩ := isD_lst h; have e := ints_isAll al; subst e; exact ⟨a, ns, rfl, s.seq q, hl, fun S ds hS nd hm => k _ _ _ (Gr.new s hS _) fun H2 s2 => ⟨S, ds, rfl, s2 _ _ upd_same, nd, hm⟩⟩)
theorem nodup_len : ∀ {a b : List Int}, a.Nodup → b.Nodup → (∀ k, k ∈ a ↔ k ∈ b) → a.length = b.length := fun {a b} ha hb h =>
  Nat.le_antisymm (MK.nodup_le ha fun x hx => (h x).mp hx) (MK.nodup_le hb fun x hx => (h x).mpr hx)
theorem c_lenS {ns : List Int} : CallD X (.builtin "len") [setID ns] (dI (MK.distinct ns).length) := by
  with_unfolding_all
    exact (
      call_lenS.imp fun xs H Q hz => by
        obtain ⟨Hm, s, h0, k⟩ := hz; obtain ⟨v, rfl, h⟩ := isDs1 h0; obtain ⟨S, ds, rfl, hS, nd, hm⟩ := h Hm (Same.refl _); have e : ds.length = (MK.distinct ns).length := nodup_len nd (MK.nodup_distinct ns) fun k => (hm k).trans MK.mem_distinct.symm
        exact ⟨S, _, _, rfl, s _ _ hS, by rw [e]; exact k _ Hm H (Gr.refl s) (.int _)⟩)
end
end L2
namespace L2
open PySem PySem.Spec PyProof.Rows PySem.W
section
variable {X : Cx}
theorem call_rangeV : CallR X (.type "range") (fun xs H Q => ∃ j : Int, xs = [.int j] ∧ ∀ p, H p = none → Q (.ref p) (upd H p (.rng 0 j))) := by
  intro pins s σ H xs us Q I r h; obtain ⟨j, rfl, q⟩ := h; obtain ⟨u, rfl, rx⟩ := vals1 r; obtain ⟨t, rfl⟩ := rx; refine call_range_1 ⟨.ref _, _, I.laid (o := .rng 0 j) (fun b u e => Heap.get?_push_of_some _ e) (Nat.le_refl _) ⟨_, _, _, Heap.get?_push_size _ rfl⟩, rfl, q _ (I.hok.fresh (Nat.le_refl _))⟩
theorem items_vals {lo : Int} {n : Nat} {acc : Array Value} (h : ItemsOf (fun i v => ∃ t, v = .int (lo + i * 1) t) acc n) : Vals ((List.range n).map fun (i : Nat) => V.int (lo + (i : Int))) acc.toList := by
  obtain ⟨h1, h2⟩ := h
  have key : ∀ (l : List Value) (m : Nat), (∀ (j : Nat) (v : Value), l[j]? = some v → ∃ t, v = Value.int (lo + ((m + j : Nat) : Int) * 1) t) → Vals ((List.range' m l.length).map fun (i : Nat) => V.int (lo + (i : Int))) l := by
    intro l
    induction l with
    | nil => intro m _; exact .nil
    | cons v r ih =>
      intro m hv; rw [List.length_cons, List.range'_succ, List.map_cons]; refine .cons ?_ (ih (m + 1) fun j v' e => ?_)
      · obtain ⟨t, e⟩ := hv 0 v rfl
        exact ⟨t, by rw [e]; simp⟩
      · obtain ⟨t, e'⟩ := hv (j + 1) v' (by simpa using e)
        exact ⟨t, by rw [e']; congr 3; fail"o"⟩
  have := key acc.toList 0 fun j v e => by
    obtain ⟨t, e'⟩ := h2 j v (by simpa using e)
    exact ⟨t, by rw [e']; simp⟩
  rw [List.range_eq_range']; have hl : acc.toList.length = n := by simpa using h1
  rw [hl] at this; exact this
theorem call_list_rng (hc : X.calm = true) : CallR X (.type "list") (fun xs H Q => ∃ (p : Addr) (lo hi : Int), xs = [.ref p] ∧ H p = some (.rng lo hi) ∧ (-(2 ^ 62) ≤ lo ∧ lo < 2 ^ 62 ∧ -(2 ^ 62) ≤ hi ∧ hi < 2 ^ 62) ∧ (hi - lo).toNat ≤ sizeLine ∧
    ∀ l, H l = none → Q (.ref l) (upd H l (.lst ((List.range (hi - lo).toNat).map fun (i : Nat) => V.int (lo + (i : Int)))))) := by
  intro pins s σ H xs us Q I r h; obtain ⟨p, lo, hi, rfl, hH, ⟨b1, b2, b3, b4⟩, hz, q⟩ := h; obtain ⟨u, rfl, rx⟩ := vals1 r; cases rx; obtain ⟨t, u, v, ho⟩ := I.hok p _ hH; refine call_list_range (n := (hi - lo).toNat) (I.ok.hd hc) ho (small_one b1 b2 b3 b4) (by rw [rangeSize_one]; split <;> fail"o") (by rw [sizeLine_eq] at hz; fail"o") fun h' tk acc' c' kp hS hI => ?_
  have rv := items_vals hI; refine ⟨.ref _, _, I.laid (t' := tk) kp (Nat.le_refl _) (show ObjOk X.prog X.w _ h' _ (.lst ((List.range (hi - lo).toNat).map fun (i : Nat) => V.int (lo + (i : Int)))) from ⟨by simpa using hz, acc'.toList, c', rv, by simpa using hS⟩), rfl, q _ (I.hok.fresh (Nat.le_refl _))⟩
def rngD (j : Int) : Dt := .sp fun H v => ∃ p, v = .ref p ∧ H p = some (.rng 0 j)
theorem c_range {j : Int} : CallD X (.type "range") [dI j] (rngD j) := by
  with_unfolding_all
    exact (
      call_rangeV.imp fun xs H Q hz => by
        obtain ⟨Hm, s, h0, k⟩ := hz; obtain ⟨v, rfl, h⟩ := isDs1 h0; exact ⟨j, by rw [isD_int h], fun p hp => k _ _ _ (Gr.new s hp _) fun H2 s2 => ⟨p, rfl, s2 _ _ upd_same⟩⟩)
def upto (n : Int) : List Int := (List.range n.toNat).map fun (i : Nat) => (i : Int)
theorem c_listR {j : Int} (hc : X.calm = true) (h1 : 0 ≤ j) (h2 : j ≤ 1000) : CallD X (.type "list") [rngD j] (.py (dL (upto j))) := by
  with_unfolding_all
    exact (
      (call_list_rng hc).imp fun xs H Q hz => by
        obtain ⟨Hm, s, h0, k⟩ := hz; obtain ⟨v, rfl, h⟩ := isDs1 h0; obtain ⟨p, rfl, hp⟩ := h Hm (Same.refl _); refine ⟨p, 0, j, rfl, s _ _ hp, ⟨by fail"o", by fail"o", by fail"o", by fail"o"⟩, by rw [sizeLine_eq]; fail"o", fun l hl => ?_⟩
        have e : ((List.range (j - 0).toNat).map fun (i : Nat) => V.int (0 + (i : Int))) = (upto j).map V.int := by
          unfold upto; rw [List.map_map]; simp [Function.comp_def]
        rw [e]; exact k _ _ _ (Gr.new s hl _) (is_newL (s.free hl) (isAll_ints _)))
def cut {α : Type} (xs : List α) (lo hi : Option Int) : List α := (xs.drop (HT.sIx xs.length 0 lo)).take (HT.sIx xs.length xs.length hi - HT.sIx xs.length 0 lo)
theorem IsAll.drop {K : Frag} {H : Hp} : ∀ {vs : List V} {ds : LPD} (n : Nat), IsAll K H vs ds → IsAll K H (vs.drop n) (ds.drop n)
  | _, _, 0, h => h
  | _, _, _ + 1, .nil => .nil
  | _, _, n + 1, .cons _ r => IsAll.drop n r
theorem IsAll.take {K : Frag} {H : Hp} : ∀ {vs : List V} {ds : LPD} (n : Nat), IsAll K H vs ds → IsAll K H (vs.take n) (ds.take n)
  | _, _, 0, _ => .nil
  | _, _, _ + 1, .nil => .nil
  | _, _, n + 1, .cons h r => .cons h (IsAll.take n r)
theorem IsAll.rep {K : Frag} {H : Hp} {vs : List V} {ds : LPD} (h : IsAll K H vs ds) : ∀ n, IsAll K H (List.replicate n vs).flatten (List.replicate n ds).flatten
  | 0 => .nil
  | n + 1 => by rw [List.replicate_succ, List.replicate_succ, List.flatten_cons, List.flatten_cons]; exact h.append (h.rep n)
variable {B : Hp × Hp} {ρ : List Bd} {e : Expr} {pos p2 : Pos}
@[irreducible] def PoD (X : Cx) (B : Hp × Hp) (ρ : List Bd) (o : Option Expr) (i : Option Int) : Prop := PO X o fun σ H Q => ∃ Hm, StD X B Hm H σ ρ ∧ ∀ Hm' H', Gr Hm H Hm' H' → Q i H'
theorem PO.imp {o : Option Expr} {t t' : TO} (h : PO X o t) (i : ∀ σ H Q, t' σ H Q → t σ H Q) : PO X o t' := fun pins s σ H Q I q => h pins s σ H Q I (i σ H Q q)
theorem po_n : PoD X B ρ none none := by
  with_unfolding_all
    exact (PO.imp po_none fun σ H Q zq => zq.el fun Hm S k => k Hm H (Gr.refl S.gr.i))
theorem po_s {i : Int} (h : Ev X B ρ e (dI i)) : PoD X B ρ (some e) (some i) := by
  with_unfolding_all
    exact (PO.imp (po_some h) fun σ H Q zq => zq.el fun Hm S k => ⟨Hm, S, fun v Hm1 H1 g1 h1 => ⟨i, isD_int h1, k Hm1 H1 g1⟩⟩)
theorem ev_slice {ds : LPD} {lo hi : Option Expr} {l u : Option Int} (he : Ev X B ρ e (.py (.list ds))) (hl : PoD X B ρ lo l) (hu : PoD X B ρ hi u) : Ev X B ρ (.Subscript e (.Slice lo hi none p2) pos) (.py (.list (cut ds l u))) := by
  with_unfolding_all
    refine PE.imp (pe_slice sl_list he hl hu) fun σ H Q zq => zq.el fun Hm S k => ⟨Hm, S, fun x Hm1 H1 g1 h1 => ⟨Hm1, S.grow g1, fun Hm2 H2 g2 => ⟨Hm2, S.grow (g1.trans g2), fun Hm3 H3 g3 => ?_⟩⟩⟩
    obtain ⟨a, vs, rfl, q, al⟩ := isD_lst h1; have g := (g1.trans g2).trans g3; have sm := g2.m.trans g3.m; refine ⟨a, vs, rfl, (sm.trans g3.i).seq q, fun p hp => k _ _ _ (g.trans (Gr.new g3.i hp _)) (is_newL (g3.i.free hp) ?_)⟩
    have al' := sm.isAll al; unfold cutV cut; rw [al'.length]; exact (al'.drop _).take _
theorem ev_rep {es : List Expr} {c : Expr} {ds : LPD} {n : Int} {lp : Pos} (he : EvP X B ρ es ds) (hc : Ev X B ρ c (dI n)) (h1 : 0 ≤ n) (h2 : n < 1000) (h3 : ds.length < 1000) : Ev X B ρ (.BinOp (.List es lp) .Mult c pos) (.py (.list (List.replicate n.toNat ds).flatten)) := by
  with_unfolding_all
    refine PE.imp (pe_op op_rep (pe_lst he) hc) fun σ H Q zq => zq.el fun Hm S k => ⟨Hm, S, fun vs Hm1 H1 g1 al => ⟨by rw [al.length, sizeLine_eq]; fail"o", fun p hp => ?_⟩⟩
    have g1' := g1.trans (Gr.new g1.i hp (.lst vs)); refine ⟨_, S.grow g1', fun v Hm2 H2 g2 hv => ?_⟩
    refine ⟨p, n, vs, rfl, isD_int hv, g2.h _ _ upd_same, by fail"o", by fail"o", ?_, fun p' hp' => k _ _ _ ((g1'.trans g2).trans (Gr.new g2.i hp' _)) (is_newL (g2.i.free hp') ((((Same.upd (g1.i.free hp)).trans g2.m).isAll al).rep _))⟩
    rw [al.length, sizeLine_eq]; have : ds.length * n.toNat ≤ 1000 * 1000 := Nat.mul_le_mul (by fail"o") (by fail"o")
    fail"o"
theorem c_isExc {C : Addr} {c : V} {cv : Value} {b : Bool} (hc : RelV c cv) (he : ExcC X.K C) (hk : kitOne X.K (.ref C) cv = some b) : CallD X (.builtin "isinstance") [excD C, .sp fun _ v => v = c] (dB b) := by
  with_unfolding_all
    exact (
      call_isExc.imp fun xs H Q hz => by
        obtain ⟨Hm, s, h0, k⟩ := hz; obtain ⟨v, u, rfl, h1, h2⟩ := isDs2 h0; obtain ⟨ea, rfl, hea⟩ := h1 Hm (Same.refl _); have e := h2 Hm (Same.refl _); subst e; exact ⟨ea, C, u, cv, b, rfl, hc, s _ _ hea, he, hk, k _ Hm H (Gr.refl s) (.bl _)⟩)
theorem ev_gv {x : Str} {v : V} {u : Value} (hg : Gl X x) (hm : X.mg x = some u) (r : RelV v u) (hdb : Dbg x) : Ev X B ρ (.Name x pos) (.sp fun _ v' => v' = v) := by
  with_unfolding_all
    exact (ev_c (pe_glob hg hm r hdb) fun _ _ _ => rfl)
theorem ev_bv {x : Str} {v : V} {u : Value} (hg : Gl X x) (hm : X.mg x = none) (hv : bootBuiltins x = some u) (r : RelV v u) (hn : x ≠ "__name__") (hdb : Dbg x) : Ev X B ρ (.Name x pos) (.sp fun _ v' => v' = v) := by
  with_unfolding_all
    exact (ev_c (pe_bltn hg hm hv r hn hdb) fun _ _ _ => rfl)
theorem c_isB {x : Bool} {b : Bool} (hk : kitOne X.K (.type "bool") (.type "bool") = some b) : CallD X (.builtin "isinstance") [dB x, .sp fun _ v => v = .ty "bool"] (dB b) := by
  with_unfolding_all
    exact (
      call_isTy.imp fun xs H Q hz => by
        obtain ⟨Hm, s, h0, k⟩ := hz; obtain ⟨v, u, rfl, h1, h2⟩ := isDs2 h0; have e := h2 Hm (Same.refl _); subst e; rw [isD_bl h1]; exact ⟨.bl x, .ty "bool", _, _, b, rfl, fun u hu => hu, .bl x, hk, k _ Hm H (Gr.refl s) (.bl _)⟩)
theorem flat_bls (bs : List Bool) : (bs.map V.bl).all flatV = true := by
  induction bs with
  | nil => rfl
  | cons n r ih => exact ih
theorem ev_count {o a : Expr} {bs : List Bool} {apos cpos : Pos} (ho : Ev X B ρ o (.py (.list (bs.map .bool)))) (ha : Ev X B ρ a (dB true))
    (hbase : attributeBase o "count" X.env (eval o X.env) = eval o X.env)
    (hfew : ((backTo cpos (starEach [a] X.env)).all (fun x => !x.1) && (backToKw cpos (keywordEach [] X.env)).all (fun x => x.1.isSome)
      && decide ([a].length + ([] : List Keyword).length + (if ([] : List Keyword).isEmpty then 0 else 1) < 30)) = true)
    (hline : (apos.endLine == cpos.line) = true) (hst : starEach [a] X.env = [(false, eval a X.env)]) :
    Ev X B ρ (.Call (.Attribute o "count" apos) [a] [] cpos) (dI (bs.count true)) := by
  with_unfolding_all
    have hA : PA X [a] (tAd X B ρ [dB true]) := eva_cons ha eva_nil hst; refine PE.imp (pe_bm PySem.F.plainAttrs_list PySem.F.slot_list_count PySem.F.type_list_count mt_count ho hA hbase hfew hline hst rfl) fun σ H Q zq => zq.el fun Hm S k => ⟨Hm, S, fun v Hm1 H1 g1 h1 => ?_⟩
    obtain ⟨l, vs, rfl, q, al⟩ := isD_lst h1; have e := bools_isAll al; subst e; refine ⟨.inl ⟨rfl, _, g1.i.seq q⟩, Hm1, S.grow g1, fun us Hm2 H2 g2 h2' => ?_⟩
    obtain ⟨u, rfl, h2⟩ := isDs1 h2'; rw [isD_bl h2]; refine ⟨l, _, .bl true, rfl, rfl, (g2.m.trans g2.i).seq q, rfl, flat_bls bs, ?_⟩
    have e : (bs.map V.bl).countP (fun z => eqV z (.bl true)) = bs.count true := by
      rw [List.countP_map, List.count]
      congr 1
    rw [e]; exact k _ Hm2 H2 (g1.trans g2) (.int _)
theorem ev_index {o a : Expr} {bs : List Bool} {j : Nat} {apos cpos : Pos} (ho : Ev X B ρ o (.py (.list (bs.map .bool)))) (ha : Ev X B ρ a (dB true)) (hj : bs[j]? = some true) (hlt : ∀ i, i < j → bs[i]? = some false)
    (hbase : attributeBase o "index" X.env (eval o X.env) = eval o X.env)
    (hfew : ((backTo cpos (starEach [a] X.env)).all (fun x => !x.1) && (backToKw cpos (keywordEach [] X.env)).all (fun x => x.1.isSome)
      && decide ([a].length + ([] : List Keyword).length + (if ([] : List Keyword).isEmpty then 0 else 1) < 30)) = true)
    (hline : (apos.endLine == cpos.line) = true) (hst : starEach [a] X.env = [(false, eval a X.env)]) :
    Ev X B ρ (.Call (.Attribute o "index" apos) [a] [] cpos) (dI (j : Nat)) := by
  with_unfolding_all
    have hA : PA X [a] (tAd X B ρ [dB true]) := eva_cons ha eva_nil hst; refine PE.imp (pe_bm PySem.F.plainAttrs_list PySem.F.slot_list_index PySem.F.type_list_index mt_index ho hA hbase hfew hline hst rfl) fun σ H Q zq => zq.el fun Hm S k => ⟨Hm, S, fun v Hm1 H1 g1 h1 => ?_⟩
    obtain ⟨l, vs, rfl, q, al⟩ := isD_lst h1; have e := bools_isAll al; subst e; refine ⟨.inl ⟨rfl, _, g1.i.seq q⟩, Hm1, S.grow g1, fun us Hm2 H2 g2 h2' => ?_⟩
    obtain ⟨u, rfl, h2⟩ := isDs1 h2'; rw [isD_bl h2]; refine ⟨l, _, .bl true, j, rfl, rfl, (g2.m.trans g2.i).seq q, rfl, flat_bls bs, ?_, fun i hi => ?_, k _ Hm2 H2 (g1.trans g2) (.int _)⟩
    · rw [List.getElem?_map, hj]; rfl
    · rw [List.getElem?_map, hlt i hi]; rfl
def exD (K : Frag) (p : Dt → Prop) : Dt := .sp fun H v => ∃ d, p d ∧ IsD K H v d
theorem ev_ex {d : Dt} {p : Dt → Prop} (h : Ev X B ρ e d) (hp : p d) : Ev X B ρ e (exD X.K p) := by
  with_unfolding_all
    exact (
      PE.imp h fun σ H Q zq => zq.el fun Hm S k => ⟨Hm, S, fun v Hm1 H1 g1 h1 => k v Hm1 H1 g1 fun H2 s2 => ⟨d, hp, h1.mono s2⟩⟩)
theorem run_setE {D : DE} {p : Dt → Prop} {i : Nat} {x : Str} {pos' : Pos} (he : Ev X B ρ e (exD X.K p)) (h : ∀ d, p d → D.nx (ρ.set i (.dat d))) (hN : X.N.Nodup) (hi : X.N[i]? = some x) (hx : Loc X.env.scope x) (hs : swapsWith e (some (.Name x pos')) pos.line X.env = pure false)
    (hf : X.fn x = true ∨ X.env.scope.names.lookup x = some .local) : Run1 X B ρ (.Assign [.Name x pos'] e pos) D := by
  with_unfolding_all
    exact (
      PS.imp (ps_set hN hi hx he hs hf) fun De σ H zq => zq.el fun Hm S k => ⟨Hm, S, fun v Hm1 H1 g1 h1 => let ⟨d, hp, hv⟩ := h1 Hm1 (Same.refl _); k.nx _ Hm1 H1 _ (h d hp) ((S.grow g1).set (List.getElem?_eq_some_iff.mp hi).1 hv) g1.m⟩)
end
end L2
namespace MK
theorem rises_iff {α : Type} {lt : α → α → Bool} : ∀ {l : List α}, rises lt l = true ↔ ∀ (i : Nat) (x y : α), l[i]? = some x → l[i + 1]? = some y → lt x y = true
  | [] => by simp [rises]
  | [a] => by
    simp only [rises, true_iff]; intro i x y h1 h2; simp at h2
  | a :: b :: r => by
    have ih := @rises_iff α lt (b :: r); unfold rises; rw [Bool.and_eq_true, ih]
    constructor
    · rintro ⟨h, k⟩ i x y h1 h2
      cases i with
      | zero => simp at h1 h2; subst h1; subst h2; exact h
      | succ i => exact k i x y (by simpa using h1) (by simpa using h2)
    · intro h
      exact ⟨h 0 a b rfl rfl, fun i x y h1 h2 => h (i + 1) x y (by simpa using h1) (by simpa using h2)⟩
theorem rises_false {α : Type} {lt : α → α → Bool} {l : List α} {i : Nat} {x y : α} (h1 : l[i]? = some x) (h2 : l[i + 1]? = some y) (h : lt x y = false) : rises lt l = false := by
  cases e : rises lt l with
  | false => rfl
  | true => rw [rises_iff.mp e i x y h1 h2] at h; cases h
def ln (E : Edges) : LLI := E.map fun e => [e.1, e.2]
def isLine (n : Int) : List Int → Bool
  | [a, b] => decide (0 ≤ a) && (decide (a < b) && decide (b < n))
  | _ => false
def ends (ls : LLI) : Edges := ls.filterMap fun l => match l with | [a, b] => some (a, b) | _ => none
theorem ln_ends : ∀ {ls : LLI}, (∀ l ∈ ls, l.length = 2) → ln (ends ls) = ls
  | [], _ => rfl
  | l :: r, h => by
    have h1 := h l (List.mem_cons_self ..); have ih := @ln_ends r fun x hx => h x (List.mem_cons_of_mem _ hx)
    match l, h1 with
    | [a, b], _ =>
      show ln ((a, b) :: ends r) = _
      unfold ln at ih ⊢; rw [List.map_cons, ih]
theorem isLine_len {n : Int} {l : List Int} (h : isLine n l = true) : l.length = 2 := by
  match l, h with
  | [a, b], _ => rfl
def webOk (lt : List Int → List Int → Bool) (n : Int) (ls : LLI) : Bool := (decide (1 ≤ n) && decide (n ≤ 12)) && (ls.all (isLine n) && rises lt ls)
theorem ends_ln (E : Edges) : ends (ln E) = E := by
  induction E with
  | nil => rfl
  | cons e r ih =>
    show (e.1, e.2) :: ends (ln r) = _
    rw [ih]
theorem flat_len {α β : Type} (f : α → List β) (b : Nat) (h : ∀ a, (f a).length ≤ b) : ∀ l : List α, (l.flatMap f).length ≤ l.length * b
  | [] => by simp
  | a :: r => by
    rw [List.flatMap_cons, List.length_append, List.length_cons, Nat.succ_mul]; have := flat_len f b h r; have := h a
    fail"o"
end MK
namespace L2
open PySem PySem.Spec PyProof.Rows PySem.W
theorem Ev.to {X : Cx} {B : Hp × Hp} {ρ : List Bd} {e : Expr} {d d' : Dt} (h : Ev X B ρ e d) (q : d = d') : Ev X B ρ e d' := by
  with_unfolding_all
    exact (q ▸ h)
theorem evname {X : Cx} {B : Hp × Hp} {ρ : List Bd} {x : Str} {pos : Pos} {d : Dt} (h : Ev X B ρ (.Name x pos) d) : Ev X B ρ (.Name x pos) d := by
  with_unfolding_all
    exact (h)
theorem Tv.to {X : Cx} {B : Hp × Hp} {ρ : List Bd} {e : Expr} {d d' : Bool} (h : Tv X B ρ e d) (q : d = d') : Tv X B ρ e d' := by
  with_unfolding_all
    exact (q ▸ h)
abbrev web (n : Int) (ls : LLI) : Dt := .py (dW n ls)
theorem atI_map {α β : Type} {f : α → β} {l : List α} {i : Nat} {x : α} (h : l[i]? = some x) : atI (l.map f) (i : Int) = some (f x) := atI_nat (by rw [List.getElem?_map, h]; rfl)
theorem rng_get {lo : Int} {n i : Nat} {d : PyData} (h : (rng lo n)[i]? = some d) : i < n ∧ d = .int (lo + (i : Int)) := by
  unfold rng at h; rw [List.getElem?_map] at h
  cases e : (List.range n)[i]? with
  | none => rw [e] at h; cases h
  | some j =>
    rw [e] at h; obtain ⟨h1, h2⟩ := List.getElem?_eq_some_iff.mp e
    simp at h1 h2; subst h2; exact ⟨h1, (Option.some.inj h).symm⟩
theorem rng_length {lo : Int} {n : Nat} : (rng lo n).length = n := by simp [rng]
theorem map_get {α : Type} {f : α → PyData} {l : List α} {i : Nat} {d : PyData} (h : (l.map f)[i]? = some d) : ∃ x, l[i]? = some x ∧ d = f x := by
  rw [List.getElem?_map] at h
  cases e : l[i]? with
  | none => rw [e] at h; cases h
  | some x => rw [e] at h; exact ⟨x, rfl, (Option.some.inj h).symm⟩
theorem ev_globI {X : Cx} {B : Hp × Hp} {ρ : List Bd} {x : Str} {pos : Pos} {i : Int} {t : Tok} (hm : X.mg x = some (.int i t)) (hg : Gl X x) (hdb : Dbg x) : Ev X B ρ (.Name x pos) (dI i) := by
  with_unfolding_all
    exact (ev_glob (v := .int i) hg hm ⟨t, rfl⟩ hdb fun _ => .int i)
theorem nb_t {b : Bool} (h : (!b) = true) : b = false := by cases b <;> simp_all
theorem nb_f {b : Bool} (h : (!b) = false) : b = true := by cases b <;> simp_all
theorem xc_if {b : Bool} {d : DRes} {C : Addr} (h : b = false) : xcOf (if b = true then d else .exc C) C := by rw [h]; rfl
theorem all_take {α : Type} {p : α → Bool} {l : List α} {i : Nat} {x : α} (h : ∀ y ∈ l.take i, p y = true) (hx : l[i]? = some x) (hp : p x = true) : ∀ y ∈ l.take (i + 1), p y = true := fun y hy => by
  rw [List.take_succ, hx] at hy; rcases List.mem_append.mp hy with hy | hy
  · exact h y hy
  · have : y = x := by simpa using hy
    rw [this]; exact hp
theorem o_catM1 {X : Cx} {m : List Int} {x : Int} (h : m.length < 1000) : BinD X .Add (.py (dM m)) (.py (.tuple [.int x])) (.py (dM (m ++ [x]))) := by
  with_unfolding_all
    have := o_catT (X := X) (xs := m.map .int) (ys := [.int x]) (by rw [List.length_map, sizeLine_eq]; show m.length + 1 ≤ _; fail"o")
    unfold dM; rw [List.map_append]; exact this
theorem run_seq {X : Cx} {B : Hp × Hp} {ρ : List Bd} {s : Stmt} {ss : List Stmt} {D : DE} (J : List Bd → Prop) (h : Run1 X B ρ s { D with nx := J }) (h2 : ∀ ρ', J ρ' → RunS X B ρ' ss D) : RunS X B ρ (s :: ss) D := by
  with_unfolding_all
    exact (
      run_cons (PS.imp h fun De σ H zq => zq.el fun Hm S k => ⟨Hm, S, ⟨fun ρ' Hm' H' σ' h' => k.nx ρ' Hm' H' σ' (h2 ρ' h'), k.bk, k.ct, k.rt⟩⟩))
theorem size_lt {n : Nat} (h : n < 1000000) : n < sizeLine := by rw [sizeLine_eq]; fail"o"
theorem size_ble {n : Nat} (h : Nat.ble n 1000 = true) : n ≤ sizeLine := by
  have := Nat.le_of_ble_eq_true h; rw [sizeLine_eq]; fail"o"
theorem size_le {n : Nat} (h : n < 1000000) : n ≤ sizeLine := by rw [sizeLine_eq]; fail"o"
end L2
namespace L2
open PySem PySem.Spec PyProof.Rows PySem.W
def compCheck (sc scope : Scope) (N XN : List Str) (src : List (Option Nat)) : Bool :=
  decide (scope.kind = .function) && (scope.names.all (fun y => decide (y.2 ≠ .cell) && (decide (y.2 ≠ .local) || decide (scope.names.lookup y.1 = some .local)) && (decide (y.2 ≠ .free) || decide (sc.names.lookup y.1 = some .cell))) &&
    (decide (src.length = N.length) && (List.range N.length).all (fun i => match src[i]?, N[i]? with | some (some k), some x => decide (XN[k]? = some x) && decide (scope.names.lookup x = some .free) | _, _ => true)))
theorem compOk_mk {X : Cx} {scope : Scope} {N : List Str} {src : List (Option Nat)} (sc : Scope) (XN : List Str) (h1 : X.env.scope = sc) (h2 : X.N = XN) (h : compCheck sc scope N XN src = true) : CompOk X scope N src := by
  unfold compCheck at h; simp only [Bool.and_eq_true, decide_eq_true_eq, List.all_eq_true, Bool.or_eq_true] at h; obtain ⟨hk, hn, hl, hs⟩ := h; refine ⟨hk, fun y hy => (hn y hy).1.1, fun y hy e => ?_, fun y hy e => ?_, hl, fun i k x e1 e2 => ?_⟩
  · rcases (hn y hy).1.2 with q | q
    · exact absurd e q
    · exact q
  · rw [h1]
    rcases (hn y hy).2 with q | q
    · exact absurd e q
    · exact q
  · have hi : i < N.length := (List.getElem?_eq_some_iff.mp e2).1
    have := hs i (List.mem_range.mpr hi); rw [e1, e2] at this; simp only [Bool.and_eq_true, decide_eq_true_eq] at this; rw [h2]; exact this
section
variable {X : Cx} {B : Hp × Hp} {ρ : List Bd} {tg elt iter : Expr} {ifs : List Expr} {scope : Scope} {N : List Str} {src : List (Option Nat)} {pos : Pos} {α : Type} {enc : α → PyData} {ns : List α} {ρx : α → List Bd} {b : α → Bool} {f : α → PyData}
def CompG (X : Cx) (scope : Scope) (N : List Str) (src : List (Option Nat)) (tg : Expr) (ifs : List Expr) (elt : Expr) (ρc : List Bd) (enc : α → PyData) (ns : List α) (ρx : α → List Bd) (b : α → Bool) (f : α → PyData) : Prop :=
  ∀ L s₀ H₀ fp a, a ∈ ns → ∃ is, TgD (X.comp scope N L s₀ H₀ fp) tg (.py (enc a)) ρc (ρx a) is ∧ (∀ i ∈ is, src[i]? = some none) ∧
    ∀ B, Tvs (X.comp scope N L s₀ H₀ fp) B (ρx a) ifs (b a) ∧ (b a = true → Ev (X.comp scope N L s₀ H₀ fp) B (ρx a) elt (.py (f a)))
theorem compG_D (dec : PyData → α) (hdec : ∀ a, dec (enc a) = a) {ρc : List Bd} (h : CompG X scope N src tg ifs elt ρc enc ns ρx b f) : CompD X scope N src tg ifs elt ρc (ns.map enc) (fun d => ρx (dec d)) (fun d => b (dec d)) fun d => f (dec d) := by
  with_unfolding_all
    intro L s₀ H₀ fp d hd; obtain ⟨a, ha, rfl⟩ := List.mem_map.mp hd; have := h L s₀ H₀ fp a ha; simpa only [hdec] using this
theorem compG_eq (dec : PyData → α) (hdec : ∀ a, dec (enc a) = a) : ((ns.map enc).filter fun d => b (dec d)).map (fun d => f (dec d)) = (ns.filter b).map f := by
  rw [List.filter_map, List.map_map]; simp only [Function.comp_def, hdec]
theorem ev_compG (dec : PyData → α) (hdec : ∀ a, dec (enc a) = a) (hc : X.calm = true) (C : CompOk X scope N src) (hi : ItD X B ρ tg iter (ns.map enc)) (hd : CompG X scope N src tg ifs elt (seenB src ρ) enc ns ρx b f) (hz : ns.length ≤ sizeLine) (hs : ∀ x, foldedSetIterable iter X.env x = pure x) :
    Ev X B ρ (.ListComp elt [⟨tg, iter, ifs, 0⟩] scope pos) (.py (.list ((ns.filter b).map f))) := by
  with_unfolding_all
    exact (
      Ev.to (ev_comp hc C hi (compG_D dec hdec hd) (by rw [List.length_map]; exact hz) hs) (by rw [compG_eq dec hdec]))
theorem run_setCompG {D : DE} {i : Nat} {y : Str} {py spos : Pos} (dec : PyData → α) (hdec : ∀ a, dec (enc a) = a) (hc : X.calm = true) (C : CompOk X scope N src) (hi : ItD X B ρ tg iter (ns.map enc)) (hd : CompG X scope N src tg ifs elt (seenB src ρ) enc ns ρx b f)
    (h : D.nx (ρ.set i (.dat (.py (.list ((ns.filter b).map f)))))) (hz : ns.length ≤ sizeLine)
    (hN : X.N.Nodup) (hi' : X.N[i]? = some y) (hy : X.env.scope.names.lookup y = some .local) (hsw : swapsWith (.ListComp elt [⟨tg, iter, ifs, 0⟩] scope pos) (some (.Name y py)) spos.line X.env = pure true) (hs : ∀ x, foldedSetIterable iter X.env x = pure x) :
    Run1 X B ρ (.Assign [.Name y py] (.ListComp elt [⟨tg, iter, ifs, 0⟩] scope pos) spos) D := by
  with_unfolding_all
    exact (
      run_setComp hc C hi (compG_D dec hdec hd) (by rw [compG_eq dec hdec]; exact h) (by rw [List.length_map]; exact hz) hN hi' hy hsw hs)
end
def decI : PyData → Int
  | .int i => i
  | _ => 0
theorem decI_enc (a : Int) : decI (.int a) = a := rfl
def decM : PyData → List Int
  | .tuple ds => ds.map decI
  | _ => []
def encE (e : Int × Int) : PyData := .tuple [.int e.1, .int e.2]
def decE (d : PyData) : Int × Int := ((decM d).getD 0 0, (decM d).getD 1 0)
theorem decE_enc (e : Int × Int) : decE (encE e) = e := rfl
theorem ln_enc (E : MK.Edges) : (MK.ln E).map dM = E.map encE := by unfold MK.ln; rw [List.map_map]; rfl
theorem rng_spots (n : Int) : rng 0 n.toNat = (MK.spots n).map PyData.int := by
  unfold rng MK.spots; rw [List.map_map]
  congr 1
  funext i
  simp
end L2
namespace L2
open PySem PySem.Spec PyProof.Rows PySem.W
theorem rises_of {α : Type} {lt : α → α → Bool} (O : Ord lt) {l : List α} (hp : l.Pairwise (fun a b => lt b a = false)) (nd : l.Nodup) : MK.rises lt l = true := MK.rises_iff.mpr fun i x y h1 h2 => by
  obtain ⟨i1, e1⟩ := List.getElem?_eq_some_iff.mp h1
  obtain ⟨i2, e2⟩ := List.getElem?_eq_some_iff.mp h2
  have h3 := List.pairwise_iff_getElem.mp hp i (i + 1) i1 i2 (by fail"o")
  have h4 := List.pairwise_iff_getElem.mp nd i (i + 1) i1 i2 (by fail"o")
  rw [e1, e2] at h3 h4
  cases q : lt x y with
  | true => rfl
  | false => exact absurd (O.eq x y q h3) h4
theorem rises_sortM {l : LLI} (nd : l.Nodup) : MK.rises ltL (sortM l) = true := rises_of ordL (isort_up ordL l) ((isort_perm l).nodup_iff.mpr nd)
theorem rises_sortI {l : List Int} (nd : l.Nodup) : MK.rises MK.ltI (L2.sortI l) = true := by
  have := rises_of ordI (isort_up ordI l) ((isort_perm l).nodup_iff.mpr nd); exact this
def smallPairs : LLI := (List.range 8).flatMap fun (a : Nat) => (List.range 8).map fun (b : Nat) => [(a : Int), (b : Int)]
theorem hT_small : (smallPairs.map hT).Nodup := by decide +kernel
theorem mem_small {a b : Int} (h1 : 0 ≤ a) (h2 : a < 8) (h3 : 0 ≤ b) (h4 : b < 8) : [a, b] ∈ smallPairs := by
  refine List.mem_flatMap.mpr ⟨a.toNat, List.mem_range.mpr (by fail"o"), List.mem_map.mpr ⟨b.toNat, List.mem_range.mpr (by fail"o"), ?_⟩⟩
  rw [Int.toNat_of_nonneg h1, Int.toNat_of_nonneg h3]
theorem inj_of_nodup {α β : Type} {f : α → β} : ∀ {l : List α}, (l.map f).Nodup → ∀ x ∈ l, ∀ y ∈ l, f x = f y → x = y
  | [], _, x, hx, _, _, _ => by cases hx
  | a :: r, h, x, hx, y, hy, e => by
    rw [List.map_cons, List.nodup_cons] at h; rcases List.mem_cons.mp hx with hx | hx
    · rcases List.mem_cons.mp hy with hy | hy
      · rw [hx, hy]
      · exact absurd (by rw [← hx, e]; exact List.mem_map_of_mem hy) h.1
    · rcases List.mem_cons.mp hy with hy | hy
      · exact absurd (by rw [← hy, ← e]; exact List.mem_map_of_mem hx) h.1
      · exact inj_of_nodup h.2 x hx y hy e
theorem nodup_pairs {f : List Int → Int} {S : LLI} (hS : (S.map f).Nodup) {L : MK.Edges} (nd : L.Nodup) (hm : ∀ e ∈ L, [e.1, e.2] ∈ S) : ((MK.ln L).map f).Nodup := by
  unfold MK.ln; rw [List.map_map]
  show List.Pairwise _ _
  rw [List.pairwise_map]; refine List.Pairwise.imp_of_mem (fun {a b} ha hb hne q => hne ?_) nd
  have := inj_of_nodup hS _ (hm a ha) _ (hm b hb) q; simp at this; exact Prod.ext this.1 this.2
theorem hT_nodup {L : MK.Edges} (nd : L.Nodup) (hs : ∀ e ∈ L, 0 ≤ e.1 ∧ e.1 < 8 ∧ 0 ≤ e.2 ∧ e.2 < 8) : ((MK.ln L).map hT).Nodup :=
  nodup_pairs hT_small nd fun e he => let ⟨a1, a2, a3, a4⟩ := hs e he; mem_small a1 a2 a3 a4
theorem ln_nodup {L : MK.Edges} (nd : L.Nodup) : (MK.ln L).Nodup := by
  unfold MK.ln
  show List.Pairwise _ _
  rw [List.pairwise_map]; refine nd.imp fun {a b} hne q => hne ?_
  simp at q; exact Prod.ext q.1 q.2
end L2
namespace L2
open PySem PySem.Spec PyProof.Rows PySem.W
def mv (m : List Int) (a b : Int) : List Int := L2.sortI (m.filter (fun x => !decide (x = a)) ++ [b])
def slF (n : Int) (E : MK.Edges) (m : List Int) : MK.Edges := m.flatMap fun a => ((MK.touching E a).filter fun b => MK.areMarks n E (mv m a b)).map fun b => (a, b)
end L2
namespace L2
open PySem PySem.Spec PyProof.Rows PySem.W
section
variable {X : Cx} {B : Hp × Hp} {ρ : List Bd} {e : Expr} {D : DE} {pos : Pos}
theorem run_asgE {p : Dt → Prop} {tg : Expr} {is : List Nat} (he : Ev X B ρ e (exD X.K p)) (hp : ∀ d, p d → ∃ ρ', TgD X tg d ρ ρ' is ∧ D.nx ρ') (hs : swapsWithSole [tg] e pos.line X.env = pure false) (hw : swappedStores [tg] e X.env = pure none)
    (h1 : (assignEach [tg] X.env).map (·.2) = [assign tg X.env]) : Run1 X B ρ (.Assign [tg] e pos) D := by
  with_unfolding_all
    refine PS.imp (ps_asg (g := fun v σ H Q => ∃ d ρ', TgD X tg d ρ ρ' is ∧ ∃ B Hm, StD X B Hm H σ ρ ∧ IsD X.K Hm v d ∧ ∀ σ', StD X B Hm H σ' ρ' → σ'.length = σ.length → (∀ k, k ∉ is → σ'[k]? = σ[k]?) → Q σ' H) he (fun pins s σ H v u Q I r q => ?_) hs hw h1) fun De σ H q => ?_
    · obtain ⟨d, ρ', hg, q⟩ := q
      have hg' : PG X tg fun v σ H Q => ∃ B Hm, StD X B Hm H σ ρ ∧ IsD X.K Hm v d ∧ ∀ σ', StD X B Hm H σ' ρ' → σ'.length = σ.length → (∀ k, k ∉ is → σ'[k]? = σ[k]?) → Q σ' H := hg
      exact hg' pins s σ H v u Q I r q
    · obtain ⟨Hm, S, k⟩ := q
      refine ⟨Hm, S, fun v Hm1 H1 g1 h1 => ?_⟩
      obtain ⟨d, hd, hv⟩ := h1 Hm1 (Same.refl _); obtain ⟨ρ', hg, hn⟩ := hp d hd; exact ⟨d, ρ', hg, B, Hm1, S.grow g1, hv, fun σ' S' _ _ => k.nx _ Hm1 H1 _ hn S' g1.m⟩
end
end L2
namespace L2
open PySem PySem.Spec PyProof.Rows PySem.W
theorem run_gen {X : Cx} {B : Hp × Hp} {ρ : List Bd} {ss : List Stmt} {D : DE} (h : ∀ D' : DE, (∀ ρ, D.nx ρ → D'.nx ρ) → (∀ d, D.rt d → D'.rt d) → RunS X B ρ ss D') : RunS X B ρ ss D := by
  with_unfolding_all
    exact (
      h D (fun _ z => z) fun _ z => z)
end L2
namespace L2
theorem nodup_perm {α : Type} [DecidableEq α] : ∀ {a b : List α}, a.Nodup → b.Nodup → (∀ x, x ∈ a ↔ x ∈ b) → a.Perm b
  | [], b, _, _, h => by
    cases b with
    | nil => exact .refl _
    | cons y r => exact absurd ((h y).mpr (List.mem_cons_self ..)) (by simp)
  | x :: r, b, ha, hb, h => by
    have hx : x ∈ b := (h x).mp (List.mem_cons_self ..); rw [List.nodup_cons] at ha
    have ih := nodup_perm (a := r) (b := b.erase x) ha.2 (hb.erase x) fun y => by
      rw [hb.mem_erase_iff]
      constructor
      · intro hy
        exact ⟨fun e => ha.1 (e ▸ hy), (h y).mp (List.mem_cons_of_mem _ hy)⟩
      · rintro ⟨h1, h2⟩
        rcases List.mem_cons.mp ((h y).mpr h2) with e | h3
        · exact absurd e h1
        · exact h3
    exact (ih.cons x).trans (List.perm_cons_erase hx).symm
def ltE (e f : Int × Int) : Prop := e.1 < f.1 ∨ (e.1 = f.1 ∧ e.2 < f.2)
theorem ltL_pair {a b c d : Int} : ltL [a, b] [c, d] = true ↔ (a < c ∨ (a = c ∧ b < d)) := by
  simp only [ltL]
  by_cases h1 : a < c
  · simp [h1]; fail"o"
  · by_cases h2 : a = c
    · subst h2
      by_cases h3 : b < d
      · simp [h3]; fail"o"
      · by_cases h4 : b = d <;> simp [h3, h4]
    · simp [h1, h2]
theorem ltL_trans {a b c : List Int} (h1 : ltL a b = true) (h2 : ltL b c = true) : ltL a c = true := by
  cases q : ltL a c with
  | true => rfl
  | false =>
    have h3 := ltL_tran a b c (ltL_asym _ _ h1) (ltL_asym _ _ h2); have e := ltL_eq _ _ q h3; subst e; rw [ltL_asym _ _ h1] at h2; cases h2
theorem rises_pw : ∀ {l : LLI}, MK.rises ltL l = true → l.Pairwise (fun a b => ltL a b = true)
  | [], _ => .nil
  | [a], _ => by simp
  | a :: b :: r, h => by
    unfold MK.rises at h; rw [Bool.and_eq_true] at h; have ih := rises_pw h.2; rw [List.pairwise_cons]; refine ⟨fun x hx => ?_, ih⟩
    rcases List.mem_cons.mp hx with rfl | hx
    · exact h.1
    · exact ltL_trans h.1 ((List.pairwise_cons.mp ih).1 x hx)
theorem edges_pw {E : MK.Edges} (h : MK.rises ltL (MK.ln E) = true) : E.Pairwise ltE := by
  have := rises_pw h; unfold MK.ln at this; rw [List.pairwise_map] at this; exact this.imp fun {e f} z => ltL_pair.mp z
theorem touching_up {E : MK.Edges} (h : E.Pairwise ltE) (hg : ∀ e ∈ E, e.1 < e.2) (x : Int) : (MK.touching E x).Pairwise (· < ·) := by
  unfold MK.touching; rw [List.pairwise_flatMap]
  constructor
  · intro e he
    have := hg e he
    by_cases h1 : e.1 = x
    · rw [if_pos h1, if_neg (by fail"o")]; simp
    · rw [if_neg h1]
      split <;> simp
  · refine List.Pairwise.imp_of_mem (fun {e f} he hf hlt u hu v hv => ?_) h
    have g1 := hg e he; have g2 := hg f hf; unfold ltE at hlt
    have hu' : (e.1 = x ∧ u = e.2) ∨ (e.2 = x ∧ u = e.1) := by
      rcases List.mem_append.mp hu with hu | hu
      · split at hu
        · left; exact ⟨by assumption, by simpa using hu⟩
        · cases hu
      · split at hu
        · right; exact ⟨by assumption, by simpa using hu⟩
        · cases hu
    have hv' : (f.1 = x ∧ v = f.2) ∨ (f.2 = x ∧ v = f.1) := by
      rcases List.mem_append.mp hv with hv | hv
      · split at hv
        · left; exact ⟨by assumption, by simpa using hv⟩
        · cases hv
      · split at hv
        · right; exact ⟨by assumption, by simpa using hv⟩
        · cases hv
    rcases hu' with ⟨a1, rfl⟩ | ⟨a1, rfl⟩ <;> rcases hv' with ⟨b1, rfl⟩ | ⟨b1, rfl⟩ <;> fail"o"
theorem mem_slF {n : Int} {E : MK.Edges} {m : List Int} {a b : Int} : (a, b) ∈ slF n E m ↔ a ∈ m ∧ MK.adj E a b ∧ MK.areMarks n E (mv m a b) = true := by
  unfold slF; rw [List.mem_flatMap]
  constructor
  · rintro ⟨x, hx, h⟩
    obtain ⟨y, hy, e⟩ := List.mem_map.mp h; rw [List.mem_filter, MK.mem_touching] at hy; cases e; exact ⟨hx, hy.1, hy.2⟩
  · rintro ⟨h1, h2, h3⟩
    exact ⟨a, h1, List.mem_map.mpr ⟨b, List.mem_filter.mpr ⟨MK.mem_touching.mpr h2, h3⟩, rfl⟩⟩
theorem slF_up {n : Int} {E : MK.Edges} {m : List Int} (h : E.Pairwise ltE) (hg : ∀ e ∈ E, e.1 < e.2) (hm : m.Pairwise (· < ·)) : (slF n E m).Pairwise ltE := by
  unfold slF; rw [List.pairwise_flatMap]
  constructor
  · intro a ha
    rw [List.pairwise_map]; refine List.Pairwise.imp (fun {x y} z => .inr ⟨rfl, z⟩) ((touching_up h hg a).sublist List.filter_sublist)
  · refine hm.imp fun {a b} hab u hu v hv => ?_
    obtain ⟨x, _, rfl⟩ := List.mem_map.mp hu; obtain ⟨y, _, rfl⟩ := List.mem_map.mp hv; exact .inl hab
theorem ltE_ne {e f : Int × Int} (h : ltE e f) : e ≠ f := by
  rintro rfl
  unfold ltE at h
  fail"o"
def lsF (E : MK.Edges) (m : List Int) : MK.Edges := E.flatMap fun e => [(e.1, e.2), (e.2, e.1)].filter fun p => decide (p.1 ∈ m) && (!decide (p.2 ∈ m) && MK.apart E (mv m p.1 p.2))
theorem mem_lsF {E : MK.Edges} {m : List Int} {a b : Int} : (a, b) ∈ lsF E m ↔ MK.adj E a b ∧ a ∈ m ∧ b ∉ m ∧ MK.apart E (mv m a b) = true := by
  unfold lsF MK.adj; rw [List.mem_flatMap]
  constructor
  · rintro ⟨e, he, h⟩
    rw [List.mem_filter] at h; obtain ⟨h1, h2⟩ := h; simp only [Bool.and_eq_true, decide_eq_true_eq, Bool.not_eq_true', decide_eq_false_iff_not] at h2; refine ⟨?_, h2.1, h2.2.1, h2.2.2⟩
    rcases List.mem_cons.mp h1 with e1 | e1
    · left; rw [e1]; exact he
    · right
      have : (a, b) = (e.2, e.1) := by simpa using e1
      injection this with q1 q2
      rw [q1, q2]; exact he
  · rintro ⟨h1, h2, h3, h4⟩
    have hc : (decide (a ∈ m) && (!decide (b ∈ m) && MK.apart E (mv m a b))) = true := by simp [h2, h3, h4]
    rcases h1 with h1 | h1
    · exact ⟨(a, b), h1, List.mem_filter.mpr ⟨by simp, hc⟩⟩
    · exact ⟨(b, a), h1, List.mem_filter.mpr ⟨by simp, hc⟩⟩
theorem mem_mv {m : List Int} {a b x : Int} : x ∈ mv m a b ↔ (x ∈ m ∧ x ≠ a) ∨ x = b := by
  unfold mv; rw [(isort_perm _).mem_iff, List.mem_append, List.mem_filter]; simp
theorem mv_marks {n : Int} {E : MK.Edges} {m : List Int} {a b : Int} (hM : MK.Marks n E m) (hb : 0 ≤ b ∧ b < n) (hab : a ≠ b) : MK.areMarks n E (mv m a b) = true ↔ b ∉ m ∧ MK.apart E (mv m a b) = true := by
  rw [MK.areMarks_iff]
  constructor
  · intro h
    refine ⟨fun hbm => ?_, h.apt⟩
    have nd : (m.filter (fun x => !decide (x = a)) ++ [b]).Nodup := by
      have := MK.nodup_of_lt h.ris; unfold mv at this; exact (isort_perm _).nodup_iff.mp this
    rw [List.nodup_append] at nd; exact nd.2.2 b (List.mem_filter.mpr ⟨hbm, by simp; fail"o"⟩) b (by simp) rfl
  · rintro ⟨h1, h2⟩
    refine ⟨fun x hx => ?_, h2, MK.rises_pairwise.mp (rises_sortI ?_)⟩
    · rcases mem_mv.mp hx with ⟨q, _⟩ | rfl
      · exact hM.inn x q
      · exact hb
    · rw [List.nodup_append]
      refine ⟨(MK.nodup_of_lt hM.ris).sublist List.filter_sublist, by simp, fun u hu v hv e => ?_⟩
      have : v = b := by simpa using hv
      subst this; subst e; exact h1 (List.mem_filter.mp hu).1
theorem slides_same {n : Int} {E : MK.Edges} {m : List Int} (hg : MK.Good n E) (hr : MK.rises ltL (MK.ln E) = true) (hM : MK.Marks n E m) : sortM (MK.ln (lsF E m)) = MK.ln (slF n E m) := by
  have hE := edges_pw hr; have hlt : ∀ e ∈ E, e.1 < e.2 := fun e he => (hg.lin e he).2.1
  have up := slF_up (n := n) hE hlt hM.ris; have nd1 : (slF n E m).Nodup := up.imp fun {e f} z => ltE_ne z
  have nd2 : (lsF E m).Nodup := by
    unfold lsF
    show List.Pairwise _ _
    rw [List.pairwise_flatMap]
    constructor
    · intro e he
      have := hlt e he; refine List.Pairwise.sublist List.filter_sublist ?_
      simp; intro q; fail"o"
    · refine List.Pairwise.imp_of_mem (fun {e f} he hf hl u hu v hv q => ?_) hE
      subst q; have h1 := (List.mem_filter.mp hu).1; have h2 := (List.mem_filter.mp hv).1; have l1 := hlt e he; have l2 := hlt f hf; unfold ltE at hl; simp at h1 h2; rcases h1 with rfl | rfl <;> rcases h2 with h2 | h2 <;> (injection h2 with q1 q2; fail"o")
  have mem : ∀ p, p ∈ slF n E m ↔ p ∈ lsF E m := fun ⟨a, b⟩ => by
    rw [mem_slF, mem_lsF]
    constructor
    · rintro ⟨h1, h2, h3⟩
      have hab := hg.adj h2
      have hne : a ≠ b := by
        rcases h2 with q | q
        · have := hlt _ q; dsimp only at this; fail"o"
        · have := hlt _ q; dsimp only at this; fail"o"
      have := (mv_marks hM hab.2 hne).mp h3; exact ⟨h2, h1, this.1, this.2⟩
    · rintro ⟨h2, h1, h3, h4⟩
      have hab := hg.adj h2
      have hne : a ≠ b := by
        rcases h2 with q | q
        · have := hlt _ q; dsimp only at this; fail"o"
        · have := hlt _ q; dsimp only at this; fail"o"
      exact ⟨h1, h2, (mv_marks hM hab.2 hne).mpr ⟨h3, h4⟩⟩
  refine (isort_eq ordL ?_ ?_).symm
  · exact (nodup_perm nd1 nd2 mem).map _
  · unfold MK.ln
    rw [List.pairwise_map]; exact up.imp fun {e f} z => ltL_asym _ _ (ltL_pair.mpr z)
end L2
namespace L2
abbrev Wr := MK.Edges × List Int
def stp (r : Wr) (s : Int × Int) : Wr := (r.1 ++ [s], mv r.2 s.1 s.2)
def addW (W0 : List Wr) (r : Wr) (L : List Wr) (s : Int × Int) : List Wr := if mv r.2 s.1 s.2 ∈ (W0 ++ L).map (·.2) then L else L ++ [stp r s]
def lay1 (W0 : List Wr) (r : Wr) (S : MK.Edges) (L : List Wr) : List Wr := S.foldl (addW W0 r) L
def layG (n : Int) (E : MK.Edges) (W0 rows L : List Wr) : List Wr := rows.foldl (fun L r => lay1 W0 r (slF n E r.2) L) L
def stW (n : Int) (E : MK.Edges) (m : List Int) : Nat → List Wr × List Wr
  | 0 => ([([], m)], [([], m)])
  | i + 1 => ((stW n E m i).1 ++ layG n E (stW n E m i).1 (stW n E m i).2 [], layG n E (stW n E m i).1 (stW n E m i).2 [])
inductive Reach (n : Int) (E : MK.Edges) (m : List Int) : List Int → Prop
  | here : Reach n E m m
  | step {x : List Int} {s : Int × Int} : Reach n E m x → s ∈ slF n E x → Reach n E m (mv x s.1 s.2)
theorem lay1_sub (W0 : List Wr) (r : Wr) : ∀ (S : MK.Edges) (L : List Wr), ∃ L', lay1 W0 r S L = L ++ L' ∧ L'.Sublist (S.map (stp r)) ∧ (((W0 ++ L).map (·.2)).Nodup → ((W0 ++ (L ++ L')).map (·.2)).Nodup) ∧ ∀ s ∈ S, mv r.2 s.1 s.2 ∈ (W0 ++ (L ++ L')).map (·.2)
  | [], L => ⟨[], by simp [lay1], by simp, by simp, fun s hs => nomatch hs⟩
  | s :: S, L => by
    by_cases h : mv r.2 s.1 s.2 ∈ (W0 ++ L).map (·.2)
    · obtain ⟨L', e, sub, nd, cl⟩ := lay1_sub W0 r S L
      refine ⟨L', ?_, ?_, nd, fun t ht => ?_⟩
      · rw [← e]; unfold lay1; rw [List.foldl_cons]; unfold addW; rw [if_pos h]
      · rw [List.map_cons]; exact sub.cons _
      · rcases List.mem_cons.mp ht with rfl | ht
        · rw [← List.append_assoc, List.map_append]; exact List.mem_append_left _ h
        · exact cl t ht
    · obtain ⟨L', e, sub, nd, cl⟩ := lay1_sub W0 r S (L ++ [stp r s])
      refine ⟨stp r s :: L', ?_, ?_, fun nd0 => ?_, fun t ht => ?_⟩
      · have : lay1 W0 r (s :: S) L = lay1 W0 r S (L ++ [stp r s]) := by unfold lay1; rw [List.foldl_cons]; congr 1; unfold addW; rw [if_neg h]
        rw [this, e, List.append_assoc]; rfl
      · rw [List.map_cons]; exact sub.cons₂ _
      · have := nd (by
          rw [← List.append_assoc, List.map_append, List.nodup_append]; refine ⟨nd0, by simp, fun a ha b hb q => ?_⟩
          have : b = mv r.2 s.1 s.2 := by simpa [stp] using hb
          subst this; subst q; exact h ha)
        rw [List.append_assoc] at this; exact this
      · rcases List.mem_cons.mp ht with rfl | ht
        · exact List.mem_map.mpr ⟨stp r t, by simp, rfl⟩
        · have := cl t ht
          rw [List.append_assoc] at this; exact this
theorem layG_sub (n : Int) (E : MK.Edges) (W0 : List Wr) : ∀ (rows L : List Wr), ∃ L', layG n E W0 rows L = L ++ L' ∧ L'.Sublist (rows.flatMap fun r => (slF n E r.2).map (stp r)) ∧ (((W0 ++ L).map (·.2)).Nodup → ((W0 ++ (L ++ L')).map (·.2)).Nodup) ∧ ∀ r ∈ rows, ∀ s ∈ slF n E r.2, mv r.2 s.1 s.2 ∈ (W0 ++ (L ++ L')).map (·.2)
  | [], L => ⟨[], by simp [layG], by simp, by simp, fun s hs => nomatch hs⟩
  | r :: rows, L => by
    obtain ⟨L1, e1, s1, n1, c1⟩ := lay1_sub W0 r (slF n E r.2) L; obtain ⟨L2, e2, s2, n2, c2⟩ := layG_sub n E W0 rows (L ++ L1); refine ⟨L1 ++ L2, ?_, ?_, fun nd => ?_, fun t ht s hs => ?_⟩
    · rw [← List.append_assoc, ← e2, ← e1]; rfl
    · rw [List.flatMap_cons]; exact s1.append s2
    · rw [← List.append_assoc L]; exact n2 (n1 nd)
    · rcases List.mem_cons.mp ht with rfl | ht
      · have := c1 s hs
        rw [← List.append_assoc L, ← List.append_assoc, List.map_append]; exact List.mem_append_left _ this
      · rw [← List.append_assoc L]; exact c2 t ht s hs
theorem mv_length {m : List Int} {a b : Int} (nd : m.Nodup) (ha : a ∈ m) : (mv m a b).length = m.length := by
  unfold mv; rw [(isort_perm _).length_eq, List.length_append]
  have e : m.filter (fun x => !decide (x = a)) = m.erase a := by
    rw [nd.erase_eq_filter]; refine List.filter_congr fun x _ => ?_
    rw [Bool.eq_iff_iff]; simp
  rw [e, List.length_erase_of_mem ha]; have := List.length_pos_of_mem ha; simp; fail"o"
theorem slide_marks {n : Int} {E : MK.Edges} {x : List Int} {s : Int × Int} (h : MK.Marks n E x) (hs : s ∈ slF n E x) : MK.Marks n E (mv x s.1 s.2) ∧ (mv x s.1 s.2).length = x.length := by
  obtain ⟨h1, _, h3⟩ := mem_slF.mp (show (s.1, s.2) ∈ slF n E x from hs)
  exact ⟨MK.areMarks_iff.mp h3, mv_length (MK.nodup_of_lt h.ris) h1⟩
theorem Reach.marks {n : Int} {E : MK.Edges} {m x : List Int} (hm : MK.Marks n E m) (h : Reach n E m x) : MK.Marks n E x ∧ x.length = m.length := by
  induction h with
  | here => exact ⟨hm, rfl⟩
  | step _ hs ih =>
    have := slide_marks ih.1 hs; exact ⟨this.1, this.2.trans ih.2⟩
theorem lexL_app {a b : LLI} {x y : LLI} (hl : a.length = b.length) (h : lexL ltL a b = true) : lexL ltL (a ++ x) (b ++ y) = true := by
  induction a generalizing b with
  | nil =>
    cases b with
    | nil => simp [lexL] at h
    | cons _ _ => simp at hl
  | cons u a ih =>
    cases b with
    | nil => simp at hl
    | cons v b =>
      rw [List.cons_append, List.cons_append]; unfold lexL at h ⊢
      by_cases e : u = v
      · rw [if_pos e] at h ⊢
        exact ih (by simpa using hl) h
      · rw [if_neg e] at h ⊢; exact h
theorem lexL_last {a : LLI} {x y : List Int} (h : ltL x y = true) : lexL ltL (a ++ [x]) (a ++ [y]) = true := by
  induction a with
  | nil =>
    have : x ≠ y := fun e => by subst e; have := ltL_asym _ _ h; rw [h] at this; cases this
    show (if x = y then _ else _) = true
    rw [if_neg this]; exact h
  | cons u a ih =>
    rw [List.cons_append, List.cons_append]
    show (if u = u then _ else _) = true
    rw [if_pos rfl]; exact ih
def Wlt (q r : Wr) : Prop := lexL ltL (MK.ln q.1) (MK.ln r.1) = true
structure SW (n : Int) (E : MK.Edges) (m : List Int) (i : Nat) (W rows : List Wr) : Prop where
  rch : ∀ q ∈ W, Reach n E m q.2
  nd : (W.map (·.2)).Nodup
  sub : ∀ q ∈ rows, q ∈ W
  srt : rows.Pairwise Wlt
  len : ∀ q ∈ rows, q.1.length = i
  clo : ∀ q ∈ W, q ∈ rows ∨ ∀ s ∈ slF n E q.2, mv q.2 s.1 s.2 ∈ W.map (·.2)
  hm : m ∈ W.map (·.2)
  big : rows ≠ [] → i + 1 ≤ W.length
  wl : ∀ q ∈ W, q.1.length ≤ i
theorem stW_inv {n : Int} {E : MK.Edges} {m : List Int} (hg : MK.Good n E) (hr : MK.rises ltL (MK.ln E) = true) (hM : MK.Marks n E m) : ∀ i, SW n E m i (stW n E m i).1 (stW n E m i).2
  | 0 => by
    have one : ∀ q ∈ (stW n E m 0).1, q = ([], m) := fun q hq => by simpa [stW] using hq
    refine ⟨fun q hq => ?_, by simp [stW], fun q hq => hq, by simp [stW], fun q hq => ?_, fun q hq => .inl hq, by simp [stW], fun _ => by simp [stW], fun q hq => ?_⟩
    · rw [one q hq]; exact .here
    · rw [one q hq]; rfl
    · rw [one q hq]; exact Nat.le_refl _
  | i + 1 => by
    have ih := stW_inv hg hr hM i
    generalize hp : stW n E m i = p at ih
    obtain ⟨W, rows⟩ := p; obtain ⟨L, e, sub, nd, cl⟩ := layG_sub n E W rows []; rw [List.nil_append] at e nd cl; simp only [List.append_nil] at nd; have e1 : (stW n E m (i + 1)).1 = W ++ L := by show (stW n E m i).1 ++ _ = _; rw [hp, e]
    have e2 : (stW n E m (i + 1)).2 = L := by show layG n E (stW n E m i).1 (stW n E m i).2 [] = _; rw [hp, e]
    rw [e1, e2]; dsimp only at ih; have hE := edges_pw hr; have hlt : ∀ e ∈ E, e.1 < e.2 := fun e he => (hg.lin e he).2.1
    have fr : ∀ q ∈ L, ∃ r ∈ rows, ∃ s ∈ slF n E r.2, stp r s = q := fun q hq => by
      obtain ⟨r, hr, h⟩ := List.mem_flatMap.mp (sub.subset hq); obtain ⟨s, hs, e⟩ := List.mem_map.mp h; exact ⟨r, hr, s, hs, e⟩
    refine ⟨fun q hq => ?_, nd ih.nd, fun q hq => List.mem_append_right _ hq, ?_, fun q hq => ?_, fun q hq => ?_, ?_, fun hne => ?_, fun q hq => ?_⟩
    · rcases List.mem_append.mp hq with hq | hq
      · exact ih.rch q hq
      · obtain ⟨r, hr', s, hs, rfl⟩ := fr q hq
        exact .step (ih.rch r (ih.sub r hr')) hs
    · refine List.Pairwise.sublist sub ?_
      rw [List.pairwise_flatMap]
      constructor
      · intro r hr'
        rw [List.pairwise_map]; have mr := (Reach.marks hM (ih.rch r (ih.sub r hr'))).1; refine (slF_up (n := n) hE hlt mr.ris).imp fun {s t} z => ?_
        unfold Wlt stp MK.ln; rw [List.map_append, List.map_append]; exact lexL_last (ltL_pair.mpr z)
      · refine List.Pairwise.imp_of_mem (fun {q r} hq hr' hlt' u hu v hv => ?_) ih.srt
        obtain ⟨s, _, rfl⟩ := List.mem_map.mp hu; obtain ⟨t, _, rfl⟩ := List.mem_map.mp hv; unfold Wlt stp MK.ln; rw [List.map_append, List.map_append]; refine lexL_app ?_ hlt'
        rw [List.length_map, List.length_map, ih.len q hq, ih.len r hr']
    · obtain ⟨r, hr', s, hs, rfl⟩ := fr q hq
      show (r.1 ++ [s]).length = _
      rw [List.length_append, ih.len r hr']; rfl
    · rcases List.mem_append.mp hq with hq | hq
      · right
        rcases ih.clo q hq with h | h
        · exact cl q h
        · intro s hs
          rw [List.map_append]; exact List.mem_append_left _ (h s hs)
      · exact .inl hq
    · rw [List.map_append]; exact List.mem_append_left _ ih.hm
    · have h1 : rows ≠ [] := fun h => by
        subst h; simp at sub; exact hne sub
      have := ih.big h1; rw [List.length_append]; have : 1 ≤ L.length := List.length_pos_iff.mpr hne
      fail"o"
    · rcases List.mem_append.mp hq with hq | hq
      · have := ih.wl q hq; fail"o"
      · obtain ⟨r, hr', s, hs, rfl⟩ := fr q hq
        show (r.1 ++ [s]).length ≤ _
        rw [List.length_append, ih.len r hr']; exact Nat.le_refl _
def finW (n : Int) (E : MK.Edges) (m : List Int) : List Wr := (stW n E m 100).1
theorem sub_len {α : Type} [DecidableEq α] : ∀ {a b : List α}, a.Nodup → (∀ x ∈ a, x ∈ b) → a.length ≤ b.length
  | [], b, _, _ => Nat.zero_le _
  | x :: r, b, nd, h => by
    rw [List.nodup_cons] at nd; have hx : x ∈ b := h x (List.mem_cons_self ..)
    have ih := sub_len (a := r) (b := b.erase x) nd.2 fun y hy => by
      have hne : y ≠ x := fun e => nd.1 (e ▸ hy)
      exact (List.mem_erase_of_ne hne).mpr (h y (List.mem_cons_of_mem _ hy))
    rw [List.length_erase_of_mem hx] at ih; have := List.length_pos_of_mem hx; rw [List.length_cons]; fail"o"
theorem SW.bound {n : Int} {E : MK.Edges} {m : List Int} {i : Nat} {W rows : List Wr} (hM : MK.Marks n E m) (h : SW n E m i W rows) : W.length ≤ (MK.sets n m.length).length := by
  have := sub_len (a := W.map (·.2)) (b := MK.sets n m.length) h.nd fun x hx => by
    obtain ⟨q, hq, rfl⟩ := List.mem_map.mp hx; have := Reach.marks hM (h.rch q hq); exact MK.mem_sets this.1.inn this.1.ris this.2
  rwa [List.length_map] at this
section
variable {n : Int} {E : MK.Edges} {m : List Int} (hg : MK.Good n E) (hr : MK.rises ltL (MK.ln E) = true) (hM : MK.Marks n E m) (hB : (MK.sets n m.length).length ≤ 99)
include hg hr hM hB
theorem fin_rows : (stW n E m 100).2 = [] := by
  have h := stW_inv hg hr hM 100
  cases e : (stW n E m 100).2 with
  | nil => rfl
  | cons q r =>
    have h1 := h.big (by rw [e]; exact fun z => nomatch z)
    have h2 := h.bound hM
    fail"o"
theorem fin_mem {x : List Int} : x ∈ (finW n E m).map (·.2) ↔ Reach n E m x := by
  have h := stW_inv hg hr hM 100
  constructor
  · intro hx
    obtain ⟨q, hq, rfl⟩ := List.mem_map.mp hx; exact h.rch q hq
  · intro hx
    induction hx with
    | here => exact h.hm
    | step _ hs ih =>
      obtain ⟨q, hq, rfl⟩ := List.mem_map.mp ih; rcases h.clo q hq with z | z
      · rw [fin_rows hg hr hM hB] at z; exact (nomatch z)
      · exact z _ hs
theorem fin_nd : ((finW n E m).map (·.2)).Nodup := (stW_inv hg hr hM 100).nd
theorem room_of {L : LLI} (nd : L.Nodup) (h1 : ∀ x ∈ L, Reach n E m x) (h2 : m ∈ L) (h3 : ∀ x ∈ L, ∀ s ∈ slF n E x, mv x s.1 s.2 ∈ L) : sortM L = sortM ((finW n E m).map (·.2)) := by
  have mem : ∀ x, x ∈ L ↔ x ∈ (finW n E m).map (·.2) := fun x => by
    rw [fin_mem hg hr hM hB]; refine ⟨h1 x, fun h => ?_⟩
    induction h with
    | here => exact h2
    | step _ hs ih => exact h3 _ ih _ hs
  refine isort_eq ordL ((isort_perm _).trans (nodup_perm nd (fin_nd hg hr hM hB) mem)) (isort_up ordL _)
theorem mem_room {x : List Int} : x ∈ sortM ((finW n E m).map (·.2)) ↔ Reach n E m x := by
  rw [(isort_perm _).mem_iff, fin_mem hg hr hM hB]
end
end L2
namespace TR
abbrev Pr := Int → Prop
variable {adj : Int → Int → Prop}
structure Ind (adj : Int → Int → Prop) (V I : Pr) : Prop where
  sub : ∀ x, I x → V x
  apt : ∀ x y, I x → I y → ¬ adj x y
def mvP (I : Pr) (a b : Int) : Pr := fun x => (I x ∧ x ≠ a) ∨ x = b
inductive Rch (adj : Int → Int → Prop) (V I : Pr) : Pr → Prop
  | here : Rch adj V I I
  | step {J : Pr} {a b : Int} : Rch adj V I J → J a → V b → adj a b → (∀ x, J x → x ≠ a → ¬ adj x b) → Rch adj V I (mvP J a b)
inductive Mov (adj : Int → Int → Prop) (V I : Pr) : Int → Option Int → Prop
  | mk {x : Int} {b : Option Int} (v : Int) : I x → V v → adj x v → some v ≠ b → (∀ y, V y → adj v y → y ≠ x → I y → Mov adj V I y (some v)) → Mov adj V I x b
structure Stuck (adj : Int → Int → Prop) (V I S : Pr) : Prop where
  sub : ∀ x, S x → I x
  bar : ∀ x, S x → ∀ v, V v → adj x v → ∃ y, S y ∧ y ≠ x ∧ adj v y
structure For (adj : Int → Int → Prop) (pos : Int → Nat) : Prop where
  sym : ∀ x y, adj x y → adj y x
  ne : ∀ x y, adj x y → pos x ≠ pos y
  one : ∀ x y z, adj x y → adj x z → pos y < pos x → pos z < pos x → y = z
theorem For.irr {pos : Int → Nat} (h : For adj pos) {x y : Int} (a : adj x y) : x ≠ y := fun e => h.ne x y a (by rw [e])
theorem Ind.step {V J : Pr} {a b : Int} (sym : ∀ x y, adj x y → adj y x) (irr : ∀ x, ¬ adj x x) (h : Ind adj V J) (hb : V b) (hc : ∀ x, J x → x ≠ a → ¬ adj x b) : Ind adj V (mvP J a b) := by
  refine ⟨fun x hx => ?_, fun x y hx hy e => ?_⟩
  · rcases hx with hx | rfl
    · exact h.sub x hx.1
    · exact hb
  · rcases hx with hx | rfl
    · rcases hy with hy | rfl
      · exact h.apt x y hx.1 hy.1 e
      · exact hc x hx.1 hx.2 e
    · rcases hy with hy | rfl
      · exact hc y hy.1 hy.2 (sym _ _ e)
      · exact irr _ e
theorem Rch.ind {V I J : Pr} (sym : ∀ x y, adj x y → adj y x) (irr : ∀ x, ¬ adj x x) (h : Ind adj V I) (r : Rch adj V I J) : Ind adj V J := by
  induction r with
  | here => exact h
  | step _ _ hb _ hc ih => exact ih.step sym irr hb hc
theorem Rch.trans {V I J K : Pr} (r : Rch adj V I J) (q : Rch adj V J K) : Rch adj V I K := by
  induction q with
  | here => exact r
  | step _ ha hb hab hc ih => exact .step ih ha hb hab hc
theorem mvP_back {J : Pr} {a b : Int} (ha : J a) (hb : ¬ J b) : mvP (mvP J a b) b a = J := by
  funext x
  apply propext
  constructor
  · rintro (⟨h | h, h'⟩ | h)
    · exact h.1
    · exact absurd h h'
    · exact h ▸ ha
  · intro h
    by_cases e : x = a
    · exact .inr e
    · exact .inl ⟨.inl ⟨h, e⟩, fun q => hb (q ▸ h)⟩
theorem Rch.sym {V I J : Pr} (sym : ∀ x y, adj x y → adj y x) (irr : ∀ x, ¬ adj x x) (h : Ind adj V I) (r : Rch adj V I J) : Rch adj V J I := by
  induction r with
  | here => exact .here
  | @step J a b r ha hb hab hc ih =>
    have hJ := r.ind sym irr h; have hnb : ¬ J b := fun q => hJ.apt a b ha q hab
    have e := mvP_back ha hnb
    have s : Rch adj V (mvP J a b) (mvP (mvP J a b) b a) := .step .here (.inr rfl) (hJ.sub a ha) (sym _ _ hab) (by
      rintro x (hx | hx) hxb
      · exact hJ.apt x a hx.1 ha
      · exact absurd hx hxb)
    rw [e] at s; exact s.trans ih
theorem Rch.lift {V V' I J K : Pr} (sym : ∀ x y, adj x y → adj y x) (irr : ∀ x, ¬ adj x x) (hI : Ind adj V' I) (hV : ∀ x, V' x → V x) (hK : ∀ x, K x → ¬ V' x) (hKa : ∀ x y, K x → V' y → ¬ adj x y) (r : Rch adj V' I J) : Rch adj V (fun x => I x ∨ K x) (fun x => J x ∨ K x) := by
  induction r with
  | here => exact .here
  | @step J a b r ha hb hab hc ih =>
    have hJ := r.ind sym irr hI
    have e : (fun x => mvP J a b x ∨ K x) = mvP (fun x => J x ∨ K x) a b := by
      funext x
      apply propext
      constructor
      · rintro ((h | h) | h)
        · exact .inl ⟨.inl h.1, h.2⟩
        · exact .inr h
        · exact .inl ⟨.inr h, fun q => hK x h (q ▸ hJ.sub a ha)⟩
      · rintro (⟨h | h, h'⟩ | h)
        · exact .inl (.inl ⟨h, h'⟩)
        · exact .inr h
        · exact .inl (.inr h)
    rw [e]
    exact .step ih (.inl ha) (hV _ hb) hab (by
      rintro x (hx | hx) hxa
      · exact hc x hx hxa
      · exact hKa x b hx hb)
theorem Stuck.step {V J S : Pr} {a b : Int} (sym : ∀ x y, adj x y → adj y x) (hS : Stuck adj V J S) (hb : V b) (hab : adj a b) (hc : ∀ x, J x → x ≠ a → ¬ adj x b) : ¬ S a ∧ Stuck adj V (mvP J a b) S := by
  have hn : ¬ S a := fun h => by
    obtain ⟨y, hy, hya, hyb⟩ := hS.bar a h b hb hab; exact hc y (hS.sub y hy) hya (sym _ _ hyb)
  exact ⟨hn, ⟨fun x hx => .inl ⟨hS.sub x hx, fun e => hn (e ▸ hx)⟩, hS.bar⟩⟩
theorem Rch.stuck {V I J S : Pr} (sym : ∀ x y, adj x y → adj y x) (r : Rch adj V I J) (hS : Stuck adj V I S) : Stuck adj V J S := by
  induction r with
  | here => exact hS
  | step _ _ hb hab hc ih => exact (ih.step sym hb hab hc).2
def Rig (adj : Int → Int → Prop) (V I : Pr) : Pr := fun x => ∃ S, Stuck adj V I S ∧ S x
theorem Rig.stuck {V I : Pr} : Stuck adj V I (Rig adj V I) := by
  refine ⟨fun x ⟨S, h, hx⟩ => h.sub x hx, fun x ⟨S, h, hx⟩ v hv ha => ?_⟩
  obtain ⟨y, hy, h1, h2⟩ := h.bar x hx v hv ha; exact ⟨y, ⟨S, h, hy⟩, h1, h2⟩
theorem Rch.rig {V I J : Pr} (sym : ∀ x y, adj x y → adj y x) (irr : ∀ x, ¬ adj x x) (h : Ind adj V I) (r : Rch adj V I J) : Rig adj V J = Rig adj V I := by
  funext x
  apply propext
  exact ⟨fun ⟨S, hS, hx⟩ => ⟨S, (r.sym sym irr h).stuck sym hS, hx⟩, fun ⟨S, hS, hx⟩ => ⟨S, r.stuck sym hS, hx⟩⟩
inductive RS (adj : Int → Int → Prop) (V I : Pr) (st : Int → Option Int → Prop) : Int → Option Int → Prop
  | start {x : Int} {b : Option Int} : st x b → RS adj V I st x b
  | next {w : Int} {b : Option Int} {v y : Int} : RS adj V I st w b → adj w v → adj v y → y ≠ w → I y → ¬ Mov adj V I y (some v) → RS adj V I st y (some v)
theorem RS.stuck {V I : Pr} {st : Int → Option Int → Prop} (sym : ∀ x y, adj x y → adj y x) (h : ∀ x b, st x b → I x ∧ ¬ Mov adj V I x b ∧ ∀ p, b = some p → ∃ y b', st y b' ∧ y ≠ x ∧ adj p y) : Stuck adj V I (fun x => ∃ b, RS adj V I st x b) := by
  have inv : ∀ x b, RS adj V I st x b → I x ∧ ¬ Mov adj V I x b ∧ ∀ p, b = some p → ∃ y, (∃ b', RS adj V I st y b') ∧ y ≠ x ∧ adj p y := by
    intro x b r
    cases r with
    | start s =>
      obtain ⟨h1, h2, h3⟩ := h x b s; exact ⟨h1, h2, fun p e => by obtain ⟨y, b', k1, k2, k3⟩ := h3 p e; exact ⟨y, ⟨b', .start k1⟩, k2, k3⟩⟩
    | @next w b0 v _ r1 h1 h2 h3 h4 h5 =>
      refine ⟨h4, h5, fun p e => ?_⟩
      cases e; exact ⟨w, ⟨b0, r1⟩, fun e => h3 e.symm, sym _ _ h1⟩
  refine ⟨fun x ⟨b, r⟩ => (inv x b r).1, fun x ⟨b, r⟩ v hv ha => ?_⟩
  obtain ⟨i1, i2, i3⟩ := inv x b r
  by_cases hb : b = some v
  · exact i3 v hb
  · refine Classical.byContradiction fun hn => i2 (.mk v i1 hv ha (fun e => hb e.symm) fun y hy h1 h2 h3 => Classical.byContradiction fun h4 => hn ⟨y, ⟨some v, .next r ha h1 h2 h3 h4⟩, h2, h1⟩)
theorem rig_of_not_mov {V I : Pr} {u : Int} (sym : ∀ x y, adj x y → adj y x) (hu : I u) (h : ¬ Mov adj V I u none) : Rig adj V I u :=
  ⟨_, RS.stuck (st := fun x b => x = u ∧ b = none) sym fun x b ⟨e1, e2⟩ => by subst e1; subst e2; exact ⟨hu, h, fun p e => (nomatch e)⟩, none, .start ⟨rfl, rfl⟩⟩
theorem rig_of_two {V I : Pr} {p x1 x2 : Int} (sym : ∀ x y, adj x y → adj y x) (hne : x1 ≠ x2) (h1 : I x1) (h2 : I x2) (a1 : adj p x1) (a2 : adj p x2) (m1 : ¬ Mov adj V I x1 (some p)) (m2 : ¬ Mov adj V I x2 (some p)) : Rig adj V I x1 := by
  refine ⟨_, RS.stuck (st := fun x b => (x = x1 ∨ x = x2) ∧ b = some p) sym fun x b hz0 => ?_, some p, .start ⟨.inl rfl, rfl⟩⟩
  obtain ⟨e1, e2⟩ := hz0; subst e2; rcases e1 with rfl | rfl
  · exact ⟨h1, m1, fun q e => by cases e; exact ⟨x2, some p, ⟨.inr rfl, rfl⟩, fun e => hne e.symm, a2⟩⟩
  · exact ⟨h2, m2, fun q e => by cases e; exact ⟨x1, some p, ⟨.inl rfl, rfl⟩, hne, a1⟩⟩
inductive Desc (adj : Int → Int → Prop) (pos : Int → Nat) (x : Int) : Int → Prop
  | here : Desc adj pos x x
  | down {z c : Int} : Desc adj pos x z → adj z c → pos z < pos c → Desc adj pos x c
theorem Desc.le {pos : Int → Nat} {x z : Int} (h : Desc adj pos x z) : pos x ≤ pos z := by
  induction h with
  | here => exact Nat.le_refl _
  | down _ _ h ih => fail"o"
theorem Desc.rim {pos : Int → Nat} {x a c : Int} (f : For adj pos) (h : Desc adj pos x a) (hac : adj a c) (hc : ¬ Desc adj pos x c) : a = x ∧ pos c < pos x := by
  have hl : pos c < pos a := by
    have := f.ne a c hac
    by_cases q : pos a < pos c
    · exact absurd (Desc.down h hac q) hc
    · fail"o"
  cases h with
  | here => exact ⟨rfl, hl⟩
  | @down z _ h1 h2 h3 =>
    have : c = z := f.one a c z hac (f.sym _ _ h2) hl h3; exact absurd (this ▸ h1) hc
theorem For.side {pos : Int → Nat} {x p : Int} (f : For adj pos) (h : adj x p) : ∃ B : Pr, B x ∧ ¬ B p ∧ ∀ a c, adj a c → B a → ¬ B c → a = x ∧ c = p := by
  rcases Nat.lt_or_gt_of_ne (f.ne x p h) with q | q
  · refine ⟨fun z => ¬ Desc adj pos p z, fun d => ?_, fun d => d .here, fun a c hac ha hc => ?_⟩
    · have := d.le; fail"o"
    · have hc : Desc adj pos p c := Classical.byContradiction hc
      obtain ⟨e, l⟩ := hc.rim f (f.sym _ _ hac) ha; subst e; exact ⟨f.one c a x (f.sym _ _ hac) (f.sym _ _ h) l q, rfl⟩
  · refine ⟨Desc adj pos x, .here, fun d => ?_, fun a c hac ha hc => ?_⟩
    · have := d.le; fail"o"
    · obtain ⟨e, l⟩ := ha.rim f hac hc
      subst e; exact ⟨rfl, f.one a c p hac h l q⟩
inductive Br (adj : Int → Int → Prop) (x p : Int) : Int → Prop
  | here : Br adj x p x
  | step {z c : Int} : Br adj x p z → adj z c → c ≠ p → Br adj x p c
theorem Br.side {x p z : Int} {B : Pr} (hx : B x) (hB : ∀ a c, adj a c → B a → ¬ B c → a = x ∧ c = p) (h : Br adj x p z) : B z := by
  induction h with
  | here => exact hx
  | step _ h1 h2 ih => exact Classical.byContradiction fun hn => h2 (hB _ _ h1 ih hn).2
theorem Br.root {pos : Int → Nat} {x p z : Int} (f : For adj pos) (hxp : adj x p) (h : Br adj x p z) (ha : adj z p) : z = x := by
  obtain ⟨B, b1, b2, b3⟩ := f.side hxp; exact (b3 z p ha (h.side b1 b3) b2).1
theorem Br.ne {pos : Int → Nat} {x p z : Int} (f : For adj pos) (hxp : adj x p) (h : Br adj x p z) : z ≠ p := by
  obtain ⟨B, b1, b2, b3⟩ := f.side hxp; exact fun e => b2 (e ▸ h.side b1 b3)
theorem Br.apart {pos : Int → Nat} {x y p z : Int} (f : For adj pos) (hxp : adj x p) (hyp : adj y p) (hne : x ≠ y) (h : Br adj x p z) (k : Br adj y p z) : False := by
  obtain ⟨B, b1, b2, b3⟩ := f.side hxp; have hy : ¬ B y := fun q => hne (b3 y p hyp q b2).1.symm
  have : ¬ B z := by
    clear h
    induction k with
    | here => exact hy
    | @step z c k h1 h2 ih => exact fun hc => (k.ne f hyp) (b3 c z (f.sym _ _ h1) hc ih).2
  exact this (h.side b1 b3)
theorem Br.within {pos : Int → Nat} {x p v y z : Int} (f : For adj pos) (hxp : adj x p) (hxv : adj x v) (hvp : v ≠ p) (hvy : adj v y) (hyx : y ≠ x) (h : Br adj y v z) : Br adj x p z := by
  have hv : Br adj x p v := .step .here hxv hvp
  induction h with
  | here =>
    refine .step hv hvy fun e => ?_
    subst e; exact f.irr hxv (hv.root f hxp hvy).symm
  | @step z c k h1 h2 ih =>
    refine .step ih h1 fun e => ?_
    subst e; have : z = x := ih.root f hxp h1; subst this; exact hyx (k.root f (f.sym _ _ hvy) hxv).symm
def Area (adj : Int → Int → Prop) (x : Int) : Option Int → Pr
  | none => fun _ => True
  | some p => Br adj x p
def Out (adj : Int → Int → Prop) (V J : Pr) (y : Int) (b : Option Int) : Prop :=
  ∀ J1, Ind adj V J1 → (∀ z, Area adj y b z → (J1 z ↔ J z)) → ∃ J2, Rch adj V J1 J2 ∧ ¬ J2 y ∧ ∀ z, ¬ Area adj y b z → (J2 z ↔ J1 z)
theorem clear {pos : Int → Nat} {V J : Pr} {v x : Int} (f : For adj pos) (hJ : Ind adj V J) (h : ∀ y, adj v y → y ≠ x → J y → Out adj V J y (some v)) :
    ∀ l : List Int, ∃ J1, Rch adj V J J1 ∧ (∀ z, (∀ y ∈ l, adj v y → y ≠ x → ¬ Br adj y v z) → (J1 z ↔ J z)) ∧ ∀ y ∈ l, adj v y → y ≠ x → ¬ J1 y
  | [] => ⟨J, .here, fun _ _ => Iff.rfl, fun y hy => (nomatch hy)⟩
  | y :: l => by
    obtain ⟨J1, r, e, c⟩ := clear f hJ h l; have irr : ∀ x, ¬ adj x x := fun x a => f.ne x x a rfl
    by_cases hy : adj v y ∧ y ≠ x ∧ J1 y
    · obtain ⟨h1, h2, h3⟩ := hy
      have hl : y ∉ l := fun q => c y q h1 h2 h3
      have ag : ∀ z, Br adj y v z → (J1 z ↔ J z) := fun z hz => e z fun y' hy' a' n' k => Br.apart f (f.sym _ _ a') (f.sym _ _ h1) (fun q => hl (q ▸ hy')) k hz
      obtain ⟨J2, r2, n2, e2⟩ := h y h1 h2 ((ag y .here).mp h3) J1 (r.ind f.sym irr hJ) ag; refine ⟨J2, r.trans r2, fun z hz => ?_, fun y' hy' a' n' => ?_⟩
      · exact (e2 z (hz y (List.mem_cons_self ..) h1 h2)).trans (e z fun y' hy' => hz y' (List.mem_cons_of_mem _ hy'))
      · rcases List.mem_cons.mp hy' with rfl | hy'
        · exact n2
        · intro q
          have : ¬ Br adj y v y' := fun k => hl ((k.root f (f.sym _ _ h1) (f.sym _ _ a')) ▸ hy')
          exact c y' hy' a' n' ((e2 y' this).mp q)
    · refine ⟨J1, r, fun z hz => e z fun y' hy' => hz y' (List.mem_cons_of_mem _ hy'), fun y' hy' a' n' => ?_⟩
      rcases List.mem_cons.mp hy' with rfl | hy'
      · exact fun q => hy ⟨a', n', q⟩
      · exact c y' hy' a' n'
theorem Mov.out {pos : Int → Nat} {V I : Pr} {L : List Int} {x : Int} {b : Option Int} (f : For adj pos) (hL : ∀ x, V x → x ∈ L) (h : Mov adj V I x b) : (∀ p, b = some p → adj x p) → Out adj V I x b := by
  have irr : ∀ x, ¬ adj x x := fun x a => f.ne x x a rfl
  induction h with
  | @mk x b v hx hv hxv hvb hy ih =>
    intro hb J hJ ag; have xin : Area adj x b x := by cases b with | none => trivial | some p => exact .here
    have vin : Area adj x b v := by cases b with | none => trivial | some p => exact .step .here hxv fun e => hvb (by rw [e])
    have win : ∀ y, adj v y → y ≠ x → ∀ z, Br adj y v z → Area adj x b z := by
      intro y h1 h2 z hz
      cases b with
      | none => trivial
      | some p => exact Br.within f (hb p rfl) hxv (fun e => hvb (by rw [e])) h1 h2 hz
    obtain ⟨J1, r, e, c⟩ := clear (x := x) f hJ (fun y h1 h2 h3 => by
      have hI : I y := (ag y (win y h1 h2 y .here)).mp h3; intro K hK agK; exact ih y (hJ.sub y h3) h1 h2 hI (fun p e => by cases e; exact f.sym _ _ h1) K hK fun z hz => (agK z hz).trans (ag z (win y h1 h2 z hz))) L
    have i1 := r.ind f.sym irr hJ; have hx1 : J1 x := (e x fun y _ h1 h2 k => h2 (k.root f (f.sym _ _ h1) hxv).symm).mpr ((ag x xin).mpr hx)
    refine ⟨mvP J1 x v, .step r hx1 hv hxv fun z hz hzx ha => c z (hL z (i1.sub z hz)) (f.sym _ _ ha) hzx hz, ?_, fun z hz => ?_⟩
    · rintro (q | q)
      · exact q.2 rfl
      · exact f.irr hxv q
    · have ez := e z fun y _ h1 h2 k => hz (win y h1 h2 z k)
      constructor
      · rintro (q | q)
        · exact ez.mp q.1
        · exact absurd (q ▸ vin) hz
      · exact fun q => .inl ⟨ez.mpr q, fun w => hz (w ▸ xin)⟩
theorem Mov.leaves {pos : Int → Nat} {V I : Pr} {L : List Int} {x : Int} (f : For adj pos) (hL : ∀ x, V x → x ∈ L) (hI : Ind adj V I) (h : Mov adj V I x none) : ∃ J, Rch adj V I J ∧ ¬ J x := by
  obtain ⟨J, r, n, _⟩ := h.out f hL (fun p e => (nomatch e)) I hI fun _ _ => Iff.rfl
  exact ⟨J, r, n⟩
theorem rig_iff {pos : Int → Nat} {V I : Pr} {L : List Int} {x : Int} (f : For adj pos) (hL : ∀ x, V x → x ∈ L) (hI : Ind adj V I) (hx : I x) : Rig adj V I x ↔ ¬ Mov adj V I x none := by
  refine ⟨fun ⟨S, hS, h⟩ m => ?_, rig_of_not_mov f.sym hx⟩
  obtain ⟨J, r, n⟩ := m.leaves f hL hI; exact n ((r.stuck f.sym hS).sub x h)
theorem rig_never {pos : Int → Nat} {V I : Pr} {L : List Int} {x : Int} (f : For adj pos) (hL : ∀ x, V x → x ∈ L) (hI : Ind adj V I) (hx : I x) : Rig adj V I x ↔ ∀ J, Rch adj V I J → J x := by
  refine ⟨fun ⟨S, hS, h⟩ J r => (r.stuck f.sym hS).sub x h, fun h => Classical.byContradiction fun hn => ?_⟩
  have : Mov adj V I x none := Classical.byContradiction fun k => hn ((rig_iff f hL hI hx).mpr k)
  obtain ⟨J, r, n⟩ := this.leaves f hL hI; exact n (h J r)
def Free (adj : Int → Int → Prop) (V I : Pr) : Prop := ∀ x, ¬ Rig adj V I x
theorem Rch.free {V I J : Pr} (sym : ∀ x y, adj x y → adj y x) (irr : ∀ x, ¬ adj x x) (h : Ind adj V I) (r : Rch adj V I J) (hf : Free adj V I) : Free adj V J := fun x hx => hf x (by rw [← r.rig sym irr h]; exact hx)
inductive Wk (adj : Int → Int → Prop) (V : Pr) (v : Int) : Nat → Int → Prop
  | zero : Wk adj V v 0 v
  | succ {l : Nat} {z c : Int} : Wk adj V v l z → V c → adj z c → Wk adj V v (l + 1) c
theorem bring {pos : Int → Nat} {V : Pr} {L : List Int} {v : Int} (f : For adj pos) (hL : ∀ x, V x → x ∈ L) (hv : V v) :
    ∀ (l : Nat) (I : Pr), Ind adj V I → Free adj V I → (∃ u, Wk adj V v l u ∧ I u) → ∃ J, Rch adj V I J ∧ J v := by
  intro l; have irr : ∀ x, ¬ adj x x := fun x a => f.ne x x a rfl
  induction l using Nat.strongRecOn with
  | _ l ih =>
    intro I hI hf ⟨u, hw, hu⟩
    by_cases hs : ∃ k, k < l ∧ ∃ u, Wk adj V v k u ∧ I u
    · obtain ⟨k, hk, h⟩ := hs
      exact ih k hk I hI hf h
    · cases hw with
      | zero => exact ⟨I, .here, hu⟩
      | @succ l z _ hz hVu hzu =>
        have hVz : V z := by cases hz with | zero => exact hv | succ _ h _ => exact h
        obtain ⟨x, hx, hzx, hm⟩ : ∃ x, I x ∧ adj z x ∧ ∀ y, adj z y → y ≠ x → I y → Mov adj V I y (some z) := by
          by_cases q : ∃ x, I x ∧ adj z x ∧ ¬ Mov adj V I x (some z)
          · obtain ⟨x, h1, h2, h3⟩ := q
            exact ⟨x, h1, h2, fun y a n iy => Classical.byContradiction fun k => hf y (rig_of_two f.sym n iy h1 a h2 k h3)⟩
          · exact ⟨u, hu, hzu, fun y a n iy => Classical.byContradiction fun k => q ⟨y, iy, a, k⟩⟩
        obtain ⟨J1, r, e, c⟩ := clear (x := x) f hI (fun y h1 h2 h3 => (hm y h1 h2 h3).out f hL (fun p e => by cases e; exact f.sym _ _ h1)) L
        have i1 := r.ind f.sym irr hI; have hx1 : J1 x := (e x fun y _ h1 h2 k => h2 (k.root f (f.sym _ _ h1) (f.sym _ _ hzx)).symm).mpr hx
        have r2 : Rch adj V I (mvP J1 x z) := .step r hx1 hVz (f.sym _ _ hzx) fun w hw' hwx ha => c w (hL w (i1.sub w hw')) (f.sym _ _ ha) hwx hw'
        obtain ⟨J, r3, hJ⟩ := ih l (Nat.lt_succ_self l) (mvP J1 x z) (r2.ind f.sym irr hI) (r2.free f.sym irr hI hf) ⟨z, hz, .inr rfl⟩; exact ⟨J, r2.trans r3, hJ⟩
end TR
namespace TR
variable {adj : Int → Int → Prop}
open Classical in
noncomputable def cnt (L : List Int) (P : Pr) : Nat := (L.filter fun x => decide (P x)).length
theorem cnt_congr {L : List Int} {P Q : Pr} (h : ∀ x ∈ L, (P x ↔ Q x)) : cnt L P = cnt L Q := by
  unfold cnt
  have : L.filter (fun x => @decide (P x) (Classical.propDecidable _)) = L.filter (fun x => @decide (Q x) (Classical.propDecidable _)) := by
    refine List.filter_congr fun x hx => ?_
    rw [decide_eq_decide]; exact h x hx
  rw [this]
theorem cnt_add {L : List Int} {P : Pr} {b : Int} (nd : L.Nodup) (hb : b ∈ L) (hP : ¬ P b) : cnt L (fun x => P x ∨ x = b) = cnt L P + 1 := by
  induction L with
  | nil => cases hb
  | cons a r ih =>
    rw [List.nodup_cons] at nd; unfold cnt at ih ⊢
    by_cases e : a = b
    · subst e
      rw [List.filter_cons_of_pos (by simp), List.filter_cons_of_neg (by simpa using hP), List.length_cons]
      congr 2
      refine List.filter_congr fun x hx => ?_
      rw [decide_eq_decide]; exact ⟨fun h => h.elim id fun e => absurd (e ▸ hx) nd.1, .inl⟩
    · have hb' : b ∈ r := (List.mem_cons.mp hb).resolve_left fun q => e q.symm
      by_cases q : P a
      · rw [List.filter_cons_of_pos (by simp [q]), List.filter_cons_of_pos (by simp [q]), List.length_cons, List.length_cons, ih nd.2 hb']
      · rw [List.filter_cons_of_neg (by simp [q, e]), List.filter_cons_of_neg (by simp [q]), ih nd.2 hb']
theorem cnt_move {L : List Int} {J C : Pr} {a b : Int} (nd : L.Nodup) (ha : a ∈ L) (hb : b ∈ L) (hJa : J a) (hJb : ¬ J b) (hC : C a ↔ C b) : cnt L (fun x => mvP J a b x ∧ C x) = cnt L (fun x => J x ∧ C x) := by
  have hab : a ≠ b := fun e => hJb (e ▸ hJa)
  by_cases h : C a
  · have e1 : cnt L (fun x => mvP J a b x ∧ C x) = cnt L (fun x => (J x ∧ x ≠ a ∧ C x) ∨ x = b) := cnt_congr fun x _ => by
      constructor
      · rintro ⟨q | q, k⟩
        · exact .inl ⟨q.1, q.2, k⟩
        · exact .inr q
      · rintro (q | q)
        · exact ⟨.inl ⟨q.1, q.2.1⟩, q.2.2⟩
        · exact ⟨.inr q, q ▸ hC.mp h⟩
    have e2 : cnt L (fun x => J x ∧ C x) = cnt L (fun x => (J x ∧ x ≠ a ∧ C x) ∨ x = a) := cnt_congr fun x _ => by
      constructor
      · intro q
        by_cases e : x = a
        · exact .inr e
        · exact .inl ⟨q.1, e, q.2⟩
      · rintro (q | q)
        · exact ⟨q.1, q.2.2⟩
        · exact q ▸ ⟨hJa, h⟩
    rw [e1, e2, cnt_add nd hb fun q => hJb q.1, cnt_add nd ha fun q => q.2.1 rfl]
  · refine cnt_congr fun x _ => ?_
    constructor
    · rintro ⟨q | q, k⟩
      · exact ⟨q.1, k⟩
      · exact absurd (hC.mpr (q ▸ k)) h
    · exact fun q => ⟨.inl ⟨q.1, fun e => h (e ▸ q.2)⟩, q.2⟩
theorem cnt_pos {L : List Int} {P : Pr} {x : Int} (hx : x ∈ L) (h : P x) : 0 < cnt L P := by
  unfold cnt; exact List.length_pos_of_mem (List.mem_filter.mpr ⟨hx, by simpa using h⟩)
theorem cnt_some {L : List Int} {P : Pr} (h : 0 < cnt L P) : ∃ x, P x := by
  unfold cnt at h; obtain ⟨x, hx⟩ := List.exists_mem_of_length_pos h; exact ⟨x, by simpa using (List.mem_filter.mp hx).2⟩
inductive Con (adj : Int → Int → Prop) (V : Pr) (z : Int) : Int → Prop
  | here : Con adj V z z
  | step {a c : Int} : Con adj V z a → V c → adj a c → Con adj V z c
theorem Con.sub {V V' : Pr} {z x : Int} (hV : ∀ x, V' x → V x) (h : Con adj V' z x) : Con adj V z x := by
  induction h with
  | here => exact .here
  | step _ h1 h2 ih => exact .step ih (hV _ h1) h2
theorem Con.trans {V : Pr} {x y z : Int} (h : Con adj V x y) (k : Con adj V y z) : Con adj V x z := by
  induction k with
  | here => exact h
  | step _ h1 h2 ih => exact .step ih h1 h2
theorem Con.mem {V : Pr} {x y : Int} (hx : V x) (h : Con adj V x y) : V y := by
  cases h with
  | here => exact hx
  | step _ h _ => exact h
theorem Con.symm {V : Pr} (sym : ∀ x y, adj x y → adj y x) {x y : Int} (hx : V x) (h : Con adj V x y) : Con adj V y x := by
  induction h with
  | here => exact .here
  | @step a c h0 h1 h2 ih => exact (Con.step .here (h0.mem hx) (sym _ _ h2)).trans ih
theorem Con.walk {V : Pr} {x y : Int} (h : Con adj V x y) : ∃ l, Wk adj V x l y := by
  induction h with
  | here => exact ⟨0, .zero⟩
  | step _ h1 h2 ih => obtain ⟨l, w⟩ := ih; exact ⟨l + 1, .succ w h1 h2⟩
theorem Rch.cnt {V I J : Pr} {L : List Int} (f_sym : ∀ x y, adj x y → adj y x) (irr : ∀ x, ¬ adj x x) (nd : L.Nodup) (hL : ∀ x, V x → x ∈ L) (hI : Ind adj V I) (z : Int) (r : Rch adj V I J) : TR.cnt L (fun x => J x ∧ Con adj V z x) = TR.cnt L (fun x => I x ∧ Con adj V z x) := by
  induction r with
  | here => rfl
  | @step J a b r ha hb hab hc ih =>
    have hJ := r.ind f_sym irr hI; rw [cnt_move nd (hL a (hJ.sub a ha)) (hL b hb) ha (fun q => hJ.apt a b ha q hab) ⟨fun k => .step k hb hab, fun k => .step k (hJ.sub a ha) (f_sym _ _ hab)⟩, ih]
section cut
variable {pos : Int → Nat} {V : Pr} {w : Int}
def Cut (adj : Int → Int → Prop) (pos : Int → Nat) (V : Pr) (w : Int) : Pr := fun x => V x ∧ x ≠ w ∧ ¬ (adj w x ∧ pos w < pos x)
variable (f : For adj pos) (hw : V w) (hc : ∀ c, V c → adj w c → pos w < pos c → ∀ d, V d → adj c d → d = w)
include f hw hc
theorem cut_near {a y : Int} (ha : Cut adj pos V w a) (hy : V y) (hny : ¬ Cut adj pos V w y) (hay : adj a y) : y = w := by
  refine Classical.byContradiction fun e => hny ⟨hy, e, fun q => ?_⟩
  exact ha.2.1 (hc y hy q.1 q.2 a ha.1 (f.sym _ _ hay))
theorem cut_con {z x : Int} (hz : Cut adj pos V w z) (h : Con adj V z x) : (Cut adj pos V w x ∧ Con adj (Cut adj pos V w) z x) ∨ (¬ Cut adj pos V w x ∧ ∃ q, Cut adj pos V w q ∧ adj w q ∧ Con adj (Cut adj pos V w) z q) := by
  induction h with
  | here => exact .inl ⟨hz, .here⟩
  | @step a c h0 h1 h2 ih =>
    by_cases hcc : Cut adj pos V w c
    · left
      refine ⟨hcc, ?_⟩
      rcases ih with ⟨_, k⟩ | ⟨na, q, hq, hwq, k⟩
      · exact .step k hcc h2
      · have haw : a = w := cut_near f hw hc hcc (by cases h0 with | here => exact hz.1 | step _ h _ => exact h) na (f.sym _ _ h2)
        subst haw; have l1 : pos c < pos a := by have := f.ne a c h2; have : ¬ pos a < pos c := fun z => hcc.2.2 ⟨h2, z⟩; fail"o"
        have l2 : pos q < pos a := by have := f.ne a q hwq; have : ¬ pos a < pos q := fun z => hq.2.2 ⟨hwq, z⟩; fail"o"
        exact (f.one a c q h2 hwq l1 l2) ▸ k
    · right
      refine ⟨hcc, ?_⟩
      rcases ih with ⟨ha, k⟩ | ⟨_, r⟩
      · have : c = w := cut_near f hw hc ha h1 hcc h2
        subst this; exact ⟨a, ha, f.sym _ _ h2, k⟩
      · exact r
theorem cut_iff {z x : Int} (hz : Cut adj pos V w z) (hx : Cut adj pos V w x) : Con adj (Cut adj pos V w) z x ↔ Con adj V z x := by
  refine ⟨fun h => h.sub fun x h => h.1, fun h => ?_⟩
  rcases cut_con f hw hc hz h with h | h
  · exact h.2
  · exact absurd hx h.1
theorem cut_marks {I : Pr} {v : Int} (hI : Ind adj V I) (hf : Free adj V I) (hv : I v) (hwv : adj w v) (hlt : pos w < pos v) : Ind adj (Cut adj pos V w) (fun x => I x ∧ x ≠ v) ∧ Free adj (Cut adj pos V w) (fun x => I x ∧ x ≠ v) := by
  have hVv := hI.sub v hv; have leaf : ∀ d, V d → adj v d → d = w := hc v hVv hwv hlt
  have inn : ∀ x, I x → x ≠ v → Cut adj pos V w x := by
    intro x hx hxv; refine ⟨hI.sub x hx, fun e => hI.apt x v hx hv (e ▸ hwv), fun q => ?_⟩
    refine hf x ⟨fun z => z = x ∨ z = v, ⟨?_, ?_⟩, .inl rfl⟩
    · rintro z (rfl | rfl)
      · exact hx
      · exact hv
    · rintro z (rfl | rfl) u hu ha
      · have : u = w := hc z (hI.sub z hx) q.1 q.2 u hu ha
        subst this; exact ⟨v, .inr rfl, fun e => hxv e.symm, hwv⟩
      · have : u = w := leaf u hu ha
        subst this; exact ⟨x, .inl rfl, hxv, q.1⟩
  refine ⟨⟨fun x hx => inn x hx.1 hx.2, fun x y hx hy => hI.apt x y hx.1 hy.1⟩, ?_⟩
  rintro x ⟨S, hS, hx⟩
  by_cases q : ∃ s, S s ∧ adj w s
  · obtain ⟨s0, hs0, hws⟩ := q
    refine hf x ⟨fun z => S z ∨ z = v, ⟨?_, ?_⟩, .inl hx⟩
    · rintro z (h | rfl)
      · exact (hS.sub z h).1
      · exact hv
    · rintro z (h | rfl) u hu ha
      · by_cases hcu : Cut adj pos V w u
        · obtain ⟨y, h1, h2, h3⟩ := hS.bar z h u hcu ha
          exact ⟨y, .inl h1, h2, h3⟩
        · have : u = w := cut_near f hw hc (inn z (hS.sub z h).1 (hS.sub z h).2) hu hcu ha
          subst this; exact ⟨v, .inr rfl, fun e => (hS.sub z h).2 e.symm, hwv⟩
      · have : u = w := leaf u hu ha
        subst this; exact ⟨s0, .inl hs0, (hS.sub s0 hs0).2, hws⟩
  · refine hf x ⟨S, ⟨fun z hz => (hS.sub z hz).1, fun z hz u hu ha => ?_⟩, hx⟩
    by_cases hcu : Cut adj pos V w u
    · exact hS.bar z hz u hcu ha
    · have : u = w := cut_near f hw hc (inn z (hS.sub z hz).1 (hS.sub z hz).2) hu hcu ha
      subst this; exact absurd ⟨z, hz, f.sym _ _ ha⟩ q
end cut
theorem forest {pos : Int → Nat} {L : List Int} (f : For adj pos) (nd : L.Nodup) (inj : ∀ x ∈ L, ∀ y ∈ L, pos x = pos y → x = y) :
    ∀ (N : Nat) (V I J : Pr), (∀ x, V x → x ∈ L) → (∀ x c, V x → V c → adj x c → pos x < pos c → pos x < N) → Ind adj V I → Ind adj V J → Free adj V I → Free adj V J →
      (∀ z, V z → cnt L (fun x => I x ∧ Con adj V z x) = cnt L (fun x => J x ∧ Con adj V z x)) → Rch adj V I J := by
  have irr : ∀ x, ¬ adj x x := fun x a => f.ne x x a rfl
  intro N
  induction N with
  | zero =>
    intro V I J hL hN hI hJ fI fJ hcn
    have no : ∀ K, Ind adj V K → Free adj V K → ∀ x, ¬ K x := fun K hK fK x hx => fK x ⟨fun z => z = x, ⟨fun z e => e ▸ hx, fun z e v hv ha => by
      have e : z = x := e; subst e; rcases Nat.lt_or_gt_of_ne (f.ne z v ha) with q | q
      · exact absurd (hN z v (hK.sub z hx) hv ha q) (Nat.not_lt_zero _)
      · exact absurd (hN v z hv (hK.sub z hx) (f.sym _ _ ha) q) (Nat.not_lt_zero _)⟩, rfl⟩
    have : I = J := by
      funext x
      exact propext ⟨fun h => absurd h (no I hI fI x), fun h => absurd h (no J hJ fJ x)⟩
    rw [this]; exact .here
  | succ N ih =>
    intro V I J hL hN hI hJ fI fJ hcn
    by_cases hex : ∃ w, V w ∧ pos w = N ∧ ∃ c, V c ∧ adj w c ∧ pos w < pos c
    · obtain ⟨w, hw, hwN, v, hv, hwv, hlt⟩ := hex
      have hc : ∀ c, V c → adj w c → pos w < pos c → ∀ d, V d → adj c d → d = w := by
        intro c h1 h2 h3 d h4 h5
        have : pos d < pos c := by
          rcases Nat.lt_or_gt_of_ne (f.ne c d h5) with q | q
          · have := hN c d h1 h4 h5 q; fail"o"
          · exact q
        exact f.one c d w h5 (f.sym _ _ h2) this h3
      have hcL : ∀ x, Cut adj pos V w x → x ∈ L := fun x h => hL x h.1
      have hcN : ∀ x c, Cut adj pos V w x → Cut adj pos V w c → adj x c → pos x < pos c → pos x < N := by
        intro x c h1 h2 h3 h4; have := hN x c h1.1 h2.1 h3 h4; have : pos x ≠ N := fun e => h1.2.1 (inj x (hL x h1.1) w (hL w hw) (by fail"o"))
        fail"o"
      by_cases hA : ∃ u, I u ∧ Con adj V w u
      · have br : ∀ K, Ind adj V K → Free adj V K → (∃ u, K u ∧ Con adj V w u) → ∃ K', Rch adj V K K' ∧ K' v := by
          rintro K hK fK ⟨u, hu, hcu⟩
          have : Con adj V v u := (Con.step .here hw (f.sym _ _ hwv)).trans hcu; obtain ⟨l, hl⟩ := this.walk; exact bring f hL hv l K hK fK ⟨u, hl, hu⟩
        have hB : ∃ u, J u ∧ Con adj V w u := by
          obtain ⟨u, h1, h2⟩ := hA; exact cnt_some (P := fun x => J x ∧ Con adj V w x) (by rw [← hcn w hw]; exact cnt_pos (P := fun x => I x ∧ Con adj V w x) (hL u (hI.sub u h1)) ⟨h1, h2⟩)
        obtain ⟨I', rI, vI⟩ := br I hI fI hA; obtain ⟨J', rJ, vJ⟩ := br J hJ fJ hB; have iI := rI.ind f.sym irr hI; have iJ := rJ.ind f.sym irr hJ; obtain ⟨cI, gI⟩ := cut_marks f hw hc iI (rI.free f.sym irr hI fI) vI hwv hlt; obtain ⟨cJ, gJ⟩ := cut_marks f hw hc iJ (rJ.free f.sym irr hJ fJ) vJ hwv hlt
        have less : ∀ K, Ind adj V K → Ind adj (Cut adj pos V w) (fun x => K x ∧ x ≠ v) → K v → ∀ z, Cut adj pos V w z →
            cnt L (fun x => K x ∧ Con adj V z x) = cnt L (fun x => (K x ∧ x ≠ v) ∧ Con adj (Cut adj pos V w) z x) + cnt [v] (fun x => Con adj V z x) := by
          intro K hK cK hKv z hz
          by_cases q : Con adj V z v
          · have e1 : cnt [v] (fun x => Con adj V z x) = 1 := by unfold cnt; rw [List.filter_cons_of_pos (by simpa using q)]; rfl
            rw [e1, ← cnt_add nd (hL v hv) (fun k => k.1.2 rfl)]
            refine cnt_congr fun x _ => ?_
            constructor
            · intro k
              by_cases e : x = v
              · exact .inr e
              · exact .inl ⟨⟨k.1, e⟩, (cut_iff f hw hc hz (cK.sub x ⟨k.1, e⟩)).mpr k.2⟩
            · rintro (k | k)
              · exact ⟨k.1.1, (cut_iff f hw hc hz (cK.sub x k.1)).mp k.2⟩
              · exact k ▸ ⟨hKv, q⟩
          · have e1 : cnt [v] (fun x => Con adj V z x) = 0 := by unfold cnt; rw [List.filter_cons_of_neg (by simpa using q)]; rfl
            rw [e1, Nat.add_zero]; refine cnt_congr fun x _ => ?_
            constructor
            · intro k
              have e : x ≠ v := fun e => q (e ▸ k.2)
              exact ⟨⟨k.1, e⟩, (cut_iff f hw hc hz (cK.sub x ⟨k.1, e⟩)).mpr k.2⟩
            · exact fun k => ⟨k.1.1, (cut_iff f hw hc hz (cK.sub x k.1)).mp k.2⟩
        have r := ih (Cut adj pos V w) _ _ hcL hcN cI cJ gI gJ fun z hz => by
          have h1 := less I' iI cI vI z hz; have h2 := less J' iJ cJ vJ z hz; rw [rI.cnt f.sym irr nd hL hI z, hcn z hz.1, ← rJ.cnt f.sym irr nd hL hJ z] at h1
          fail"o"
        have r' := r.lift (V := V) (K := fun x => x = v) f.sym irr cI (fun x h => h.1) (fun x e h => by
          have e : x = v := e; subst e
          exact h.2.2 ⟨hwv, hlt⟩) (fun x y e hy ha => by
          have e : x = v := e; subst e; exact hy.2.1 (hc x hv hwv hlt y hy.1 ha))
        have back : ∀ K : Pr, K v → (fun x => (K x ∧ x ≠ v) ∨ x = v) = K := fun K hK => by
          funext x
          exact propext ⟨fun h => h.elim (·.1) fun e => e ▸ hK, fun h => by
            by_cases e : x = v
            · exact .inr e
            · exact .inl ⟨h, e⟩⟩
        rw [back I' vI, back J' vJ] at r'; exact (rI.trans r').trans (rJ.sym f.sym irr hJ)
      · have hB : ¬ ∃ u, J u ∧ Con adj V w u := by
          rintro ⟨u, h1, h2⟩
          exact hA (cnt_some (P := fun x => I x ∧ Con adj V w x) (by rw [hcn w hw]; exact cnt_pos (P := fun x => J x ∧ Con adj V w x) (hL u (hJ.sub u h1)) ⟨h1, h2⟩))
        have go : ∀ K, Ind adj V K → Free adj V K → (¬ ∃ u, K u ∧ Con adj V w u) → Ind adj (Cut adj pos V w) K ∧ Free adj (Cut adj pos V w) K ∧ ∀ z, Cut adj pos V w z → cnt L (fun x => K x ∧ Con adj (Cut adj pos V w) z x) = cnt L (fun x => K x ∧ Con adj V z x) := by
          intro K hK fK hno; have inn : ∀ x, K x → Cut adj pos V w x := fun x hx => ⟨hK.sub x hx, fun e => hno ⟨x, hx, e ▸ .here⟩, fun k => hno ⟨x, hx, .step .here (hK.sub x hx) k.1⟩⟩
          refine ⟨⟨inn, hK.apt⟩, ?_, fun z hz => cnt_congr fun x _ => ?_⟩
          · rintro x ⟨S, hS, hx⟩
            refine fK x ⟨S, ⟨hS.sub, fun s hs u hu ha => ?_⟩, hx⟩
            by_cases hcu : Cut adj pos V w u
            · exact hS.bar s hs u hcu ha
            · have : u = w := cut_near f hw hc (inn s (hS.sub s hs)) hu hcu ha
              subst this; exact absurd ⟨s, hS.sub s hs, .step .here (hK.sub s (hS.sub s hs)) (f.sym _ _ ha)⟩ hno
          · exact ⟨fun k => ⟨k.1, (cut_iff f hw hc hz (inn x k.1)).mp k.2⟩, fun k => ⟨k.1, (cut_iff f hw hc hz (inn x k.1)).mpr k.2⟩⟩
        obtain ⟨cI, gI, kI⟩ := go I hI fI hA; obtain ⟨cJ, gJ, kJ⟩ := go J hJ fJ hB; have r := ih (Cut adj pos V w) I J hcL hcN cI cJ gI gJ fun z hz => by rw [kI z hz, kJ z hz, hcn z hz.1]
        have r' := r.lift (V := V) (K := fun _ => False) f.sym irr cI (fun x h => h.1) (fun x e => e.elim) (fun x y e => e.elim)
        have back : ∀ K : Pr, (fun x => K x ∨ False) = K := fun K => by funext x; exact propext ⟨fun h => h.elim id False.elim, .inl⟩
        rw [back I, back J] at r'; exact r'
    · refine ih V I J hL (fun x c h1 h2 h3 h4 => ?_) hI hJ fI fJ hcn
      have := hN x c h1 h2 h3 h4; have : pos x ≠ N := fun e => hex ⟨x, h1, e, c, h2, h3, h4⟩
      fail"o"
def Fre (adj : Int → Int → Prop) (V R : Pr) : Pr := fun x => V x ∧ ¬ R x ∧ ∀ r, R r → ¬ adj r x
theorem marks_fre {V I : Pr} (hI : Ind adj V I) {x : Int} (hx : I x) (hn : ¬ Rig adj V I x) : Fre adj V (Rig adj V I) x := ⟨hI.sub x hx, hn, fun r hr ha => hI.apt r x (Rig.stuck.sub r hr) hx ha⟩
theorem reach_of {pos : Int → Nat} {L : List Int} {V I J : Pr} {N : Nat} (f : For adj pos) (nd : L.Nodup) (inj : ∀ x ∈ L, ∀ y ∈ L, pos x = pos y → x = y) (hL : ∀ x, V x → x ∈ L) (hN : ∀ x ∈ L, pos x < N) (hI : Ind adj V I) (hJ : Ind adj V J)
    (hR : Rig adj V I = Rig adj V J) (hcn : ∀ z, Fre adj V (Rig adj V I) z → cnt L (fun x => I x ∧ Con adj (Fre adj V (Rig adj V I)) z x) = cnt L (fun x => J x ∧ Con adj (Fre adj V (Rig adj V I)) z x)) : Rch adj V I J := by
  have irr : ∀ x, ¬ adj x x := fun x a => f.ne x x a rfl
  have go : ∀ K, Ind adj V K → Rig adj V K = Rig adj V I → Ind adj (Fre adj V (Rig adj V I)) (fun x => K x ∧ ¬ Rig adj V I x) ∧ Free adj (Fre adj V (Rig adj V I)) (fun x => K x ∧ ¬ Rig adj V I x) ∧ (fun x => (K x ∧ ¬ Rig adj V I x) ∨ Rig adj V I x) = K ∧
      ∀ z, Fre adj V (Rig adj V I) z → cnt L (fun x => (K x ∧ ¬ Rig adj V I x) ∧ Con adj (Fre adj V (Rig adj V I)) z x) = cnt L (fun x => K x ∧ Con adj (Fre adj V (Rig adj V I)) z x) := by
    intro K hK e; rw [← e]; refine ⟨⟨fun x hx => marks_fre hK hx.1 hx.2, fun x y hx hy => hK.apt x y hx.1 hy.1⟩, ?_, ?_, fun z hz => cnt_congr fun x _ => ?_⟩
    · rintro x ⟨S, hS, hx⟩
      refine (hS.sub x hx).2 ⟨fun z => S z ∨ Rig adj V K z, ⟨?_, ?_⟩, .inl hx⟩
      · rintro z (h | h)
        · exact (hS.sub z h).1
        · exact Rig.stuck.sub z h
      · rintro z (h | h) u hu ha
        · by_cases hF : Fre adj V (Rig adj V K) u
          · obtain ⟨y, h1, h2, h3⟩ := hS.bar z h u hF ha
            exact ⟨y, .inl h1, h2, h3⟩
          · by_cases q : ∃ r, Rig adj V K r ∧ adj r u
            · obtain ⟨r, hr, hru⟩ := q
              exact ⟨r, .inr hr, fun e => (hS.sub z h).2 (e ▸ hr), f.sym _ _ hru⟩
            · refine absurd ⟨hu, fun k => ?_, fun r hr k => q ⟨r, hr, k⟩⟩ hF
              exact hK.apt z u (hS.sub z h).1 (Rig.stuck.sub u k) ha
        · obtain ⟨y, h1, h2, h3⟩ := Rig.stuck.bar z h u hu ha
          exact ⟨y, .inr h1, h2, h3⟩
    · funext x
      exact propext ⟨fun h => h.elim (·.1) (Rig.stuck.sub x), fun h => by
        by_cases q : Rig adj V K x
        · exact .inr q
        · exact .inl ⟨h, q⟩⟩
    · constructor
      · exact fun h => ⟨h.1.1, h.2⟩
      · exact fun h => ⟨⟨h.1, (h.2.mem hz).2.1⟩, h.2⟩
  obtain ⟨cI, gI, bI, kI⟩ := go I hI rfl; obtain ⟨cJ, gJ, bJ, kJ⟩ := go J hJ hR.symm; have r := forest f nd inj N (Fre adj V (Rig adj V I)) _ _ (fun x h => hL x h.1) (fun x c h _ _ _ => hN x (hL x h.1)) cI cJ gI gJ fun z hz => by rw [kI z hz, kJ z hz, hcn z hz]
  have r' := r.lift (V := V) (K := Rig adj V I) f.sym irr cI (fun x h => h.1) (fun x h k => k.2.1 h) (fun x y h k => k.2.2 x h)
  rw [bI, bJ] at r'; exact r'
theorem reach_keeps {L : List Int} {V I J : Pr} (sym : ∀ x y, adj x y → adj y x) (irr : ∀ x, ¬ adj x x) (nd : L.Nodup) (hL : ∀ x, V x → x ∈ L) (hI : Ind adj V I) (r : Rch adj V I J) :
    Rig adj V J = Rig adj V I ∧ ∀ z, cnt L (fun x => J x ∧ Con adj (Fre adj V (Rig adj V I)) z x) = cnt L (fun x => I x ∧ Con adj (Fre adj V (Rig adj V I)) z x) := by
  refine ⟨r.rig sym irr hI, fun z => ?_⟩
  induction r with
  | here => rfl
  | @step J a b r ha hb hab hc ih =>
    have hJ := r.ind sym irr hI; have eR := r.rig sym irr hI; have na : ¬ Rig adj V I a := fun ⟨S, hS, h⟩ => ((r.stuck sym hS).step sym hb hab hc).1 h
    have Fa : Fre adj V (Rig adj V I) a := by rw [← eR]; exact marks_fre hJ ha (by rw [eR]; exact na)
    have hnb : ¬ J b := fun q => hJ.apt a b ha q hab
    have Fb : Fre adj V (Rig adj V I) b := by
      rw [← eR]; refine ⟨hb, fun k => hnb (Rig.stuck.sub b k), fun q hq k => ?_⟩
      exact hc q (Rig.stuck.sub q hq) (fun e => na (by rw [← eR]; exact e ▸ hq)) k
    rw [cnt_move nd (hL a Fa.1) (hL b hb) ha hnb ⟨fun k => .step k Fb hab, fun k => .step k Fa (sym _ _ hab)⟩, ih]
end TR
namespace L2
open TR
def rimG (E : MK.Edges) (ss r : List Int) : List Int := ss.filter fun x => !decide (x ∈ r) && MK.touchesAny E x r
def iterG (E : MK.Edges) (s : Int) (ss : List Int) : Nat → List Int
  | 0 => [s]
  | t + 1 => iterG E s ss t ++ rimG E ss (iterG E s ss t)
def hangG (E : MK.Edges) (s : Int) (ss : List Int) : List Int := iterG E s ss (ss.length + 1)
theorem mem_rimG {E : MK.Edges} {ss r : List Int} {x : Int} : x ∈ rimG E ss r ↔ x ∈ ss ∧ x ∉ r ∧ ∃ y ∈ r, MK.adj E x y := by
  unfold rimG; rw [List.mem_filter, Bool.and_eq_true, MK.touchesAny_iff]; simp
theorem iterG_nodup {E : MK.Edges} {s : Int} {ss : List Int} (nd : ss.Nodup) : ∀ t, (iterG E s ss t).Nodup
  | 0 => by simp [iterG]
  | t + 1 => by
    show (iterG E s ss t ++ rimG E ss (iterG E s ss t)).Nodup
    rw [List.nodup_append]; refine ⟨iterG_nodup nd t, nd.sublist List.filter_sublist, fun a ha b hb e => ?_⟩
    subst e; exact (mem_rimG.mp hb).2.1 ha
theorem iterG_sub {E : MK.Edges} {s : Int} {ss : List Int} : ∀ t, ∀ x ∈ iterG E s ss t, x ∈ s :: ss
  | 0, x, hx => by simp [iterG] at hx; simp [hx]
  | t + 1, x, hx => by
    rcases List.mem_append.mp (show x ∈ iterG E s ss t ++ rimG E ss (iterG E s ss t) from hx) with h | h
    · exact iterG_sub t x h
    · exact List.mem_cons_of_mem _ (mem_rimG.mp h).1
theorem iterG_len {E : MK.Edges} {s : Int} {ss : List Int} (nd : ss.Nodup) (t : Nat) : (iterG E s ss t).length ≤ ss.length + 1 := by
  have := sub_len (iterG_nodup (E := E) (s := s) nd t) (iterG_sub t); simpa using this
theorem iterG_con {E : MK.Edges} {s : Int} {ss : List Int} : ∀ t, ∀ x ∈ iterG E s ss t, TR.Con (MK.adj E) (· ∈ ss) s x
  | 0, x, hx => by simp [iterG] at hx; subst hx; exact .here
  | t + 1, x, hx => by
    rcases List.mem_append.mp (show x ∈ iterG E s ss t ++ rimG E ss (iterG E s ss t) from hx) with h | h
    · exact iterG_con t x h
    · obtain ⟨h1, _, y, hy, ha⟩ := mem_rimG.mp h
      exact .step (iterG_con t y hy) h1 (MK.adj_comm ha)
theorem iterG_start {E : MK.Edges} {s : Int} {ss : List Int} : ∀ t, s ∈ iterG E s ss t
  | 0 => by simp [iterG]
  | t + 1 => List.mem_append_left _ (iterG_start t)
theorem iterG_done {E : MK.Edges} {s : Int} {ss : List Int} {t : Nat} (h : rimG E ss (iterG E s ss t) = []) {x : Int} : x ∈ iterG E s ss t ↔ TR.Con (MK.adj E) (· ∈ ss) s x := by
  refine ⟨iterG_con t x, fun k => ?_⟩
  induction k with
  | here => exact iterG_start t
  | @step a c _ h1 h2 ih =>
    refine Classical.byContradiction fun hn => ?_
    have : c ∈ rimG E ss (iterG E s ss t) := mem_rimG.mpr ⟨h1, hn, a, ih, MK.adj_comm h2⟩; rw [h] at this; cases this
theorem iterG_stable {E : MK.Edges} {s : Int} {ss : List Int} {t : Nat} (h : rimG E ss (iterG E s ss t) = []) : ∀ k, iterG E s ss (t + k) = iterG E s ss t
  | 0 => rfl
  | k + 1 => by
    show iterG E s ss (t + k) ++ rimG E ss (iterG E s ss (t + k)) = _
    rw [iterG_stable h k, h, List.append_nil]
theorem iterG_grows {E : MK.Edges} {s : Int} {ss : List Int} : ∀ t, rimG E ss (iterG E s ss t) = [] ∨ t + 2 ≤ (iterG E s ss (t + 1)).length
  | 0 => by
    by_cases h : rimG E ss (iterG E s ss 0) = []
    · exact .inl h
    · right
      show 2 ≤ (iterG E s ss 0 ++ rimG E ss (iterG E s ss 0)).length
      rw [List.length_append]; have := List.length_pos_iff.mpr h; simp [iterG] at this ⊢; fail"o"
  | t + 1 => by
    by_cases h : rimG E ss (iterG E s ss (t + 1)) = []
    · exact .inl h
    · right
      show t + 3 ≤ (iterG E s ss (t + 1) ++ rimG E ss (iterG E s ss (t + 1))).length
      rw [List.length_append]; have := List.length_pos_iff.mpr h; rcases iterG_grows t with k | k
      · exact absurd (by rw [iterG_stable k 1]; exact k) h
      · fail"o"
theorem hangG_rim {E : MK.Edges} {s : Int} {ss : List Int} (nd : ss.Nodup) : rimG E ss (hangG E s ss) = [] := by
  rcases iterG_grows (E := E) (s := s) (ss := ss) (ss.length + 1) with h | h
  · exact h
  · have := iterG_len (E := E) (s := s) nd (ss.length + 1 + 1)
    fail"o"
theorem mem_hangG {E : MK.Edges} {s : Int} {ss : List Int} (nd : ss.Nodup) {x : Int} : x ∈ hangG E s ss ↔ TR.Con (MK.adj E) (· ∈ ss) s x := iterG_done (hangG_rim nd)
theorem iterG_hang {E : MK.Edges} {s : Int} {ss : List Int} (nd : ss.Nodup) {t : Nat} (h : rimG E ss (iterG E s ss t) = []) : iterG E s ss t = hangG E s ss := by
  unfold hangG; rcases Nat.le_total t (ss.length + 1) with q | q
  · have := iterG_stable h (ss.length + 1 - t)
    rw [← this]; congr 1; fail"o"
  · have := iterG_stable (hangG_rim (E := E) (s := s) nd) (t - (ss.length + 1))
    rw [← this]; congr 1; fail"o"
theorem hangG_reach {n : Int} {E : MK.Edges} (hg : MK.Good n E) {x : Int} : x ∈ hangG E 0 (MK.spots n) ↔ MK.Reach E x := by
  rw [mem_hangG (MK.spots_nodup n)]
  constructor
  · intro h
    induction h with
    | here => exact .zero
    | step _ _ h ih => exact .step ih h
  · intro h
    induction h with
    | zero => exact .here
    | step _ h ih => exact .step ih (MK.mem_spots.mpr (hg.adj h).2) h
theorem hangG_whole {n : Int} {E : MK.Edges} (hg : MK.Good n E) : ((hangG E 0 (MK.spots n)).length : Int) = n ↔ MK.Whole n E := MK.nodup_whole hg (iterG_nodup (MK.spots_nodup n) _) fun x => hangG_reach hg
inductive OrdG (E : MK.Edges) : List Int → Prop
  | one : OrdG E [0]
  | more {v p : Int} {o : List Int} : OrdG E o → v ∉ o → p ∈ o → MK.adj E v p → OrdG E (v :: o)
def posO : List Int → Int → Nat
  | [], _ => 0
  | v :: o, x => if x = v then o.length else posO o x
theorem posO_lt {x : Int} : ∀ {o : List Int}, x ∈ o → posO o x < o.length
  | v :: o, h => by
    unfold posO
    by_cases e : x = v
    · rw [if_pos e]; simp
    · rw [if_neg e]
      have := posO_lt ((List.mem_cons.mp h).resolve_left e); rw [List.length_cons]; fail"o"
theorem posO_inj {x y : Int} : ∀ {o : List Int}, x ∈ o → y ∈ o → posO o x = posO o y → x = y
  | v :: o, hx, hy, h => by
    unfold posO at h
    by_cases e : x = v
    · rw [if_pos e] at h
      by_cases e' : y = v
      · rw [e, e']
      · rw [if_neg e'] at h
        have := posO_lt ((List.mem_cons.mp hy).resolve_left e')
        fail"o"
    · rw [if_neg e] at h
      by_cases e' : y = v
      · rw [if_pos e'] at h
        have := posO_lt ((List.mem_cons.mp hx).resolve_left e)
        fail"o"
      · rw [if_neg e'] at h
        exact posO_inj ((List.mem_cons.mp hx).resolve_left e) ((List.mem_cons.mp hy).resolve_left e') h
theorem OrdG.nodup {E : MK.Edges} {o : List Int} (h : OrdG E o) : o.Nodup := by
  induction h with
  | one => simp
  | more _ h _ _ ih => exact List.nodup_cons.mpr ⟨h, ih⟩
theorem OrdG.zero {E : MK.Edges} {o : List Int} (h : OrdG E o) : 0 ∈ o := by
  induction h with
  | one => simp
  | more _ _ _ _ ih => exact List.mem_cons_of_mem _ ih
theorem OrdG.inn {n : Int} {E : MK.Edges} (hg : MK.Good n E) {o : List Int} (h : OrdG E o) : ∀ x ∈ o, x ∈ MK.spots n := by
  induction h with
  | one => intro x hx; simp at hx; subst hx; exact MK.mem_spots.mpr ⟨by fail"o", by have := hg.pos; fail"o"⟩
  | more _ _ _ ha ih =>
    intro x hx; rcases List.mem_cons.mp hx with rfl | hx
    · exact MK.mem_spots.mpr (hg.adj ha).1
    · exact ih x hx
def insE (E : MK.Edges) (o : List Int) : MK.Edges := E.filter fun e => decide (e.1 ∈ o) && decide (e.2 ∈ o)
def edgeTo (E : MK.Edges) (v y : Int) : Int × Int := if (v, y) ∈ E then (v, y) else (y, v)
theorem insE_more {E : MK.Edges} {o nb : List Int} {v : Int} (hE : E.Nodup) (hv : v ∉ o) (nd : nb.Nodup) (hb : ∀ y ∈ nb, y ∈ o ∧ MK.adj E v y) : (insE E o).length + nb.length ≤ (insE E (v :: o)).length := by
  have hn : ∀ y ∈ nb, y ≠ v := fun y hy e => hv (e ▸ (hb y hy).1)
  have hmem : ∀ y ∈ nb, edgeTo E v y ∈ E := fun y hy => by
    unfold edgeTo
    split
    · assumption
    · rename_i h
      exact (hb y hy).2.resolve_left h
  have := sub_len (a := nb.map (edgeTo E v) ++ insE E o) (b := insE E (v :: o)) (by
    rw [List.nodup_append]; refine ⟨?_, hE.sublist List.filter_sublist, fun a ha b hb' e => ?_⟩
    · rw [List.nodup_iff_pairwise_ne, List.pairwise_map]
      refine (List.nodup_iff_pairwise_ne.mp nd).imp_of_mem fun {y z} hy hz hne e => hne ?_
      have h1 := hn y hy; have h2 := hn z hz; unfold edgeTo at e
      split at e <;> split at e <;> simp only [Prod.mk.injEq] at e <;> fail"o"
    · subst e
      obtain ⟨y, hy, rfl⟩ := List.mem_map.mp ha; unfold insE at hb'; rw [List.mem_filter, Bool.and_eq_true, decide_eq_true_iff, decide_eq_true_iff] at hb'; unfold edgeTo at hb'
      split at hb'
      · exact hv hb'.2.1
      · exact hv hb'.2.2) (by
    intro e he; unfold insE; rw [List.mem_filter, Bool.and_eq_true, decide_eq_true_iff, decide_eq_true_iff]; rcases List.mem_append.mp he with he | he
    · obtain ⟨y, hy, rfl⟩ := List.mem_map.mp he
      refine ⟨hmem y hy, ?_⟩
      unfold edgeTo
      split
      · exact ⟨List.mem_cons_self .., List.mem_cons_of_mem _ (hb y hy).1⟩
      · exact ⟨List.mem_cons_of_mem _ (hb y hy).1, List.mem_cons_self ..⟩
    · unfold insE at he
      rw [List.mem_filter, Bool.and_eq_true, decide_eq_true_iff, decide_eq_true_iff] at he; exact ⟨he.1, List.mem_cons_of_mem _ he.2.1, List.mem_cons_of_mem _ he.2.2⟩)
  rw [List.length_append, List.length_map] at this
  fail"o"
theorem OrdG.forest {E : MK.Edges} {o : List Int} (hE : E.Nodup) (h : OrdG E o) : o.length ≤ (insE E o).length + 1 ∧ ((insE E o).length + 1 ≤ o.length → ∀ x ∈ o, ∀ y ∈ o, ∀ z ∈ o, MK.adj E x y → MK.adj E x z → posO o y < posO o x → posO o z < posO o x → y = z) := by
  induction h with
  | one =>
    refine ⟨by simp, fun _ x hx y hy z hz _ _ h => ?_⟩
    simp at hx hy; subst hx; subst hy
    fail"o"
  | @more v p o ho hv hp ha ih =>
    have h1 := insE_more (nb := [p]) hE hv (by simp) (by intro y hy; simp at hy; subst hy; exact ⟨hp, ha⟩)
    simp only [List.length_cons, List.length_nil] at h1 ⊢; refine ⟨by fail"o", fun hle x hx y hy z hz hxy hxz ly lz => ?_⟩
    have inn : ∀ u, u ∈ v :: o → u ≠ v → u ∈ o := fun u hu hne => (List.mem_cons.mp hu).resolve_left hne
    have pv : posO (v :: o) v = o.length := by unfold posO; rw [if_pos rfl]
    have pn : ∀ u, u ≠ v → posO (v :: o) u = posO o u := fun u hu => by show (if u = v then _ else _) = _; rw [if_neg hu]
    by_cases ex : x = v
    · subst ex
      have hyv : y ≠ x := fun e => by subst e; fail"o"
      have hzv : z ≠ x := fun e => by subst e; fail"o"
      refine Classical.byContradiction fun hne => ?_
      have h2 := insE_more (nb := [y, z]) hE hv (by simp [hne]) (by
        intro u hu; simp at hu; rcases hu with rfl | rfl
        · exact ⟨inn _ hy hyv, hxy⟩
        · exact ⟨inn _ hz hzv, hxz⟩)
      simp only [List.length_cons, List.length_nil] at h2; have := ih.1
      fail"o"
    · have hx' := inn x hx ex
      have lx := posO_lt hx'; rw [pn x ex] at ly lz; have hyv : y ≠ v := fun e => by subst e; fail"o"
      have hzv : z ≠ v := fun e => by subst e; fail"o"
      rw [pn y hyv] at ly; rw [pn z hzv] at lz; exact ih.2 (by fail"o") x hx' y (inn y hy hyv) z (inn z hz hzv) hxy hxz ly lz
theorem ord_all {n : Int} {E : MK.Edges} (hg : MK.Good n E) (hw : MK.Whole n E) : ∀ k : Nat, k + 1 ≤ n.toNat → ∃ o, OrdG E o ∧ o.length = k + 1
  | 0, _ => ⟨[0], .one, rfl⟩
  | k + 1, hk => by
    obtain ⟨o, ho, hl⟩ := ord_all hg hw k (by fail"o")
    refine Classical.byContradiction fun hn => ?_
    have all : ∀ x, MK.Reach E x → x ∈ o := by
      intro x hx
      induction hx with
      | zero => exact ho.zero
      | @step a c _ ha ih =>
        refine Classical.byContradiction fun hc => hn ⟨c :: o, .more ho hc ih (MK.adj_comm ha), by rw [List.length_cons, hl]⟩
    have := sub_len (MK.spots_nodup n) fun x hx => all x (hw x (MK.mem_spots.mp hx))
    rw [MK.spots_length] at this
    fail"o"
def Vn (n : Int) : Pr := fun x => 0 ≤ x ∧ x < n
theorem tree_pos {n : Int} {E : MK.Edges} (hg : MK.Good n E) (hE : E.Nodup) (hw : MK.Whole n E) (hl : (E.length : Int) = n - 1) : ∃ pos : Int → Nat, For (MK.adj E) pos ∧ (∀ x ∈ MK.spots n, ∀ y ∈ MK.spots n, pos x = pos y → x = y) ∧ ∀ x ∈ MK.spots n, pos x < n.toNat := by
  have hp := hg.pos; obtain ⟨o, ho, hlen⟩ := ord_all hg hw (n.toNat - 1) (by fail"o")
  have hlo : o.length = n.toNat := by fail"o"
  have mem : ∀ x, x ∈ MK.spots n → x ∈ o := by
    intro x hx; refine Classical.byContradiction fun hn => ?_
    have := sub_len (a := x :: o) (b := MK.spots n) (List.nodup_cons.mpr ⟨hn, ho.nodup⟩) fun y hy => by
      rcases List.mem_cons.mp hy with rfl | hy
      · exact hx
      · exact ho.inn hg y hy
    rw [MK.spots_length, List.length_cons] at this
    fail"o"
  have hin : ∀ x y, MK.adj E x y → x ∈ o ∧ y ∈ o := fun x y h => ⟨mem x (MK.mem_spots.mpr (hg.adj h).1), mem y (MK.mem_spots.mpr (hg.adj h).2)⟩
  have hins : (insE E o).length ≤ E.length := List.length_filter_le ..; have hf := (ho.forest hE).2 (by fail"o")
  refine ⟨posO o, ⟨fun x y h => MK.adj_comm h, fun x y h e => ?_, fun x y z h1 h2 l1 l2 => hf x (hin _ _ h1).1 y (hin _ _ h1).2 z (hin _ _ h2).2 h1 h2 l1 l2⟩, fun x hx y hy => posO_inj (mem x hx) (mem y hy), fun x hx => by have := posO_lt (mem x hx); fail"o"⟩
  have := posO_inj (hin _ _ h).1 (hin _ _ h).2 e; subst this; rcases h with h | h
  · have := hg.lin _ h; dsimp only at this; fail"o"
  · have := hg.lin _ h; dsimp only at this; fail"o"
end L2
namespace L2
open TR
theorem mv_mvP {m : List Int} {a b : Int} : (fun x => x ∈ mv m a b) = mvP (fun x => x ∈ m) a b := by
  funext x
  exact propext mem_mv
theorem marks_ind {n : Int} {E : MK.Edges} {m : List Int} (h : MK.Marks n E m) : Ind (MK.adj E) (Vn n) (fun x => x ∈ m) := by
  refine ⟨fun x hx => h.inn x hx, fun x y hx hy ha => ?_⟩
  have := MK.apart_iff.mp h.apt; rcases ha with ha | ha
  · exact this _ ha ⟨hx, hy⟩
  · exact this _ ha ⟨hy, hx⟩
theorem apart_of {E : MK.Edges} {m : List Int} (h : ∀ x y, x ∈ m → y ∈ m → ¬ MK.adj E x y) : MK.apart E m = true := MK.apart_iff.mpr fun e he hc => h e.1 e.2 hc.1 hc.2 (.inl he)
theorem adj_irr {n : Int} {E : MK.Edges} (hg : MK.Good n E) (x : Int) : ¬ MK.adj E x x := by
  rintro (h | h)
  · have := hg.lin _ h; dsimp only at this; fail"o"
  · have := hg.lin _ h; dsimp only at this; fail"o"
theorem reach_rch {n : Int} {E : MK.Edges} {m g : List Int} (hg : MK.Good n E) (hm : MK.Marks n E m) (h : Reach n E m g) : Rch (MK.adj E) (Vn n) (fun x => x ∈ m) (fun x => x ∈ g) := by
  induction h with
  | here => exact .here
  | @step x s r hs ih =>
    obtain ⟨h1, h2, h3⟩ := mem_slF.mp (show (s.1, s.2) ∈ slF n E x from hs)
    have mk := marks_ind (MK.areMarks_iff.mp h3); rw [mv_mvP] at mk ⊢; exact .step ih h1 (hg.adj h2).2 h2 fun y hy hya ha => mk.apt y s.2 (.inl ⟨hy, hya⟩) (.inr rfl) ha
theorem rch_reach {n : Int} {E : MK.Edges} {m : List Int} {J : Pr} (hg : MK.Good n E) (hm : MK.Marks n E m) (h : Rch (MK.adj E) (Vn n) (fun x => x ∈ m) J) : ∃ g, Reach n E m g ∧ J = fun x => x ∈ g := by
  induction h with
  | here => exact ⟨m, .here, rfl⟩
  | @step J a b r ha hb hab hc ih =>
    obtain ⟨g, hr, rfl⟩ := ih; have mg := (Reach.marks hm hr).1; have ig := marks_ind mg; have st := Ind.step (adj := MK.adj E) (fun x y h => MK.adj_comm h) (adj_irr hg) ig hb hc
    rw [← mv_mvP] at st; refine ⟨mv g a b, .step (s := (a, b)) hr (mem_slF.mpr ⟨ha, hab, (mv_marks mg hb fun e => adj_irr hg a (by rw [← e] at hab; exact hab)).mpr ⟨fun q => ig.apt a b ha q hab, apart_of st.apt⟩⟩), mv_mvP.symm⟩
theorem sorted_ext : ∀ {a b : List Int}, a.Pairwise (· < ·) → b.Pairwise (· < ·) → (∀ x, x ∈ a ↔ x ∈ b) → a = b
  | [], [], _, _, _ => rfl
  | [], y :: b, _, _, h => by have := (h y).mpr (List.mem_cons_self ..); cases this
  | x :: a, [], _, _, h => by have := (h x).mp (List.mem_cons_self ..); cases this
  | x :: a, y :: b, ha, hb, h => by
    obtain ⟨a1, a2⟩ := List.pairwise_cons.mp ha; obtain ⟨b1, b2⟩ := List.pairwise_cons.mp hb
    have e : x = y := by
      rcases List.mem_cons.mp ((h x).mp (List.mem_cons_self ..)) with e | q
      · exact e
      · rcases List.mem_cons.mp ((h y).mpr (List.mem_cons_self ..)) with e | k
        · exact e.symm
        · have := b1 x q; have := a1 y k; fail"o"
    subst e
    congr 1
    refine sorted_ext a2 b2 fun z => ⟨fun hz => ?_, fun hz => ?_⟩
    · exact (List.mem_cons.mp ((h z).mp (List.mem_cons_of_mem _ hz))).resolve_left fun e => by have := a1 z hz; fail"o"
    · exact (List.mem_cons.mp ((h z).mpr (List.mem_cons_of_mem _ hz))).resolve_left fun e => by have := b1 z hz; fail"o"
theorem reach_iff {n : Int} {E : MK.Edges} {m g : List Int} (hg : MK.Good n E) (hm : MK.Marks n E m) (hgm : MK.Marks n E g) : Reach n E m g ↔ Rch (MK.adj E) (Vn n) (fun x => x ∈ m) (fun x => x ∈ g) := by
  refine ⟨reach_rch hg hm, fun h => ?_⟩
  obtain ⟨g', hr, e⟩ := rch_reach hg hm h; have : g' = g := sorted_ext (Reach.marks hm hr).1.ris hgm.ris fun x => Iff.of_eq (congrFun e x).symm
  exact this ▸ hr
structure TreeW (n : Int) (E : MK.Edges) : Prop where
  gd : MK.Good n E
  ris : MK.rises ltL (MK.ln E) = true
  wh : MK.Whole n E
  len : (E.length : Int) = n - 1
theorem TreeW.pos {n : Int} {E : MK.Edges} (h : TreeW n E) : ∃ pos : Int → Nat, For (MK.adj E) pos ∧ (∀ x ∈ MK.spots n, ∀ y ∈ MK.spots n, pos x = pos y → x = y) ∧ ∀ x ∈ MK.spots n, pos x < n.toNat :=
  tree_pos h.gd (List.nodup_iff_pairwise_ne.mpr ((edges_pw h.ris).imp ltE_ne)) h.wh h.len
noncomputable def stB (n : Int) (E : MK.Edges) (m : List Int) (x : Int) (b : Option Int) : Bool := @decide (¬ Mov (MK.adj E) (Vn n) (fun x => x ∈ m) x b) (Classical.propDecidable _)
noncomputable def barB (n : Int) (E : MK.Edges) (m : List Int) (v u : Int) : Bool := (MK.touching E v).any fun y => !decide (y = u) && (decide (y ∈ m) && stB n E m y (some v))
theorem stB_iff {n : Int} {E : MK.Edges} {m : List Int} {x : Int} {b : Option Int} : stB n E m x b = true ↔ ¬ Mov (MK.adj E) (Vn n) (fun x => x ∈ m) x b := by unfold stB; exact @decide_eq_true_iff _ (Classical.propDecidable _)
theorem barB_iff {n : Int} {E : MK.Edges} {m : List Int} {v u : Int} : barB n E m v u = true ↔ ∃ y, MK.adj E v y ∧ y ≠ u ∧ y ∈ m ∧ stB n E m y (some v) = true := by
  unfold barB; rw [List.any_eq_true]
  constructor
  · rintro ⟨y, h1, h2⟩
    rw [Bool.and_eq_true, Bool.and_eq_true, decide_eq_true_iff, Bool.not_eq_true', decide_eq_false_iff_not] at h2; exact ⟨y, MK.mem_touching.mp h1, h2.1, h2.2.1, h2.2.2⟩
  · rintro ⟨y, h1, h2, h3, h4⟩
    refine ⟨y, MK.mem_touching.mpr h1, ?_⟩
    rw [Bool.and_eq_true, Bool.and_eq_true, decide_eq_true_iff, Bool.not_eq_true', decide_eq_false_iff_not]; exact ⟨h2, h3, h4⟩
theorem stB_eq {n : Int} {E : MK.Edges} {m : List Int} {x : Int} {b : Option Int} (hg : MK.Good n E) (hx : x ∈ m) : stB n E m x b = (MK.touching E x).all fun v => decide (some v = b) || barB n E m v x := by
  rw [Bool.eq_iff_iff, stB_iff, List.all_eq_true]
  constructor
  · intro h v hv
    rw [Bool.or_eq_true, decide_eq_true_iff, barB_iff]; refine Classical.byContradiction fun hn => h (.mk v hx (hg.adj (MK.mem_touching.mp hv)).2 (MK.mem_touching.mp hv) (fun e => hn (.inl e)) fun y hy h1 h2 h3 => ?_)
    exact Classical.byContradiction fun k => hn (.inr ⟨y, h1, h2, h3, stB_iff.mpr k⟩)
  · intro h hm
    cases hm with
    | mk v h1 h2 h3 h4 h5 =>
      have := h v (MK.mem_touching.mpr h3); rw [Bool.or_eq_true, decide_eq_true_iff, barB_iff] at this; obtain ⟨y, k1, k2, k3, k4⟩ := this.resolve_left h4; exact stB_iff.mp k4 (h5 y (hg.adj k1).2 k1 k2 k3)
def mu (pos : Int → Nat) (N : Nat) (x : Int) : Option Int → Nat
  | none => 2 * N + 2
  | some p => if pos p < pos x then N - pos x else N + 1 + pos x
theorem mu_dec {E : MK.Edges} {pos : Int → Nat} {N : Nat} (f : For (MK.adj E) pos) {x v : Int} {b : Option Int} (hN : ∀ x y, MK.adj E x y → pos x < N) (hv : MK.adj E x v) (hb : some v ≠ b) (hp : ∀ p, b = some p → MK.adj E x p) : mu pos N v (some x) < mu pos N x b := by
  have h1 := hN x v hv; have h2 := hN v x (MK.adj_comm hv); have h3 := f.ne x v hv
  cases b with
  | none => unfold mu; dsimp only; split <;> fail"o"
  | some p =>
    have ha := hp p rfl; have hne : v ≠ p := fun e => hb (by rw [e])
    unfold mu; dsimp only
    by_cases q : pos p < pos x
    · have : ¬ pos v < pos x := fun k => hne (f.one x v p hv ha k q)
      rw [if_pos q, if_pos (by fail"o")]
      fail"o"
    · rw [if_neg q]
      split <;> fail"o"
noncomputable def stiffL (n : Int) (E : MK.Edges) (m : List Int) : List Int := m.filter fun x => stB n E m x none
theorem rig_stiff {n : Int} {E : MK.Edges} {m : List Int} (h : TreeW n E) (hM : MK.Marks n E m) : Rig (MK.adj E) (Vn n) (fun x => x ∈ m) = fun x => x ∈ stiffL n E m := by
  obtain ⟨pos, f, _, _⟩ := h.pos; have hL : ∀ x, Vn n x → x ∈ MK.spots n := fun x hx => MK.mem_spots.mpr hx
  funext x
  apply propext
  unfold stiffL; rw [List.mem_filter, stB_iff]
  constructor
  · intro k
    have hx : x ∈ m := Rig.stuck.sub x k; exact ⟨hx, (rig_iff f hL (marks_ind hM) hx).mp k⟩
  · rintro ⟨hx, k⟩
    exact (rig_iff f hL (marks_ind hM) hx).mpr k
theorem stiff_never {n : Int} {E : MK.Edges} {m : List Int} {x : Int} (h : TreeW n E) (hM : MK.Marks n E m) (hx : x ∈ m) : stB n E m x none = true ↔ ∀ g, Reach n E m g → ∀ s ∈ slF n E g, s.1 ≠ x := by
  obtain ⟨pos, f, _, _⟩ := h.pos; have hL : ∀ x, Vn n x → x ∈ MK.spots n := fun x hx => MK.mem_spots.mpr hx
  rw [stB_iff, ← rig_iff f hL (marks_ind hM) hx, rig_never f hL (marks_ind hM) hx]
  constructor
  · intro k g hr s hs e
    have := k _ (reach_rch h.gd hM (.step hr hs)); obtain ⟨_, h2, _⟩ := mem_slF.mp (show (s.1, s.2) ∈ slF n E g from hs)
    rcases mem_mv.mp this with q | q
    · exact q.2 e.symm
    · rw [← q, e] at h2
      exact adj_irr h.gd x h2
  · intro k J hJ
    obtain ⟨g, hr, rfl⟩ := rch_reach h.gd hM hJ; clear hJ
    show x ∈ g
    induction hr with
    | here => exact hx
    | step r hs ih => exact mem_mv.mpr (.inl ⟨ih, fun e => k _ r _ hs e.symm⟩)
def goneL (n : Int) (E : MK.Edges) (room : LLI) : List Int := room.flatMap fun g => (slF n E g).map (·.1)
theorem stiff_law {n : Int} {E : MK.Edges} {m : List Int} {room : LLI} (h : TreeW n E) (hM : MK.Marks n E m) (hr : ∀ x, x ∈ room ↔ Reach n E m x) : m.filter (fun x => !decide (x ∈ goneL n E room)) = stiffL n E m := by
  unfold stiffL; refine List.filter_congr fun x hx => ?_
  rw [Bool.eq_iff_iff, stiff_never h hM hx, Bool.not_eq_true', decide_eq_false_iff_not]; unfold goneL; rw [List.mem_flatMap]
  constructor
  · intro k g hg s hs e
    exact k ⟨g, (hr g).mpr hg, List.mem_map.mpr ⟨s, hs, e⟩⟩
  · rintro k ⟨g, hg, hx'⟩
    obtain ⟨s, hs, e⟩ := List.mem_map.mp hx'; exact k g ((hr g).mp hg) s hs e
def restF (n : Int) (E : MK.Edges) (held : List Int) : List Int := (MK.spots n).filter fun x => !decide (x ∈ held) && !MK.touchesAny E x held
def partG (E : MK.Edges) (rest : List Int) (s : Int) : List Int := rest.filter fun x => decide (x ∈ hangG E s rest)
theorem self_hang {E : MK.Edges} {rest : List Int} {s : Int} : s ∈ hangG E s rest := iterG_start _
def inM (m p : List Int) : List Int := p.filter fun x => decide (x ∈ m)
def partsF (E : MK.Edges) (m : List Int) : List Int → List (List Int × Nat)
  | [] => []
  | a :: r => (partG E (a :: r) a, (inM m (partG E (a :: r) a)).length) :: partsF E m ((a :: r).filter fun x => !decide (x ∈ partG E (a :: r) a))
termination_by l => l.length
decreasing_by
  have ha : a ∈ partG E (a :: r) a := List.mem_filter.mpr ⟨List.mem_cons_self .., by simpa using self_hang⟩
  rw [List.filter_cons_of_neg (by simp [ha])]
  exact Nat.lt_succ_of_le (List.length_filter_le ..)
theorem partsF_nil {E : MK.Edges} {m : List Int} : partsF E m [] = [] := by rw [partsF]
theorem partsF_cons {E : MK.Edges} {m : List Int} {a : Int} {r : List Int} : partsF E m (a :: r) = (partG E (a :: r) a, (inM m (partG E (a :: r) a)).length) :: partsF E m ((a :: r).filter fun x => !decide (x ∈ partG E (a :: r) a)) := by rw [partsF]
theorem part_shorter {E : MK.Edges} {a : Int} {r : List Int} : ((a :: r).filter fun x => !decide (x ∈ partG E (a :: r) a)).length < (a :: r).length := by
  have ha : a ∈ partG E (a :: r) a := List.mem_filter.mpr ⟨List.mem_cons_self .., by simpa using self_hang⟩
  rw [List.filter_cons_of_neg (by simp [ha])]
  exact Nat.lt_succ_of_le (List.length_filter_le ..)
theorem mem_partG {E : MK.Edges} {rest : List Int} {s x : Int} (nd : rest.Nodup) (hs : s ∈ rest) : x ∈ partG E rest s ↔ TR.Con (MK.adj E) (fun x => x ∈ rest) s x := by
  unfold partG; rw [List.mem_filter, decide_eq_true_iff, mem_hangG nd]; exact ⟨fun h => h.2, fun h => ⟨h.mem (V := fun x => x ∈ rest) hs, h⟩⟩
theorem partG_same {E : MK.Edges} {rest : List Int} {s z : Int} (nd : rest.Nodup) (hs : s ∈ rest) (hz : z ∈ partG E rest s) : partG E rest z = partG E rest s := by
  have hz' := (mem_partG nd hs).mp hz; have hzr : z ∈ rest := (List.mem_filter.mp hz).1; have back := hz'.symm (fun x y h => MK.adj_comm h) hs
  unfold partG; refine List.filter_congr fun x _ => ?_
  rw [decide_eq_decide, mem_hangG nd, mem_hangG nd]; exact ⟨fun k => hz'.trans k, fun k => back.trans k⟩
theorem partG_rest {E : MK.Edges} {rest : List Int} {s z : Int} (nd : rest.Nodup) (hs : s ∈ rest) (hz : z ∈ rest) (hzn : z ∉ partG E rest s) : partG E (rest.filter fun x => !decide (x ∈ partG E rest s)) z = partG E rest z := by
  have nd' : (rest.filter fun x => !decide (x ∈ partG E rest s)).Nodup := nd.sublist List.filter_sublist
  have mem' : ∀ x, x ∈ (rest.filter fun x => !decide (x ∈ partG E rest s)) ↔ x ∈ rest ∧ x ∉ partG E rest s := fun x => by rw [List.mem_filter]; simp
  show List.filter _ (List.filter _ rest) = List.filter _ rest
  rw [List.filter_filter]; refine List.filter_congr fun x hx => ?_
  rw [Bool.eq_iff_iff, Bool.and_eq_true, decide_eq_true_iff, decide_eq_true_iff, Bool.not_eq_true', decide_eq_false_iff_not, mem_hangG nd, mem_hangG nd']
  constructor
  · exact fun k => k.1.sub fun y hy => ((mem' y).mp hy).1
  · intro k
    have out : ∀ y, TR.Con (MK.adj E) (fun x => x ∈ rest) z y → y ∉ partG E rest s := fun y ky hy => hzn ((mem_partG nd hs).mpr (((mem_partG nd hs).mp hy).trans (ky.symm (fun x y h => MK.adj_comm h) hz)))
    refine ⟨?_, out x k⟩
    clear hx
    induction k with
    | here => exact .here
    | @step a c k0 h1 h2 ih => exact .step ih ((mem' c).mpr ⟨h1, out c (.step k0 h1 h2)⟩) h2
theorem parts_iff {E : MK.Edges} {m g : List Int} : ∀ (k : Nat) (rest : List Int), rest.length ≤ k → rest.Nodup → (partsF E m rest = partsF E g rest ↔ ∀ z ∈ rest, (inM m (partG E rest z)).length = (inM g (partG E rest z)).length) := by
  intro k
  induction k with
  | zero =>
    intro rest hk _; have : rest = [] := List.length_eq_zero_iff.mp (by fail"o")
    subst this; rw [partsF_nil, partsF_nil]; simp
  | succ k ih =>
    intro rest hk nd
    cases rest with
    | nil => rw [partsF_nil, partsF_nil]; simp
    | cons a r =>
      have hs : a ∈ a :: r := List.mem_cons_self ..; have sh := part_shorter (E := E) (a := a) (r := r); have ih' := ih ((a :: r).filter fun x => !decide (x ∈ partG E (a :: r) a)) (by fail"o") (nd.sublist List.filter_sublist)
      rw [partsF_cons, partsF_cons, List.cons.injEq, Prod.mk.injEq, ih']
      constructor
      · rintro ⟨⟨_, h1⟩, h2⟩ z hz
        by_cases q : z ∈ partG E (a :: r) a
        · rw [partG_same nd hs q]; exact h1
        · have := h2 z (by rw [List.mem_filter]; exact ⟨hz, by simpa using q⟩)
          rw [partG_rest nd hs hz q] at this; exact this
      · intro h
        refine ⟨⟨rfl, h a hs⟩, fun z hz => ?_⟩
        rw [List.mem_filter] at hz; have q : z ∉ partG E (a :: r) a := by simpa using hz.2
        rw [partG_rest nd hs hz.1 q]; exact h z hz.1
theorem restF_nodup {n : Int} {E : MK.Edges} {held : List Int} : (restF n E held).Nodup := (MK.spots_nodup n).sublist List.filter_sublist
theorem mem_restF {n : Int} {E : MK.Edges} {held : List Int} {x : Int} : x ∈ restF n E held ↔ Vn n x ∧ x ∉ held ∧ ∀ r, r ∈ held → ¬ MK.adj E r x := by
  unfold restF; rw [List.mem_filter, MK.mem_spots, Bool.and_eq_true, Bool.not_eq_true', decide_eq_false_iff_not, Bool.not_eq_true', ← Bool.not_eq_true, MK.touchesAny_iff]; refine and_congr Iff.rfl (and_congr Iff.rfl ?_)
  exact ⟨fun h r hr ha => h ⟨r, hr, MK.adj_comm ha⟩, fun h ⟨y, hy, ha⟩ => h y hy (MK.adj_comm ha)⟩
theorem cnt_inM {n : Int} {E : MK.Edges} {held m : List Int} {z : Int} (hz : z ∈ restF n E held) : cnt (MK.spots n) (fun x => x ∈ m ∧ TR.Con (MK.adj E) (fun x => x ∈ restF n E held) z x) = (inM m (partG E (restF n E held) z)).length := by
  have e : inM m (partG E (restF n E held) z) = (MK.spots n).filter fun x => @decide (x ∈ m ∧ TR.Con (MK.adj E) (fun x => x ∈ restF n E held) z x) (Classical.propDecidable _) := by
    show List.filter _ (List.filter _ (List.filter _ (MK.spots n))) = _
    rw [List.filter_filter, List.filter_filter]; refine List.filter_congr fun x hx => ?_
    rw [Bool.eq_iff_iff]; simp only [Bool.and_eq_true, decide_eq_true_iff]
    constructor
    · exact fun h => ⟨h.1.1, (mem_hangG restF_nodup).mp h.1.2⟩
    · intro h
      refine ⟨⟨h.1, (mem_hangG restF_nodup).mpr h.2⟩, ?_⟩
      have := h.2.mem (V := fun x => x ∈ restF n E held) hz
      have := (List.mem_filter.mp this).2; rw [Bool.and_eq_true] at this; exact this
  rw [e]; rfl
theorem fre_rest {n : Int} {E : MK.Edges} {held : List Int} : Fre (MK.adj E) (Vn n) (fun x => x ∈ held) = fun x => x ∈ restF n E held := by
  funext x
  exact propext mem_restF.symm
theorem told_iff {n : Int} {E : MK.Edges} {m g : List Int} (h : TreeW n E) (hM : MK.Marks n E m) (hG : MK.Marks n E g) :
    Reach n E m g ↔ stiffL n E m = stiffL n E g ∧ partsF E m (restF n E (stiffL n E m)) = partsF E g (restF n E (stiffL n E m)) := by
  obtain ⟨pos, f, inj, hN⟩ := h.pos; have hL : ∀ x, Vn n x → x ∈ MK.spots n := fun x hx => MK.mem_spots.mpr hx
  have srt : ∀ m, MK.Marks n E m → (stiffL n E m).Pairwise (· < ·) := fun m hm => hm.ris.sublist List.filter_sublist
  rw [reach_iff h.gd hM hG, parts_iff _ _ (Nat.le_refl _) restF_nodup]
  constructor
  · intro r
    obtain ⟨k1, k2⟩ := reach_keeps f.sym (adj_irr h.gd) (MK.spots_nodup n) hL (marks_ind hM) r; rw [rig_stiff h hM] at k1 k2; rw [rig_stiff h hG] at k1; rw [fre_rest] at k2; have e : stiffL n E m = stiffL n E g := sorted_ext (srt m hM) (srt g hG) fun x => Iff.of_eq (congrFun k1 x).symm
    refine ⟨e, fun z hz => ?_⟩
    rw [← cnt_inM hz, ← cnt_inM hz]; exact (k2 z).symm
  · rintro ⟨e, k⟩
    refine reach_of f (MK.spots_nodup n) inj hL hN (marks_ind hM) (marks_ind hG) ?_ ?_
    · rw [rig_stiff h hM, rig_stiff h hG, e]
    · rw [rig_stiff h hM, fre_rest]
      intro z hz; rw [cnt_inM hz, cnt_inM hz]; exact k z hz
theorem sort_part {E : MK.Edges} {rest p : List Int} {s : Int} (hr : rest.Pairwise (· < ·)) (hs : s ∈ rest) (nd : p.Nodup) (hp : ∀ x, x ∈ p ↔ TR.Con (MK.adj E) (fun x => x ∈ rest) s x) : sortI p = partG E rest s := by
  have hn := MK.nodup_of_lt hr; have hP : (partG E rest s).Pairwise (· < ·) := hr.sublist List.filter_sublist
  have pm : (sortI p).Perm p := isort_perm _; exact sorted_ext (MK.rises_pairwise.mp (rises_sortI nd)) hP fun x => by rw [pm.mem_iff, hp, mem_partG hn hs]
end L2
namespace L2
open TR
def innB (rest p : List Int) (e : Int × Int) : Bool := (decide (e.1 ∈ rest) && decide (e.2 ∈ rest)) && (decide (e.1 ∈ p) != decide (e.2 ∈ p))
def newP (p : List Int) (e : Int × Int) : Int := if e.1 ∈ p then e.2 else e.1
def stepP (rest p : List Int) (e : Int × Int) : List Int := if innB rest p e = true then p ++ [newP p e] else p
def rndP (E : MK.Edges) (rest p : List Int) : List Int := E.foldl (stepP rest) p
def rndsP (E : MK.Edges) (rest : List Int) : Nat → List Int → List Int
  | 0, p => p
  | t + 1, p => rndsP E rest t (rndP E rest p)
structure PInv (E : MK.Edges) (rest : List Int) (a : Int) (p : List Int) : Prop where
  nd : p.Nodup
  sub : ∀ x ∈ p, x ∈ rest
  con : ∀ x ∈ p, TR.Con (MK.adj E) (fun x => x ∈ rest) a x
  st : a ∈ p
theorem stepP_inv {E : MK.Edges} {rest p : List Int} {a : Int} {e : Int × Int} (he : e ∈ E) (h : PInv E rest a p) : PInv E rest a (stepP rest p e) := by
  unfold stepP
  split
  · rename_i q
    unfold innB at q; simp only [Bool.and_eq_true, decide_eq_true_iff, bne_iff_ne, ne_eq] at q; obtain ⟨⟨r1, r2⟩, q⟩ := q; unfold newP
    by_cases k : e.1 ∈ p
    · have k2 : e.2 ∉ p := fun z => q (by simp [k, z])
      rw [if_pos k]; refine ⟨?_, fun x hx => ?_, fun x hx => ?_, List.mem_append_left _ h.st⟩
      · rw [List.nodup_append]
        refine ⟨h.nd, by simp, fun x hx y hy e' => ?_⟩
        have : y = e.2 := by simpa using hy
        exact k2 (this ▸ e' ▸ hx)
      · rcases List.mem_append.mp hx with hx | hx
        · exact h.sub x hx
        · have : x = e.2 := by simpa using hx
          exact this ▸ r2
      · rcases List.mem_append.mp hx with hx | hx
        · exact h.con x hx
        · have : x = e.2 := by simpa using hx
          subst this; exact .step (h.con _ k) r2 (.inl he)
    · have k2 : e.2 ∈ p := Classical.byContradiction fun z => q (by simp [k, z])
      rw [if_neg k]; refine ⟨?_, fun x hx => ?_, fun x hx => ?_, List.mem_append_left _ h.st⟩
      · rw [List.nodup_append]
        refine ⟨h.nd, by simp, fun x hx y hy e' => ?_⟩
        have : y = e.1 := by simpa using hy
        exact k (this ▸ e' ▸ hx)
      · rcases List.mem_append.mp hx with hx | hx
        · exact h.sub x hx
        · have : x = e.1 := by simpa using hx
          exact this ▸ r1
      · rcases List.mem_append.mp hx with hx | hx
        · exact h.con x hx
        · have : x = e.1 := by simpa using hx
          subst this; exact .step (h.con _ k2) r1 (.inr he)
  · exact h
theorem foldP_inv {E : MK.Edges} {rest : List Int} {a : Int} : ∀ {E' : MK.Edges} {p : List Int}, (∀ e ∈ E', e ∈ E) → PInv E rest a p → PInv E rest a (E'.foldl (stepP rest) p)
  | [], _, _, h => h
  | e :: E', p, hs, h => by
    rw [List.foldl_cons]; exact foldP_inv (fun x hx => hs x (List.mem_cons_of_mem _ hx)) (stepP_inv (hs e (List.mem_cons_self ..)) h)
theorem rndsP_inv {E : MK.Edges} {rest : List Int} {a : Int} : ∀ {t : Nat} {p : List Int}, PInv E rest a p → PInv E rest a (rndsP E rest t p)
  | 0, _, h => h
  | t + 1, p, h => rndsP_inv (t := t) (foldP_inv (fun _ h => h) h)
theorem stepP_len {rest p : List Int} {e : Int × Int} : p.length ≤ (stepP rest p e).length := by
  unfold stepP
  split
  · simp
  · exact Nat.le_refl _
theorem foldP_len {rest : List Int} : ∀ {E' : MK.Edges} {p : List Int}, p.length ≤ (E'.foldl (stepP rest) p).length
  | [], _ => Nat.le_refl _
  | e :: E', p => by rw [List.foldl_cons]; exact Nat.le_trans (stepP_len (e := e)) (foldP_len (E' := E'))
theorem stepP_fix {rest p : List Int} {e : Int × Int} (h : (stepP rest p e).length ≤ p.length) : innB rest p e = false := by
  unfold stepP at h
  split at h
  · simp at h; fail"o"
  · rename_i q; simpa using q
theorem foldP_fix {rest : List Int} : ∀ {E' : MK.Edges} {p : List Int}, (E'.foldl (stepP rest) p).length ≤ p.length → ∀ e ∈ E', innB rest p e = false
  | [], _, _, _, h => nomatch h
  | e :: E', p, h, x, hx => by
    rw [List.foldl_cons] at h; have h1 := stepP_len (rest := rest) (p := p) (e := e); have h2 := foldP_len (rest := rest) (E' := E') (p := stepP rest p e); have h0 := stepP_fix (rest := rest) (p := p) (e := e) (by fail"o")
    have e0 : stepP rest p e = p := by unfold stepP; rw [h0, if_neg (by decide)]
    rcases List.mem_cons.mp hx with rfl | hx
    · exact h0
    · rw [e0] at h
      exact foldP_fix h x hx
theorem foldP_same {rest : List Int} : ∀ {E' : MK.Edges} {p : List Int}, (∀ e ∈ E', innB rest p e = false) → E'.foldl (stepP rest) p = p
  | [], _, _ => rfl
  | e :: E', p, h => by
    have e0 : stepP rest p e = p := by unfold stepP; rw [h e (List.mem_cons_self ..), if_neg (by decide)]
    rw [List.foldl_cons, e0]; exact foldP_same fun x hx => h x (List.mem_cons_of_mem _ hx)
theorem rndsP_same {E : MK.Edges} {rest p : List Int} (h : ∀ e ∈ E, innB rest p e = false) : ∀ t, rndsP E rest t p = p
  | 0 => rfl
  | t + 1 => by
    show rndsP E rest t (rndP E rest p) = p
    have : rndP E rest p = p := foldP_same h; rw [this]; exact rndsP_same h t
theorem rndsP_done {E : MK.Edges} {rest : List Int} {a : Int} : ∀ (t : Nat) (p : List Int), PInv E rest a p → rest.length < p.length + t → ∀ e ∈ E, innB rest (rndsP E rest t p) e = false
  | 0, p, h, hl => by
    have := sub_len h.nd h.sub
    fail"o"
  | t + 1, p, h, hl => by
    show ∀ e ∈ E, innB rest (rndsP E rest t (rndP E rest p)) e = false
    by_cases q : (rndP E rest p).length ≤ p.length
    · have hf := foldP_fix q
      have e1 : rndP E rest p = p := foldP_same hf; rw [e1, rndsP_same hf t]; exact hf
    · exact rndsP_done t (rndP E rest p) (foldP_inv (fun _ h => h) h) (by fail"o")
theorem closed_con {E : MK.Edges} {rest p : List Int} {a : Int} (h : PInv E rest a p) (hc : ∀ e ∈ E, innB rest p e = false) (x : Int) : x ∈ p ↔ TR.Con (MK.adj E) (fun x => x ∈ rest) a x := by
  refine ⟨h.con x, fun k => ?_⟩
  induction k with
  | here => exact h.st
  | @step y c _ hcr hyc ih =>
    refine Classical.byContradiction fun hn => ?_
    have hy := h.sub y ih; rcases hyc with q | q
    · have := hc _ q
      unfold innB at this; simp [hy, hcr, ih, hn] at this
    · have := hc _ q
      unfold innB at this; simp [hy, hcr, ih, hn] at this
theorem rnds_part {E : MK.Edges} {rest : List Int} {a : Int} {t : Nat} (hr : rest.Pairwise (· < ·)) (ha : a ∈ rest) (ht : rest.length ≤ t) :
    sortI (rndsP E rest t [a]) = partG E rest a ∧ (∀ x, x ∈ rndsP E rest t [a] ↔ x ∈ partG E rest a) ∧ (rndsP E rest t [a]).Nodup := by
  have i0 : PInv E rest a [a] := ⟨by simp, fun x hx => by (have : x = a := by simpa using hx); exact this ▸ ha, fun x hx => by (have : x = a := by simpa using hx); exact this ▸ .here, by simp⟩
  have hc := rndsP_done t [a] i0 (by simp; fail"o")
  have hi := rndsP_inv (t := t) i0; have hm := closed_con hi hc; exact ⟨sort_part hr ha hi.nd hm, fun x => by rw [hm, mem_partG (MK.nodup_of_lt hr) ha], hi.nd⟩
theorem inM_sort {m p q : List Int} (h : sortI p = q) : (inM m p).length = (inM m q).length := by
  have := (isort_perm (lt := ltI') p).symm; have e : p.Perm q := by rw [← h]; exact this
  exact (e.filter _).length_eq
def touchL (E : MK.Edges) (x : Int) : List Int := (E.filter fun e => decide (x ∈ [e.1, e.2])).map fun e => e.1 + e.2 - x
theorem touchL_any {E : MK.Edges} {x : Int} {ss : List Int} : ((touchL E x).map fun y => decide (y ∈ ss)).any id = MK.touchesAny E x ss := by
  rw [Bool.eq_iff_iff, MK.touchesAny_iff, List.any_map, List.any_eq_true]; unfold touchL
  constructor
  · rintro ⟨y, hy, h⟩
    obtain ⟨e, he, rfl⟩ := List.mem_map.mp hy; rw [List.mem_filter] at he; have h' : e.1 + e.2 - x ∈ ss := by simpa using h
    have hx : x = e.1 ∨ x = e.2 := by simpa using he.2
    refine ⟨_, h', ?_⟩
    rcases hx with rfl | rfl
    · left
      have : e.1 + e.2 - e.1 = e.2 := by fail"o"
      rw [this]; exact he.1
    · right
      have : e.1 + e.2 - e.2 = e.1 := by fail"o"
      rw [this]; exact he.1
  · rintro ⟨y, hy, ha⟩
    refine ⟨y, ?_, by simpa using hy⟩
    rcases ha with ha | ha
    · exact List.mem_map.mpr ⟨(x, y), List.mem_filter.mpr ⟨ha, by simp⟩, by dsimp only; fail"o"⟩
    · exact List.mem_map.mpr ⟨(y, x), List.mem_filter.mpr ⟨ha, by simp⟩, by dsimp only; fail"o"⟩
end L2
namespace L2
open PySem PySem.Spec PyProof.Rows PySem.W
section
variable {X : Cx} {ρ : List Bd} {pos : Pos}
theorem tg_three {i j l : Nat} {x y z : Str} {u w' t : PyData} {kk : Nat} {p1 p2 p3 : Pos} (hc : X.calm = true) (hN : X.N.Nodup) (hi : X.N[i]? = some x) (hj : X.N[j]? = some y) (hl : X.N[l]? = some z) (hx : Loc X.env.scope x) (hy : Loc X.env.scope y) (hz : Loc X.env.scope z)
    (hf : X.fn x = true ∨ X.env.scope.names.lookup x = some .local) (hg : X.fn y = true ∨ X.env.scope.names.lookup y = some .local) (hh : X.fn z = true ∨ X.env.scope.names.lookup z = some .local) :
    TgD X (.Tuple [.Name x p1, .Name y p2, .Name z p3] kk pos) (.py (.tuple [u, w', t])) ρ (((ρ.set i (.dat (.py u))).set j (.dat (.py w'))).set l (.dat (.py t))) [i, j, l] := by
  with_unfolding_all
    refine PG.imp (pg_tup hc (pgs_cons (pg_name (pos := p1) hN hi hx hf) (pgs_cons (pg_name (pos := p2) hN hj hy hg) (pgs_cons (pg_name (pos := p3) hN hl hz hh) pgs_nil)))) fun v σ H Q hz0 => ?_
    obtain ⟨B, Hm, S, hv, k⟩ := hz0; obtain ⟨a, vs, rfl, q, al⟩ := isD_tup hv
    cases al with
    | cons h1 al =>
      cases al with
      | cons h2 al =>
        cases al with
        | cons h3 al =>
          cases al; refine ⟨a, _, rfl, S.gr.i.tseq q, rfl, _, _, rfl, _, _, rfl, _, _, rfl, rfl, ?_⟩
          refine k _ (((S.set (d := .py u) (List.getElem?_eq_some_iff.mp hi).1 h1).set (d := .py w') (List.getElem?_eq_some_iff.mp hj).1 h2).set (d := .py t) (List.getElem?_eq_some_iff.mp hl).1 h3) (by simp) fun m hm => ?_
          rw [List.getElem?_set_ne (fun z => hm (by simp [z])), List.getElem?_set_ne (fun z => hm (by simp [z])), List.getElem?_set_ne (fun z => hm (by simp [z]))]
end
theorem cut_first {α : Type} {x : α} {xs : List α} : cut (x :: xs) none (some 1) = [x] := by
  have h1 : HT.sIx (x :: xs).length (x :: xs).length (some 1) = 1 := by
    unfold HT.sIx; simp only [List.length_cons]
    split <;> fail"o"
  have h2 : HT.sIx (x :: xs).length 0 none = 0 := rfl; unfold cut; rw [h1, h2]; simp
end L2
namespace L2
open PySem PySem.Spec PyProof.Rows PySem.W
section
variable {X : Cx} {B : Hp × Hp} {ρ : List Bd} {e a b : Expr} {pos p2 : Pos} {z y : Str} {i j : Int}
theorem o_eqS : CmpD X .Eq (dS z) (dS y) (decide (z = y)) := by
  with_unfolding_all
    exact (op_eq.imp fun x v H Q ⟨Hm, s, hx, hy, k⟩ => by
        rw [isD_str hx, isD_str hy]; exact ⟨rfl, by rw [show decide (V.str z = V.str y) = decide (z = y) from by simp]; exact k _ Hm H (Gr.refl s) (.bl _)⟩)
end
end L2
open PySem PySem.Spec PyProof.Rows PySem.W L2
set_option compiler.extract_closed false in
local macro_rules
  | `(tactic| fail $s:str) => do
    let tbl : List (String × String) := [
      ("op", "o_add;o_sub;o_lt;o_le;o_gt;o_ge;o_eqI A;o_neI A;o_neB A;o_eqB A;o_eqS;o_neS;o_inS;o_mod S;o_fdiv P;o_mul ML;o_mul MR;o_catM1 S;o_inM;o_ninM;o_inL;o_ninL;!asm"),
      ("ix", "ixd_L A;ixd_T A;ixd_T r;ixd_L r"),
      ("call", "c_lenL;c_lenT;c_range;c_listR r S S;!asm"),
      ("eva", "eva_nil;eva_cons ?a ?b r / a:ev b:eva"),
      ("evp", "evp_nil;evp_cons ?a ?b r / a:ev b:evp"),
      ("mk", "nomark _;!unf"),
      ("boot", "boot_len;boot_any;boot_sorted;boot_isinstance;boot_all"),
      ("bootT", "boot_list;boot_tuple;boot_range;boot_set"),
      ("var", "!v0;!v1;!v2;!v3;!v4;!v5;!v6;!v7;!v8;!v9;!v10;!v11;!v12;!v13"),
      ("ev", "ev_int;ev_bl;ev_str;ev_non;evname ?a / a:var;ev_bin ?a ?b ?c / a:ev b:ev c:op;ev_cmp ?a ?b ?c ?d / a:ev b:ev c:op d:mk;ev_ix ?a ?b ?c R / a:ev b:ev c:ix;ev_tup ?a ?b / a:evp b:size;ev_lst ?a ?b / a:evp b:size;ev_callB ?a ?c r ?b ?v d d r r / v:xboot b:asm a:eva c:call;ev_callTy ?a ?c r ?b ?v d d r r / v:xbootT b:asm a:eva c:call;ev_def ?d ?r ?a ?c r d r r / d:asm r:asm a:eva c:fc;ev_globI ?a r d / a:asm;ev_globS ?a r d / a:asm;ev_one ?a / a:ev;ev_and ?a ?b / a:ev b:iev;ev_or ?a ?b / a:ev b:iev;ev_not ?a / a:ev;ev_neg ?a / a:ev;ev_fldA ?a / a:asm"),
      ("tv", "tv_cmp ?a ?b ?c ?d / a:ev b:ev c:op d:mk;tv_not ?a / a:tv;tv_chain ?a ?b ?c ?d ?e / a:ev b:ev c:op d:pair e:unf;tv_bool ?a / a:tw;tv_tru ?a ?b W / a:ev b:rfl"),
      ("tw", "tw_and ?a ?b / a:tv b:itw;tw_or ?a ?b / a:tv b:itw;tw_and1 ?a / a:tv;tw_or1 ?a / a:tv")]
    let str := fun (x : String) => Lean.Syntax.mkStrLit x
    let hole := fun (x : String) => do return Lean.mkIdent (← Lean.Macro.addMacroScope x.toName)
    let arg : String → Lean.MacroM (Lean.TSyntax `term) := fun c => match c with
      | "r" => `(rfl) | "d" => `(by decide) | "A" => `(by assumption) | "S" => `(by fail "side") | "P" => `(⟨by fail "side", by fail "side"⟩) | "ML" => `(.inl ⟨by decide, by decide⟩) | "MR" => `(.inr ⟨by decide, by decide⟩) | "_" => `(_) | "R" => `(fun _ _ => rfl) | "W" => `(fun _ => rfl)
      | c => do let x ← hole (c.drop 1).toString; `(?$x:ident)
    let z := s.getString
    match tbl.lookup z with
    | some l =>
      let ts ← (l.splitOn ";").mapM fun o => do
        if o.startsWith "!" then `(tactic| fail $(str (o.drop 1).toString)) else
        let ps := o.splitOn " / "
        let ws := ps.head!.splitOn " "
        let as ← ws.tail!.mapM arg
        let t : Lean.TSyntax `term := if as.isEmpty then ⟨Lean.mkIdent ws.head!.toName⟩ else Lean.Syntax.mkApp (Lean.mkIdent ws.head!.toName) as.toArray
        match ps with
        | [_, q] =>
          let mut a ← `(tactic| refine' $t)
          for st in q.splitOn " " do
            let hs := st.splitOn ":"
            let x ← hole hs.head!
            a ← `(tactic| ($a:tactic; (case $x:ident => fail $(str hs.tail!.head!))))
          pure a
        | _ => `(tactic| exact $t)
      let mut r := ts.getLast!
      for t in ts.dropLast.reverse do r ← `(tactic| first | $t:tactic | $r:tactic)
      pure r
    | none => match z with
      | "vis" => `(tactic| first | exact Or.inl rfl | exact Or.inr (Or.inl rfl) | exact Or.inr (Or.inr rfl))
      | "side" => `(tactic| first | decide | fail"o" | assumption)
      | "asm" => `(tactic| assumption)
      | "unf" => `(tactic| with_unfolding_all rfl)
      | "size" => `(tactic| exact size_ble rfl)
      | "rfl" => `(tactic| exact rfl)
      | "iev" => `(tactic| (intro _; fail "ev"))
      | "itw" => `(tactic| (intro _; fail "tw"))
      | "xboot" => `(tactic| with_reducible fail "boot")
      | "xbootT" => `(tactic| with_reducible fail "bootT")
      | "pair" => `(tactic| (intro _; refine' ⟨?f, ?g⟩; (case f => fail "ev"); (case g => fail "op")))
      | "fc" => `(tactic| first | assumption | exact ⟨_, rfl, rfl⟩ | exact ⟨_, _, rfl, rfl⟩ | exact ⟨_, _, _, rfl, rfl⟩ | exact ⟨_, _, _, _, rfl, rfl⟩ | exact ⟨_, _, rfl, by assumption, rfl⟩ | exact ⟨_, _, _, rfl, by assumption, rfl⟩)
      | z => if z.startsWith "v" then do
          let n := Lean.Syntax.mkNumLit (z.drop 1).toString
          `(tactic| exact ev_var (i := $n) rfl rfl (by fail "vis") (by decide) (by decide)) else Lean.Macro.throwUnsupported
namespace V
def top (i : Nat) : Stmt := PySem.Challenge.pw_markslide_k20_whole_trees.main.body.getD i (.Pass ⟨0, 0, 0, 0⟩)
section
variable {P : Program} {w : World} {K : Frag} {mg : MgT} {base : Heap} {cSE cBW cBM cBS cUL cNT cBT cBo : Addr}
abbrev s_is_line : Stmt := top 11
theorem sc_is_line : FnScope ["count", "line"] ["count", "line"] (defScope s_is_line) := ⟨rfl, rfl, rfl, by decide +kernel, rfl, by decide +kernel, by decide +kernel⟩
inductive F_is_line (ds : List Dt) (r : DRes) : Prop
  | mk (n : _) (l : _) (c0 : ds = [dI n, .py (dM l)]) (c1 : r = .val (dB (MK.isLine n l))) : F_is_line ds r
theorem ok_is_line {k : Nat} {f : Addr} {fd : FuncData} (F : Fun K "is_line" "is_line" s_is_line f fd) (m_len : mg "len" = none) : FnOk P w K mg base (CX1 P w) (k + 1) f fd ["count", "line"] (spD K F_is_line) := by
  refine F.okD sc_is_line (by decide) (fun ds r h => ?_) fun cdv A outer s H E B ds r hr R h => ?_
  · obtain ⟨_, _, rfl, _⟩ := h; rfl
  · obtain ⟨n, l, rfl, rfl⟩ := h
    have hu := hr.units
    let X : Cx := cxOf (CX1 P w) P w K mg base ["count", "line"] "is_line" (defScope s_is_line) f cdv A outer s H E
    show RunS X B _ _ _
    refine run_cons (run_ret (d := dB (MK.isLine n l)) ?_ rfl)
    by_cases hl : l.length = 2
    · match l, hl with
      | [a, b], _ =>
        refine Ev.to (ev_and (r := true) (r' := MK.isLine n [a, b]) (Ev.to (by fail "ev") (by simp)) fun _ => ev_one ?_) (by simp)
        refine ev_chain3 (by fail "ev") (by fail "ev") (by fail "op") (fun _ => ⟨by fail "ev", by fail "op"⟩) (fun _ _ => ⟨by fail "ev", by fail "op"⟩) (by with_unfolding_all rfl)
    · refine Ev.to (ev_and (r := false) (r' := false) (Ev.to (by fail "ev") (by simp; fail"o")) (fun h => nomatch h)) ?_
      have : MK.isLine n l = false := by
        match l, hl with
        | [], _ => rfl
        | [_], _ => rfl
        | _ :: _ :: _ :: _, _ => rfl
        | [_, _], h => exact absurd rfl h
      rw [this]; rfl
abbrev s_rises : Stmt := top 12
theorem sc_rises : FnScope ["row", "place"] ["row"] (defScope s_rises) := ⟨rfl, rfl, rfl, by decide +kernel, rfl, by decide +kernel, by decide +kernel⟩
def F_rises : Fc := fun ds r => (∃ ls : LLI, ds = [.py (dMs ls)] ∧ ls.length < 1000 ∧ r = .val (dB (MK.rises ltL ls))) ∨ ∃ m : List Int, ds = [.py (dM m)] ∧ m.length < 1000 ∧ r = .val (dB (MK.rises MK.ltI m))
theorem ok_rises {k : Nat} {f : Addr} {fd : FuncData} (F : Fun K "rises" "rises" s_rises f fd) (m_len : mg "len" = none) (m_range : mg "range" = none) : FnOk P w K mg base (CX1 P w) (k + 1) f fd ["row"] (spD K F_rises) := by
  refine F.okD sc_rises (by decide) (fun ds r h => ?_) fun cdv A outer s H E B ds r hr R h => ?_
  · rcases h with ⟨_, rfl, _⟩ | ⟨_, rfl, _⟩ <;> rfl
  · have hu := hr.units
    rcases h with ⟨ls, rfl, hl, rfl⟩ | ⟨m, rfl, hl, rfl⟩
    · refine' run_cons (run_for (xs := rng 1 (((ls.map dM).length : Int) - 1).toNat) owns rfl ?it (fun i ρ => ρ[0]? = some (.dat (.py (dMs ls))) ∧ ρ.length = 2 ∧ ∀ j x y, j < i → ls[j]? = some x → ls[j + 1]? = some y → ltL x y = true) ?h0 ?hs ?hd (fun _ => rfl))
      case it =>
        refine' it_range2 ?i1 ?i2 ?i3 rfl ?i4 rfl rfl
        case i1 => fail "ev"
        case i2 => fail "ev"
        case i3 => simp only [List.length_map]; fail"o"
        case i4 => assumption
      case h0 => exact ⟨rfl, rfl, fun j x y h => absurd h (by fail"o")⟩
      case hs =>
        rintro i d ρ hd ⟨h0, h1, h2⟩
        obtain ⟨hi, rfl⟩ := rng_get hd
        match ρ, h1 with
        | [r0, r1], _ =>
          cases h0; rw [List.length_map] at hi; have hx : i < ls.length := by fail"o"
          have hy : i + 1 < ls.length := by fail"o"
          have ex : ls[i]? = some ls[i] := by simp [hx]
          have ey : ls[i + 1]? = some ls[i + 1] := by simp [hy]
          refine ⟨_, _, tg_name (i := 1) sc_rises.nd rfl (Or.inl rfl) (Or.inl rfl), ?_⟩
          refine run_gen fun D' hn hrt => ?_
          refine' run_cons (run_if (r := !ltL ls[i] ls[i + 1]) ?c ?a ?b)
          case c =>
            refine' tv_cmp (da := .py (dM ls[i])) (db := .py (dM ls[i + 1])) ?tA ?tB (o_geM hu) (nomark _)
            case tA =>
              refine' ev_ix (db := dI (i : Nat)) ?p1 ?p2 ?p3 (fun _ _ => rfl)
              case p1 => fail "ev"
              case p2 => exact Ev.to (by fail "ev") (by congr 2; fail"o")
              case p3 => exact ixd_L (atI_map ex)
            case tB =>
              refine' ev_ix (db := dI ((i + 1 : Nat) : Int)) ?q1 ?q2 ?q3 (fun _ _ => rfl)
              case q1 => fail "ev"
              case q2 => exact Ev.to (by fail "ev") (by congr 2; fail"o")
              case q3 => exact ixd_L (atI_map ey)
          case a =>
            intro h; refine run_cons (run_ret ev_bl ?_)
            refine hrt _ ?_
            have e : MK.rises ltL ls = false := MK.rises_false ex ey (by simpa using h)
            rw [e]; rfl
          case b =>
            intro h; refine run_nil (run_nil (hn _ ⟨rfl, rfl, fun j x y hj h3 h4 => ?_⟩))
            by_cases hj' : j < i
            · exact h2 j x y hj' h3 h4
            · have : j = i := by fail"o"
              subst this; rw [ex] at h3; rw [ey] at h4; cases h3; cases h4; simpa using h
      case hd =>
        rintro ρ ⟨h0, h1, h2⟩
        refine run_cons (run_ret ev_bl ?_)
        have e : MK.rises ltL ls = true := MK.rises_iff.mpr fun i x y h3 h4 => h2 i x y (by
          rw [rng_length, List.length_map]; have := (List.getElem?_eq_some_iff.mp h4).1
          fail"o") h3 h4
        rw [e]; rfl
    · refine' run_cons (run_for (xs := rng 1 (((m.map PyData.int).length : Int) - 1).toNat) owns rfl ?it (fun i ρ => ρ[0]? = some (.dat (.py (dM m))) ∧ ρ.length = 2 ∧ ∀ j x y, j < i → m[j]? = some x → m[j + 1]? = some y → MK.ltI x y = true) ?h0 ?hs ?hd (fun _ => rfl))
      case it =>
        refine' it_range2 ?i1 ?i2 ?i3 rfl ?i4 rfl rfl
        case i1 => fail "ev"
        case i2 => fail "ev"
        case i3 => simp only [List.length_map]; fail"o"
        case i4 => assumption
      case h0 => exact ⟨rfl, rfl, fun j x y h => absurd h (by fail"o")⟩
      case hs =>
        rintro i d ρ hd ⟨h0, h1, h2⟩
        obtain ⟨hi, rfl⟩ := rng_get hd
        match ρ, h1 with
        | [r0, r1], _ =>
          cases h0; rw [List.length_map] at hi; have hx : i < m.length := by fail"o"
          have hy : i + 1 < m.length := by fail"o"
          have ex : m[i]? = some m[i] := by simp [hx]
          have ey : m[i + 1]? = some m[i + 1] := by simp [hy]
          refine ⟨_, _, tg_name (i := 1) sc_rises.nd rfl (Or.inl rfl) (Or.inl rfl), ?_⟩
          refine run_gen fun D' hn hrt => ?_
          refine' run_cons (run_if (r := !MK.ltI m[i] m[i + 1]) ?c ?a ?b)
          case c =>
            refine' tv_cmp (da := dI m[i]) (db := dI m[i + 1]) ?tA ?tB ?tC (nomark _)
            case tC =>
              have e : (!MK.ltI m[i] m[i + 1]) = decide (m[i + 1] ≤ m[i]) := by
                unfold MK.ltI
                by_cases hq : m[i] < m[i + 1]
                · simp [hq]
                · simp [hq]; fail"o"
              rw [e]; exact o_ge
            case tA =>
              refine' ev_ix (db := dI (i : Nat)) ?p1 ?p2 ?p3 (fun _ _ => rfl)
              case p1 => fail "ev"
              case p2 => exact Ev.to (by fail "ev") (by congr 2; fail"o")
              case p3 => exact ixd_T (atI_map ex)
            case tB =>
              refine' ev_ix (db := dI ((i + 1 : Nat) : Int)) ?q1 ?q2 ?q3 (fun _ _ => rfl)
              case q1 => fail "ev"
              case q2 => exact Ev.to (by fail "ev") (by congr 2; fail"o")
              case q3 => exact ixd_T (atI_map ey)
          case a =>
            intro h; refine run_cons (run_ret ev_bl ?_)
            refine hrt _ ?_
            have e : MK.rises MK.ltI m = false := MK.rises_false ex ey (by simpa using h)
            rw [e]; rfl
          case b =>
            intro h; refine run_nil (run_nil (hn _ ⟨rfl, rfl, fun j x y hj h3 h4 => ?_⟩))
            by_cases hj' : j < i
            · exact h2 j x y hj' h3 h4
            · have : j = i := by fail"o"
              subst this; rw [ex] at h3; rw [ey] at h4; cases h3; cases h4; simpa using h
      case hd =>
        rintro ρ ⟨h0, h1, h2⟩
        refine run_cons (run_ret ev_bl ?_)
        have e : MK.rises MK.ltI m = true := MK.rises_iff.mpr fun i x y h3 h4 => h2 i x y (by
          rw [rng_length, List.length_map]; have := (List.getElem?_eq_some_iff.mp h4).1
          fail"o") h3 h4
        rw [e]; rfl
end
end V
namespace V
structure Txt (K : Frag) (mg : MgT) (cSE cBW cBM cBS cUL cNT cBT : Addr) : Prop where
  len : mg "len" = none
  range : mg "range" = none
  any : mg "any" = none
  sorted : mg "sorted" = none
  set : mg "set" = none
  list : mg "list" = none
  tuple : mg "tuple" = none
  isin : mg "isinstance" = none
  bool : mg "bool" = none
  ve : mg "ValueError" = none
  most : ∃ t, mg "MOST_SPOTS" = some (.int 12 t)
  se : mg "SlideError" = some (.ref cSE)
  bw : mg "BadWeb" = some (.ref cBW)
  bm : mg "BadMarks" = some (.ref cBM)
  bs : mg "BadSlide" = some (.ref cBS)
  ul : mg "Unlike" = some (.ref cUL)
  nt : mg "NoTree" = some (.ref cNT)
  bt : mg "BadText" = some (.ref cBT)
  xbw : ExcCls K cBW
  xbm : ExcCls K cBM
  xbs : ExcCls K cBS
  xul : ExcCls K cUL
  xnt : ExcCls K cNT
  xbt : ExcCls K cBT
section
variable {P : Program} {w : World} {K : Frag} {mg : MgT} {base : Heap} {cSE cBW cBM cBS cUL cNT cBT cBo : Addr}
abbrev s_look_web : Stmt := top 10
theorem sc_look_web : FnScope ["web", "line"] ["web"] (defScope s_look_web) := ⟨rfl, rfl, rfl, by decide +kernel, rfl, by decide +kernel, by decide +kernel⟩
inductive F_look_web (cBW : Addr) (ds : List Dt) (r : DRes) : Prop
  | mk (n : _) (ls : _) (c0 : ds = [web n ls]) (c1 : ls.length < 1000) (c2 : r = if MK.webOk ltL n ls = true then .val dN else .exc cBW) : F_look_web cBW ds r
theorem ok_look_web {k : Nat} {f : Addr} {fd : FuncData} (F : Fun K "look_web" "look_web" s_look_web f fd) (T : Txt K mg cSE cBW cBM cBS cUL cNT cBT)
    (D1 : Dfn P w K mg base k "is_line" ["count", "line"] (spD K F_is_line)) (D2 : Dfn P w K mg base k "rises" ["row"] (spD K F_rises)) : FnOk P w K mg base (CX1 P w) (k + 1) f fd ["web"] (spD K (F_look_web cBW)) := by
  refine F.okD sc_look_web (by decide) (fun ds r h => ?_) fun cdv A outer s H E B ds r hr R h => ?_
  · obtain ⟨_, _, rfl, _⟩ := h; rfl
  · obtain ⟨n, ls, rfl, hl, rfl⟩ := h
    have hu := hr.units
    let X : Cx := cxOf (CX1 P w) P w K mg base ["web", "line"] "look_web" (defScope s_look_web) f cdv A outer s H E
    show RunS X B _ _ _
    have m_len := T.len; obtain ⟨tk, m_most⟩ := T.most; refine' run_cons (run_if (r := false) ?c1 (fun h => nomatch h) fun _ => run_nil ?k1)
    case c1 => exact Tv.to (by fail "tv") (by rfl)
    refine' run_cons (run_if (r := !(decide (1 ≤ n) && decide (n ≤ 12))) ?c2 ?r2 fun h2 => run_nil ?k2)
    case c2 => fail "tv"
    case r2 =>
      intro h; exact run_cons (run_raise R T.xbw (xc_if (by unfold MK.webOk; rw [show (decide (1 ≤ n) && decide (n ≤ 12)) = false from nb_t h]; rfl)) rfl T.bw rfl (by decide))
    have h2' : (decide (1 ≤ n) && decide (n ≤ 12)) = true := nb_f h2; refine' run_cons (run_for (xs := ls.map dM) owns rfl (it_list ?it) (fun i ρ => (∃ b, ρ = [.dat (web n ls), b]) ∧ ∀ l ∈ ls.take i, MK.isLine n l = true) ?h0 ?hs ?hd (fun _ => rfl))
    case it => fail "ev"
    case h0 => exact ⟨⟨_, rfl⟩, by simp⟩
    case hs =>
      rintro i d ρ hd ⟨⟨b, rfl⟩, hi⟩
      obtain ⟨l, el, rfl⟩ := map_get hd; refine ⟨_, _, tg_name (i := 1) sc_look_web.nd rfl (Or.inl rfl) (Or.inl rfl), ?_⟩
      refine run_gen fun D' hn hrt => ?_
      refine' run_cons (run_if (r := !MK.isLine n l) ?c3 ?r3 fun h3 => run_nil (run_nil (hn _ ⟨⟨_, rfl⟩, all_take hi el (nb_f h3)⟩)))
      case c3 => fail "tv"
      case r3 =>
        intro h
        have e : ls.all (MK.isLine n) = false := by
          cases q : ls.all (MK.isLine n) with
          | false => rfl
          | true => rw [List.all_eq_true.mp q l (List.mem_of_getElem? el)] at h; cases h
        exact run_cons (run_raise R T.xbw (xc_if (by unfold MK.webOk; rw [h2', e]; rfl)) rfl T.bw rfl (by decide))
    case hd =>
      rintro ρ ⟨⟨b, rfl⟩, hi⟩
      have ha : ls.all (MK.isLine n) = true := List.all_eq_true.mpr fun l hl => hi l (by rw [List.length_map, List.take_length]; exact hl)
      have fr : F_rises [.py (dMs ls)] (.val (dB (MK.rises ltL ls))) := .inl ⟨ls, rfl, hl, rfl⟩; refine' run_cons (run_if (r := !MK.rises ltL ls) ?c4 ?r4 fun h4 => run_nil (run_nil ?k4))
      case c4 => fail "tv"
      case r4 =>
        intro h; exact run_cons (run_raise R T.xbw (xc_if (by unfold MK.webOk; rw [h2', ha, show MK.rises ltL ls = false from nb_t h]; rfl)) rfl T.bw rfl (by decide))
      case k4 =>
        have e : MK.webOk ltL n ls = true := by unfold MK.webOk; rw [h2', ha, show MK.rises ltL ls = true from nb_f h4]; rfl
        rw [e]; exact rfl
abbrev s_are_marks : Stmt := top 14
theorem sc_are_marks : FnScope ["web", "marks", "spot", "one", "other"] ["web", "marks"] (defScope s_are_marks) := ⟨rfl, rfl, rfl, by decide +kernel, rfl, by decide +kernel, by decide +kernel⟩
inductive F_are_marks (ds : List Dt) (r : DRes) : Prop
  | mk (n : _) (E : _) (m : _) (c0 : ds = [web n (MK.ln E), .py (dM m)]) (c1 : m.length < 1000) (c2 : r = .val (dB (MK.areMarks n E m))) : F_are_marks ds r
theorem ok_are_marks {k : Nat} {f : Addr} {fd : FuncData} (F : Fun K "are_marks" "are_marks" s_are_marks f fd) (T : Txt K mg cSE cBW cBM cBS cUL cNT cBT)
    (D2 : Dfn P w K mg base k "rises" ["row"] (spD K F_rises)) : FnOk P w K mg base (CX1 P w) (k + 1) f fd ["web", "marks"] (spD K F_are_marks) := by
  refine F.okD sc_are_marks (by decide) (fun ds r h => ?_) fun cdv A outer s H E' B ds r hr R h => ?_
  · obtain ⟨_, _, _, rfl, _⟩ := h; rfl
  · obtain ⟨n, E, m, rfl, hl, rfl⟩ := h
    have hu := hr.units
    let X : Cx := cxOf (CX1 P w) P w K mg base ["web", "marks", "spot", "one", "other"] "are_marks" (defScope s_are_marks) f cdv A outer s H E'
    show RunS X B _ _ _
    refine' run_cons (run_for (xs := m.map .int) owns rfl (it_tup ?it1) (fun i ρ => (∃ b, ρ = [.dat (web n (MK.ln E)), .dat (.py (dM m)), b, .un, .un]) ∧ ∀ x ∈ m.take i, (decide (0 ≤ x) && decide (x < n)) = true) ?h0 ?hs ?hd (fun _ => rfl))
    case it1 => fail "ev"
    case h0 => exact ⟨⟨_, rfl⟩, by simp⟩
    case hs =>
      rintro i d ρ hd ⟨⟨b, rfl⟩, hi⟩
      obtain ⟨x, ex, rfl⟩ := map_get hd; refine ⟨_, _, tg_name (i := 2) sc_are_marks.nd rfl (Or.inl rfl) (Or.inl rfl), ?_⟩
      refine run_gen fun D' hn hrt => ?_
      refine' run_cons (run_if (r := !(decide (0 ≤ x) && decide (x < n))) ?c3 ?r3 fun h3 => run_nil (run_nil (hn _ ⟨⟨_, rfl⟩, all_take hi ex (nb_f h3)⟩)))
      case c3 => fail "tv"
      case r3 =>
        intro h; refine run_cons (run_ret ev_bl ?_)
        refine hrt _ ?_
        have e : MK.areMarks n E m = false := by
          unfold MK.areMarks
          have : MK.inside n m = false := by
            cases q : MK.inside n m with
            | false => rfl
            | true => unfold MK.inside at q; rw [List.all_eq_true.mp q x (List.mem_of_getElem? ex)] at h; cases h
          rw [this]; rfl
        rw [e]; rfl
    case hd =>
      rintro ρ ⟨⟨b, rfl⟩, hi⟩
      have hin : MK.inside n m = true := List.all_eq_true.mpr fun x hx => hi x (by rw [List.length_map, List.take_length]; exact hx)
      refine' run_cons (run_for (xs := (MK.ln E).map dM) owns rfl (it_list ?it2) (fun i ρ => (∃ b c d, ρ = [.dat (web n (MK.ln E)), .dat (.py (dM m)), b, c, d]) ∧ ∀ e ∈ E.take i, (!(decide (e.1 ∈ m) && decide (e.2 ∈ m))) = true) ?g0 ?gs ?gd (fun _ => rfl))
      case it2 => fail "ev"
      case g0 => exact ⟨⟨_, _, _, rfl⟩, by simp⟩
      case gs =>
        rintro i d ρ hd ⟨⟨b, c, d, rfl⟩, hi⟩
        obtain ⟨l, el, rfl⟩ := map_get hd; unfold MK.ln at el; rw [List.getElem?_map] at el
        cases ee : E[i]? with
        | none => rw [ee] at el; cases el
        | some e =>
          rw [ee] at el; have el' : [e.1, e.2] = l := Option.some.inj el; subst el'; refine ⟨_, _, tg_pair (i := 3) (j := 4) (u := .int e.1) (w' := .int e.2) rfl sc_are_marks.nd rfl rfl (Or.inl rfl) (Or.inl rfl) (Or.inl rfl) (Or.inl rfl), ?_⟩
          refine run_gen fun D' hn hrt => ?_
          refine' run_cons (run_if (r := decide (e.1 ∈ m) && decide (e.2 ∈ m)) ?c4 ?r4 fun h4 => run_nil (run_nil (hn _ ⟨⟨_, _, _, rfl⟩, all_take hi ee (by rw [h4]; rfl)⟩)))
          case c4 => fail "tv"
          case r4 =>
            intro h; refine run_cons (run_ret ev_bl ?_)
            refine hrt _ ?_
            have e : MK.areMarks n E m = false := by
              unfold MK.areMarks
              have : MK.apart E m = false := by
                cases q : MK.apart E m with
                | false => rfl
                | true =>
                  have := MK.apart_iff.mp q e (List.mem_of_getElem? ee); simp at h; exact absurd h this
              rw [this, Bool.false_and, Bool.and_false]
            rw [e]; rfl
      case gd =>
        rintro ρ ⟨⟨b, c, d, rfl⟩, hi⟩
        have hap : MK.apart E m = true := MK.apart_iff.mpr fun e he => by
          have := hi e (by rw [List.length_map, MK.ln, List.length_map, List.take_length]; exact he)
          simp at this
          rintro ⟨a1, a2⟩
          rcases this with h | h
          · exact h a1
          · exact h a2
        have fr : F_rises [.py (dM m)] (.val (dB (MK.rises MK.ltI m))) := .inr ⟨m, rfl, hl, rfl⟩; refine' run_cons (run_ret (d := dB (MK.rises MK.ltI m)) ?e5 ?k5)
        case e5 => fail "ev"
        case k5 =>
          unfold MK.areMarks; rw [hin, hap]; rfl
abbrev s_look_marks : Stmt := top 13
theorem sc_look_marks : FnScope ["web", "marks"] ["web", "marks"] (defScope s_look_marks) := ⟨rfl, rfl, rfl, by decide +kernel, rfl, by decide +kernel, by decide +kernel⟩
def R_look_marks (cBW cBM : Addr) (n : Int) (ls : LLI) (m : List Int) : DRes := if MK.webOk ltL n ls = true then (if MK.areMarks n (MK.ends ls) m = true then .val dN else .exc cBM) else .exc cBW
inductive F_look_marks (cBW cBM : Addr) (ds : List Dt) (r : DRes) : Prop
  | mk (n : _) (ls : _) (m : _) (c0 : ds = [web n ls, .py (dM m)]) (c1 : ls.length < 1000) (c2 : m.length < 1000) (c3 : r = R_look_marks cBW cBM n ls m) : F_look_marks cBW cBM ds r
theorem webOk_ln {n : Int} {ls : LLI} (h : MK.webOk ltL n ls = true) : MK.ln (MK.ends ls) = ls := MK.ln_ends fun l hl => by
  unfold MK.webOk at h; simp only [Bool.and_eq_true] at h; exact MK.isLine_len (List.all_eq_true.mp h.2.1 l hl)
theorem webOk_n {n : Int} {ls : LLI} (h : MK.webOk ltL n ls = true) : 1 ≤ n ∧ n ≤ 12 := by
  unfold MK.webOk at h; simp only [Bool.and_eq_true, decide_eq_true_eq] at h; exact h.1
theorem webOk_good {n : Int} {ls : LLI} (h : MK.webOk ltL n ls = true) : MK.Good n (MK.ends ls) := by
  have el := webOk_ln h; obtain ⟨h1, h2⟩ := webOk_n h; refine ⟨h1, fun e he => ?_⟩
  have hm : [e.1, e.2] ∈ ls := by rw [← el]; exact List.mem_map.mpr ⟨e, he, rfl⟩
  unfold MK.webOk at h; simp only [Bool.and_eq_true] at h; have := List.all_eq_true.mp h.2.1 _ hm; unfold MK.isLine at this; simpa using this
theorem ok_look_marks {k : Nat} {f : Addr} {fd : FuncData} (F : Fun K "look_marks" "look_marks" s_look_marks f fd) (T : Txt K mg cSE cBW cBM cBS cUL cNT cBT)
    (D1 : Dfn P w K mg base k "look_web" ["web"] (spD K (F_look_web cBW))) (D2 : Dfn P w K mg base k "are_marks" ["web", "marks"] (spD K F_are_marks)) : FnOk P w K mg base (CX1 P w) (k + 1) f fd ["web", "marks"] (spD K (F_look_marks cBW cBM)) := by
  refine F.okD sc_look_marks (by decide) (fun ds r h => ?_) fun cdv A outer s H E B ds r hr R h => ?_
  · obtain ⟨_, _, _, rfl, _⟩ := h; rfl
  · obtain ⟨n, ls, m, rfl, hl, hm, rfl⟩ := h
    have hu := hr.units
    let X : Cx := cxOf (CX1 P w) P w K mg base ["web", "marks"] "look_marks" (defScope s_look_marks) f cdv A outer s H E
    show RunS X B _ _ _
    cases e : MK.webOk ltL n ls with
    | false =>
      have fl : F_look_web cBW [web n ls] (.exc cBW) := ⟨n, ls, rfl, hl, by rw [e]; rfl⟩
      refine' run_cons (run_exprR (ra_def R.pass D1 hr ?a1 fl ?a2 rfl (by decide) rfl rfl) rfl)
      case a1 => fail "eva"
      case a2 => unfold xcOf R_look_marks; rw [e]; rfl
    | true =>
      have fl : F_look_web cBW [web n ls] (.val dN) := ⟨n, ls, rfl, hl, by rw [e]; rfl⟩
      have el := webOk_ln e; have fm : F_are_marks [web n ls, .py (dM m)] (.val (dB (MK.areMarks n (MK.ends ls) m))) := ⟨n, MK.ends ls, m, by rw [el], hm, rfl⟩
      refine' run_cons (run_expr (d := dN) ?b1 ?b2 rfl)
      case b1 => fail "ev"
      case b2 =>
        refine' run_cons (run_if (r := !MK.areMarks n (MK.ends ls) m) ?c1 ?r1 fun h1 => run_nil (run_nil ?k1))
        case c1 => fail "tv"
        case r1 =>
          intro h; refine' run_cons (run_raise R T.xbm ?x1 rfl T.bm rfl (by decide))
          case x1 => unfold xcOf R_look_marks; rw [e, nb_t h]; rfl
        case k1 => unfold R_look_marks; rw [e, nb_f h1]; exact rfl
abbrev s_touching : Stmt := top 15
theorem sc_touching : FnScope ["web", "spot", "found", "one", "other"] ["web", "spot"] (defScope s_touching) := ⟨rfl, rfl, rfl, by decide +kernel, rfl, by decide +kernel, by decide +kernel⟩
inductive F_touching (ds : List Dt) (r : DRes) : Prop
  | mk (n : _) (E : _) (x : _) (c0 : ds = [web n (MK.ln E), dI x]) (c1 : E.length < 1000) (c2 : r = .val (.py (dL (MK.touching E x)))) : F_touching ds r
theorem touching_len {x : Int} : ∀ E : MK.Edges, (MK.touching E x).length ≤ 2 * E.length := fun E => by
  have := MK.flat_len (fun e : Int × Int => (if e.1 = x then [e.2] else []) ++ (if e.2 = x then [e.1] else [])) 2 (fun e => by
    rw [List.length_append]
    split <;> split <;> simp) E
  unfold MK.touching
  fail"o"
inductive JT (K : Frag) (n : Int) (E : MK.Edges) (x : Int) (i : Nat) (ρ : List Bd) : Prop
  | mk (b c : Bd) (ds : LPD) (c0 : ρ = [.dat (web n (MK.ln E)), .dat (dI x), ownL K ds, b, c]) (c1 : ds = (MK.touching (E.take i) x).map .int) : JT K n E x i ρ
theorem ok_touching {k : Nat} {f : Addr} {fd : FuncData} (F : Fun K "touching" "touching" s_touching f fd) (T : Txt K mg cSE cBW cBM cBS cUL cNT cBT) : FnOk P w K mg base (CX1 P w) (k + 1) f fd ["web", "spot"] (spD K F_touching) := by
  refine F.okD sc_touching (by decide) (fun ds r h => ?_) fun cdv A outer s H E' B ds r hr R h => ?_
  · obtain ⟨_, _, _, rfl, _⟩ := h; rfl
  · obtain ⟨n, E, x, rfl, hE, rfl⟩ := h
    have hu := hr.units
    let X : Cx := cxOf (CX1 P w) P w K mg base ["web", "spot", "found", "one", "other"] "touching" (defScope s_touching) f cdv A outer s H E'
    show RunS X B _ _ _
    refine run_cons (run_own (i := 2) evp_nil ?_ (size_le (by decide)) sc_touching.nd rfl (Or.inl rfl) rfl (Or.inl rfl))
    refine' run_cons (run_for (xs := (MK.ln E).map dM) owns rfl (it_list ?it) (JT K n E x) ?h0 ?hs ?hd (fun _ => rfl))
    case it => fail "ev"
    case h0 => exact ⟨_, _, _, rfl, rfl⟩
    case hs =>
      rintro i d ρ hd ⟨b, c, ds, rfl, hds⟩
      obtain ⟨l, el, rfl⟩ := map_get hd; unfold MK.ln at el; rw [List.getElem?_map] at el
      cases ee : E[i]? with
      | none => rw [ee] at el; cases el
      | some e =>
        rw [ee] at el; have el' : [e.1, e.2] = l := Option.some.inj el; subst el'; have hi : i < E.length := (List.getElem?_eq_some_iff.mp ee).1
        have hdl : ds.length ≤ 2000 := by
          rw [hds, List.length_map]; have := touching_len (x := x) (E.take i); rw [List.length_take] at this
          fail"o"
        have hnx : (MK.touching (E.take (i + 1)) x).map PyData.int = ds ++ (if e.1 = x then [.int e.2] else []) ++ (if e.2 = x then [.int e.1] else []) := by
          rw [List.take_succ, ee, hds]; unfold MK.touching; rw [List.flatMap_append, List.map_append, List.append_assoc]
          congr 1
          show List.map PyData.int (List.flatMap _ [e]) = _
          rw [List.flatMap_cons, List.flatMap_nil, List.append_nil, List.map_append]
          congr 1
          · split <;> rfl
          · split <;> rfl
        refine ⟨_, _, tg_pair (i := 3) (j := 4) (u := .int e.1) (w' := .int e.2) rfl sc_touching.nd rfl rfl (Or.inl rfl) (Or.inl rfl) (Or.inl rfl) (Or.inl rfl), ?_⟩
        refine run_gen fun D' hn hrt => ?_
        refine' run_seq (fun ρ => ∃ ds1, ρ = [.dat (web n (MK.ln E)), .dat (dI x), ownL K ds1, .dat (dI e.1), .dat (dI e.2)] ∧ ds1 = ds ++ (if e.1 = x then [.int e.2] else [])) ?s1 ?s2
        case s1 =>
          refine' run_if (r := decide (e.1 = x)) ?c1 ?r1 fun h1 => run_nil ⟨_, rfl, ?k1⟩
          case c1 => fail "tv"
          case r1 =>
            intro h; refine' run_cons (run_append (i := 2) (y := .int e.2) rfl ?e1 (run_nil ⟨_, rfl, ?k4⟩) (size_lt (by fail"o")) rfl (Or.inl rfl) (by decide) (by decide) rfl rfl rfl rfl rfl)
            case e1 => fail "ev"
            case k4 => rw [if_pos (c := e.1 = x) (by simpa using h)]
          case k1 => rw [if_neg (c := e.1 = x) (by simpa using h1)]; simp
        case s2 =>
          rintro ρ ⟨ds1, rfl, hd1⟩
          have hl1 : ds1.length ≤ 3000 := by
            rw [hd1, List.length_append]
            split <;> simp <;> fail"o"
          refine' run_cons (run_if (r := decide (e.2 = x)) ?c2 ?r2 fun h2 => run_nil (run_nil (hn _ ⟨_, _, _, rfl, ?k2⟩)))
          case c2 => fail "tv"
          case r2 =>
            intro h; refine' run_cons (run_append (i := 2) (y := .int e.1) rfl ?e2 (run_nil (run_nil (hn _ ⟨_, _, _, rfl, ?k3⟩))) (size_lt (by fail"o")) rfl (Or.inl rfl) (by decide) (by decide) rfl rfl rfl rfl rfl)
            case e2 => fail "ev"
            case k3 => rw [hnx, hd1, if_pos (c := e.2 = x) (by simpa using h)]
          case k2 => rw [hnx, hd1, if_neg (c := e.2 = x) (by simpa using h2)]; simp
    case hd =>
      rintro ρ ⟨b, c, ds, rfl, hds⟩
      refine run_give (i := 2) rfl (run_cons (run_ret (d := .py (dL (MK.touching E x))) ?_ rfl))
      rw [hds, List.length_map, MK.ln, List.length_map, List.take_length]
      fail "ev"
abbrev s_cell : Stmt := top 32
theorem sc_cell : FnScope ["_law_script", "_law_k"] ["_law_script", "_law_k"] (defScope s_cell) := ⟨rfl, rfl, rfl, by decide +kernel, rfl, by decide +kernel, by decide +kernel⟩
def cellF (sc : List Int) (k : Int) : Int := if sc = [] then 0 else sc.getD (k % (sc.length : Int)).toNat 0
inductive F_cell (ds : List Dt) (r : DRes) : Prop
  | mk (sc : _) (k : _) (c0 : ds = [.py (dL sc), dI k]) (c1 : sc.length ≤ 63) (c2 : r = .val (dI (cellF sc k))) : F_cell ds r
theorem ok_cell {k : Nat} {f : Addr} {fd : FuncData} (F : Fun K "_law_cell" "_law_cell" s_cell f fd) (T : Txt K mg cSE cBW cBM cBS cUL cNT cBT) : FnOk P w K mg base (CX1 P w) (k + 1) f fd ["_law_script", "_law_k"] (spD K F_cell) := by
  refine F.okD sc_cell (by decide) (fun ds r h => ?_) fun cdv A outer s H E' B ds r hr R h => ?_
  · obtain ⟨_, _, rfl, _⟩ := h; rfl
  · obtain ⟨sc, k, rfl, hl, rfl⟩ := h
    have hu := hr.units; have m_len := T.len; refine' run_cons (run_if (r := !sc.isEmpty) ?c1 ?r1 fun h1 => run_nil ?k1)
    case c1 =>
      refine Tv.to (by fail "tv") ?_
      cases sc <;> rfl
    case r1 =>
      intro h; have hne : sc ≠ [] := by rintro rfl; cases h
      have hp : 0 < sc.length := List.length_pos_iff.mpr hne; have hp' : (0 : Int) < ((sc.map PyData.int).length : Int) := by rw [List.length_map]; fail"o"
      refine' run_cons (run_ret (d := dI (cellF sc k)) ?d1 rfl)
      have h1 := Int.emod_nonneg k (show (sc.length : Int) ≠ 0 by fail"o")
      have h2 := Int.emod_lt_of_pos k (show (0 : Int) < (sc.length : Int) by fail"o")
      have ei : sc[(k % (sc.length : Int)).toNat]? = some (cellF sc k) := by
        unfold cellF; rw [if_neg hne, List.getD_eq_getElem?_getD]
        have : (k % (sc.length : Int)).toNat < sc.length := by fail"o"
        simp [this]
      have ea : atI (sc.map PyData.int) (k % ((sc.map PyData.int).length : Int)) = some (.int (cellF sc k)) := by
        have := atI_map (f := PyData.int) ei; rw [Int.toNat_of_nonneg h1] at this; rw [List.length_map]; exact this
      fail "ev"
    case k1 =>
      have he : sc = [] := by cases sc with
        | nil => rfl
        | cons a b => cases h1
      refine run_cons (run_ret ev_int ?_)
      unfold cellF; rw [if_pos he]; rfl
abbrev s_mix : Stmt := top 33
theorem sc_mix : FnScope ["_law_script", "_law_k", "_law_number"] ["_law_script", "_law_k"] (defScope s_mix) := ⟨rfl, rfl, rfl, by decide +kernel, rfl, by decide +kernel, by decide +kernel⟩
def mixA (sc : List Int) (k : Int) : Int := (cellF sc k + 104729 * (k + 1)) % 4294967291 * 48271 % 4294967279
def mixF (sc : List Int) (k : Int) : Int := (mixA sc k / 64 * 69621 + mixA sc k) % 4294967231
inductive F_mix (ds : List Dt) (r : DRes) : Prop
  | mk (sc : _) (k : _) (c0 : ds = [.py (dL sc), dI k]) (c1 : sc.length ≤ 63) (c2 : r = .val (dI (mixF sc k))) : F_mix ds r
theorem ok_mix {k : Nat} {f : Addr} {fd : FuncData} (F : Fun K "_law_mix" "_law_mix" s_mix f fd) (T : Txt K mg cSE cBW cBM cBS cUL cNT cBT)
    (D1 : Dfn P w K mg base k "_law_cell" ["_law_script", "_law_k"] (spD K F_cell)) : FnOk P w K mg base (CX1 P w) (k + 1) f fd ["_law_script", "_law_k"] (spD K F_mix) := by
  refine F.okD sc_mix (by decide) (fun ds r h => ?_) fun cdv A outer s H E' B ds r hr R h => ?_
  · obtain ⟨_, _, rfl, _⟩ := h; rfl
  · obtain ⟨sc, k, rfl, hl, rfl⟩ := h
    have hu := hr.units; have fc : F_cell [.py (dL sc), dI k] (.val (dI (cellF sc k))) := ⟨sc, k, rfl, hl, rfl⟩; refine' run_cons (run_set (i := 2) ?a1 ?a2 sc_mix.nd rfl (Or.inl rfl) rfl (Or.inl rfl))
    case a1 => fail "ev"
    refine' run_cons (run_set (i := 2) (d := dI (mixA sc k)) ?b1 ?b2 sc_mix.nd rfl (Or.inl rfl) rfl (Or.inl rfl))
    case b1 => fail "ev"
    refine' run_cons (run_ret (d := dI (mixF sc k)) ?c1 rfl)
    fail "ev"
abbrev s_lis : Stmt := top 35
theorem sc_lis : FnScope ["_law_web_here", "_law_marks_here"] ["_law_web_here", "_law_marks_here"] (defScope s_lis) := ⟨rfl, rfl, rfl, by decide +kernel, rfl, by decide +kernel, by decide +kernel⟩
inductive F_lis (ds : List Dt) (r : DRes) : Prop
  | mk (n : _) (E : _) (m : _) (c0 : ds = [web n (MK.ln E), .py (dM m)]) (c1 : E.length < 1000) (c2 : r = .val (dB (MK.apart E m))) : F_lis ds r
theorem ok_lis {k : Nat} {f : Addr} {fd : FuncData} (F : Fun K "_law_is_marks" "_law_is_marks" s_lis f fd) (T : Txt K mg cSE cBW cBM cBS cUL cNT cBT) : FnOk P w K mg base (CX1 P w) (k + 1) f fd ["_law_web_here", "_law_marks_here"] (spD K F_lis) := by
  refine F.okD sc_lis (by decide) (fun ds r h => ?_) fun cdv A outer s H E' B ds r hr R h => ?_
  · obtain ⟨_, _, _, rfl, _⟩ := h; rfl
  · obtain ⟨n, E, m, rfl, hE, rfl⟩ := h
    have hu := hr.units; refine run_cons (run_ret (d := dB (MK.apart E m)) ?_ rfl)
    refine' Ev.to (ev_not (r := (E.map fun e => decide (e.1 ∈ m) && decide (e.2 ∈ m)).any id) ?a0) ?a9
    case a9 =>
      unfold MK.apart; rw [List.any_map]
      congr 4
      funext e
      show id (decide (e.1 ∈ m) && decide (e.2 ∈ m)) = (MK.has m e.1 && MK.has m e.2)
      rw [Bool.eq_iff_iff]; simp [MK.has_iff]
    case a0 =>
      refine' ev_callB (ds := [.py (.list ((E.map fun e => decide (e.1 ∈ m) && decide (e.2 ∈ m)).map .bool))]) ?a1 (c_any rfl) rfl T.any boot_any (by decide) (by decide) rfl rfl
      refine' eva_cons ?b1 eva_nil rfl
      refine Ev.to (ev_compG (α := Int × Int) (enc := encE) (ns := E) (b := fun _ => true) (f := fun e => .bool (decide (e.1 ∈ m) && decide (e.2 ∈ m))) (N := ["_law_one", "_law_other", "_law_marks_here"]) (src := [none, none, some 1]) (ρx := fun e => [.dat (dI e.1), .dat (dI e.2), .dat (.py (dM m))]) decE decE_enc rfl (compOk_mk (defScope s_lis) ["_law_web_here", "_law_marks_here"] rfl rfl (by decide +kernel)) (it_list ?_) ?_ ?_ (fun _ => rfl)) ?_
      · rw [← ln_enc]; fail "ev"
      · intro L s₀ H₀ fp e he
        refine ⟨_, tg_pair (i := 0) (j := 1) rfl (show (["_law_one", "_law_other", "_law_marks_here"] : List Str).Nodup by decide +kernel) rfl rfl (Or.inl rfl) (Or.inl rfl) (Or.inr rfl) (Or.inr rfl), by simp, fun B => ⟨tvs_nil, fun _ => ?_⟩⟩
        refine' ev_and ?c1 fun _ => ev_one ?c2
        case c1 => fail "ev"
        case c2 => fail "ev"
      · exact size_le (by fail"o")
      · rw [List.filter_eq_self.mpr (fun _ _ => rfl), List.map_map]; rfl
abbrev s_web : Stmt := top 34
abbrev n_web : List Str := ["_law_script", "_law_k", "_law_places", "_law_many", "_law_way", "_law_lines", "_law_other", "_law_one", "_law_number", "_law_bush"]
theorem sc_web : FnScope n_web ["_law_script", "_law_k", "_law_places"] (defScope s_web) := ⟨rfl, rfl, rfl, by decide +kernel, rfl, by decide +kernel, by decide +kernel⟩
def WebP (p n : Int) (E : MK.Edges) : Prop := 1 ≤ n ∧ n ≤ p ∧ E.length ≤ 60 ∧ MK.webOk ltL n (MK.ln E) = true
inductive F_web (K : Frag) (ds : List Dt) (r : DRes) : Prop
  | mk (sc : _) (k : _) (p : _) (c0 : ds = [.py (dL sc), dI k, dI p]) (c1 : sc.length ≤ 63) (c2 : 1 ≤ p) (c3 : p ≤ 8) (c4 : r = .val (exD K fun d => ∃ n E, d = web n (MK.ln E) ∧ WebP p n E)) : F_web K ds r
structure WI (n way o c : Int) (L : MK.Edges) : Prop where
  inn : ∀ e ∈ L, 0 ≤ e.1 ∧ e.1 < e.2 ∧ e.2 < n
  nd : L.Nodup
  ord : ∀ e ∈ L, e.2 < o ∨ (e.2 = o ∧ e.1 < c)
  road : way = 2 → ∀ e ∈ L, e.1 + 1 = e.2
theorem WI.add {n way o c : Int} {L : MK.Edges} (h : WI n way o c L) (h1 : 0 ≤ c) (h2 : c < o) (h3 : o < n) (hr : way = 2 → c + 1 = o) : WI n way o (c + 1) (L ++ [(c, o)]) where
  inn := fun e he => by
    rcases List.mem_append.mp he with he | he
    · exact h.inn e he
    · have : e = (c, o) := by simpa using he
      subst this; exact ⟨h1, h2, h3⟩
  nd := by
    rw [List.nodup_append]; refine ⟨h.nd, by simp, fun a ha b hb q => ?_⟩
    have : b = (c, o) := by simpa using hb
    subst this; subst q; have := h.ord _ ha; dsimp only at this
    fail"o"
  ord := fun e he => by
    rcases List.mem_append.mp he with he | he
    · have := h.ord e he; fail"o"
    · have : e = (c, o) := by simpa using he
      subst this; dsimp only; fail"o"
  road := fun hw e he => by
    rcases List.mem_append.mp he with he | he
    · exact h.road hw e he
    · have : e = (c, o) := by simpa using he
      subst this; exact hr hw
theorem WI.nil {n way o c : Int} : WI n way o c [] := ⟨(by simp), List.nodup_nil, (by simp), (by simp)⟩
theorem WI.skip {n way o c : Int} {L : MK.Edges} (h : WI n way o c L) : WI n way o (c + 1) L := ⟨h.inn, h.nd, fun e he => by have := h.ord e he; fail"o", h.road⟩
theorem WI.next {n way o : Int} {L : MK.Edges} (h : WI n way o o L) : WI n way (o + 1) 0 L := ⟨h.inn, h.nd, fun e he => by have := h.ord e he; fail"o", h.road⟩
inductive JB1 (K : Frag) (sc : List Int) (k p n way : Int) (i : Nat) (ρ : List Bd) : Prop
  | mk (L : MK.Edges) (b6 b7 b8 b9 : Bd) (c0 : ρ = [.dat (.py (dL sc)), .dat (dI k), .dat (dI p), .dat (dI n), .dat (dI way), ownL K (L.map encE), b6, b7, b8, b9]) (c1 : WI n way (1 + (i : Int)) 0 L) (c2 : L.length ≤ 8 * i) : JB1 K sc k p n way i ρ
inductive JB2 (K : Frag) (sc : List Int) (k p n way : Int) (i j : Nat) (ρ : List Bd) : Prop
  | mk (L : MK.Edges) (b7 b8 b9 : Bd) (c0 : ρ = [.dat (.py (dL sc)), .dat (dI k), .dat (dI p), .dat (dI n), .dat (dI way), ownL K (L.map encE), .dat (dI (1 + (i : Int))), b7, b8, b9]) (c1 : WI n way (1 + (i : Int)) (j : Int) L) (c2 : L.length ≤ 8 * i + j) : JB2 K sc k p n way i j ρ
theorem ok_web {k : Nat} {f : Addr} {fd : FuncData} (F : Fun K "_law_web" "_law_web" s_web f fd) (T : Txt K mg cSE cBW cBM cBS cUL cNT cBT)
    (D1 : Dfn P w K mg base k "_law_mix" ["_law_script", "_law_k"] (spD K F_mix)) : FnOk P w K mg base (CX1 P w) (k + 1) f fd ["_law_script", "_law_k", "_law_places"] (spD K (F_web K)) := by
  refine F.okD sc_web (by decide) (fun ds r h => ?_) fun cdv A outer s H E' B ds r hr R h => ?_
  · obtain ⟨_, _, _, rfl, _⟩ := h; rfl
  · obtain ⟨sc, k, p, rfl, hl, hp1, hp2, rfl⟩ := h
    have hu := hr.units
    let X : Cx := cxOf (CX1 P w) P w K mg base n_web "_law_web" (defScope s_web) f cdv A outer s H E'
    show RunS X B _ _ _
    have m_range := T.range; refine' run_cons (run_set (i := 3) (d := dI (1 + mixF sc k % p)) ?a1 ?a2 sc_web.nd rfl (Or.inl rfl) rfl (Or.inl rfl))
    case a1 => fail "ev"
    refine' run_cons (run_set (i := 4) (d := dI (mixF sc (k + 1) % 5)) ?a3 ?a4 sc_web.nd rfl (Or.inl rfl) rfl (Or.inl rfl))
    case a3 => fail "ev"
    have hn1 : 1 ≤ 1 + mixF sc k % p := by have := Int.emod_nonneg (mixF sc k) (show p ≠ 0 by fail"o"); fail"o"
    have hn2 : 1 + mixF sc k % p ≤ p := by have := Int.emod_lt_of_pos (mixF sc k) (show 0 < p by fail"o"); fail"o"
    generalize 1 + mixF sc k % p = n at hn1 hn2
    generalize mixF sc (k + 1) % 5 = way
    refine run_cons (run_own (i := 5) evp_nil ?_ (size_le (by decide)) sc_web.nd rfl (Or.inl rfl) rfl (Or.inl rfl))
    refine' run_seq (fun ρ => ∃ (L : MK.Edges) (b6 b7 b8 b9 : Bd), ρ = [.dat (.py (dL sc)), .dat (dI k), .dat (dI p), .dat (dI n), .dat (dI way), ownL K (L.map encE), b6, b7, b8, b9] ∧ WI n way n 0 L ∧ L.length ≤ 56) ?s1 ?s2
    case s1 =>
      refine' run_for (xs := rng 1 (n - 1).toNat) owns rfl (it_range2 ?it1 ?it2 ⟨by fail"o", by fail"o", by fail"o", by fail"o"⟩ rfl T.range rfl rfl) (JB1 K sc k p n way) ?h0 ?hs ?hd (fun _ => rfl)
      case it1 => fail "ev"
      case it2 => fail "ev"
      case h0 => exact ⟨[], _, _, _, _, rfl, WI.nil, by simp⟩
      case hd =>
        rintro ρ ⟨L, b6, b7, b8, b9, rfl, hw, hlen⟩
        rw [rng_length] at hw hlen; refine ⟨L, _, _, _, _, rfl, ?_, by fail"o"⟩
        have : 1 + (((n - 1).toNat : Nat) : Int) = n := by fail"o"
        rw [this] at hw; exact hw
      case hs =>
        rintro i d ρ hd ⟨L, b6, b7, b8, b9, rfl, hw, hlen⟩
        obtain ⟨hi, rfl⟩ := rng_get hd; refine ⟨_, _, tg_name (i := 6) sc_web.nd rfl (Or.inl rfl) (Or.inl rfl), ?_⟩
        refine run_gen fun D' hn hrt => ?_
        refine' run_cons (run_for (xs := rng 0 (1 + (i : Int)).toNat) owns rfl (it_range1 ?it3 (by fail"o") (by fail"o") rfl T.range rfl) (JB2 K sc k p n way i) ?g0 ?gs ?gd (fun _ => rfl))
        case it3 => fail "ev"
        case g0 => exact ⟨L, _, _, _, rfl, hw, by fail"o"⟩
        case gd =>
          rintro ρ ⟨L, b7, b8, b9, rfl, hw, hlen⟩
          rw [rng_length] at hw hlen; refine run_nil (hn _ ⟨L, _, _, _, _, rfl, ?_, by fail"o"⟩)
          have e1 : (((1 + (i : Int)).toNat : Nat) : Int) = 1 + (i : Int) := by fail"o"
          rw [e1] at hw; have := hw.next; have e2 : 1 + ((i + 1 : Nat) : Int) = 1 + (i : Int) + 1 := by fail"o"
          rw [e2]; exact this
        case gs =>
          rintro j d ρ hd ⟨L, b7, b8, b9, rfl, hw, hlen⟩
          obtain ⟨hj, rfl⟩ := rng_get hd; rw [Int.zero_add]; refine ⟨_, _, tg_name (i := 7) sc_web.nd rfl (Or.inl rfl) (Or.inl rfl), ?_⟩
          refine run_gen fun D' hn hrt => ?_
          have ho : 0 < 1 + (i : Int) := by fail"o"
          refine' run_cons (run_set (i := 8) ?c1 ?c2 sc_web.nd rfl (Or.inl rfl) rfl (Or.inl rfl))
          case c1 => fail "ev"
          refine' run_cons (run_set (i := 9) ?c3 ?c4 sc_web.nd rfl (Or.inl rfl) rfl (Or.inl rfl))
          case c3 => fail "ev"
          refine' run_cons (run_if ?d1 ?d2 ?d3)
          case d1 => fail "tv"
          case d2 =>
            intro h
            have hrd : way = 2 → (j : Int) + 1 = 1 + (i : Int) := fun h2 => by
              simp [h2] at h
              fail"o"
            refine' run_cons (run_append (i := 5) (y := encE ((j : Int), 1 + (i : Int))) rfl ?e1 (run_nil (run_nil (hn _ ⟨L ++ [((j : Int), 1 + (i : Int))], _, _, _, ?e2, ?e3, by simp; fail"o"⟩))) (size_lt (by rw [List.length_map]; fail"o")) rfl (Or.inl rfl) (by decide) (by decide) rfl rfl rfl rfl rfl)
            case e1 => fail "ev"
            case e2 => rw [List.map_append]; rfl
            case e3 =>
              have := hw.add (by fail"o") (by fail"o") (by fail"o") hrd
              exact this
          case d3 =>
            intro h; exact run_nil (run_nil (hn _ ⟨L, _, _, _, rfl, hw.skip, by fail"o"⟩))
    case s2 =>
      rintro ρ ⟨L, b6, b7, b8, b9, rfl, hw, hlen⟩
      refine' run_seq (fun ρ => ∃ (L : MK.Edges) (b6 b7 b8 b9 : Bd), ρ = [.dat (.py (dL sc)), .dat (dI k), .dat (dI p), .dat (dI n), .dat (dI way), ownL K (L.map encE), b6, b7, b8, b9] ∧ (∀ e ∈ L, 0 ≤ e.1 ∧ e.1 < e.2 ∧ e.2 < n) ∧ L.Nodup ∧ L.length ≤ 60) ?t1 ?t2
      case t1 =>
        refine' run_if ?f1 ?f2 ?f3
        case f1 => fail "tv"
        case f3 => exact fun _ => run_nil ⟨L, _, _, _, _, rfl, hw.inn, hw.nd, by fail"o"⟩
        case f2 =>
          intro h; simp at h; obtain ⟨hway, hn3, _⟩ := h; refine' run_cons (run_append (i := 5) (y := encE ((0 : Int), n - 1)) rfl ?g1 (run_nil ⟨L ++ [((0 : Int), n - 1)], _, _, _, _, ?g2, ?g3, ?g4, by simp; fail"o"⟩) (size_lt (by rw [List.length_map]; fail"o")) rfl (Or.inl rfl) (by decide) (by decide) rfl rfl rfl rfl rfl)
          case g1 => fail "ev"
          case g2 => rw [List.map_append]; rfl
          case g3 =>
            intro e he; rcases List.mem_append.mp he with he | he
            · exact hw.inn e he
            · have : e = (0, n - 1) := by simpa using he
              subst this; dsimp only; fail"o"
          case g4 =>
            rw [List.nodup_append]; refine ⟨hw.nd, by simp, fun a ha b hb q => ?_⟩
            have : b = (0, n - 1) := by simpa using hb
            subst this; subst q; have := hw.road hway _ ha; dsimp only at this
            fail"o"
      case t2 =>
        rintro ρ ⟨L, b6, b7, b8, b9, rfl, hin, hnd, hlen⟩
        refine run_give (i := 5) rfl ?_
        refine' run_cons (run_ret (ev_ex (d := web n (sortM (MK.ln L))) ?u1 ?u2) rfl)
        case u1 =>
          refine' ev_tup (ds := [.int n, dMs (sortM (MK.ln L))]) ?v1 (size_ble rfl)
          refine' evp_cons ?v2 (evp_cons ?v3 evp_nil rfl) rfl
          case v2 => fail "ev"
          case v3 =>
            refine' ev_callB (ds := [setMD K w (MK.ln L)]) ?w1 (c_sortedS rfl (by rw [MK.ln, List.length_map]; exact hlen) ?w2) rfl T.sorted boot_sorted (by decide) (by decide) rfl rfl
            case w2 =>
              intro m hm; obtain ⟨e, _, rfl⟩ := List.mem_map.mp hm; exact fun h => nomatch h
            refine' eva_cons ?x1 eva_nil rfl
            refine' ev_callTy (ds := [.py (dMs (MK.ln L))]) ?x2 (c_setM rfl hu (by rw [MK.ln, List.length_map]; exact hlen) (hT_nodup hnd fun e he => by have := hin e he; fail"o")) rfl T.set boot_set (by decide) (by decide) rfl rfl
            unfold dMs; rw [ln_enc]
            fail "eva"
        case u2 =>
          have hmem : ∀ m, m ∈ sortM (MK.ln L) → ∃ e ∈ L, [e.1, e.2] = m := fun m hm => by
            obtain ⟨e, he, q⟩ := List.mem_map.mp ((isort_perm _).mem_iff.mp hm); exact ⟨e, he, q⟩
          have hlen2 : ∀ m ∈ sortM (MK.ln L), m.length = 2 := fun m hm => by obtain ⟨e, _, rfl⟩ := hmem m hm; rfl
          refine ⟨n, MK.ends (sortM (MK.ln L)), by rw [MK.ln_ends hlen2], hn1, hn2, ?_, ?_⟩
          · have h1 := congrArg List.length (MK.ln_ends hlen2)
            have h2 : (MK.ln (MK.ends (sortM (MK.ln L)))).length = (MK.ends (sortM (MK.ln L))).length := List.length_map ..; have h3 : (sortM (MK.ln L)).length = (MK.ln L).length := (isort_perm _).length_eq; have h4 : (MK.ln L).length = L.length := List.length_map ..
            fail"o"
          · rw [MK.ln_ends hlen2]
            unfold MK.webOk; have h1 : (decide (1 ≤ n) && decide (n ≤ 12)) = true := by simp; fail"o"
            have h2 : (sortM (MK.ln L)).all (MK.isLine n) = true := List.all_eq_true.mpr fun m hm => by
              obtain ⟨e, he, rfl⟩ := hmem m hm; have := hin e he; simp [MK.isLine]
              fail"o"
            rw [h1, h2, rises_sortM (ln_nodup hnd)]; rfl
abbrev s_marks : Stmt := top 36
abbrev n_marks : List Str := ["_law_script", "_law_k", "_law_web_here", "_law_most", "_law_found", "_law_j", "_law_free"]
theorem sc_marks : FnScope n_marks ["_law_script", "_law_k", "_law_web_here", "_law_most"] (defScope s_marks) := ⟨rfl, rfl, rfl, by decide +kernel, rfl, by decide +kernel, by decide +kernel⟩
inductive F_marks (K : Frag) (ds : List Dt) (r : DRes) : Prop
  | mk (sc : _) (k : _) (n : _) (E : _) (q : _) (c0 : ds = [.py (dL sc), dI k, web n (MK.ln E), dI q]) (c1 : sc.length ≤ 63) (c2 : 0 ≤ n) (c3 : n ≤ 12) (c4 : E.length < 1000) (c5 : 0 ≤ q) (c6 : q ≤ 4) (c7 : r = .val (exD K fun d => ∃ m, d = .py (dM m) ∧ MK.Marks n E m ∧ m.length ≤ 4)) : F_marks K ds r
inductive JM (sc : List Int) (k n q : Int) (E : MK.Edges) (i : Nat) (ρ : List Bd) : Prop
  | mk (m : List Int) (b c : Bd) (c0 : ρ = [.dat (.py (dL sc)), .dat (dI k), .dat (web n (MK.ln E)), .dat (dI q), .dat (.py (dM m)), b, c]) (c1 : MK.Marks n E m) (c2 : m.length ≤ i) : JM sc k n q E i ρ
theorem ok_marks {k : Nat} {f : Addr} {fd : FuncData} (F : Fun K "_law_marks" "_law_marks" s_marks f fd) (T : Txt K mg cSE cBW cBM cBS cUL cNT cBT)
    (D1 : Dfn P w K mg base k "_law_mix" ["_law_script", "_law_k"] (spD K F_mix)) (D2 : Dfn P w K mg base k "_law_is_marks" ["_law_web_here", "_law_marks_here"] (spD K F_lis)) : FnOk P w K mg base (CX1 P w) (k + 1) f fd ["_law_script", "_law_k", "_law_web_here", "_law_most"] (spD K (F_marks K)) := by
  refine F.okD sc_marks (by decide) (fun ds r h => ?_) fun cdv A outer s H E' B ds r hr R h => ?_
  · obtain ⟨_, _, _, _, _, rfl, _⟩ := h; rfl
  · obtain ⟨sc, k, n, E, q, rfl, hl, hn0, hn, hE, hq0, hq, rfl⟩ := h
    have hu := hr.units
    let X : Cx := cxOf (CX1 P w) P w K mg base n_marks "_law_marks" (defScope s_marks) f cdv A outer s H E'
    show RunS X B _ _ _
    have m_range := T.range; have m_len := T.len; have m_tuple := T.tuple; have m_sorted := T.sorted; refine' run_cons (run_set (i := 4) (d := .py (dM [])) ?a1 ?a2 sc_marks.nd rfl (Or.inr rfl) rfl (Or.inl rfl))
    case a1 => fail "ev"
    have hc1 := Int.emod_nonneg (mixF sc k) (show q + 1 ≠ 0 by fail"o")
    have hc2 := Int.emod_lt_of_pos (mixF sc k) (show 0 < q + 1 by fail"o")
    refine' run_cons (run_for (xs := rng 0 (mixF sc k % (q + 1)).toNat) owns rfl (it_range1 ?it1 (by fail"o") (by fail"o") rfl T.range rfl) (JM sc k n q E) ?h0 ?hs ?hd (fun _ => rfl))
    case it1 => fail "ev"
    case h0 => exact ⟨[], _, _, rfl, MK.Marks.nil, by simp⟩
    case hd =>
      rintro ρ ⟨m, b, c, rfl, hM, hml⟩
      rw [rng_length] at hml; refine' run_cons (run_ret (ev_ex (d := .py (dM m)) ?z1 ⟨m, rfl, hM, by fail"o"⟩) rfl)
      fail "ev"
    case hs =>
      rintro i d ρ hd ⟨m, b, c, rfl, hM, hml⟩
      obtain ⟨hi, rfl⟩ := rng_get hd; have hml' : m.length < 1000 := by fail"o"
      refine ⟨_, _, tg_name (i := 5) sc_marks.nd rfl (Or.inl rfl) (Or.inl rfl), ?_⟩
      refine run_gen fun D' hn hrt => ?_
      rw [Int.zero_add]; refine' run_cons (run_setCompG (i := 6) (α := Int) (enc := .int) (ns := MK.spots n) (b := fun x => !decide (x ∈ m) && MK.apart E (m ++ [x])) (f := .int) (N := ["_law_spot", "_law_found", "_law_web_here"]) (src := [none, some 4, some 2]) (ρx := fun x => [.dat (dI x), .dat (.py (dM m)), .dat (web n (MK.ln E))]) decI decI_enc rfl (compOk_mk (defScope s_marks) n_marks rfl rfl (by decide +kernel)) ?b1 ?b2 ?b3 (by rw [MK.spots_length]; exact size_le (by fail"o")) sc_marks.nd rfl rfl rfl (fun _ => rfl))
      case b1 =>
        rw [← rng_spots]; refine' it_range1 ?it2 (by fail"o") (by fail"o") rfl T.range rfl
        fail "ev"
      case b2 =>
        intro L s₀ H₀ fp x hx; have fl : F_lis [web n (MK.ln E), .py (dM (m ++ [x]))] (.val (dB (MK.apart E (m ++ [x])))) := ⟨n, E, _, rfl, hE, rfl⟩; refine ⟨_, tg_name (i := 0) (show (["_law_spot", "_law_found", "_law_web_here"] : List Str).Nodup by decide +kernel) rfl (Or.inl rfl) (Or.inr rfl), by simp, fun B => ⟨tvs_one ?_, fun _ => ?_⟩⟩
        · fail "tv"
        · fail "ev"
      case b3 =>
        generalize hfr : (MK.spots n).filter (fun x => !decide (x ∈ m) && MK.apart E (m ++ [x])) = free
        have hfl : free.length ≤ 12 := by
          rw [← hfr]; have := List.length_filter_le (fun x => !decide (x ∈ m) && MK.apart E (m ++ [x])) (MK.spots n)
          rw [MK.spots_length] at this
          fail"o"
        have oe : CmpD (cxOf (CX1 P w) P w K mg base n_marks "_law_marks" (defScope s_marks) f cdv A outer s H E') .NotEq (.py (dL free)) (.py (.list [])) (!decide (free = [])) :=
          o_ne hu (goodInt.list.lay free) (goodInt.list.lay []) (Nat.le_trans (goodInt.list.dep free) (by decide)) (goodInt.list.eqv free [])
        refine' run_cons (run_if (r := !decide (free = [])) ?c1 ?c2 fun h => run_nil (run_nil (hn _ ⟨m, _, _, rfl, hM, by fail"o"⟩)))
        case c1 => fail "tv"
        case c2 =>
          intro h; have hne : free ≠ [] := by simpa using h
          have hpos : 0 < free.length := List.length_pos_iff.mpr hne; have hpos' : (0 : Int) < ((free.map PyData.int).length : Int) := by rw [List.length_map]; fail"o"
          generalize hix : mixF sc (k + 1 + (i : Int)) / 4 % ((free.map PyData.int).length : Int) = ix
          have hix1 : 0 ≤ ix := by rw [← hix]; exact Int.emod_nonneg _ (by fail"o")
          have hix2 : ix < (free.length : Int) := by
            have := Int.emod_lt_of_pos (mixF sc (k + 1 + (i : Int)) / 4) hpos'; rw [hix, List.length_map] at this; exact this
          have hlt : ix.toNat < free.length := by fail"o"
          have ex : free[ix.toNat]? = some free[ix.toNat] := by simp [hlt]
          have hxm : free[ix.toNat] ∈ free := List.getElem_mem hlt
          generalize free[ix.toNat] = x at ex hxm
          have ea : atI (free.map PyData.int) (mixF sc (k + 1 + (i : Int)) / 4 % ((free.map PyData.int).length : Int)) = some (.int x) := by
            rw [hix]; have := atI_map (f := PyData.int) ex; rw [Int.toNat_of_nonneg hix1] at this; exact this
          have hx : x ∈ MK.spots n ∧ x ∉ m ∧ MK.apart E (m ++ [x]) = true := by
            rw [← hfr, List.mem_filter] at hxm; simpa using hxm
          have hxs := MK.mem_spots.mp hx.1
          have hnd : (m ++ [x]).Nodup := by
            rw [List.nodup_append]; refine ⟨MK.nodup_of_lt hM.ris, by simp, fun a ha b hb q => hx.2.1 ?_⟩
            have : b = x := by simpa using hb
            rw [← this, ← q]; exact ha
          have hmem : ∀ y, y ∈ L2.sortI (m ++ [x]) ↔ y ∈ m ++ [x] := fun y => (isort_perm _).mem_iff
          have hM' : MK.Marks n E (L2.sortI (m ++ [x])) := by
            refine ⟨fun y hy => ?_, MK.apart_mono (fun y hy => (hmem y).mp hy) hx.2.2, MK.rises_pairwise.mp (rises_sortI hnd)⟩
            rcases List.mem_append.mp ((hmem y).mp hy) with hy | hy
            · exact hM.inn y hy
            · have : y = x := by simpa using hy
              rw [this]; exact hxs
          have cs : CallD (cxOf (CX1 P w) P w K mg base n_marks "_law_marks" (defScope s_marks) f cdv A outer s H E') (.builtin "sorted") [.py (dM (m ++ [x]))] (.py (dL (L2.sortI (m ++ [x])))) := c_sortedI (.inr rfl) (by simp; fail"o")
          have ct : CallD (cxOf (CX1 P w) P w K mg base n_marks "_law_marks" (defScope s_marks) f cdv A outer s H E') (.type "tuple") [.py (dL (L2.sortI (m ++ [x])))] (.py (dM (L2.sortI (m ++ [x])))) := c_tuple (.inl rfl); refine' run_cons (run_set (i := 4) (d := .py (dM (L2.sortI (m ++ [x])))) ?d1 (run_nil (run_nil (hn _ ⟨_, _, _, rfl, hM', ?d2⟩))) sc_marks.nd rfl (Or.inr rfl) rfl (Or.inl rfl))
          case d1 =>
            refine' ev_callTy ?y1 ct rfl T.tuple boot_tuple (by decide) (by decide) rfl rfl
            refine' eva_cons ?y2 eva_nil rfl
            refine' ev_callB ?y3 cs rfl T.sorted boot_sorted (by decide) (by decide) rfl rfl
            refine' eva_cons ?y4 eva_nil rfl
            refine' ev_bin (da := .py (dM m)) (db := .py (.tuple [.int x])) ?y5 ?y6 (o_catM1 hml')
            case y5 => fail "ev"
            refine' ev_tup ?y7 (size_ble rfl)
            refine' evp_cons ?y8 evp_nil rfl
            refine' ev_ix (da := .py (dL free)) (db := dI (mixF sc (k + 1 + (i : Int)) / 4 % ((free.map PyData.int).length : Int))) ?y9 ?y10 (ixd_L ea) (fun _ _ => rfl)
            case y9 => fail "ev"
            refine' ev_bin (da := dI (mixF sc (k + 1 + (i : Int)) / 4)) (db := dI ((free.map PyData.int).length : Int)) ?y11 ?y12 (o_mod hpos')
            case y12 => fail "ev"
            case y11 => fail "ev"
          case d2 => rw [(isort_perm _).length_eq]; simp; fail"o"
structure Kits (K : Frag) (cSE cBW cBM cBS cUL cNT cBT C : Addr) (b1 b2 b3 b4 b5 b6 : Bool) : Prop where
  e : ExcC K C
  k1 : kitOne K (.ref C) (.ref cBM) = some b1
  k2 : kitOne K (.ref C) (.ref cBS) = some b2
  k3 : kitOne K (.ref C) (.ref cBT) = some b3
  k4 : kitOne K (.ref C) (.ref cBW) = some b4
  k5 : kitOne K (.ref C) (.ref cNT) = some b5
  k6 : kitOne K (.ref C) (.ref cUL) = some b6
  kv : kitOne K (.ref C) (.type "ValueError") = some true
  x : exmOne K (.ref C) (.ref cSE) = some true
def words : List Str := ["marks", "slide", "text", "web", "tree", "unlike"]
inductive F_refusalX (K : Frag) (cSE cBW cBM cBS cUL cNT cBT : Addr) (ds : List Dt) (r : DRes) : Prop
  | mk (C : Addr) (b1 b2 b3 b4 b5 b6 : Bool) (j : Nat) (x : Str) (c0 : ds = [excD C]) (c1 : Kits K cSE cBW cBM cBS cUL cNT cBT C b1 b2 b3 b4 b5 b6) (c2 : [b1, b2, b3, b4, b5, b6].count true = 1) (c3 : [b1, b2, b3, b4, b5, b6][j]? = some true) (c4 : (∀ i : Nat, i < j → [b1, b2, b3, b4, b5, b6][i]? = some false)) (c5 : words[j]? = some x) (c6 : r = .val (dS x)) : F_refusalX K cSE cBW cBM cBS cUL cNT cBT ds r
def F_refusal (K : Frag) (cSE cBW cBM cBS cUL cNT cBT : Addr) : Fc := fun ds r => F_refusalX K cSE cBW cBM cBS cUL cNT cBT ds r ∨ (ds = [dN] ∧ r = .val (dS "ok"))
abbrev s_refusal : Stmt := top 40
abbrev n_refusal : List Str := ["_law_kept", "_law_kinds"]
theorem sc_refusal : FnScope n_refusal ["_law_kept"] (defScope s_refusal) := ⟨rfl, rfl, rfl, by decide +kernel, rfl, by decide +kernel, by decide +kernel⟩
theorem boot_VE : bootBuiltins "ValueError" = some (.type "ValueError") := by decide +kernel
theorem ok_refusal {k : Nat} {f : Addr} {fd : FuncData} (F : Fun K "_law_refusal" "_law_refusal" s_refusal f fd) (T : Txt K mg cSE cBW cBM cBS cUL cNT cBT) : FnOk P w K mg base (CX1 P w) (k + 1) f fd ["_law_kept"] (spD K (F_refusal K cSE cBW cBM cBS cUL cNT cBT)) := by
  refine F.okD sc_refusal (by decide) (fun ds r h => ?_) fun cdv A outer s H E' B ds r hr R h => ?_
  · rcases h with h | ⟨rfl, _⟩
    · obtain ⟨_, _, _, _, _, _, _, _, _, rfl, _⟩ := h; rfl
    · rfl
  rcases h with h | ⟨rfl, rfl⟩
  case inr =>
    refine' run_cons (run_if (r := true) ?n1 (fun _ => run_cons (run_ret (d := dS "ok") ev_str rfl)) fun h => nomatch h)
    refine' tv_cmp ?n2 ev_non (o_isN (d := .none) rfl) (nomark _)
    fail "ev"
  · obtain ⟨C, b1, b2, b3, b4, b5, b6, j, x, rfl, Kt, hcount, hj, hlt, hx, rfl⟩ := h
    have hu := hr.units; refine' run_cons (run_if (r := false) ?a1 (fun h => nomatch h) fun _ => run_nil ?a2)
    case a1 =>
      refine' tv_cmp ?a3 ev_non o_isNx (nomark _)
      fail "ev"
    have isx : ∀ {B : Hp × Hp} {ρ : List Bd} {cn : Str} {C' : Addr} {b : Bool} {p1 p2 p3 p4 : Pos}, ρ[0]? = some (.dat (excD C)) → Gl (cxOf (CX1 P w) P w K mg base n_refusal "_law_refusal" (defScope s_refusal) f cdv A outer s H E') cn → mg cn = some (.ref C') → Dbg cn → kitOne K (.ref C) (.ref C') = some b →
        Ev (cxOf (CX1 P w) P w K mg base n_refusal "_law_refusal" (defScope s_refusal) f cdv A outer s H E') B ρ (.Call (.Name "isinstance" p1) [.Name "_law_kept" p2, .Name cn p3] [] p4) (dB b) := fun hρ hg hm hd hk => by
      refine' ev_callB ?z1 (c_isExc (c := .ref _) rfl Kt.e hk) rfl T.isin boot_isinstance (by decide) (by decide) rfl rfl
      refine' eva_cons ?z2 (eva_cons (ev_gv hg hm rfl hd) eva_nil rfl) rfl
      exact ev_var (i := 0) rfl hρ (Or.inl rfl) (by decide) (by decide)
    refine' run_cons (run_set (i := 1) (d := .py (.list ([b1, b2, b3].map .bool))) ?b1 ?b2 sc_refusal.nd rfl (Or.inl rfl) rfl (Or.inl rfl))
    case b1 => exact ev_lst (ds := [.bool b1, .bool b2, .bool b3]) (evp_cons (isx rfl rfl T.bm (by decide) Kt.k1) (evp_cons (isx rfl rfl T.bs (by decide) Kt.k2) (evp_cons (isx rfl rfl T.bt (by decide) Kt.k3) evp_nil rfl) rfl) rfl) (size_ble rfl)
    refine' run_cons (run_set (i := 1) (d := .py (.list ([b1, b2, b3, b4, b5, b6].map .bool))) ?c1 ?c2 sc_refusal.nd rfl (Or.inl rfl) rfl (Or.inl rfl))
    case c1 =>
      refine' ev_bin (da := .py (.list [.bool b1, .bool b2, .bool b3])) (db := .py (.list [.bool b4, .bool b5, .bool b6])) ?c3 ?c4 (o_catL (size_ble rfl))
      case c3 => fail "ev"
      case c4 => exact ev_lst (evp_cons (isx rfl rfl T.bw (by decide) Kt.k4) (evp_cons (isx rfl rfl T.nt (by decide) Kt.k5) (evp_cons (isx rfl rfl T.ul (by decide) Kt.k6) evp_nil rfl) rfl) rfl) (size_ble rfl)
    refine' run_cons (run_if (r := false) ?d1 (fun h => nomatch h) fun _ => run_nil ?d2)
    case d1 =>
      refine' Tv.to (tv_bool (tw_or (r := false) (r' := false) ?e1 fun _ => tw_or1 (Tv.to (tv_not (r := true) ?e2) rfl))) rfl
      case e1 =>
        refine' Tv.to (tv_cmp (da := dI ([b1, b2, b3, b4, b5, b6].count true)) (db := dI 1) ?e3 ev_int (o_neI hu) (nomark _)) ?e4
        case e3 =>
          refine' ev_count ?e5 ev_bl rfl rfl rfl rfl
          fail "ev"
        case e4 => rw [hcount]; rfl
      case e2 =>
        refine' tv_tru (x := .bool true) ?f1 rfl (fun _ => rfl)
        refine' ev_callB ?f2 (c_isExc (c := .ty "ValueError") rfl Kt.e Kt.kv) rfl T.isin boot_isinstance (by decide) (by decide) rfl rfl
        refine' eva_cons ?f3 (eva_cons (ev_bv rfl T.ve boot_VE rfl (by decide) (by decide)) eva_nil rfl) rfl
        fail "ev"
    refine' run_cons (run_ret (d := dS x) ?g1 rfl)
    refine' ev_ix (da := .py (.list (words.map .str))) (db := dI (j : Nat)) ?g2 ?g3 (ixd_L (atI_map hx)) (fun _ _ => rfl)
    case g2 => fail "ev"
    case g3 =>
      refine' ev_index ?g4 ev_bl hj hlt rfl rfl rfl rfl
      fail "ev"
abbrev s_touches_any : Stmt := top 19
theorem sc_touches_any : FnScope ["web", "spot", "some"] ["web", "spot", "some"] (defScope s_touches_any) := ⟨rfl, rfl, rfl, by decide +kernel, rfl, by decide +kernel, by decide +kernel⟩
inductive F_touches_any (ds : List Dt) (r : DRes) : Prop
  | mk (n : Int) (E : MK.Edges) (x : Int) (ss : List Int) (d : PyData) (c0 : ds = [web n (MK.ln E), dI x, .py d]) (cd : d = .list (ss.map .int) ∨ d = .tuple (ss.map .int)) (c1 : E.length < 1000) (c2 : r = .val (dB (MK.touchesAny E x ss))) : F_touches_any ds r
theorem ok_touches_any {k : Nat} {f : Addr} {fd : FuncData} (F : Fun K "touches_any" "touches_any" s_touches_any f fd) (T : Txt K mg cSE cBW cBM cBS cUL cNT cBT)
    (D1 : Dfn P w K mg base k "touching" ["web", "spot"] (spD K F_touching)) : FnOk P w K mg base (CX1 P w) (k + 1) f fd ["web", "spot", "some"] (spD K F_touches_any) := by
  refine F.okD sc_touches_any (by decide) (fun ds r h => ?_) fun cdv A outer s H E' B ds r hr R h => ?_
  · obtain ⟨_, _, _, _, _, rfl, _⟩ := h; rfl
  · obtain ⟨n, E, x, ss, d, rfl, hd, hE, rfl⟩ := h
    have hu := hr.units; have ft : F_touching [web n (MK.ln E), dI x] (.val (.py (dL (MK.touching E x)))) := ⟨n, E, x, rfl, hE, rfl⟩; refine run_cons (run_ret (d := dB (MK.touchesAny E x ss)) ?_ rfl)
    refine' ev_callB (ds := [.py (.list (((MK.touching E x).map fun y => decide (y ∈ ss)).map .bool))]) ?a1 ?a2 rfl T.any boot_any (by decide) (by decide) rfl rfl
    case a2 =>
      have e : MK.touchesAny E x ss = (((MK.touching E x).map fun y => decide (y ∈ ss))).any id := by
        unfold MK.touchesAny MK.has; rw [List.any_map]
        congr 1
        funext y
        rw [Bool.eq_iff_iff]; simp
      rw [e]; exact c_any rfl
    case a1 =>
      refine' eva_cons ?b1 eva_nil rfl
      refine Ev.to (ev_compG (α := Int) (enc := .int) (ns := MK.touching E x) (b := fun _ => true) (f := fun y => .bool (decide (y ∈ ss))) (N := ["other", "some"]) (src := [none, some 2]) (ρx := fun y => [.dat (dI y), .dat (.py d)]) decI decI_enc rfl (compOk_mk (defScope s_touches_any) ["web", "spot", "some"] rfl rfl (by decide +kernel)) (it_list ?_) ?_ ?_ (fun _ => rfl)) ?_
      · fail "ev"
      · intro L s₀ H₀ fp y hy
        refine ⟨_, tg_name (i := 0) (show (["other", "some"] : List Str).Nodup by decide +kernel) rfl (Or.inl rfl) (Or.inr rfl), by simp, fun B => ⟨tvs_nil, fun _ => ?_⟩⟩
        refine' ev_cmp (da := dI y) (db := .py d) ?z1 ?z2 (o_inSq d hd) ?z3
        case z1 => fail "ev"
        case z2 => fail "ev"
        case z3 => fail "mk"
      · have := touching_len (x := x) E
        exact size_le (by fail"o")
      · rw [List.filter_eq_self.mpr (fun _ _ => rfl), List.map_map]; rfl
abbrev s_hanging : Stmt := top 18
theorem sc_hanging : FnScope ["web", "start", "some", "reached", "rim"] ["web", "start", "some"] (defScope s_hanging) := ⟨rfl, rfl, rfl, by decide +kernel, rfl, by decide +kernel, by decide +kernel⟩
inductive F_hanging (ds : List Dt) (r : DRes) : Prop
  | mk (n : Int) (E : MK.Edges) (st : Int) (ss : List Int) (c0 : ds = [web n (MK.ln E), dI st, .py (dL ss)]) (c1 : ss.Nodup) (c2 : ss.length ≤ 12) (c3 : E.length < 1000) (c4 : r = .val (.py (dL (L2.sortI (hangG E st ss))))) : F_hanging ds r
inductive JH (n : Int) (E : MK.Edges) (st : Int) (ss : List Int) (m : Nat) (ρ : List Bd) : Prop
  | mk (t : Nat) (rim : List Int) (c0 : ρ = [.dat (web n (MK.ln E)), .dat (dI st), .dat (.py (dL ss)), .dat (.py (dL (iterG E st ss t))), .dat (.py (dL rim))]) (c1 : rim = [] → rimG E ss (iterG E st ss t) = []) (c2 : m = if rim = [] then 0 else ss.length + 2 - (iterG E st ss t).length + 1) : JH n E st ss m ρ
theorem ok_hanging {k : Nat} {f : Addr} {fd : FuncData} (F : Fun K "hanging" "hanging" s_hanging f fd) (T : Txt K mg cSE cBW cBM cBS cUL cNT cBT)
    (D1 : Dfn P w K mg base k "touches_any" ["web", "spot", "some"] (spD K F_touches_any)) : FnOk P w K mg base (CX1 P w) (k + 1) f fd ["web", "start", "some"] (spD K F_hanging) := by
  refine F.okD sc_hanging (by decide) (fun ds r h => ?_) fun cdv A outer s H E' B ds r hr R h => ?_
  · obtain ⟨_, _, _, _, rfl, _⟩ := h; rfl
  · obtain ⟨n, E, st, ss, rfl, nd, hn, hE, rfl⟩ := h
    have hu := hr.units
    let X : Cx := cxOf (CX1 P w) P w K mg base ["web", "start", "some", "reached", "rim"] "hanging" (defScope s_hanging) f cdv A outer s H E'
    show RunS X B _ _ _
    have m_sorted := T.sorted; refine' run_cons (run_set (i := 3) (d := .py (dL [st])) ?a1 ?a2 sc_hanging.nd rfl (Or.inr rfl) rfl (Or.inl rfl))
    case a1 => fail "ev"
    refine' run_cons (run_set (i := 4) (d := .py (dL [st])) ?b1 ?b2 sc_hanging.nd rfl (Or.inl rfl) rfl (Or.inl rfl))
    case b1 => fail "ev"
    refine' run_cons (run_while owns (JH n E st ss) ?w0 ?ws)
    case w0 => exact ⟨_, 0, [st], rfl, (fun h => nomatch h), rfl⟩
    case ws =>
      rintro m ρ ⟨t, rim, rfl, hrim, rfl⟩
      have hlen := iterG_len (E := E) (s := st) nd t; refine ⟨!rim.isEmpty, ?_, fun h => ?_, fun h => ?_⟩
      · refine Tv.to (by fail "tv") ?_
        cases rim <;> rfl
      · have hne : rim ≠ [] := by rintro rfl; cases h
        refine' run_cons (run_setCompG (i := 4) (α := Int) (enc := .int) (ns := ss) (b := fun x => !decide (x ∈ iterG E st ss t) && MK.touchesAny E x (iterG E st ss t)) (f := .int) (N := ["spot", "reached", "web"]) (src := [none, some 3, some 0]) (ρx := fun x => [.dat (dI x), .dat (.py (dL (iterG E st ss t))), .dat (web n (MK.ln E))]) decI decI_enc rfl (compOk_mk (defScope s_hanging) ["web", "start", "some", "reached", "rim"] rfl rfl (by decide +kernel)) (it_list ?c1) ?c2 ?c3 ?c4 sc_hanging.nd rfl rfl rfl (fun _ => rfl))
        case c1 => fail "ev"
        case c2 =>
          intro L s₀ H₀ fp x hx; have ft : F_touches_any [web n (MK.ln E), dI x, .py (dL (iterG E st ss t))] (.val (dB (MK.touchesAny E x (iterG E st ss t)))) := ⟨n, E, x, _, _, rfl, .inl rfl, hE, rfl⟩; refine ⟨_, tg_name (i := 0) (show (["spot", "reached", "web"] : List Str).Nodup by decide +kernel) rfl (Or.inl rfl) (Or.inr rfl), by simp, fun B => ⟨tvs_one ?_, fun _ => ?_⟩⟩
          · fail "tv"
          · fail "ev"
        case c4 => exact size_le (by fail"o")
        case c3 =>
          have hlen2 := iterG_len (E := E) (s := st) nd (t + 1)
          have hl2 : (iterG E st ss (t + 1)).length = (iterG E st ss t).length + (rimG E ss (iterG E st ss t)).length := by
            show (iterG E st ss t ++ rimG E ss (iterG E st ss t)).length = _
            rw [List.length_append]
          refine' run_cons (run_set (i := 3) (d := .py (dL (iterG E st ss (t + 1)))) ?d1 (run_nil ⟨_, ?d2, t + 1, rimG E ss (iterG E st ss t), rfl, ?d3, rfl⟩) sc_hanging.nd rfl (Or.inr rfl) rfl (Or.inl rfl))
          case d1 =>
            refine' Ev.to (ev_bin (da := .py (.list ((iterG E st ss t).map .int))) (db := .py (.list ((rimG E ss (iterG E st ss t)).map .int))) ?e1 ?e2 (o_catL ?e3)) ?e4
            case e1 => fail "ev"
            case e2 => fail "ev"
            case e3 => rw [List.length_map, List.length_map]; exact size_le (by fail"o")
            case e4 =>
              show Dt.py (.list _) = Dt.py (.list ((iterG E st ss t ++ rimG E ss (iterG E st ss t)).map PyData.int))
              rw [List.map_append]
          case d2 =>
            rw [if_neg hne]
            by_cases q : rimG E ss (iterG E st ss t) = []
            · rw [if_pos q]; fail"o"
            · rw [if_neg q]
              have : 0 < (rimG E ss (iterG E st ss t)).length := List.length_pos_iff.mpr q
              fail"o"
          case d3 =>
            intro q
            show rimG E ss (iterG E st ss t ++ rimG E ss (iterG E st ss t)) = []
            rw [q, List.append_nil]; exact q
      · have he : rim = [] := by cases rim with
          | nil => rfl
          | cons a b => cases h
        have hh := iterG_hang nd (hrim he); rw [hh] at hlen ⊢; refine' run_cons (run_ret (d := .py (dL (L2.sortI (hangG E st ss)))) ?f1 rfl)
        case f1 =>
          refine' ev_callB (ds := [.py (dL (hangG E st ss))]) ?g1 ?g2 rfl T.sorted boot_sorted (by decide) (by decide) rfl rfl
          case g1 => fail "eva"
          case g2 => exact c_sortedI (ns := hangG E st ss) (.inl rfl) (by fail"o")
abbrev s_hangs : Stmt := top 17
theorem sc_hangs : FnScope ["web"] ["web"] (defScope s_hangs) := ⟨rfl, rfl, rfl, by decide +kernel, rfl, by decide +kernel, by decide +kernel⟩
inductive F_hangs (ds : List Dt) (r : DRes) : Prop
  | mk (n : _) (E : _) (c0 : ds = [web n (MK.ln E)]) (c1 : MK.Good n E) (c2 : n ≤ 12) (c3 : E.length < 1000) (c4 : r = .val (dB (decide (((hangG E 0 (MK.spots n)).length : Int) = n)))) : F_hangs ds r
theorem ok_hangs {k : Nat} {f : Addr} {fd : FuncData} (F : Fun K "hangs_together" "hangs_together" s_hangs f fd) (T : Txt K mg cSE cBW cBM cBS cUL cNT cBT)
    (D1 : Dfn P w K mg base k "hanging" ["web", "start", "some"] (spD K F_hanging)) : FnOk P w K mg base (CX1 P w) (k + 1) f fd ["web"] (spD K F_hangs) := by
  refine F.okD sc_hangs (by decide) (fun ds r h => ?_) fun cdv A outer s H E' B ds r hr R h => ?_
  · obtain ⟨_, _, rfl, _⟩ := h; rfl
  · obtain ⟨n, E, rfl, hg, hn, hE, rfl⟩ := h
    have hu := hr.units; have m_len := T.len; have m_list := T.list; have m_range := T.range; have hpos := hg.pos; have fh : F_hanging [web n (MK.ln E), dI 0, .py (dL (upto n))] (.val (.py (dL (L2.sortI (hangG E 0 (MK.spots n)))))) := ⟨n, E, 0, MK.spots n, rfl, MK.spots_nodup n, by rw [MK.spots_length]; fail"o", hE, rfl⟩
    refine run_cons (run_ret (d := dB (decide (((hangG E 0 (MK.spots n)).length : Int) = n))) ?_ rfl)
    refine Ev.to (by fail "ev") ?_
    rw [List.length_map, (isort_perm _).length_eq]
abbrev s_is_tree : Stmt := top 16
theorem sc_is_tree : FnScope ["web"] ["web"] (defScope s_is_tree) := ⟨rfl, rfl, rfl, by decide +kernel, rfl, by decide +kernel, by decide +kernel⟩
def R_is_tree (cBW : Addr) (n : Int) (ls : LLI) : DRes := if MK.webOk ltL n ls = true then .val (dB (decide ((ls.length : Int) = n - 1) && decide (((hangG (MK.ends ls) 0 (MK.spots n)).length : Int) = n))) else .exc cBW
inductive F_is_tree (cBW : Addr) (ds : List Dt) (r : DRes) : Prop
  | mk (n : _) (ls : _) (c0 : ds = [web n ls]) (c1 : ls.length < 1000) (c2 : r = R_is_tree cBW n ls) : F_is_tree cBW ds r
theorem ok_is_tree {k : Nat} {f : Addr} {fd : FuncData} (F : Fun K "is_tree" "is_tree" s_is_tree f fd) (T : Txt K mg cSE cBW cBM cBS cUL cNT cBT)
    (D1 : Dfn P w K mg base k "look_web" ["web"] (spD K (F_look_web cBW))) (D2 : Dfn P w K mg base k "hangs_together" ["web"] (spD K F_hangs)) : FnOk P w K mg base (CX1 P w) (k + 1) f fd ["web"] (spD K (F_is_tree cBW)) := by
  refine F.okD sc_is_tree (by decide) (fun ds r h => ?_) fun cdv A outer s H E' B ds r hr R h => ?_
  · obtain ⟨_, _, rfl, _⟩ := h; rfl
  · obtain ⟨n, ls, rfl, hl, rfl⟩ := h
    have hu := hr.units; have m_len := T.len
    cases e : MK.webOk ltL n ls with
    | false =>
      have fl : F_look_web cBW [web n ls] (.exc cBW) := ⟨n, ls, rfl, hl, by rw [e]; rfl⟩
      refine' run_cons (run_exprR (ra_def R.pass D1 hr ?a1 fl ?a2 rfl (by decide) rfl rfl) rfl)
      case a1 => fail "eva"
      case a2 => unfold xcOf R_is_tree; rw [e]; rfl
    | true =>
      have fl : F_look_web cBW [web n ls] (.val dN) := ⟨n, ls, rfl, hl, by rw [e]; rfl⟩
      have el := webOk_ln e; obtain ⟨hn1, hn2⟩ := webOk_n e; have hlen : (MK.ends ls).length = ls.length := by rw [← List.length_map (as := MK.ends ls) (f := fun e => [e.1, e.2])]; exact congrArg List.length el
      have fh : F_hangs [web n ls] (.val (dB (decide (((hangG (MK.ends ls) 0 (MK.spots n)).length : Int) = n)))) := ⟨n, MK.ends ls, by rw [el], webOk_good e, hn2, by fail"o", rfl⟩
      have er : R_is_tree cBW n ls = .val (dB (decide ((ls.length : Int) = n - 1) && decide (((hangG (MK.ends ls) 0 (MK.spots n)).length : Int) = n))) := by unfold R_is_tree; rw [e]; rfl
      rw [er]; refine' run_cons (run_expr (d := dN) ?b1 ?b2 rfl)
      case b1 => fail "ev"
      case b2 =>
        refine' run_cons (run_ret (d := dB (decide ((ls.length : Int) = n - 1) && decide (((hangG (MK.ends ls) 0 (MK.spots n)).length : Int) = n))) ?c1 rfl)
        refine' ev_and ?d1 fun _ => ev_one ?d2
        case d1 =>
          refine Ev.to (by fail "ev") ?_
          rw [List.length_map]
        case d2 => fail "ev"
def lookR (cBW cBM : Addr) (n : Int) (ls : LLI) (m : List Int) (v : DRes) : DRes := if MK.webOk ltL n ls = true then (if MK.areMarks n (MK.ends ls) m = true then v else .exc cBM) else .exc cBW
theorem lookR_bw {n : Int} {ls : LLI} {m : List Int} {v : DRes} (h : MK.webOk ltL n ls = false) : lookR cBW cBM n ls m v = .exc cBW := by unfold lookR; rw [h]; rfl
theorem lookR_bm {n : Int} {ls : LLI} {m : List Int} {v : DRes} (h : MK.webOk ltL n ls = true) (h2 : MK.areMarks n (MK.ends ls) m = false) : lookR cBW cBM n ls m v = .exc cBM := by unfold lookR; rw [h, h2]; rfl
theorem lookR_ok {n : Int} {ls : LLI} {m : List Int} {v : DRes} (h : MK.webOk ltL n ls = true) (h2 : MK.areMarks n (MK.ends ls) m = true) : lookR cBW cBM n ls m v = v := by unfold lookR; rw [h, h2]; rfl
theorem run_look {X : Cx} {B : Hp × Hp} {ρ : List Bd} {n : Int} {ls : LLI} {m : List Int} {v : DRes} {k : Nat} {e1 e2 : Expr} {p1 p2 p3 : Pos} {rest : List Stmt} (R : RaiseOk X B (xcOf (lookR cBW cBM n ls m v)))
    (D1 : DfD X k "look_marks" ["web", "marks"] (F_look_marks cBW cBM)) (hr : Room k X.A) (hl : ls.length < 1000) (hm : m.length < 1000) (ha : EvA X B ρ [e1, e2] [web n ls, .py (dM m)]) (hg : Gl X "look_marks")
    (he : starEach [e1, e2] X.env = (false, eval e1 X.env) :: starEach [e2] X.env) (hpl : (backTo p2 (starEach [e2] X.env)).any (·.1) = false) (hs : swapsWith (.Call (.Name "look_marks" p1) [e1, e2] [] p2) none p3.line X.env = pure false)
    (h : MK.webOk ltL n ls = true → MK.areMarks n (MK.ends ls) m = true → RaiseOk X B (xcOf v) → RunS X B ρ rest (dEnd v)) : RunS X B ρ (.Expr (.Call (.Name "look_marks" p1) [e1, e2] [] p2) p3 :: rest) (dEnd (lookR cBW cBM n ls m v)) := by
  cases e : MK.webOk ltL n ls with
  | false =>
    have fl : F_look_marks cBW cBM [web n ls, .py (dM m)] (.exc cBW) := ⟨n, ls, m, rfl, hl, hm, by unfold R_look_marks; rw [e]; rfl⟩
    exact run_cons (run_exprR (ra_def R.pass D1 hr ha fl (by unfold xcOf; exact lookR_bw e) hg (by decide) he hpl) hs)
  | true =>
    cases e2 : MK.areMarks n (MK.ends ls) m with
    | false =>
      have fl : F_look_marks cBW cBM [web n ls, .py (dM m)] (.exc cBM) := ⟨n, ls, m, rfl, hl, hm, by unfold R_look_marks; rw [e, e2]; rfl⟩
      exact run_cons (run_exprR (ra_def R.pass D1 hr ha fl (by unfold xcOf; exact lookR_bm e e2) hg (by decide) he hpl) hs)
    | true =>
      have fl : F_look_marks cBW cBM [web n ls, .py (dM m)] (.val dN) := ⟨n, ls, m, rfl, hl, hm, by unfold R_look_marks; rw [e, e2]; rfl⟩
      rw [lookR_ok e e2] at R ⊢; exact run_cons (run_expr (ev_def D1 hr ha fl hg (by decide) he hpl) (h e e2 R) hs)
theorem webOk_r {n : Int} {ls : LLI} (h : MK.webOk ltL n ls = true) : MK.rises ltL (MK.ln (MK.ends ls)) = true := by
  rw [webOk_ln h]; unfold MK.webOk at h; simp only [Bool.and_eq_true] at h; exact h.2.2
theorem ends_len {n : Int} {ls : LLI} (h : MK.webOk ltL n ls = true) : (MK.ends ls).length = ls.length := by
  have := congrArg List.length (webOk_ln h); rw [← this, MK.ln, List.length_map]
abbrev s_look_both : Stmt := top 21
theorem sc_look_both : FnScope ["web", "marks", "goal"] ["web", "marks", "goal"] (defScope s_look_both) := ⟨rfl, rfl, rfl, by decide +kernel, rfl, by decide +kernel, by decide +kernel⟩
def unlR (cUL : Addr) (m g : List Int) (v : DRes) : DRes := if m.length = g.length then v else .exc cUL
def bothR (cBW cBM cUL : Addr) (n : Int) (ls : LLI) (m g : List Int) (v : DRes) : DRes := lookR cBW cBM n ls m (lookR cBW cBM n ls g (unlR cUL m g v))
inductive F_look_both (cBW cBM cUL : Addr) (ds : List Dt) (r : DRes) : Prop
  | mk (n : _) (ls : _) (m : _) (g : _) (c0 : ds = [web n ls, .py (dM m), .py (dM g)]) (c1 : ls.length ≤ 60) (c2 : m.length < 1000) (c3 : g.length < 1000) (c4 : r = bothR cBW cBM cUL n ls m g (.val dN)) : F_look_both cBW cBM cUL ds r
theorem ok_look_both {k : Nat} {f : Addr} {fd : FuncData} (F : Fun K "look_both" "look_both" s_look_both f fd) (T : Txt K mg cSE cBW cBM cBS cUL cNT cBT)
    (D1 : Dfn P w K mg base k "look_marks" ["web", "marks"] (spD K (F_look_marks cBW cBM))) : FnOk P w K mg base (CX1 P w) (k + 1) f fd ["web", "marks", "goal"] (spD K (F_look_both cBW cBM cUL)) := by
  refine F.okD sc_look_both (by decide) (fun ds r h => ?_) fun cdv A outer s H E B ds r hr R h => ?_
  · obtain ⟨_, _, _, _, rfl, _⟩ := h; rfl
  · obtain ⟨n, ls, m, g, rfl, hl, hm, hg, rfl⟩ := h
    have hu := hr.units
    let X : Cx := cxOf (CX1 P w) P w K mg base ["web", "marks", "goal"] "look_both" (defScope s_look_both) f cdv A outer s H E
    show RunS X B _ _ _
    have m_len := T.len; refine' run_look R D1 hr (by fail"o") hm ?a1 rfl rfl rfl rfl fun h1 h2 R2 => ?a2
    case a1 => fail "eva"
    refine' run_look R2 D1 hr (by fail"o") hg ?b1 rfl rfl rfl rfl fun h3 h4 R3 => ?b2
    case b1 => fail "eva"
    refine' run_cons (run_if (r := !decide (((m.map PyData.int).length : Int) = ((g.map PyData.int).length : Int))) ?c1 ?r1 fun h1 => run_nil (run_nil ?k1))
    case c1 => fail "tv"
    case r1 =>
      intro h; have hne : ¬ m.length = g.length := by simp at h; fail"o"
      refine' run_cons (run_raise R3 T.xul ?x1 rfl T.ul rfl (by decide))
      case x1 => unfold xcOf unlR; rw [if_neg hne]
    case k1 =>
      have he : m.length = g.length := by simp at h1; fail"o"
      unfold unlR; rw [if_pos he]; exact rfl
abbrev s_look_tree : Stmt := top 24
theorem sc_look_tree : FnScope ["web"] ["web"] (defScope s_look_tree) := ⟨rfl, rfl, rfl, by decide +kernel, rfl, by decide +kernel, by decide +kernel⟩
def treeB (n : Int) (ls : LLI) : Bool := decide ((ls.length : Int) = n - 1) && decide (((hangG (MK.ends ls) 0 (MK.spots n)).length : Int) = n)
def treeR (cNT : Addr) (n : Int) (ls : LLI) (v : DRes) : DRes := if treeB n ls = true then v else .exc cNT
inductive F_look_tree (cNT : Addr) (ds : List Dt) (r : DRes) : Prop
  | mk (n : Int) (ls : LLI) (c0 : ds = [web n ls]) (c1 : MK.webOk ltL n ls = true) (c2 : ls.length < 1000) (c3 : r = treeR cNT n ls (.val dN)) : F_look_tree cNT ds r
theorem ok_look_tree {k : Nat} {f : Addr} {fd : FuncData} (F : Fun K "look_tree" "look_tree" s_look_tree f fd) (T : Txt K mg cSE cBW cBM cBS cUL cNT cBT)
    (D1 : Dfn P w K mg base k "is_tree" ["web"] (spD K (F_is_tree cBW))) : FnOk P w K mg base (CX1 P w) (k + 1) f fd ["web"] (spD K (F_look_tree cNT)) := by
  refine F.okD sc_look_tree (by decide) (fun ds r h => ?_) fun cdv A outer s H E B ds r hr R h => ?_
  · obtain ⟨_, _, rfl, _⟩ := h; rfl
  · obtain ⟨n, ls, rfl, hw, hl, rfl⟩ := h
    have hu := hr.units
    let X : Cx := cxOf (CX1 P w) P w K mg base ["web"] "look_tree" (defScope s_look_tree) f cdv A outer s H E
    show RunS X B _ _ _
    have ft : F_is_tree cBW [web n ls] (.val (dB (treeB n ls))) := ⟨n, ls, rfl, hl, by unfold R_is_tree; rw [hw]; rfl⟩
    refine' run_cons (run_if (r := !treeB n ls) ?c1 ?r1 fun h1 => run_nil (run_nil ?k1))
    case c1 => fail "tv"
    case r1 =>
      intro h; refine' run_cons (run_raise R T.xnt ?x1 rfl T.nt rfl (by decide))
      case x1 => unfold xcOf treeR; rw [if_neg (by cases e : treeB n ls <;> simp_all)]
    case k1 =>
      unfold treeR; rw [if_pos (by cases e : treeB n ls <;> simp_all)]; exact rfl
theorem run_tree {X : Cx} {B : Hp × Hp} {ρ : List Bd} {n : Int} {ls : LLI} {v : DRes} {k : Nat} {e1 : Expr} {p1 p2 p3 : Pos} {rest : List Stmt} (hw : MK.webOk ltL n ls = true) (R : RaiseOk X B (xcOf (treeR cNT n ls v)))
    (D1 : DfD X k "look_tree" ["web"] (F_look_tree cNT)) (hr : Room k X.A) (hl : ls.length < 1000) (ha : EvA X B ρ [e1] [web n ls]) (hg : Gl X "look_tree")
    (he : starEach [e1] X.env = (false, eval e1 X.env) :: starEach [] X.env) (hpl : (backTo p2 (starEach [] X.env)).any (·.1) = false) (hs : swapsWith (.Call (.Name "look_tree" p1) [e1] [] p2) none p3.line X.env = pure false)
    (h : treeB n ls = true → RaiseOk X B (xcOf v) → RunS X B ρ rest (dEnd v)) : RunS X B ρ (.Expr (.Call (.Name "look_tree" p1) [e1] [] p2) p3 :: rest) (dEnd (treeR cNT n ls v)) := by
  cases e : treeB n ls with
  | false =>
    have er : ∀ v, treeR cNT n ls v = .exc cNT := fun v => by unfold treeR; rw [e]; rfl
    exact run_cons (run_exprR (ra_def R.pass D1 hr ha ⟨n, ls, rfl, hw, hl, (er _).symm⟩ (by unfold xcOf; exact er v) hg (by decide) he hpl) hs)
  | true =>
    have er : ∀ v, treeR cNT n ls v = v := fun v => by unfold treeR; rw [e]; rfl
    rw [er] at R ⊢; exact run_cons (run_expr (ev_def D1 hr ha ⟨n, ls, rfl, hw, hl, (er _).symm⟩ hg (by decide) he hpl) (h e R) hs)
def optD : Option Int → Dt
  | none => dN
  | some p => dI p
theorem o_neO {X : Cx} {v : Int} {b : Option Int} (hu : X.A.units + 64 < cLine) : CmpD X .NotEq (dI v) (optD b) (!decide (some v = b)) := by
  cases b with
  | none => exact o_ne (d := .int v) (e := .none) (r := false) hu rfl rfl (by show 0 ≤ 60; fail"o") rfl
  | some p =>
    have e : decide (some v = some p) = decide (v = p) := by rw [decide_eq_decide]; simp
    rw [e]; exact o_neI hu
structure TPos (n : Int) (E : MK.Edges) (pos : Int → Nat) : Prop where
  gd : MK.Good n E
  fo : TR.For (MK.adj E) pos
  hN : ∀ x y, MK.adj E x y → pos x < n.toNat
  el : E.length < 1000
abbrev p_st : List Str := ["web", "marks", "spot", "behind"]
abbrev n_st : List Str := ["web", "marks", "spot", "behind", "other"]
inductive F_is_stiff (j : Nat) (ds : List Dt) (r : DRes) : Prop
  | mk (n : Int) (E : MK.Edges) (m : List Int) (x : Int) (b : Option Int) (pos : Int → Nat) (c0 : ds = [web n (MK.ln E), .py (dM m), dI x, optD b]) (c1 : TPos n E pos) (c2 : x ∈ m) (c3 : ∀ p, b = some p → MK.adj E x p) (c4 : mu pos n.toNat x b < j) (c5 : r = .val (dB (stB n E m x b))) : F_is_stiff j ds r
inductive F_is_barred (j : Nat) (ds : List Dt) (r : DRes) : Prop
  | mk (n : Int) (E : MK.Edges) (m : List Int) (v u : Int) (pos : Int → Nat) (c0 : ds = [web n (MK.ln E), .py (dM m), dI v, dI u]) (c1 : TPos n E pos) (c2 : MK.adj E v u) (c3 : mu pos n.toNat v (some u) < j) (c4 : r = .val (dB (barB n E m v u))) : F_is_barred j ds r
abbrev s_is_stiff : Stmt := top 26
theorem sc_is_stiff : FnScope n_st p_st (defScope s_is_stiff) := ⟨rfl, rfl, rfl, by decide +kernel, rfl, by decide +kernel, by decide +kernel⟩
abbrev s_is_barred : Stmt := top 27
theorem sc_is_barred : FnScope n_st p_st (defScope s_is_barred) := ⟨rfl, rfl, rfl, by decide +kernel, rfl, by decide +kernel, by decide +kernel⟩
theorem ok_is_stiff0 {k : Nat} {f : Addr} {fd : FuncData} (F : Fun K "is_stiff" "is_stiff" s_is_stiff f fd) : FnOk P w K mg base (CX1 P w) (k + 1) f fd p_st (spD K (F_is_stiff 0)) := by
  refine F.okD sc_is_stiff (by decide) (fun ds r h => ?_) fun cdv A outer s H E' B ds r hr R h => ?_
  · obtain ⟨_, _, _, _, _, _, rfl, _⟩ := h; rfl
  · obtain ⟨n, E, m, x, b, pos, rfl, t, hx, hb, hm, rfl⟩ := h
    exact absurd hm (Nat.not_lt_zero _)
theorem ok_is_barred0 {k : Nat} {f : Addr} {fd : FuncData} (F : Fun K "is_barred" "is_barred" s_is_barred f fd) : FnOk P w K mg base (CX1 P w) (k + 1) f fd p_st (spD K (F_is_barred 0)) := by
  refine F.okD sc_is_barred (by decide) (fun ds r h => ?_) fun cdv A outer s H E' B ds r hr R h => ?_
  · obtain ⟨_, _, _, _, _, _, rfl, _⟩ := h; rfl
  · obtain ⟨n, E, m, v, u, pos, rfl, t, hx, hm, rfl⟩ := h
    exact absurd hm (Nat.not_lt_zero _)
inductive JSt (n : Int) (E : MK.Edges) (m : List Int) (x : Int) (b : Option Int) (i : Nat) (ρ : List Bd) : Prop
  | mk (o : Bd) (c0 : ρ = [.dat (web n (MK.ln E)), .dat (.py (dM m)), .dat (dI x), .dat (optD b), o]) (c1 : ∀ v ∈ (MK.touching E x).take i, (decide (some v = b) || barB n E m v x) = true) : JSt n E m x b i ρ
theorem ok_is_stiff {k j : Nat} {f : Addr} {fd : FuncData} (F : Fun K "is_stiff" "is_stiff" s_is_stiff f fd) (D1 : Dfn P w K mg base k "touching" ["web", "spot"] (spD K F_touching)) (D2 : Dfn P w K mg base k "is_barred" p_st (spD K (F_is_barred j))) : FnOk P w K mg base (CX1 P w) (k + 1) f fd p_st (spD K (F_is_stiff (j + 1))) := by
  refine F.okD sc_is_stiff (by decide) (fun ds r h => ?_) fun cdv A outer s H E' B ds r hr R h => ?_
  · obtain ⟨_, _, _, _, _, _, rfl, _⟩ := h; rfl
  · obtain ⟨n, E, m, x, b, pos, rfl, t, hx, hb, hm, rfl⟩ := h
    have hu := hr.units
    let X : Cx := cxOf (CX1 P w) P w K mg base n_st "is_stiff" (defScope s_is_stiff) f cdv A outer s H E'
    show RunS X B _ _ _
    have hE := t.el; have ft : F_touching [web n (MK.ln E), dI x] (.val (.py (dL (MK.touching E x)))) := ⟨n, E, x, rfl, hE, rfl⟩; refine' run_cons (run_for (xs := (MK.touching E x).map .int) owns rfl (it_list ?it) (JSt n E m x b) ?h0 ?hs ?hd (fun _ => rfl))
    case it => fail "ev"
    case h0 => exact ⟨_, rfl, by simp⟩
    case hs =>
      rintro i d ρ hd ⟨o, rfl, hi⟩
      obtain ⟨v, ev, rfl⟩ := map_get hd; have hv : MK.adj E x v := MK.mem_touching.mp (List.mem_of_getElem? ev); refine ⟨_, _, tg_name (i := 4) sc_is_stiff.nd rfl (Or.inl rfl) (Or.inl rfl), ?_⟩
      refine run_gen fun D' hn hrt => ?_
      refine' run_cons (run_if (r := !decide (some v = b) && !barB n E m v x) ?c1 ?r1 fun h1 => run_nil (run_nil (hn _ ⟨_, rfl, all_take hi ev ?k1⟩)))
      case k1 =>
        cases e1 : decide (some v = b) <;> cases e2 : barB n E m v x <;> rw [e1, e2] at h1 <;> first | rfl | cases h1
      case c1 =>
        refine' tv_bool (tw_and (r := !decide (some v = b)) (r' := !barB n E m v x) (tv_cmp (da := dI v) (db := optD b) ?x1 ?x2 (o_neO hu) (nomark _)) fun h => tw_and1 ?x3)
        case x1 => fail "ev"
        case x2 => fail "ev"
        case x3 =>
          have hvb : some v ≠ b := by simpa using h
          have fb : F_is_barred j [web n (MK.ln E), .py (dM m), dI v, dI x] (.val (dB (barB n E m v x))) := ⟨n, E, m, v, x, pos, rfl, t, MK.adj_comm hv, by have := mu_dec (N := n.toNat) t.fo t.hN hv hvb hb; fail"o", rfl⟩
          fail "tv"
      case r1 =>
        intro h; refine run_cons (run_ret ev_bl ?_)
        refine hrt _ ?_
        have e : stB n E m x b = false := by
          rw [stB_eq t.gd hx]; refine List.all_eq_false.mpr ⟨v, List.mem_of_getElem? ev, ?_⟩
          rw [Bool.and_eq_true, Bool.not_eq_true', Bool.not_eq_true'] at h; rw [h.1, h.2]; decide
        rw [e]; rfl
    case hd =>
      rintro ρ ⟨o, rfl, hi⟩
      refine run_cons (run_ret ev_bl ?_)
      have e : stB n E m x b = true := by
        rw [stB_eq t.gd hx]; refine List.all_eq_true.mpr fun v hv => hi v ?_
        rw [List.length_map, List.take_length]; exact hv
      rw [e]; rfl
inductive JBa (n : Int) (E : MK.Edges) (m : List Int) (v u : Int) (i : Nat) (ρ : List Bd) : Prop
  | mk (o : Bd) (c0 : ρ = [.dat (web n (MK.ln E)), .dat (.py (dM m)), .dat (dI v), .dat (dI u), o]) (c1 : ∀ y ∈ (MK.touching E v).take i, (!(!decide (y = u) && (decide (y ∈ m) && stB n E m y (some v)))) = true) : JBa n E m v u i ρ
theorem ok_is_barred {k j : Nat} {f : Addr} {fd : FuncData} (F : Fun K "is_barred" "is_barred" s_is_barred f fd) (D1 : Dfn P w K mg base k "touching" ["web", "spot"] (spD K F_touching)) (D2 : Dfn P w K mg base k "is_stiff" p_st (spD K (F_is_stiff j))) : FnOk P w K mg base (CX1 P w) (k + 1) f fd p_st (spD K (F_is_barred (j + 1))) := by
  refine F.okD sc_is_barred (by decide) (fun ds r h => ?_) fun cdv A outer s H E' B ds r hr R h => ?_
  · obtain ⟨_, _, _, _, _, _, rfl, _⟩ := h; rfl
  · obtain ⟨n, E, m, v, u, pos, rfl, t, hvu, hm, rfl⟩ := h
    have hu := hr.units
    let X : Cx := cxOf (CX1 P w) P w K mg base n_st "is_barred" (defScope s_is_barred) f cdv A outer s H E'
    show RunS X B _ _ _
    have hE := t.el; have ft : F_touching [web n (MK.ln E), dI v] (.val (.py (dL (MK.touching E v)))) := ⟨n, E, v, rfl, hE, rfl⟩; refine' run_cons (run_for (xs := (MK.touching E v).map .int) owns rfl (it_list ?it) (JBa n E m v u) ?h0 ?hs ?hd (fun _ => rfl))
    case it => fail "ev"
    case h0 => exact ⟨_, rfl, by simp⟩
    case hs =>
      rintro i d ρ hd ⟨o, rfl, hi⟩
      obtain ⟨y, ey, rfl⟩ := map_get hd; have hy : MK.adj E v y := MK.mem_touching.mp (List.mem_of_getElem? ey); refine ⟨_, _, tg_name (i := 4) sc_is_barred.nd rfl (Or.inl rfl) (Or.inl rfl), ?_⟩
      refine run_gen fun D' hn hrt => ?_
      refine' run_cons (run_if (r := !decide (y = u) && (decide (y ∈ m) && stB n E m y (some v))) ?c1 ?r1 fun h1 => run_nil (run_nil (hn _ ⟨_, rfl, all_take hi ey (by rw [h1]; rfl)⟩)))
      case c1 =>
        refine' tv_bool (tw_and (r := !decide (y = u)) (tv_cmp (da := dI y) (db := dI u) ?x1 ?x2 (o_neI hu) (nomark _)) fun h => tw_and (r := decide (y ∈ m)) (r' := stB n E m y (some v)) ?x3 fun h' => tw_and1 ?x4)
        case x1 => fail "ev"
        case x2 => fail "ev"
        case x3 => fail "tv"
        case x4 =>
          have hyu : some y ≠ some u := by simpa using h
          have fs : F_is_stiff j [web n (MK.ln E), .py (dM m), dI y, dI v] (.val (dB (stB n E m y (some v)))) := ⟨n, E, m, y, some v, pos, rfl, t, by simpa using h', (fun p e => by cases e; exact MK.adj_comm hy), by have := mu_dec (N := n.toNat) t.fo t.hN hy hyu (fun p e => by cases e; exact hvu); fail"o", rfl⟩
          fail "tv"
      case r1 =>
        intro h; refine run_cons (run_ret ev_bl ?_)
        refine hrt _ ?_
        have e : barB n E m v u = true := by
          unfold barB; exact List.any_eq_true.mpr ⟨y, List.mem_of_getElem? ey, h⟩
        rw [e]; rfl
    case hd =>
      rintro ρ ⟨o, rfl, hi⟩
      refine run_cons (run_ret ev_bl ?_)
      have e : barB n E m v u = false := by
        unfold barB; refine List.any_eq_false.mpr fun y hy => ?_
        have := hi y (by rw [List.length_map, List.take_length]; exact hy)
        rw [Bool.not_eq_true'] at this; rw [this]; decide
      rw [e]; rfl
abbrev s_stiff_ones : Stmt := top 25
theorem sc_stiff_ones : FnScope ["web", "marks"] ["web", "marks"] (defScope s_stiff_ones) := ⟨rfl, rfl, rfl, by decide +kernel, rfl, by decide +kernel, by decide +kernel⟩
inductive F_stiff_ones (ds : List Dt) (r : DRes) : Prop
  | mk (n : Int) (E : MK.Edges) (m : List Int) (pos : Int → Nat) (c0 : ds = [web n (MK.ln E), .py (dM m)]) (c1 : TPos n E pos) (c2 : n ≤ 12) (c3 : m.length < 1000) (c4 : r = .val (.py (dM (stiffL n E m)))) : F_stiff_ones ds r
theorem ok_stiff_ones {k : Nat} {f : Addr} {fd : FuncData} (F : Fun K "stiff_ones" "stiff_ones" s_stiff_ones f fd) (T : Txt K mg cSE cBW cBM cBS cUL cNT cBT) (D1 : Dfn P w K mg base k "is_stiff" p_st (spD K (F_is_stiff 27))) : FnOk P w K mg base (CX1 P w) (k + 1) f fd ["web", "marks"] (spD K F_stiff_ones) := by
  refine F.okD sc_stiff_ones (by decide) (fun ds r h => ?_) fun cdv A outer s H E' B ds r hr R h => ?_
  · obtain ⟨_, _, _, _, rfl, _⟩ := h; rfl
  · obtain ⟨n, E, m, pos, rfl, t, hn, hm, rfl⟩ := h
    have hu := hr.units
    let X : Cx := cxOf (CX1 P w) P w K mg base ["web", "marks"] "stiff_ones" (defScope s_stiff_ones) f cdv A outer s H E'
    show RunS X B _ _ _
    refine' run_cons (run_ret (d := .py (dM (stiffL n E m))) ?a1 rfl)
    refine' ev_callTy (ds := [.py (dL (stiffL n E m))]) ?a2 (c_tuple (.inl rfl)) rfl T.tuple boot_tuple (by decide) (by decide) rfl rfl
    refine' eva_cons ?a3 eva_nil rfl
    refine ev_compG (α := Int) (enc := .int) (ns := m) (b := fun x => stB n E m x none) (f := .int) (N := ["spot", "web", "marks"]) (src := [none, some 0, some 1]) (ρx := fun x => [.dat (dI x), .dat (web n (MK.ln E)), .dat (.py (dM m))]) decI decI_enc rfl (compOk_mk (defScope s_stiff_ones) ["web", "marks"] rfl rfl (by decide +kernel)) (it_tup ?_) ?_ (size_le (by fail"o")) (fun _ => rfl)
    · fail "ev"
    · intro L s₀ H₀ fp x hx
      have fs : F_is_stiff 27 [web n (MK.ln E), .py (dM m), dI x, dN] (.val (dB (stB n E m x none))) := ⟨n, E, m, x, none, pos, rfl, t, hx, (fun p e => nomatch e), by show 2 * n.toNat + 2 < 27; fail"o", rfl⟩
      refine ⟨_, tg_name (i := 0) (show (["spot", "web", "marks"] : List Str).Nodup by decide +kernel) rfl (Or.inl rfl) (Or.inr rfl), by simp, fun B => ⟨tvs_one ?_, fun _ => ?_⟩⟩
      · fail "tv"
      · fail "ev"
theorem treeW_of {n : Int} {ls : LLI} (h : MK.webOk ltL n ls = true) (h2 : treeB n ls = true) : TreeW n (MK.ends ls) := by
  unfold treeB at h2; rw [Bool.and_eq_true, decide_eq_true_iff, decide_eq_true_iff] at h2; exact ⟨webOk_good h, webOk_r h, (hangG_whole (webOk_good h)).mp h2.2, by rw [ends_len h]; exact h2.1⟩
theorem tpos_of {n : Int} {E : MK.Edges} (h : TreeW n E) (hl : E.length < 1000) : ∃ pos, TPos n E pos := by
  obtain ⟨pos, f, _, hN⟩ := h.pos; exact ⟨pos, h.gd, f, fun x y ha => hN x (MK.mem_spots.mpr (h.gd.adj ha).1), hl⟩
abbrev s_stiff : Stmt := top 23
theorem sc_stiff : FnScope ["web", "marks"] ["web", "marks"] (defScope s_stiff) := ⟨rfl, rfl, rfl, by decide +kernel, rfl, by decide +kernel, by decide +kernel⟩
inductive F_stiff (cBW cBM cNT : Addr) (ds : List Dt) (r : DRes) : Prop
  | mk (n : Int) (ls : LLI) (m : List Int) (c0 : ds = [web n ls, .py (dM m)]) (c1 : ls.length ≤ 60) (c2 : m.length < 1000) (c3 : r = lookR cBW cBM n ls m (treeR cNT n ls (.val (.py (dM (stiffL n (MK.ends ls) m)))))) : F_stiff cBW cBM cNT ds r
theorem ok_stiff {k : Nat} {f : Addr} {fd : FuncData} (F : Fun K "stiff" "stiff" s_stiff f fd)
    (D1 : Dfn P w K mg base k "look_marks" ["web", "marks"] (spD K (F_look_marks cBW cBM))) (D2 : Dfn P w K mg base k "look_tree" ["web"] (spD K (F_look_tree cNT))) (D3 : Dfn P w K mg base k "stiff_ones" ["web", "marks"] (spD K F_stiff_ones)) : FnOk P w K mg base (CX1 P w) (k + 1) f fd ["web", "marks"] (spD K (F_stiff cBW cBM cNT)) := by
  refine F.okD sc_stiff (by decide) (fun ds r h => ?_) fun cdv A outer s H E B ds r hr R h => ?_
  · obtain ⟨_, _, _, rfl, _⟩ := h; rfl
  · obtain ⟨n, ls, m, rfl, hl, hm, rfl⟩ := h
    have hu := hr.units
    let X : Cx := cxOf (CX1 P w) P w K mg base ["web", "marks"] "stiff" (defScope s_stiff) f cdv A outer s H E
    show RunS X B _ _ _
    refine' run_look R D1 hr (by fail"o") hm ?a1 rfl rfl rfl rfl fun h1 h2 R2 => ?a2
    case a1 => fail "eva"
    refine' run_tree h1 R2 D2 hr (by fail"o") ?b1 rfl rfl rfl rfl fun h3 R3 => ?b2
    case b1 => fail "eva"
    obtain ⟨pos, tp⟩ := tpos_of (treeW_of h1 h3) (by rw [ends_len h1]; fail"o")
    have fs : F_stiff_ones [web n ls, .py (dM m)] (.val (.py (dM (stiffL n (MK.ends ls) m)))) := ⟨n, MK.ends ls, m, pos, by rw [webOk_ln h1], tp, (webOk_n h1).2, hm, rfl⟩
    refine' run_cons (run_ret (d := .py (dM (stiffL n (MK.ends ls) m))) ?c1 rfl)
    case c1 => fail "ev"
def encP (p : List Int × Nat) : PyData := .tuple [dL p.1, .int p.2]
def partsD (ps : List (List Int × Nat)) : PyData := .list (ps.map encP)
theorem goodP : GoodEnc encP 2 := by
  refine ⟨fun a => ?_, fun a => ?_, fun a b => ?_⟩
  · show (PyData.canLay0 (dL a.1) && (PyData.canLay0 (.int a.2) && true)) = true
    rw [goodInt.list.lay a.1]; rfl
  · have := goodInt.list.dep a.1
    show (max (PyData.depth (dL a.1)) (max 0 0)) + 1 ≤ 2
    have e : PyData.depth (dL a.1) ≤ 1 := this
    fail"o"
  · have h1 : PyData.eqv (dL a.1) (dL b.1) = decide (a.1 = b.1) := goodInt.list.eqv a.1 b.1
    have h2 : PyData.eqv (.int a.2) (.int b.2) = decide ((a.2 : Int) = b.2) := goodInt.eqv _ _
    show (PyData.eqv (dL a.1) (dL b.1) && (PyData.eqv (.int a.2) (.int b.2) && true)) = _
    rw [h1, h2, Bool.and_true, Bool.eq_iff_iff, Bool.and_eq_true, decide_eq_true_iff, decide_eq_true_iff, decide_eq_true_iff, Prod.ext_iff]
    fail"o"
theorem goodPs : GoodEnc partsD 3 := goodP.list
abbrev s_parts : Stmt := top 29
abbrev n_parts : List Str := ["web", "marks", "held", "parts", "rest", "spots"]
theorem sc_parts : FnScope n_parts ["web", "marks", "held"] (defScope s_parts) := ⟨rfl, rfl, rfl, by decide +kernel, rfl, by decide +kernel, by decide +kernel⟩
inductive F_parts (ds : List Dt) (r : DRes) : Prop
  | mk (n : Int) (E : MK.Edges) (m held : List Int) (c0 : ds = [web n (MK.ln E), .py (dM m), .py (dM held)]) (c1 : 0 ≤ n) (c2 : n ≤ 12) (c3 : E.length < 1000) (c4 : r = .val (.py (partsD (partsF E m (restF n E held))))) : F_parts ds r
inductive JPa (K : Frag) (n : Int) (E : MK.Edges) (m held : List Int) (μ : Nat) (ρ : List Bd) : Prop
  | mk (ps : List (List Int × Nat)) (rest : List Int) (o : Bd) (c0 : ρ = [.dat (web n (MK.ln E)), .dat (.py (dM m)), .dat (.py (dM held)), ownL K (ps.map encP), .dat (.py (dL rest)), o]) (c1 : rest.Pairwise (· < ·)) (c2 : ps.length + rest.length ≤ 12) (c3 : ps ++ partsF E m rest = partsF E m (restF n E held)) (c4 : μ = rest.length) : JPa K n E m held μ ρ
theorem ok_parts {k : Nat} {f : Addr} {fd : FuncData} (F : Fun K "parts_beside" "parts_beside" s_parts f fd) (T : Txt K mg cSE cBW cBM cBS cUL cNT cBT)
    (D1 : Dfn P w K mg base k "touches_any" ["web", "spot", "some"] (spD K F_touches_any)) (D2 : Dfn P w K mg base k "hanging" ["web", "start", "some"] (spD K F_hanging)) : FnOk P w K mg base (CX1 P w) (k + 1) f fd ["web", "marks", "held"] (spD K F_parts) := by
  refine F.okD sc_parts (by decide) (fun ds r h => ?_) fun cdv A outer s H E' B ds r hr R h => ?_
  · obtain ⟨_, _, _, _, rfl, _⟩ := h; rfl
  · obtain ⟨n, E, m, held, rfl, hn0, hn, hE, rfl⟩ := h
    have hu := hr.units
    let X : Cx := cxOf (CX1 P w) P w K mg base n_parts "parts_beside" (defScope s_parts) f cdv A outer s H E'
    show RunS X B _ _ _
    have m_len := T.len; refine run_cons (run_own (i := 3) evp_nil ?_ (size_le (by decide)) sc_parts.nd rfl (Or.inl rfl) rfl (Or.inl rfl))
    refine' run_cons (run_setCompG (i := 4) (α := Int) (enc := .int) (ns := MK.spots n) (b := fun x => !decide (x ∈ held) && !MK.touchesAny E x held) (f := .int) (N := ["spot", "held", "web"]) (src := [none, some 2, some 0]) (ρx := fun x => [.dat (dI x), .dat (.py (dM held)), .dat (web n (MK.ln E))]) decI decI_enc rfl (compOk_mk (defScope s_parts) n_parts rfl rfl (by decide +kernel)) ?b1 ?b2 ?b3 (by rw [MK.spots_length]; exact size_le (by fail"o")) sc_parts.nd rfl rfl rfl (fun _ => rfl))
    case b1 =>
      rw [← rng_spots]; refine' it_range1 ?it2 (by fail"o") (by fail"o") rfl T.range rfl
      fail "ev"
    case b2 =>
      intro L s₀ H₀ fp x hx; have ft : F_touches_any [web n (MK.ln E), dI x, .py (dM held)] (.val (dB (MK.touchesAny E x held))) := ⟨n, E, x, held, _, rfl, .inr rfl, hE, rfl⟩; refine ⟨_, tg_name (i := 0) (show (["spot", "held", "web"] : List Str).Nodup by decide +kernel) rfl (Or.inl rfl) (Or.inr rfl), by simp, fun B => ⟨tvs_one ?_, fun _ => ?_⟩⟩
      · fail "tv"
      · fail "ev"
    case b3 =>
      have hrl : (restF n E held).length ≤ 12 := by
        have := List.length_filter_le (fun x => !decide (x ∈ held) && !MK.touchesAny E x held) (MK.spots n)
        rw [MK.spots_length] at this; unfold restF; fail"o"
      refine' run_cons (run_while owns (JPa K n E m held) ?w0 ?ws)
      case w0 => exact ⟨_, [], restF n E held, _, rfl, (MK.spots_pairwise n).sublist List.filter_sublist, by simpa using hrl, rfl, rfl⟩
      case ws =>
        rintro μ ρ ⟨ps, rest, o, rfl, hrs, hlen, hpp, rfl⟩
        cases rest with
        | nil =>
          refine ⟨false, ?_, (fun h => nomatch h), fun _ => ?_⟩
          · fail "tv"
          · rw [partsF_nil, List.append_nil] at hpp
            refine run_give (i := 3) rfl (run_cons (run_ret (d := .py (partsD (partsF E m (restF n E held)))) ?_ rfl))
            rw [← hpp]
            fail "ev"
        | cons a r =>
          refine ⟨true, ?_, (fun _ => ?_), fun h => nomatch h⟩
          · fail "tv"
          · have nd := MK.nodup_of_lt hrs
            have ha : a ∈ a :: r := List.mem_cons_self ..; have esp : L2.sortI (hangG E a (a :: r)) = partG E (a :: r) a := sort_part (E := E) hrs ha (iterG_nodup nd _) fun x => mem_hangG (E := E) (s := a) nd
            rw [List.length_cons] at hlen; have fh : F_hanging [web n (MK.ln E), dI a, .py (dL (a :: r))] (.val (.py (dL (partG E (a :: r) a)))) := ⟨n, E, a, a :: r, rfl, nd, by rw [List.length_cons]; fail"o", hE, by rw [← esp]⟩
            have sh := part_shorter (E := E) (a := a) (r := r); rw [partsF_cons] at hpp; have hrs' : ((a :: r).filter fun x => !decide (x ∈ partG E (a :: r) a)).Pairwise (· < ·) := hrs.sublist List.filter_sublist
            have hpl : (partG E (a :: r) a).length ≤ 12 := by
              have := List.length_filter_le (fun x => decide (x ∈ hangG E a (a :: r))) (a :: r)
              rw [List.length_cons] at this; unfold partG; fail"o"
            refine run_gen fun D' hn' hrt => ?_
            refine' run_cons (run_set (i := 5) (d := .py (dL (partG E (a :: r) a))) ?c1 ?c2 sc_parts.nd rfl (Or.inr rfl) rfl (Or.inl rfl))
            case c1 =>
              refine' ev_def D2 hr (eva_cons ?y1 (eva_cons (d := dI a) ?y2 (eva_cons ?y3 eva_nil rfl) rfl) rfl) fh rfl (by decide) rfl rfl
              case y1 => fail "ev"
              case y3 => fail "ev"
              case y2 =>
                refine' ev_ix (da := .py (.list ((a :: r).map .int))) (db := dI 0) ?z1 ev_int (ixd_L (atI_map (f := PyData.int) (l := a :: r) (i := 0) rfl)) (fun _ _ => rfl)
                fail "ev"
            case c2 =>
              generalize hpe : partG E (a :: r) a = p at *
              refine' run_cons (run_append (i := 3) (y := encP (p, (inM m p).length)) rfl ?e1 ?e2 (size_lt (by rw [List.length_map]; fail"o")) rfl (Or.inl rfl) (by decide) (by decide) rfl rfl rfl rfl rfl)
              case e1 =>
                refine' ev_tup (ds := [dL p, .int (inM m p).length]) (evp_cons ?f1 (evp_cons ?f2 evp_nil rfl) rfl) (size_ble rfl)
                case f1 => fail "ev"
                case f2 =>
                  refine' Ev.to (ev_callB (ds := [.py (.list ((p.filter fun x => decide (x ∈ m)).map .int))]) ?g1 c_lenL rfl T.len boot_len (by decide) (by decide) rfl rfl) (by rw [List.length_map]; rfl)
                  refine' eva_cons ?g2 eva_nil rfl
                  refine ev_compG (α := Int) (enc := .int) (ns := p) (b := fun x => decide (x ∈ m)) (f := .int) (N := ["spot", "marks"]) (src := [none, some 1]) (ρx := fun x => [.dat (dI x), .dat (.py (dM m))]) decI decI_enc rfl (compOk_mk (defScope s_parts) n_parts rfl rfl (by decide +kernel)) (it_list ?_) ?_ (size_le (by fail"o")) (fun _ => rfl)
                  · fail "ev"
                  · intro L s₀ H₀ fp x hx
                    refine ⟨_, tg_name (i := 0) (show (["spot", "marks"] : List Str).Nodup by decide +kernel) rfl (Or.inl rfl) (Or.inr rfl), by simp, fun B => ⟨tvs_one ?_, fun _ => ?_⟩⟩
                    · fail "tv"
                    · fail "ev"
              case e2 =>
                refine' run_cons (run_setCompG (i := 4) (α := Int) (enc := .int) (ns := a :: r) (b := fun x => !decide (x ∈ p)) (f := .int) (N := ["spot", "spots"]) (src := [none, some 5]) (ρx := fun x => [.dat (dI x), .dat (.py (dL p))]) decI decI_enc rfl (compOk_mk (defScope s_parts) n_parts rfl rfl (by decide +kernel)) (it_list ?h1) ?h2 ?h3 (size_le (by rw [List.length_cons]; fail"o")) sc_parts.nd rfl rfl rfl (fun _ => rfl))
                case h1 => fail "ev"
                case h2 =>
                  intro L s₀ H₀ fp x hx; refine ⟨_, tg_name (i := 0) (show (["spot", "spots"] : List Str).Nodup by decide +kernel) rfl (Or.inl rfl) (Or.inr rfl), by simp, fun B => ⟨tvs_one ?_, fun _ => ?_⟩⟩
                  · fail "tv"
                  · fail "ev"
                case h3 =>
                  refine run_nil (hn' _ ⟨_, sh, ps ++ [(p, (inM m p).length)], (a :: r).filter (fun x => !decide (x ∈ p)), .dat (.py (dL p)), ?_, hrs', ?_, ?_, rfl⟩)
                  · rw [List.map_append]; rfl
                  · rw [List.length_append]
                    rw [List.length_cons] at sh
                    show ps.length + 1 + _ ≤ 12
                    fail"o"
                  · rw [List.append_assoc]; exact hpp
abbrev s_free_parts : Stmt := top 28
theorem sc_free_parts : FnScope ["web", "marks"] ["web", "marks"] (defScope s_free_parts) := ⟨rfl, rfl, rfl, by decide +kernel, rfl, by decide +kernel, by decide +kernel⟩
inductive F_free_parts (cBW cBM cNT : Addr) (ds : List Dt) (r : DRes) : Prop
  | mk (n : Int) (ls : LLI) (m : List Int) (c0 : ds = [web n ls, .py (dM m)]) (c1 : ls.length ≤ 60) (c2 : m.length < 1000) (c3 : r = lookR cBW cBM n ls m (treeR cNT n ls (.val (.py (partsD (partsF (MK.ends ls) m (restF n (MK.ends ls) (stiffL n (MK.ends ls) m)))))))) : F_free_parts cBW cBM cNT ds r
theorem ok_free_parts {k : Nat} {f : Addr} {fd : FuncData} (F : Fun K "free_parts" "free_parts" s_free_parts f fd)
    (D1 : Dfn P w K mg base k "look_marks" ["web", "marks"] (spD K (F_look_marks cBW cBM))) (D2 : Dfn P w K mg base k "look_tree" ["web"] (spD K (F_look_tree cNT))) (D3 : Dfn P w K mg base k "stiff_ones" ["web", "marks"] (spD K F_stiff_ones)) (D4 : Dfn P w K mg base k "parts_beside" ["web", "marks", "held"] (spD K F_parts)) : FnOk P w K mg base (CX1 P w) (k + 1) f fd ["web", "marks"] (spD K (F_free_parts cBW cBM cNT)) := by
  refine F.okD sc_free_parts (by decide) (fun ds r h => ?_) fun cdv A outer s H E B ds r hr R h => ?_
  · obtain ⟨_, _, _, rfl, _⟩ := h; rfl
  · obtain ⟨n, ls, m, rfl, hl, hm, rfl⟩ := h
    have hu := hr.units
    let X : Cx := cxOf (CX1 P w) P w K mg base ["web", "marks"] "free_parts" (defScope s_free_parts) f cdv A outer s H E
    show RunS X B _ _ _
    refine' run_look R D1 hr (by fail"o") hm ?a1 rfl rfl rfl rfl fun h1 h2 R2 => ?a2
    case a1 => fail "eva"
    refine' run_tree h1 R2 D2 hr (by fail"o") ?b1 rfl rfl rfl rfl fun h3 R3 => ?b2
    case b1 => fail "eva"
    obtain ⟨hn1, hn2⟩ := webOk_n h1; have hE : (MK.ends ls).length < 1000 := by rw [ends_len h1]; fail"o"
    obtain ⟨pos, tp⟩ := tpos_of (treeW_of h1 h3) hE; have fs : F_stiff_ones [web n ls, .py (dM m)] (.val (.py (dM (stiffL n (MK.ends ls) m)))) := ⟨n, MK.ends ls, m, pos, by rw [webOk_ln h1], tp, hn2, hm, rfl⟩
    have fp : F_parts [web n ls, .py (dM m), .py (dM (stiffL n (MK.ends ls) m))] (.val (.py (partsD (partsF (MK.ends ls) m (restF n (MK.ends ls) (stiffL n (MK.ends ls) m)))))) := ⟨n, MK.ends ls, m, _, by rw [webOk_ln h1], by fail"o", hn2, hE, rfl⟩
    refine' run_cons (run_ret (d := .py (partsD (partsF (MK.ends ls) m (restF n (MK.ends ls) (stiffL n (MK.ends ls) m))))) ?c1 rfl)
    case c1 => fail "ev"
theorem run_both {X : Cx} {B : Hp × Hp} {ρ : List Bd} {n : Int} {ls : LLI} {m g : List Int} {v : DRes} {k : Nat} {e1 e2 e3 : Expr} {p1 p2 p3 : Pos} {rest : List Stmt} (R : RaiseOk X B (xcOf (bothR cBW cBM cUL n ls m g v)))
    (D1 : DfD X k "look_both" ["web", "marks", "goal"] (F_look_both cBW cBM cUL)) (hr : Room k X.A) (hl : ls.length ≤ 60) (hm : m.length < 1000) (hg' : g.length < 1000) (ha : EvA X B ρ [e1, e2, e3] [web n ls, .py (dM m), .py (dM g)]) (hg : Gl X "look_both")
    (he : starEach [e1, e2, e3] X.env = (false, eval e1 X.env) :: starEach [e2, e3] X.env) (hpl : (backTo p2 (starEach [e2, e3] X.env)).any (·.1) = false) (hs : swapsWith (.Call (.Name "look_both" p1) [e1, e2, e3] [] p2) none p3.line X.env = pure false)
    (h : MK.webOk ltL n ls = true → MK.areMarks n (MK.ends ls) m = true → MK.areMarks n (MK.ends ls) g = true → m.length = g.length → RaiseOk X B (xcOf v) → RunS X B ρ rest (dEnd v)) : RunS X B ρ (.Expr (.Call (.Name "look_both" p1) [e1, e2, e3] [] p2) p3 :: rest) (dEnd (bothR cBW cBM cUL n ls m g v)) := by
  have fl : F_look_both cBW cBM cUL [web n ls, .py (dM m), .py (dM g)] (bothR cBW cBM cUL n ls m g (.val dN)) := ⟨n, ls, m, g, rfl, hl, hm, hg', rfl⟩
  have bad : ∀ C, bothR cBW cBM cUL n ls m g (.val dN) = .exc C → bothR cBW cBM cUL n ls m g v = .exc C → RunS X B ρ (.Expr (.Call (.Name "look_both" p1) [e1, e2, e3] [] p2) p3 :: rest) (dEnd (bothR cBW cBM cUL n ls m g v)) := fun C h1 h2 => by
    rw [h1] at fl; exact run_cons (run_exprR (ra_def R.pass D1 hr ha fl h2 hg (by decide) he hpl) hs)
  cases e : MK.webOk ltL n ls with
  | false => exact bad cBW (lookR_bw e) (lookR_bw e)
  | true =>
    cases e2 : MK.areMarks n (MK.ends ls) m with
    | false => exact bad cBM (lookR_bm e e2) (lookR_bm e e2)
    | true =>
      cases e3 : MK.areMarks n (MK.ends ls) g with
      | false => exact bad cBM (by unfold bothR; rw [lookR_ok e e2, lookR_bm e e3]) (by unfold bothR; rw [lookR_ok e e2, lookR_bm e e3])
      | true =>
        by_cases q : m.length = g.length
        · have e4 : ∀ v, bothR cBW cBM cUL n ls m g v = v := fun v => by unfold bothR; rw [lookR_ok e e2, lookR_ok e e3]; unfold unlR; rw [if_pos q]
          rw [e4] at R fl ⊢; exact run_cons (run_expr (ev_def D1 hr ha fl hg (by decide) he hpl) (h e e2 e3 q R) hs)
        · exact bad cUL (by unfold bothR; rw [lookR_ok e e2, lookR_ok e e3]; unfold unlR; rw [if_neg q]) (by unfold bothR; rw [lookR_ok e e2, lookR_ok e e3]; unfold unlR; rw [if_neg q])
abbrev s_told : Stmt := top 30
abbrev n_told : List Str := ["web", "marks", "goal", "held"]
theorem sc_told : FnScope n_told ["web", "marks", "goal"] (defScope s_told) := ⟨rfl, rfl, rfl, by decide +kernel, rfl, by decide +kernel, by decide +kernel⟩
noncomputable def toldB (n : Int) (E : MK.Edges) (m g : List Int) : Bool := decide (stiffL n E m = stiffL n E g) && decide (partsF E m (restF n E (stiffL n E m)) = partsF E g (restF n E (stiffL n E m)))
theorem toldB_iff {n : Int} {E : MK.Edges} {m g : List Int} (h : TreeW n E) (hM : MK.Marks n E m) (hG : MK.Marks n E g) : toldB n E m g = true ↔ Reach n E m g := by
  unfold toldB; rw [told_iff h hM hG, Bool.and_eq_true, decide_eq_true_iff, decide_eq_true_iff]
inductive F_told (cBW cBM cUL cNT : Addr) (ds : List Dt) (r : DRes) : Prop
  | mk (n : Int) (ls : LLI) (m g : List Int) (c0 : ds = [web n ls, .py (dM m), .py (dM g)]) (c1 : ls.length ≤ 60) (c2 : m.length < 1000) (c3 : g.length < 1000) (c4 : r = bothR cBW cBM cUL n ls m g (treeR cNT n ls (.val (dB (toldB n (MK.ends ls) m g))))) : F_told cBW cBM cUL cNT ds r
theorem ok_told {k : Nat} {f : Addr} {fd : FuncData} (F : Fun K "tree_told" "tree_told" s_told f fd)
    (D1 : Dfn P w K mg base k "look_both" ["web", "marks", "goal"] (spD K (F_look_both cBW cBM cUL))) (D2 : Dfn P w K mg base k "look_tree" ["web"] (spD K (F_look_tree cNT))) (D3 : Dfn P w K mg base k "stiff_ones" ["web", "marks"] (spD K F_stiff_ones)) (D4 : Dfn P w K mg base k "parts_beside" ["web", "marks", "held"] (spD K F_parts)) : FnOk P w K mg base (CX1 P w) (k + 1) f fd ["web", "marks", "goal"] (spD K (F_told cBW cBM cUL cNT)) := by
  refine F.okD sc_told (by decide) (fun ds r h => ?_) fun cdv A outer s H E B ds r hr R h => ?_
  · obtain ⟨_, _, _, _, rfl, _⟩ := h; rfl
  · obtain ⟨n, ls, m, g, rfl, hl, hm, hg, rfl⟩ := h
    have hu := hr.units
    let X : Cx := cxOf (CX1 P w) P w K mg base n_told "tree_told" (defScope s_told) f cdv A outer s H E
    show RunS X B _ _ _
    refine' run_both R D1 hr hl hm hg ?a1 rfl rfl rfl rfl fun h1 h2 h2' hmg R2 => ?a2
    case a1 => fail "eva"
    refine' run_tree h1 R2 D2 hr (by fail"o") ?b1 rfl rfl rfl rfl fun h3 R3 => ?b2
    case b1 => fail "eva"
    obtain ⟨hn1, hn2⟩ := webOk_n h1; have hE : (MK.ends ls).length < 1000 := by rw [ends_len h1]; fail"o"
    obtain ⟨pos, tp⟩ := tpos_of (treeW_of h1 h3) hE; have fs : F_stiff_ones [web n ls, .py (dM m)] (.val (.py (dM (stiffL n (MK.ends ls) m)))) := ⟨n, MK.ends ls, m, pos, by rw [webOk_ln h1], tp, hn2, hm, rfl⟩
    have fg : F_stiff_ones [web n ls, .py (dM g)] (.val (.py (dM (stiffL n (MK.ends ls) g)))) := ⟨n, MK.ends ls, g, pos, by rw [webOk_ln h1], tp, hn2, hg, rfl⟩
    have fp : F_parts [web n ls, .py (dM m), .py (dM (stiffL n (MK.ends ls) m))] (.val (.py (partsD (partsF (MK.ends ls) m (restF n (MK.ends ls) (stiffL n (MK.ends ls) m)))))) := ⟨n, MK.ends ls, m, _, by rw [webOk_ln h1], by fail"o", hn2, hE, rfl⟩
    have fq : F_parts [web n ls, .py (dM g), .py (dM (stiffL n (MK.ends ls) m))] (.val (.py (partsD (partsF (MK.ends ls) g (restF n (MK.ends ls) (stiffL n (MK.ends ls) m)))))) := ⟨n, MK.ends ls, g, _, by rw [webOk_ln h1], by fail"o", hn2, hE, rfl⟩
    unfold toldB at *
    generalize stiffL n (MK.ends ls) m = sm at *
    generalize stiffL n (MK.ends ls) g = sg at *
    generalize partsF (MK.ends ls) m (restF n (MK.ends ls) sm) = pm at *
    generalize partsF (MK.ends ls) g (restF n (MK.ends ls) sm) = pg at *
    refine' run_cons (run_set (i := 3) (d := .py (dM sm)) ?c1 ?c2 sc_told.nd rfl (Or.inl rfl) rfl (Or.inl rfl))
    case c1 => fail "ev"
    refine' run_cons (run_if (r := !decide (sm = sg)) ?d1 ?d2 fun h4 => run_nil ?d3)
    case d1 =>
      refine' tv_cmp (da := .py (dM sm)) (db := .py (dM sg)) ?e1 ?e2 (o_ne hu (goodM.lay sm) (goodM.lay sg) (Nat.le_trans (goodM.dep sm) (by decide)) (goodM.eqv sm sg)) (nomark _)
      case e1 => fail "ev"
      case e2 => fail "ev"
    case d2 =>
      intro h4; rw [Bool.not_eq_true'] at h4; rw [h4]; exact run_cons (run_ret (d := dB false) ev_bl rfl)
    case d3 =>
      have h5 : decide (sm = sg) = true := by cases e : decide (sm = sg) with | true => rfl | false => rw [e] at h4; cases h4
      rw [h5, Bool.true_and]; refine' run_cons (run_ret (d := dB (decide (pm = pg))) ?f1 rfl)
      refine' ev_cmp (da := .py (partsD pm)) (db := .py (partsD pg)) ?g1 ?g2 (o_eq hu (goodPs.lay pm) (goodPs.lay pg) (Nat.le_trans (goodPs.dep pm) (by decide)) (goodPs.eqv pm pg)) (nomark _)
      case g1 => fail "ev"
      case g2 => fail "ev"
abbrev s_lmoved : Stmt := top 37
abbrev n_lmoved : List Str := ["_law_marks_here", "_law_one", "_law_other"]
theorem sc_lmoved : FnScope n_lmoved n_lmoved (defScope s_lmoved) := ⟨rfl, rfl, rfl, by decide +kernel, rfl, by decide +kernel, by decide +kernel⟩
inductive F_lmoved (ds : List Dt) (r : DRes) : Prop
  | mk (m : _) (a : _) (b : _) (c0 : ds = [.py (dM m), dI a, dI b]) (c1 : m.length < 60) (c2 : r = .val (.py (dM (mv m a b)))) : F_lmoved ds r
theorem ok_lmoved {k : Nat} {f : Addr} {fd : FuncData} (F : Fun K "_law_moved" "_law_moved" s_lmoved f fd) (T : Txt K mg cSE cBW cBM cBS cUL cNT cBT) : FnOk P w K mg base (CX1 P w) (k + 1) f fd n_lmoved (spD K F_lmoved) := by
  refine F.okD sc_lmoved (by decide) (fun ds r h => ?_) fun cdv A outer s H E' B ds r hr R h => ?_
  · obtain ⟨_, _, _, rfl, _⟩ := h; rfl
  · obtain ⟨m, a, b, rfl, hl, rfl⟩ := h
    have hu := hr.units
    let X : Cx := cxOf (CX1 P w) P w K mg base n_lmoved "_law_moved" (defScope s_lmoved) f cdv A outer s H E'
    show RunS X B _ _ _
    have hfl := List.length_filter_le (fun x => !decide (x = a)) m
    refine' run_cons (run_ret (d := .py (dM (mv m a b))) ?a1 rfl)
    refine' ev_callTy (ds := [.py (dL (mv m a b))]) ?a2 (c_tuple (.inl rfl)) rfl T.tuple boot_tuple (by decide) (by decide) rfl rfl
    refine' eva_cons ?a3 eva_nil rfl
    refine' ev_callB (ds := [.py (dL (m.filter (fun x => !decide (x = a)) ++ [b]))]) ?a4 (c_sortedI (.inl rfl) (by simp; fail"o")) rfl T.sorted boot_sorted (by decide) (by decide) rfl rfl
    refine' eva_cons ?a5 eva_nil rfl
    refine' Ev.to (ev_bin (da := .py (.list ((m.filter (fun x => !decide (x = a))).map .int))) (db := .py (.list [.int b])) ?b1 ?b2 (o_catL ?b3)) ?b4
    case b2 => fail "ev"
    case b3 => rw [List.length_map]; exact size_le (by show _ + 1 < _; fail"o")
    case b4 => unfold dL; rw [List.map_append]; rfl
    case b1 =>
      refine ev_compG (α := Int) (enc := .int) (ns := m) (b := fun x => !decide (x = a)) (f := .int) (N := ["_law_spot", "_law_one"]) (src := [none, some 1]) (ρx := fun x => [.dat (dI x), .dat (dI a)]) decI decI_enc rfl (compOk_mk (defScope s_lmoved) n_lmoved rfl rfl (by decide +kernel)) (it_tup ?_) ?_ (size_le (by fail"o")) (fun _ => rfl)
      · fail "ev"
      · intro L s₀ H₀ fp x hx
        refine ⟨_, tg_name (i := 0) (show (["_law_spot", "_law_one"] : List Str).Nodup by decide +kernel) rfl (Or.inl rfl) (Or.inr rfl), by simp, fun B => ⟨tvs_one ?_, fun _ => ?_⟩⟩
        · fail "tv"
        · fail "ev"
abbrev s_lslides : Stmt := top 38
abbrev n_lslides : List Str := ["_law_web_here", "_law_marks_here", "_law_found", "_law_one", "_law_other", "_law_first", "_law_second"]
theorem sc_lslides : FnScope n_lslides ["_law_web_here", "_law_marks_here"] (defScope s_lslides) := ⟨rfl, rfl, rfl, by decide +kernel, rfl, by decide +kernel, by decide +kernel⟩
inductive F_lslides (ds : List Dt) (r : DRes) : Prop
  | mk (n : _) (E : _) (m : _) (c0 : ds = [web n (MK.ln E), .py (dM m)]) (c1 : MK.Good n E) (c2 : MK.rises ltL (MK.ln E) = true) (c3 : MK.Marks n E m) (c4 : E.length ≤ 30) (c5 : m.length < 50) (c6 : r = .val (.py (dMs (MK.ln (slF n E m))))) : F_lslides ds r
def okS (E : MK.Edges) (m : List Int) (p : Int × Int) : Bool := decide (p.1 ∈ m) && (!decide (p.2 ∈ m) && MK.apart E (mv m p.1 p.2))
def twoF (E : MK.Edges) (m : List Int) (e : Int × Int) : MK.Edges := [(e.1, e.2), (e.2, e.1)].filter (okS E m)
theorem lsF_two {E : MK.Edges} {m : List Int} : lsF E m = E.flatMap (twoF E m) := rfl
inductive JS1 (K : Frag) (n : Int) (E : MK.Edges) (m : List Int) (i : Nat) (ρ : List Bd) : Prop
  | mk (L : MK.Edges) (b3 b4 b5 b6 : Bd) (c0 : ρ = [.dat (web n (MK.ln E)), .dat (.py (dM m)), ownL K (L.map encE), b3, b4, b5, b6]) (c1 : L = (E.take i).flatMap (twoF E m)) (c2 : L.length ≤ 2 * i) : JS1 K n E m i ρ
inductive JS2 (K : Frag) (n : Int) (E : MK.Edges) (m : List Int) (e : Int × Int) (L : MK.Edges) (t : Nat) (ρ : List Bd) : Prop
  | mk (L' : MK.Edges) (b5 b6 : Bd) (c0 : ρ = [.dat (web n (MK.ln E)), .dat (.py (dM m)), ownL K (L'.map encE), .dat (dI e.1), .dat (dI e.2), b5, b6]) (c1 : L' = L ++ ([(e.1, e.2), (e.2, e.1)].take t).filter (okS E m)) (c2 : L'.length ≤ L.length + t) : JS2 K n E m e L t ρ
theorem ok_lslides {k : Nat} {f : Addr} {fd : FuncData} (F : Fun K "_law_slides" "_law_slides" s_lslides f fd) (T : Txt K mg cSE cBW cBM cBS cUL cNT cBT)
    (D1 : Dfn P w K mg base k "_law_is_marks" ["_law_web_here", "_law_marks_here"] (spD K F_lis)) (D2 : Dfn P w K mg base k "_law_moved" n_lmoved (spD K F_lmoved)) : FnOk P w K mg base (CX1 P w) (k + 1) f fd ["_law_web_here", "_law_marks_here"] (spD K F_lslides) := by
  refine F.okD sc_lslides (by decide) (fun ds r h => ?_) fun cdv A outer s H E' B ds r hr R h => ?_
  · obtain ⟨_, _, _, rfl, _⟩ := h; rfl
  · obtain ⟨n, E, m, rfl, hg, hri, hM, hE, hm, rfl⟩ := h
    have hu := hr.units
    let X : Cx := cxOf (CX1 P w) P w K mg base n_lslides "_law_slides" (defScope s_lslides) f cdv A outer s H E'
    show RunS X B _ _ _
    refine run_cons (run_own (i := 2) evp_nil ?_ (size_le (by decide)) sc_lslides.nd rfl (Or.inl rfl) rfl (Or.inl rfl))
    refine' run_cons (run_for (xs := E.map encE) owns rfl (it_list ?it1) (JS1 K n E m) ?h0 ?hs ?hd (fun _ => rfl))
    case it1 => rw [← ln_enc]; fail "ev"
    case h0 => exact ⟨[], _, _, _, _, rfl, by simp, by simp⟩
    case hd =>
      rintro ρ ⟨L, b3, b4, b5, b6, rfl, hL, hlen⟩
      rw [List.length_map] at hL hlen; rw [List.take_length, ← lsF_two] at hL; have el : dMs (MK.ln (lsF E m)) = .list (L.map encE) := by unfold dMs; rw [ln_enc, hL]
      refine run_give (i := 2) rfl (run_cons (run_ret (d := .py (dMs (MK.ln (slF n E m)))) ?_ rfl))
      rw [← slides_same hg hri hM]; refine' ev_callB (ds := [.py (dMs (MK.ln (lsF E m)))]) ?b2 (c_sortedM ?b3 ?b4) rfl T.sorted boot_sorted (by decide) (by decide) rfl rfl
      case b2 =>
        rw [el]
        fail "eva"
      case b3 => unfold MK.ln; rw [List.length_map, ← hL]; fail"o"
      case b4 =>
        intro _ x hx; unfold MK.ln at hx; obtain ⟨e, _, rfl⟩ := List.mem_map.mp hx; exact fun z => nomatch z
    case hs =>
      rintro i d ρ hd ⟨L, b3, b4, b5, b6, rfl, hL, hlen⟩
      obtain ⟨e, ee, rfl⟩ := map_get hd; have hi : i < E.length := (List.getElem?_eq_some_iff.mp ee).1
      refine ⟨_, _, tg_pair (i := 3) (j := 4) rfl sc_lslides.nd rfl rfl (Or.inl rfl) (Or.inl rfl) (Or.inl rfl) (Or.inl rfl), ?_⟩
      refine run_gen fun D' hn hrt => ?_
      refine' run_cons (run_for (xs := [(e.1, e.2), (e.2, e.1)].map encE) owns rfl (it_tup ?it2) (JS2 K n E m e L) ?g0 ?gs ?gd (fun _ => rfl))
      case it2 =>
        show Ev _ _ _ _ (.py (.tuple [encE (e.1, e.2), encE (e.2, e.1)]))
        fail "ev"
      case g0 => exact ⟨L, _, _, rfl, by simp, by fail"o"⟩
      case gd =>
        rintro ρ ⟨L', b5, b6, rfl, hL', hlen'⟩
        have hlen2 : L'.length ≤ L.length + 2 := hlen'; refine run_nil (hn _ ⟨L', _, _, _, _, rfl, ?_, by fail"o"⟩)
        have e2 : L' = L ++ twoF E m e := hL'; rw [e2, hL, List.take_succ, ee, List.flatMap_append]
        congr 1
        show _ = List.flatMap _ [e]
        rw [List.flatMap_cons, List.flatMap_nil, List.append_nil]
      case gs =>
        rintro t d ρ hd ⟨L', b5, b6, rfl, hL', hlen'⟩
        obtain ⟨q, eq, rfl⟩ := map_get hd; have ht : t < 2 := (List.getElem?_eq_some_iff.mp eq).1
        refine ⟨_, _, tg_pair (i := 5) (j := 6) rfl sc_lslides.nd rfl rfl (Or.inl rfl) (Or.inl rfl) (Or.inl rfl) (Or.inl rfl), ?_⟩
        refine run_gen fun D' hn hrt => ?_
        have fm : F_lmoved [.py (dM m), dI q.1, dI q.2] (.val (.py (dM (mv m q.1 q.2)))) := ⟨m, q.1, q.2, rfl, by fail"o", rfl⟩
        have fa : F_lis [web n (MK.ln E), .py (dM (mv m q.1 q.2))] (.val (dB (MK.apart E (mv m q.1 q.2)))) := ⟨n, E, _, rfl, by fail"o", rfl⟩
        have hnx : L ++ ([(e.1, e.2), (e.2, e.1)].take (t + 1)).filter (okS E m) = L' ++ (if okS E m q = true then [q] else []) := by
          rw [List.take_succ, eq, List.filter_append, hL', List.append_assoc]
          congr 2
          show List.filter _ [q] = _
          by_cases z : okS E m q = true
          · rw [if_pos z]; simp [z]
          · rw [if_neg z]; simp [z]
        refine' run_cons (run_if (r := okS E m q) ?c1 ?r1 fun h1 => run_nil (run_nil (hn _ ⟨L', _, _, rfl, ?k1, by fail"o"⟩)))
        case c1 =>
          show Tv _ _ _ _ (decide (q.1 ∈ m) && (!decide (q.2 ∈ m) && MK.apart E (mv m q.1 q.2)))
          fail "tv"
        case k1 => rw [hnx, if_neg (by rw [h1]; decide)]; simp
        case r1 =>
          intro h; refine' run_cons (run_append (i := 2) (y := encE q) rfl ?e1 (run_nil (run_nil (hn _ ⟨L' ++ [q], _, _, ?e2, ?e3, by simp; fail"o"⟩))) (size_lt (by rw [List.length_map]; fail"o")) rfl (Or.inl rfl) (by decide) (by decide) rfl rfl rfl rfl rfl)
          case e1 => fail "ev"
          case e2 => rw [List.map_append]; rfl
          case e3 => rw [hnx, if_pos h]
abbrev s_lroom : Stmt := top 39
abbrev n_lroom : List Str := ["_law_web_here", "_law_marks_here", "_law_found", "_law_at", "_law_one", "_law_other", "_law_goal"]
theorem sc_lroom : FnScope n_lroom ["_law_web_here", "_law_marks_here"] (defScope s_lroom) := ⟨rfl, rfl, rfl, by decide +kernel, rfl, by decide +kernel, by decide +kernel⟩
structure WOk (n : Int) (E : MK.Edges) (m : List Int) : Prop where
  good : MK.Good n E
  ris : MK.rises ltL (MK.ln E) = true
  mks : MK.Marks n E m
  few : (MK.sets n m.length).length ≤ 99
  el : E.length ≤ 30
  ml : m.length ≤ 12
  lim : ∀ L : LLI, L.Nodup → (∀ x ∈ L, Reach n E m x) → L.length ≤ 60
def roomF (n : Int) (E : MK.Edges) (m : List Int) : LLI := sortM ((finW n E m).map (·.2))
theorem WOk.room {n : Int} {E : MK.Edges} {m x : List Int} (O : WOk n E m) : x ∈ roomF n E m ↔ Reach n E m x := mem_room O.good O.ris O.mks O.few
inductive F_lroom (ds : List Dt) (r : DRes) : Prop
  | mk (n : Int) (E : MK.Edges) (m : List Int) (c0 : ds = [web n (MK.ln E), .py (dM m)]) (c1 : WOk n E m) (c2 : r = .val (.py (dMs (roomF n E m)))) : F_lroom ds r
inductive JR1 (K : Frag) (n : Int) (E : MK.Edges) (m : List Int) (μ : Nat) (ρ : List Bd) : Prop
  | mk (L : LLI) (i : Nat) (b4 b5 b6 : Bd) (c0 : ρ = [.dat (web n (MK.ln E)), .dat (.py (dM m)), ownL K (L.map dM), .dat (dI (i : Int)), b4, b5, b6]) (c1 : i ≤ L.length) (c2 : L.Nodup) (c3 : ∀ x ∈ L, Reach n E m x) (c4 : m ∈ L) (c5 : ∀ x ∈ L.take i, ∀ s ∈ slF n E x, mv x s.1 s.2 ∈ L) (c6 : μ = 100 - i) : JR1 K n E m μ ρ
inductive JR2 (K : Frag) (n : Int) (E : MK.Edges) (m x : List Int) (L : LLI) (i t : Nat) (ρ : List Bd) : Prop
  | mk (L' : LLI) (b4 b5 b6 : Bd) (c0 : ρ = [.dat (web n (MK.ln E)), .dat (.py (dM m)), ownL K (L'.map dM), .dat (dI (i : Int)), b4, b5, b6]) (c1 : L <+: L') (c2 : L'.Nodup) (c3 : ∀ y ∈ L', Reach n E m y) (c4 : ∀ s ∈ (slF n E x).take t, mv x s.1 s.2 ∈ L') : JR2 K n E m x L i t ρ
theorem few_L {n : Int} {E : MK.Edges} {m : List Int} (hM : MK.Marks n E m) {L : LLI} (nd : L.Nodup) (rc : ∀ x ∈ L, Reach n E m x) : L.length ≤ (MK.sets n m.length).length :=
  sub_len nd fun x hx => by
    have := Reach.marks hM (rc x hx); exact MK.mem_sets this.1.inn this.1.ris this.2
theorem ok_lroom {k : Nat} {f : Addr} {fd : FuncData} (F : Fun K "_law_room" "_law_room" s_lroom f fd) (T : Txt K mg cSE cBW cBM cBS cUL cNT cBT)
    (D1 : Dfn P w K mg base k "_law_slides" ["_law_web_here", "_law_marks_here"] (spD K F_lslides)) (D2 : Dfn P w K mg base k "_law_moved" n_lmoved (spD K F_lmoved)) : FnOk P w K mg base (CX1 P w) (k + 1) f fd ["_law_web_here", "_law_marks_here"] (spD K F_lroom) := by
  refine F.okD sc_lroom (by decide) (fun ds r h => ?_) fun cdv A outer s H E' B ds r hr R h => ?_
  · obtain ⟨_, _, _, rfl, _⟩ := h; rfl
  · obtain ⟨n, E, m, rfl, O, rfl⟩ := h
    have hE := O.el; have hu := hr.units
    let X : Cx := cxOf (CX1 P w) P w K mg base n_lroom "_law_room" (defScope s_lroom) f cdv A outer s H E'
    show RunS X B _ _ _
    have m_len := T.len; have hml := O.ml; refine' run_cons (run_own (i := 2) (ds := [dM m]) ?a0 ?a1 (size_ble rfl) sc_lroom.nd rfl (Or.inl rfl) rfl (Or.inl rfl))
    case a0 => fail "evp"
    refine' run_cons (run_set (i := 3) (d := dI 0) ev_int ?a2 sc_lroom.nd rfl (Or.inl rfl) rfl (Or.inl rfl))
    refine' run_cons (run_while owns (JR1 K n E m) ?w0 ?ws)
    case w0 => exact ⟨100, [m], 0, _, _, _, rfl, by simp, by simp, fun x hx => by (have : x = m := by simpa using hx); subst this; exact .here, by simp, by simp, rfl⟩
    case ws =>
      rintro μ ρ ⟨L, i, b4, b5, b6, rfl, hi, hnd, hrc, hmL, hcl, rfl⟩
      have hfew := O.lim L hnd hrc; refine' ⟨decide ((i : Int) < ((L.map dM).length : Int)), ?t1, ?t2, ?t3⟩
      case t1 =>
        refine' tv_own (i := 2) rfl ?t4
        fail "tv"
      case t3 =>
        intro h; have hiL : i = L.length := by simp at h; fail"o"
        subst hiL; rw [List.take_length] at hcl; have er : roomF n E m = sortM L := (room_of O.good O.ris O.mks O.few hnd hrc hmL hcl).symm; refine run_give (i := 2) rfl (run_cons (run_ret (d := .py (dMs (roomF n E m))) ?_ rfl))
        rw [er]; refine' ev_callB (ds := [.py (dMs L)]) ?b2 (c_sortedM (by fail"o") ?b4) rfl T.sorted boot_sorted (by decide) (by decide) rfl rfl
        case b2 => fail "eva"
        case b4 =>
          intro h2 x hx e; have h1 := Reach.marks O.mks (hrc x hx); rw [e] at h1; have h3 : m.length = 0 := h1.2.symm; have hfew := few_L O.mks hnd hrc; rw [h3] at hfew; have h4 : (MK.sets n 0).length = 1 := rfl
          fail"o"
      case t2 =>
        intro h; refine run_gen fun D' hn hrt => ?_
        have hiL : i < L.length := by simp at h; fail"o"
        have ex : L[i]? = some L[i] := List.getElem?_eq_getElem hiL
        generalize L[i] = x at ex
        have hxL := List.mem_of_getElem? ex; have hxm := Reach.marks O.mks (hrc x hxL); have fs : F_lslides [web n (MK.ln E), .py (dM x)] (.val (.py (dMs (MK.ln (slF n E x))))) := ⟨n, E, x, rfl, O.good, O.ris, hxm.1, hE, by fail"o", rfl⟩
        refine' run_cons (run_for (xs := (slF n E x).map encE) owns rfl (it_list ?it1) (JR2 K n E m x L i) ?h0 ?hs ?hd (fun _ => rfl))
        case it1 =>
          rw [← ln_enc]; refine' ev_def D1 hr (eva_cons ?i1 (eva_cons (ev_ownIx (i := 2) (k := (i : Int)) rfl ?i2 (atI_map ex) (fun _ _ => rfl) rfl (Or.inl rfl) (by decide) (by decide)) eva_nil rfl) rfl) fs rfl (by decide) rfl rfl
          case i1 => fail "ev"
          case i2 => fail "ev"
        case h0 => exact ⟨L, _, _, _, rfl, List.prefix_rfl, hnd, hrc, by simp⟩
        case hd =>
          rintro ρ ⟨L', b4, b5, b6, rfl, hp, hnd', hrc', hcl'⟩
          rw [List.length_map, List.take_length] at hcl'; refine' run_cons (run_set (i := 3) (d := dI ((i : Int) + 1)) ?d1 (run_nil (hn _ ⟨100 - (i + 1), by fail"o", L', i + 1, _, _, _, ?d2, ?d3, hnd', hrc', hp.subset hmL, ?d4, rfl⟩)) sc_lroom.nd rfl (Or.inl rfl) rfl (Or.inl rfl))
          case d1 => fail "ev"
          case d2 => rfl
          case d3 => have := hp.length_le; fail"o"
          case d4 =>
            intro y hy s hs; obtain ⟨t, rfl⟩ := hp; rw [List.take_append_of_le_length (by fail"o"), List.take_succ, ex] at hy
            rcases List.mem_append.mp hy with hy | hy
            · exact List.mem_append_left _ (hcl y hy s hs)
            · have : y = x := by simpa using hy
              subst this; exact hcl' s hs
        case hs =>
          rintro t d ρ hd ⟨L', b4, b5, b6, rfl, hp, hnd', hrc', hcl'⟩
          obtain ⟨s, es, rfl⟩ := map_get hd; have hss := List.mem_of_getElem? es
          have ex' : L'[i]? = some x := by
            obtain ⟨t, rfl⟩ := hp; rw [List.getElem?_append_left hiL]; exact ex
          have hfew' := O.lim L' hnd' hrc'; have fm : F_lmoved [.py (dM x), dI s.1, dI s.2] (.val (.py (dM (mv x s.1 s.2)))) := ⟨x, s.1, s.2, rfl, by fail"o", rfl⟩
          refine ⟨_, _, tg_pair (i := 4) (j := 5) rfl sc_lroom.nd rfl rfl (Or.inl rfl) (Or.inl rfl) (Or.inl rfl) (Or.inl rfl), ?_⟩
          refine run_gen fun D' hn hrt => ?_
          refine' run_cons (run_set (i := 6) (d := .py (dM (mv x s.1 s.2))) ?e1 ?e2 sc_lroom.nd rfl (Or.inl rfl) rfl (Or.inl rfl))
          case e1 =>
            refine' ev_def D2 hr (eva_cons (ev_ownIx (i := 2) (k := (i : Int)) rfl ?f1 (atI_map ex') (fun _ _ => rfl) rfl (Or.inl rfl) (by decide) (by decide)) ?f2 rfl) fm rfl (by decide) rfl rfl
            case f1 => fail "ev"
            case f2 => fail "eva"
          refine' run_cons (run_if (r := !decide (mv x s.1 s.2 ∈ L')) ?g1 ?g2 fun h1 => run_nil (run_nil (hn _ ⟨L', _, _, _, rfl, hp, hnd', hrc', ?g3⟩)))
          case g1 =>
            refine' tv_own (i := 2) rfl ?g4
            refine' tv_cmp ?g5 ?g6 (o_ninMs hu) (by with_unfolding_all rfl)
            case g5 => fail "ev"
            case g6 => fail "ev"
          case g3 =>
            intro y hy; rw [List.take_succ, es] at hy; rcases List.mem_append.mp hy with hy | hy
            · exact hcl' y hy
            · have : y = s := by simpa using hy
              subst this; simpa using h1
          case g2 =>
            intro h; have hin : mv x s.1 s.2 ∉ L' := by simpa using h
            refine' run_cons (run_append (i := 2) (y := dM (mv x s.1 s.2)) rfl ?j1 (run_nil (run_nil (hn _ ⟨L' ++ [mv x s.1 s.2], _, _, _, ?j2, hp.trans (List.prefix_append _ _), ?j3, ?j4, ?j5⟩))) (size_lt (by rw [List.length_map]; fail"o")) rfl (Or.inl rfl) (by decide) (by decide) rfl rfl rfl rfl rfl)
            case j1 => fail "ev"
            case j2 => rw [List.map_append]; rfl
            case j3 =>
              rw [List.nodup_append]; refine ⟨hnd', by simp, fun a ha b hb q => hin ?_⟩
              have : b = mv x s.1 s.2 := by simpa using hb
              rw [← this, ← q]; exact ha
            case j4 =>
              intro y hy; rcases List.mem_append.mp hy with hy | hy
              · exact hrc' y hy
              · have : y = mv x s.1 s.2 := by simpa using hy
                subst this; exact .step (hrc x hxL) hss
            case j5 =>
              intro y hy; rw [List.take_succ, es] at hy; rcases List.mem_append.mp hy with hy | hy
              · exact List.mem_append_left _ (hcl' y hy)
              · have : y = s := by simpa using hy
                subst this; simp
abbrev s_lgot : Stmt := top 41
abbrev n_lgot : List Str := ["_law_way", "_law_web_here", "_law_marks_here", "_law_goal", "_law_kept", "_law_found", "e"]
abbrev p_lgot : List Str := ["_law_way", "_law_web_here", "_law_marks_here", "_law_goal"]
theorem sc_lgot : FnScope n_lgot p_lgot (defScope s_lgot) := ⟨rfl, rfl, rfl, by decide +kernel, rfl, by decide +kernel, by decide +kernel⟩
inductive Asked (cBW cBM cUL cNT : Addr) (ds : List Dt) (q : DRes) : Prop
  | a0 (W m g : Dt) (c0 : ds = [dI 0, W, m, g]) (c1 : F_stiff cBW cBM cNT [W, m] q) : Asked cBW cBM cUL cNT ds q
  | a1 (W m g : Dt) (c0 : ds = [dI 1, W, m, g]) (c1 : F_free_parts cBW cBM cNT [W, m] q) : Asked cBW cBM cUL cNT ds q
  | a2 (W m g : Dt) (c0 : ds = [dI 2, W, m, g]) (c1 : F_told cBW cBM cUL cNT [W, m, g] q) : Asked cBW cBM cUL cNT ds q
inductive Said (K : Frag) (cSE cBW cBM cBS cUL cNT cBT : Addr) (q r : DRes) : Prop
  | v (d : Dt) (c0 : q = .val d) (c1 : r = .val d) : Said K cSE cBW cBM cBS cUL cNT cBT q r
  | x (C : Addr) (x : Str) (c0 : q = .exc C) (c1 : exmOne K (.ref C) (.ref cSE) = some true) (c2 : F_refusal K cSE cBW cBM cBS cUL cNT cBT [excD C] (.val (dS x))) (c3 : r = .val (dS x)) : Said K cSE cBW cBM cBS cUL cNT cBT q r
inductive F_lgot (K : Frag) (cSE cBW cBM cBS cUL cNT cBT : Addr) (ds : List Dt) (r : DRes) : Prop
  | mk (q : DRes) (c0 : Asked cBW cBM cUL cNT ds q) (c1 : Said K cSE cBW cBM cBS cUL cNT cBT q r) : F_lgot K cSE cBW cBM cBS cUL cNT cBT ds r
section
variable {f : Addr} {cdv : Value} {A : Around} {outer : List Env} {s : Shared} {H : Hp} {E' : XK} {B : Hp × Hp} {k : Nat}
theorem got_ok {a b c g : Bd} {d : Dt} : RunS (cxOf (CX1 P w) P w K mg base n_lgot "_law_got" (defScope s_lgot) f cdv A outer s H E') B [a, b, c, g, .dat dN, .dat d, .un] ((defBody s_lgot).drop 3) (dEnd (.val d)) := by
  refine' run_cons (run_ret (d := d) ?a1 rfl)
  refine' ev_if (d1 := dN) (d2 := dN) (r := true) ?a2 (fun _ => ?a3) (fun h => nomatch h)
  case a2 =>
    refine' tv_cmp ?a4 ev_non (o_isN (d := .none) rfl) (nomark _)
    fail "ev"
  case a3 => fail "ev"
theorem got_ex {C : Addr} {x : Str} (hr : Room k (A.deeper (envOfC "_law_got" (defScope s_lgot) s.heap.objs.size f cdv))) (D : Dfn P w K mg base k "_law_refusal" ["_law_kept"] (spD K (F_refusal K cSE cBW cBM cBS cUL cNT cBT))) (hf : F_refusal K cSE cBW cBM cBS cUL cNT cBT [excD C] (.val (dS x))) :
    RunS (cxOf (CX1 P w) P w K mg base n_lgot "_law_got" (defScope s_lgot) f cdv A outer s H E') B (kept 7 4 C) ((defBody s_lgot).drop 3) (dEnd (.val (dS x))) := by
  refine' run_cons (run_ret (d := dS x) ?a1 rfl)
  refine' ev_if (d1 := dN) (d2 := dN) (r := false) ?a2 (fun h => nomatch h) (fun _ => ?a3)
  case a2 =>
    refine' tv_cmp (da := excD C) ?a4 ev_non o_isNx (nomark _)
    fail "ev"
  case a3 => fail "ev"
theorem ok_lgot {fd : FuncData} (F : Fun K "_law_got" "_law_got" s_lgot f fd) (T : Txt K mg cSE cBW cBM cBS cUL cNT cBT)
    (D0 : Dfn P w K mg base k "stiff" ["web", "marks"] (spD K (F_stiff cBW cBM cNT))) (D1 : Dfn P w K mg base k "free_parts" ["web", "marks"] (spD K (F_free_parts cBW cBM cNT))) (D2 : Dfn P w K mg base k "tree_told" ["web", "marks", "goal"] (spD K (F_told cBW cBM cUL cNT)))
    (DR : Dfn P w K mg base k "_law_refusal" ["_law_kept"] (spD K (F_refusal K cSE cBW cBM cBS cUL cNT cBT))) : FnOk P w K mg base (CX1 P w) (k + 1) f fd p_lgot (spD K (F_lgot K cSE cBW cBM cBS cUL cNT cBT)) := by
  refine F.okD sc_lgot (by decide) (fun ds r h => ?_) fun cdv A outer s H E' B ds r hr R h => ?_
  · obtain ⟨q, h, _⟩ := h
    rcases h with ⟨_, _, _, rfl, _⟩ | ⟨_, _, _, rfl, _⟩ | ⟨_, _, _, rfl, _⟩ <;> rfl
  · have hu := hr.units
    let X : Cx := cxOf (CX1 P w) P w K mg base n_lgot "_law_got" (defScope s_lgot) f cdv A outer s H E'
    show RunS X B _ _ _
    obtain ⟨q, h, hs⟩ := h; rcases h with ⟨W, m, g, rfl, hq⟩ | ⟨W, m, g, rfl, hq⟩ | ⟨W, m, g, rfl, hq⟩
    all_goals
      refine run_cons (run_set (i := 4) ev_non ?_ sc_lgot.nd rfl (Or.inl rfl) rfl (Or.inl rfl))
      refine run_cons (run_set (i := 5) ev_non ?_ sc_lgot.nd rfl (Or.inl rfl) rfl (Or.inl rfl))
      rcases hs with ⟨d, rfl, rfl⟩ | ⟨C, x, rfl, kx, rf, rfl⟩
    · refine' run_cons (run_try (i := 6) (j := 4) (C0 := cSE) (xc := fun _ => False) isDef_cxOf.inDef (fun C h => h.elim) (fun pins E2 B2 PO => ?n0a) (fun C h => h.elim) sc_lgot.nd rfl rfl (by decide) rfl rfl T.se rfl (by decide) (by decide) (by decide))
      refine' run_cons (run_if (r := true) ?n0b0 (fun _ => ?n0c0) fun h => nomatch h)
      case n0b0 => exact Tv.to (by fail "tv") rfl
      refine' run_cons (run_set (i := 5) (d := d) ?n0d (run_nil (run_nil (got_ok))) sc_lgot.nd rfl (Or.inl rfl) rfl (Or.inl rfl))
      fail "ev"
    · refine' run_cons (run_try (i := 6) (j := 4) (C0 := cSE) (xc := fun C' => C' = C) isDef_cxOf.inDef (fun C' h => by subst h; exact kx) (fun pins E2 B2 PO => ?n1a) (fun C' h => by subst h; exact got_ex hr DR rf) sc_lgot.nd rfl rfl (by decide) rfl rfl T.se rfl (by decide) (by decide) (by decide))
      refine' run_cons (run_if (r := true) ?n1b0 (fun _ => ?n1c0) fun h => nomatch h)
      case n1b0 => exact Tv.to (by fail "tv") rfl
      refine' run_cons (run_setR (i := 5) (ra_def PO D0 hr ?n1d hq rfl rfl (by decide) rfl rfl) sc_lgot.nd rfl (Or.inl rfl) rfl (Or.inl rfl))
      fail "eva"
    · refine' run_cons (run_try (i := 6) (j := 4) (C0 := cSE) (xc := fun _ => False) isDef_cxOf.inDef (fun C h => h.elim) (fun pins E2 B2 PO => ?n2a) (fun C h => h.elim) sc_lgot.nd rfl rfl (by decide) rfl rfl T.se rfl (by decide) (by decide) (by decide))
      refine' run_cons (run_if (r := false) ?n2b0 (fun h => nomatch h) fun _ => ?n2c0)
      case n2b0 => exact Tv.to (by fail "tv") rfl
      refine' run_cons (run_set (i := 5) (d := d) (ev_if (d1 := dN) (d2 := dN) (r := true) ?n2e (fun _ => ?n2f) (fun h => nomatch h)) (run_nil (run_nil (got_ok))) sc_lgot.nd rfl (Or.inl rfl) rfl (Or.inl rfl))
      case n2e => exact Tv.to (by fail "tv") rfl
      case n2f => fail "ev"
    · refine' run_cons (run_try (i := 6) (j := 4) (C0 := cSE) (xc := fun C' => C' = C) isDef_cxOf.inDef (fun C' h => by subst h; exact kx) (fun pins E2 B2 PO => ?n3a) (fun C' h => by subst h; exact got_ex hr DR rf) sc_lgot.nd rfl rfl (by decide) rfl rfl T.se rfl (by decide) (by decide) (by decide))
      refine' run_cons (run_if (r := false) ?n3b0 (fun h => nomatch h) fun _ => ?n3c0)
      case n3b0 => exact Tv.to (by fail "tv") rfl
      refine' run_cons (run_setR (i := 5) (ra_if (r := true) ?n3e (fun _ => ?n3f) (fun h => nomatch h)) sc_lgot.nd rfl (Or.inl rfl) rfl (Or.inl rfl))
      case n3e => exact Tv.to (by fail "tv") rfl
      case n3f =>
        refine' ra_def PO D1 hr ?n3g hq rfl rfl (by decide) rfl rfl
        fail "eva"
    · refine' run_cons (run_try (i := 6) (j := 4) (C0 := cSE) (xc := fun _ => False) isDef_cxOf.inDef (fun C h => h.elim) (fun pins E2 B2 PO => ?n4a) (fun C h => h.elim) sc_lgot.nd rfl rfl (by decide) rfl rfl T.se rfl (by decide) (by decide) (by decide))
      refine' run_cons (run_if (r := false) ?n4b0 (fun h => nomatch h) fun _ => ?n4c0)
      case n4b0 => exact Tv.to (by fail "tv") rfl
      refine' run_cons (run_set (i := 5) (d := d) (ev_if (d1 := dN) (d2 := dN) (r := false) ?n4e (fun h => nomatch h) (fun _ => ?n4f)) (run_nil (run_nil (got_ok))) sc_lgot.nd rfl (Or.inl rfl) rfl (Or.inl rfl))
      case n4e => exact Tv.to (by fail "tv") rfl
      case n4f => fail "ev"
    · refine' run_cons (run_try (i := 6) (j := 4) (C0 := cSE) (xc := fun C' => C' = C) isDef_cxOf.inDef (fun C' h => by subst h; exact kx) (fun pins E2 B2 PO => ?n5a) (fun C' h => by subst h; exact got_ex hr DR rf) sc_lgot.nd rfl rfl (by decide) rfl rfl T.se rfl (by decide) (by decide) (by decide))
      refine' run_cons (run_if (r := false) ?n5b0 (fun h => nomatch h) fun _ => ?n5c0)
      case n5b0 => exact Tv.to (by fail "tv") rfl
      refine' run_cons (run_setR (i := 5) (ra_if (r := false) ?n5e (fun h => nomatch h) (fun _ => ?n5f)) sc_lgot.nd rfl (Or.inl rfl) rfl (Or.inl rfl))
      case n5e => exact Tv.to (by fail "tv") rfl
      case n5f =>
        refine' ra_def PO D2 hr ?n5g hq rfl rfl (by decide) rfl rfl
        fail "eva"
end
abbrev s_ltree : Stmt := top 42
abbrev n_ltree : List Str := ["_law_script", "_law_k", "_law_places", "_law_many", "_law_lines", "_law_other"]
theorem sc_ltree : FnScope n_ltree ["_law_script", "_law_k", "_law_places"] (defScope s_ltree) := ⟨rfl, rfl, rfl, by decide +kernel, rfl, by decide +kernel, by decide +kernel⟩
def TreeP (p n : Int) (E : MK.Edges) : Prop := WebP p n E ∧ (E.length : Int) = n - 1
inductive F_ltree (K : Frag) (ds : List Dt) (r : DRes) : Prop
  | mk (sc : List Int) (k p : Int) (c0 : ds = [.py (dL sc), dI k, dI p]) (c1 : sc.length ≤ 63) (c2 : 1 ≤ p) (c3 : p ≤ 8) (c4 : r = .val (exD K fun d => ∃ n E, d = web n (MK.ln E) ∧ TreeP p n E)) : F_ltree K ds r
inductive JLt (K : Frag) (sc : List Int) (k p n : Int) (i : Nat) (ρ : List Bd) : Prop
  | mk (L : MK.Edges) (b : Bd) (c0 : ρ = [.dat (.py (dL sc)), .dat (dI k), .dat (dI p), .dat (dI n), ownL K (L.map encE), b]) (c1 : ∀ e ∈ L, 0 ≤ e.1 ∧ e.1 < e.2 ∧ e.2 < 1 + (i : Int)) (c2 : L.Nodup) (c3 : L.length = i) : JLt K sc k p n i ρ
theorem ok_ltree {k : Nat} {f : Addr} {fd : FuncData} (F : Fun K "_law_tree" "_law_tree" s_ltree f fd) (T : Txt K mg cSE cBW cBM cBS cUL cNT cBT)
    (D1 : Dfn P w K mg base k "_law_mix" ["_law_script", "_law_k"] (spD K F_mix)) : FnOk P w K mg base (CX1 P w) (k + 1) f fd ["_law_script", "_law_k", "_law_places"] (spD K (F_ltree K)) := by
  refine F.okD sc_ltree (by decide) (fun ds r h => ?_) fun cdv A outer s H E' B ds r hr R h => ?_
  · obtain ⟨_, _, _, rfl, _⟩ := h; rfl
  · obtain ⟨sc, k, p, rfl, hl, hp1, hp2, rfl⟩ := h
    have hu := hr.units
    let X : Cx := cxOf (CX1 P w) P w K mg base n_ltree "_law_tree" (defScope s_ltree) f cdv A outer s H E'
    show RunS X B _ _ _
    have m_range := T.range; refine' run_cons (run_set (i := 3) (d := dI (1 + mixF sc k % p)) ?a1 ?a2 sc_ltree.nd rfl (Or.inl rfl) rfl (Or.inl rfl))
    case a1 => fail "ev"
    have hn1 : 1 ≤ 1 + mixF sc k % p := by have := Int.emod_nonneg (mixF sc k) (show p ≠ 0 by fail"o"); fail"o"
    have hn2 : 1 + mixF sc k % p ≤ p := by have := Int.emod_lt_of_pos (mixF sc k) (show 0 < p by fail"o"); fail"o"
    generalize 1 + mixF sc k % p = n at hn1 hn2
    refine run_cons (run_own (i := 4) evp_nil ?_ (size_le (by decide)) sc_ltree.nd rfl (Or.inl rfl) rfl (Or.inl rfl))
    refine' run_cons (run_for (xs := rng 1 (n - 1).toNat) owns rfl (it_range2 ?it1 ?it2 ⟨by fail"o", by fail"o", by fail"o", by fail"o"⟩ rfl T.range rfl rfl) (JLt K sc k p n) ?h0 ?hs ?hd (fun _ => rfl))
    case it1 => fail "ev"
    case it2 => fail "ev"
    case h0 => exact ⟨[], _, rfl, by simp, by simp, rfl⟩
    case hs =>
      rintro i d ρ hd ⟨L, b, rfl, hin, hnd, hlen⟩
      obtain ⟨hi, rfl⟩ := rng_get hd; refine ⟨_, _, tg_name (i := 5) sc_ltree.nd rfl (Or.inl rfl) (Or.inl rfl), ?_⟩
      refine run_gen fun D' hn hrt => ?_
      have ho : 0 < 1 + (i : Int) := by fail"o"
      have fx : F_mix [.py (dL sc), dI (k + (1 + (i : Int)))] (.val (dI (mixF sc (k + (1 + (i : Int)))))) := ⟨sc, _, rfl, hl, rfl⟩; have e0 := Int.emod_nonneg (mixF sc (k + (1 + (i : Int))) / 8) (show 1 + (i : Int) ≠ 0 by fail"o")
      have e1 := Int.emod_lt_of_pos (mixF sc (k + (1 + (i : Int))) / 8) ho
      generalize hN : mixF sc (k + (1 + (i : Int))) = N at fx e0 e1
      refine' run_cons (run_append (i := 4) (y := encE (N / 8 % (1 + (i : Int)), 1 + (i : Int))) rfl ?e1 (run_nil (hn _ ⟨L ++ [(N / 8 % (1 + (i : Int)), 1 + (i : Int))], _, ?e2, ?e3, ?e4, by simp; fail"o"⟩)) (size_lt (by rw [List.length_map]; fail"o")) rfl (Or.inl rfl) (by decide) (by decide) rfl rfl rfl rfl rfl)
      case e1 => fail "ev"
      case e2 => rw [List.map_append]; rfl
      case e3 =>
        intro e he; rcases List.mem_append.mp he with he | he
        · have := hin e he; fail"o"
        · have : e = (N / 8 % (1 + (i : Int)), 1 + (i : Int)) := by simpa using he
          subst this; dsimp only; fail"o"
      case e4 =>
        rw [List.nodup_append]; refine ⟨hnd, by simp, fun a ha b hb q => ?_⟩
        have : b = (N / 8 % (1 + (i : Int)), 1 + (i : Int)) := by simpa using hb
        subst this; subst q; have := hin _ ha; dsimp only at this
        fail"o"
    case hd =>
      rintro ρ ⟨L, b, rfl, hin', hnd, hlen'⟩
      rw [rng_length] at hin' hlen'; have hin : ∀ e ∈ L, 0 ≤ e.1 ∧ e.1 < e.2 ∧ e.2 < n := fun e he => by have := hin' e he; fail"o"
      have hlen : L.length ≤ 60 := by fail"o"
      refine run_give (i := 4) rfl ?_
      refine' run_cons (run_ret (ev_ex (d := web n (sortM (MK.ln L))) ?u1 ?u2) rfl)
      case u1 =>
        refine' ev_tup (ds := [.int n, dMs (sortM (MK.ln L))]) ?v1 (size_ble rfl)
        refine' evp_cons ?v2 (evp_cons ?v3 evp_nil rfl) rfl
        case v2 => fail "ev"
        case v3 =>
          refine' ev_callB (ds := [.py (dMs (MK.ln L))]) ?w1 (c_sortedM (by rw [MK.ln, List.length_map]; fail"o") ?w2) rfl T.sorted boot_sorted (by decide) (by decide) rfl rfl
          case w2 =>
            intro _ m hm; obtain ⟨e, _, rfl⟩ := List.mem_map.mp hm; exact fun h => nomatch h
          unfold dMs; rw [ln_enc]
          fail "eva"
      case u2 =>
        have hmem : ∀ m, m ∈ sortM (MK.ln L) → ∃ e ∈ L, [e.1, e.2] = m := fun m hm => by
          obtain ⟨e, he, q⟩ := List.mem_map.mp ((isort_perm _).mem_iff.mp hm); exact ⟨e, he, q⟩
        have hlen2 : ∀ m ∈ sortM (MK.ln L), m.length = 2 := fun m hm => by obtain ⟨e, _, rfl⟩ := hmem m hm; rfl
        have hel : (MK.ends (sortM (MK.ln L))).length = L.length := by
          have h1 := congrArg List.length (MK.ln_ends hlen2); have h2 : (MK.ln (MK.ends (sortM (MK.ln L)))).length = (MK.ends (sortM (MK.ln L))).length := List.length_map ..; have h3 : (sortM (MK.ln L)).length = (MK.ln L).length := (isort_perm _).length_eq; have h4 : (MK.ln L).length = L.length := List.length_map ..
          fail"o"
        refine ⟨n, MK.ends (sortM (MK.ln L)), by rw [MK.ln_ends hlen2], ⟨hn1, hn2, ?_, ?_⟩, by fail"o"⟩
        · have h1 := congrArg List.length (MK.ln_ends hlen2)
          have h2 : (MK.ln (MK.ends (sortM (MK.ln L)))).length = (MK.ends (sortM (MK.ln L))).length := List.length_map ..; have h3 : (sortM (MK.ln L)).length = (MK.ln L).length := (isort_perm _).length_eq; have h4 : (MK.ln L).length = L.length := List.length_map ..
          fail"o"
        · rw [MK.ln_ends hlen2]
          unfold MK.webOk; have h1 : (decide (1 ≤ n) && decide (n ≤ 12)) = true := by simp; fail"o"
          have h2 : (sortM (MK.ln L)).all (MK.isLine n) = true := List.all_eq_true.mpr fun m hm => by
            obtain ⟨e, he, rfl⟩ := hmem m hm; have := hin e he; simp [MK.isLine]
            fail"o"
          rw [h1, h2, rises_sortM (ln_nodup hnd)]; rfl
abbrev s_lit : Stmt := top 43
abbrev n_lit : List Str := ["_law_web_here", "_law_known", "_law_turn", "_law_one", "_law_other"]
theorem sc_lit : FnScope n_lit ["_law_web_here"] (defScope s_lit) := ⟨rfl, rfl, rfl, by decide +kernel, rfl, by decide +kernel, by decide +kernel⟩
inductive F_lit (ds : List Dt) (r : DRes) : Prop
  | mk (n : _) (E : _) (c0 : ds = [web n (MK.ln E)]) (c1 : 0 ≤ n) (c2 : n ≤ 12) (c3 : E.length ≤ 60) (c4 : r = .val (dB (decide (((MK.distinct (MK.knowAll E n.toNat [0])).length : Int) = n) && decide ((E.length : Int) = n - 1)))) : F_lit ds r
theorem ok_lit {k : Nat} {f : Addr} {fd : FuncData} (F : Fun K "_law_is_tree" "_law_is_tree" s_lit f fd) (T : Txt K mg cSE cBW cBM cBS cUL cNT cBT) : FnOk P w K mg base (CX1 P w) (k + 1) f fd ["_law_web_here"] (spD K F_lit) := by
  refine F.okD sc_lit (by decide) (fun ds r h => ?_) fun cdv A outer s H E' B ds r hr R h => ?_
  · obtain ⟨_, _, rfl, _⟩ := h; rfl
  · obtain ⟨n, E, rfl, hn0, hn, hE, rfl⟩ := h
    have hu := hr.units; have m_len := T.len; have m_set := T.set; refine' run_cons (run_set (i := 1) (d := .py (dL [0])) ?a1 ?a2 sc_lit.nd rfl (Or.inl rfl) rfl (Or.inl rfl))
    case a1 => fail "ev"
    refine' run_cons (run_for (xs := rng 0 n.toNat) owns rfl (it_range1 ?it1 (by fail"o") (by fail"o") rfl T.range rfl) (fun i ρ => ∃ kn b c d, ρ = [.dat (web n (MK.ln E)), .dat (.py (dL kn)), b, c, d] ∧ MK.knowAll E (n.toNat - i) kn = MK.knowAll E n.toNat [0] ∧ kn.length ≤ 1 + 120 * i) ?h0 ?hs ?hd (fun _ => rfl))
    case it1 => fail "ev"
    case h0 => exact ⟨[0], _, _, _, rfl, by rw [Nat.sub_zero], by simp⟩
    case hs =>
      rintro i d ρ hd ⟨kn, b, c, d', rfl, hk, hlk⟩
      obtain ⟨hi, rfl⟩ := rng_get hd; refine ⟨_, _, tg_name (i := 2) sc_lit.nd rfl (Or.inl rfl) (Or.inl rfl), ?_⟩
      refine' run_cons (run_for (xs := (MK.ln E).map dM) owns rfl (it_list ?it2) (fun j ρ => ∃ kj c d e, ρ = [.dat (web n (MK.ln E)), .dat (.py (dL kj)), e, c, d] ∧ kj = (E.take j).foldl MK.know1 kn ∧ kj.length ≤ kn.length + 2 * j) ?g0 ?gs ?gd (fun _ => rfl))
      case it2 => fail "ev"
      case g0 => exact ⟨kn, _, _, _, rfl, rfl, by simp⟩
      case gs =>
        rintro j d ρ hd ⟨kj, c, d', e', rfl, hkj, hlj⟩
        obtain ⟨l, el, rfl⟩ := map_get hd; unfold MK.ln at el; rw [List.getElem?_map] at el
        cases ee : E[j]? with
        | none => rw [ee] at el; cases el
        | some e =>
          rw [ee] at el; have el' : [e.1, e.2] = l := Option.some.inj el; subst el'; have hj : j < E.length := (List.getElem?_eq_some_iff.mp ee).1
          have hnx : (E.take (j + 1)).foldl MK.know1 kn = MK.know1 kj e := by
            rw [List.take_succ, ee, List.foldl_append, ← hkj]; rfl
          have hb : (MK.has kj e.1 != MK.has kj e.2) = (decide (e.1 ∈ kj) != decide (e.2 ∈ kj)) := by
            have h1 : ∀ x, MK.has kj x = decide (x ∈ kj) := fun x => by rw [Bool.eq_iff_iff, MK.has_iff, decide_eq_true_iff]
            rw [h1, h1]
          refine ⟨_, _, tg_pair (i := 3) (j := 4) (u := .int e.1) (w' := .int e.2) rfl sc_lit.nd rfl rfl (Or.inl rfl) (Or.inl rfl) (Or.inl rfl) (Or.inl rfl), ?_⟩
          refine' run_cons (run_if (r := decide (e.1 ∈ kj) != decide (e.2 ∈ kj)) ?c1 ?r1 fun h1 => run_nil (run_nil ⟨kj, _, _, _, rfl, ?k1, by fail"o"⟩))
          case c1 => fail "tv"
          case k1 =>
            rw [hnx]; unfold MK.know1; rw [hb, h1, if_neg (by decide)]
          case r1 =>
            intro h; refine' run_cons (run_set (i := 1) (d := .py (dL (kj ++ [e.1, e.2]))) ?d1 (run_nil (run_nil ⟨kj ++ [e.1, e.2], _, _, _, rfl, ?d2, by simp; fail"o"⟩)) sc_lit.nd rfl (Or.inl rfl) rfl (Or.inl rfl))
            case d1 =>
              refine' Ev.to (ev_bin (db := .py (.list [.int e.1, .int e.2])) ?e1 ?e2 (o_catL ?e3)) ?e4
              case e1 => fail "ev"
              case e2 => fail "ev"
              case e3 => rw [List.length_map]; show kj.length + 2 ≤ _; exact size_le (by fail"o")
              case e4 =>
                show _ = Dt.py (.list ((kj ++ [e.1, e.2]).map PyData.int))
                rw [List.map_append]; rfl
            case d2 => rw [hnx]; unfold MK.know1; rw [hb, h, if_pos rfl]
      case gd =>
        rintro ρ ⟨kj, c, d', e', rfl, hkj, hlj⟩
        refine run_nil ⟨kj, _, _, _, rfl, ?_, ?_⟩
        · have e1 : n.toNat - i = (n.toNat - (i + 1)) + 1 := by fail"o"
          rw [e1] at hk; rw [List.length_map, MK.ln, List.length_map, List.take_length] at hkj; rw [hkj]; exact hk
        · rw [List.length_map, MK.ln, List.length_map] at hlj
          fail"o"
    case hd =>
      rintro ρ ⟨kn, b, c, d, rfl, hk, hlk⟩
      rw [rng_length, Nat.sub_self] at hk; have hk' : kn = MK.knowAll E n.toNat [0] := hk; rw [rng_length] at hlk; refine' run_cons (run_ret (d := dB (decide (((MK.distinct (MK.knowAll E n.toNat [0])).length : Int) = n) && decide ((E.length : Int) = n - 1))) ?f1 rfl)
      have cs : CallD (cxOf (CX1 P w) P w K mg base n_lit "_law_is_tree" (defScope s_lit) f cdv A outer s H E') (.type "set") [.py (dL kn)] (setID kn) := c_setI rfl (by fail"o")
      have cl : CallD (cxOf (CX1 P w) P w K mg base n_lit "_law_is_tree" (defScope s_lit) f cdv A outer s H E') (.builtin "len") [setID kn] (dI (MK.distinct kn).length) := c_lenS; refine Ev.to (by fail "ev") ?_
      rw [hk', List.length_map, MK.ln, List.length_map]
theorem slF_few {n : Int} {E : MK.Edges} {m : List Int} (hE : E.length ≤ 30) (hm : m.length < 50) : (slF n E m).length ≤ 3000 := by
  unfold slF
  have := MK.flat_len (fun a => ((MK.touching E a).filter fun b => MK.areMarks n E (mv m a b)).map fun b => (a, b)) 60 (fun a => by
    rw [List.length_map]; have h1 := List.length_filter_le (fun b => MK.areMarks n E (mv m a b)) (MK.touching E a)
    have h2 := touching_len (x := a) E
    fail"o") m
  fail"o"
abbrev s_lstiff : Stmt := top 44
abbrev n_lstiff : List Str := ["_law_web_here", "_law_marks_here", "_law_moving", "_law_here"]
theorem sc_lstiff : FnScope n_lstiff ["_law_web_here", "_law_marks_here"] (defScope s_lstiff) := ⟨rfl, rfl, rfl, by decide +kernel, rfl, by decide +kernel, by decide +kernel⟩
inductive F_lstiff (ds : List Dt) (r : DRes) : Prop
  | mk (n : Int) (E : MK.Edges) (m : List Int) (c0 : ds = [web n (MK.ln E), .py (dM m)]) (c1 : WOk n E m) (c2 : r = .val (.py (dM (m.filter fun x => !decide (x ∈ goneL n E (roomF n E m)))))) : F_lstiff ds r
theorem WOk.len {n : Int} {E : MK.Edges} {m : List Int} (O : WOk n E m) : (roomF n E m).length ≤ 60 := by
  unfold roomF; rw [(isort_perm _).length_eq]; exact O.lim _ (fin_nd O.good O.ris O.mks O.few) fun x hx => (fin_mem O.good O.ris O.mks O.few).mp hx
inductive JLs (n : Int) (E : MK.Edges) (m : List Int) (room : LLI) (i : Nat) (ρ : List Bd) : Prop
  | mk (mo : List Int) (b : Bd) (c0 : ρ = [.dat (web n (MK.ln E)), .dat (.py (dM m)), .dat (.py (dL mo)), b]) (c1 : mo = goneL n E (room.take i)) (c2 : mo.length ≤ 3000 * i) : JLs n E m room i ρ
theorem ok_lstiff {k : Nat} {f : Addr} {fd : FuncData} (F : Fun K "_law_stiff" "_law_stiff" s_lstiff f fd) (T : Txt K mg cSE cBW cBM cBS cUL cNT cBT)
    (D1 : Dfn P w K mg base k "_law_room" ["_law_web_here", "_law_marks_here"] (spD K F_lroom)) (D2 : Dfn P w K mg base k "_law_slides" ["_law_web_here", "_law_marks_here"] (spD K F_lslides)) : FnOk P w K mg base (CX1 P w) (k + 1) f fd ["_law_web_here", "_law_marks_here"] (spD K F_lstiff) := by
  refine F.okD sc_lstiff (by decide) (fun ds r h => ?_) fun cdv A outer s H E' B ds r hr R h => ?_
  · obtain ⟨_, _, _, rfl, _⟩ := h; rfl
  · obtain ⟨n, E, m, rfl, O, rfl⟩ := h
    have hu := hr.units
    let X : Cx := cxOf (CX1 P w) P w K mg base n_lstiff "_law_stiff" (defScope s_lstiff) f cdv A outer s H E'
    show RunS X B _ _ _
    have hml := O.ml; have fr : F_lroom [web n (MK.ln E), .py (dM m)] (.val (.py (dMs (roomF n E m)))) := ⟨n, E, m, rfl, O, rfl⟩; have hrl := O.len; have hrm : ∀ x ∈ roomF n E m, MK.Marks n E x ∧ x.length = m.length := fun x hx => Reach.marks O.mks (O.room.mp hx)
    generalize roomF n E m = room at fr hrl hrm ⊢
    refine' run_cons (run_set (i := 2) (d := .py (dL [])) ?a1 ?a2 sc_lstiff.nd rfl (Or.inr rfl) rfl (Or.inl rfl))
    case a1 => fail "ev"
    refine' run_cons (run_for (xs := room.map dM) owns rfl (it_list ?it) (JLs n E m room) ?h0 ?hs ?hd (fun _ => rfl))
    case it => fail "ev"
    case h0 => exact ⟨[], _, rfl, rfl, by simp⟩
    case hs =>
      rintro i d ρ hd ⟨mo, b, rfl, hmo, hlen⟩
      obtain ⟨x, ex, rfl⟩ := map_get hd; have hi : i < room.length := (List.getElem?_eq_some_iff.mp ex).1
      obtain ⟨hxm, hxl⟩ := hrm x (List.mem_of_getElem? ex); have hsl := slF_few (n := n) (E := E) (m := x) O.el (by fail"o")
      have fs : F_lslides [web n (MK.ln E), .py (dM x)] (.val (.py (dMs (MK.ln (slF n E x))))) := ⟨n, E, x, rfl, O.good, O.ris, hxm, O.el, by fail"o", rfl⟩
      have hnx : goneL n E (room.take (i + 1)) = mo ++ (slF n E x).map (·.1) := by
        rw [List.take_succ, ex, hmo]; unfold goneL; rw [List.flatMap_append]
        congr 1
        show List.flatMap _ [x] = _
        rw [List.flatMap_cons, List.flatMap_nil, List.append_nil]
      refine ⟨_, _, tg_name (i := 3) sc_lstiff.nd rfl (Or.inl rfl) (Or.inl rfl), ?_⟩
      refine run_gen fun D' hn hrt => ?_
      refine' run_cons (run_set (i := 2) (d := .py (dL (mo ++ (slF n E x).map (·.1)))) ?c1 (run_nil (hn _ ⟨_, _, rfl, hnx.symm, by rw [List.length_append, List.length_map]; fail"o"⟩)) sc_lstiff.nd rfl (Or.inr rfl) rfl (Or.inl rfl))
      refine' Ev.to (ev_bin (da := .py (.list (mo.map .int))) (db := .py (.list ((slF n E x).map fun e => .int e.1))) ?d1 ?d2 (o_catL ?d3)) ?d4
      case d1 => fail "ev"
      case d3 => rw [List.length_map, List.length_map]; exact size_le (by fail"o")
      case d4 => unfold dL; rw [List.map_append, List.map_map]; rfl
      case d2 =>
        refine Ev.to (ev_compG (α := Int × Int) (enc := encE) (ns := slF n E x) (b := fun _ => true) (f := fun e => .int e.1) (N := ["_law_one", "_law_other"]) (src := [none, none]) (ρx := fun e => [.dat (dI e.1), .dat (dI e.2)]) decE decE_enc rfl (compOk_mk (defScope s_lstiff) n_lstiff rfl rfl (by decide +kernel)) (it_list ?_) ?_ ?_ (fun _ => rfl)) ?_
        · rw [← ln_enc]; fail "ev"
        · intro L s₀ H₀ fp e he
          refine ⟨_, tg_pair (i := 0) (j := 1) rfl (show (["_law_one", "_law_other"] : List Str).Nodup by decide +kernel) rfl rfl (Or.inl rfl) (Or.inl rfl) (Or.inr rfl) (Or.inr rfl), by simp, fun B => ⟨tvs_nil, fun _ => ?_⟩⟩
          fail "ev"
        · exact size_le (by fail"o")
        · rw [List.filter_eq_self.mpr (fun _ _ => rfl)]
    case hd =>
      rintro ρ ⟨mo, b, rfl, hmo, hlen⟩
      rw [List.length_map, List.take_length] at hmo; rw [← hmo]; refine' run_cons (run_ret (d := .py (dM (m.filter fun x => !decide (x ∈ mo)))) ?f1 rfl)
      refine' ev_callTy (ds := [.py (dL (m.filter fun x => !decide (x ∈ mo)))]) ?f2 (c_tuple (.inl rfl)) rfl T.tuple boot_tuple (by decide) (by decide) rfl rfl
      refine' eva_cons ?f3 eva_nil rfl
      refine ev_compG (α := Int) (enc := .int) (ns := m) (b := fun x => !decide (x ∈ mo)) (f := .int) (N := ["_law_spot", "_law_moving"]) (src := [none, some 2]) (ρx := fun x => [.dat (dI x), .dat (.py (dL mo))]) decI decI_enc rfl (compOk_mk (defScope s_lstiff) n_lstiff rfl rfl (by decide +kernel)) (it_tup ?_) ?_ (size_le (by fail"o")) (fun _ => rfl)
      · fail "ev"
      · intro L s₀ H₀ fp x hx
        refine ⟨_, tg_name (i := 0) (show (["_law_spot", "_law_moving"] : List Str).Nodup by decide +kernel) rfl (Or.inl rfl) (Or.inr rfl), by simp, fun B => ⟨tvs_one ?_, fun _ => ?_⟩⟩
        · fail "tv"
        · fail "ev"
abbrev s_lparts : Stmt := top 45
abbrev n_lparts : List Str := ["_law_web_here", "_law_some", "_law_marks_here", "_law_left", "_law_spot", "_law_touched", "_law_found", "_law_part", "_law_turn", "_law_one", "_law_other", "_law_inner"]
theorem sc_lparts : FnScope n_lparts ["_law_web_here", "_law_some", "_law_marks_here"] (defScope s_lparts) := ⟨rfl, rfl, rfl, by decide +kernel, rfl, by decide +kernel, by decide +kernel⟩
inductive F_lparts (ds : List Dt) (r : DRes) : Prop
  | mk (n : Int) (E : MK.Edges) (ss m : List Int) (c0 : ds = [web n (MK.ln E), .py (dM ss), .py (dM m)]) (c1 : 0 ≤ n) (c2 : n ≤ 12) (c3 : E.length < 1000) (c4 : r = .val (.py (partsD (partsF E m (restF n E ss))))) : F_lparts ds r
def besB (E : MK.Edges) (ss : List Int) (x : Int) : Bool := !decide (x ∈ ss) && !MK.touchesAny E x ss
inductive JQ1 (K : Frag) (n : Int) (E : MK.Edges) (ss m : List Int) (i : Nat) (ρ : List Bd) : Prop
  | mk (L : List Int) (b4 b5 : Bd) (c0 : ρ = [.dat (web n (MK.ln E)), .dat (.py (dM ss)), .dat (.py (dM m)), ownL K (L.map .int), b4, b5, .un, .un, .un, .un, .un, .un]) (c1 : L = ((MK.spots n).take i).filter (besB E ss)) (c2 : L.length ≤ i) : JQ1 K n E ss m i ρ
inductive JQ2 (K : Frag) (n : Int) (E : MK.Edges) (ss m : List Int) (μ : Nat) (ρ : List Bd) : Prop
  | mk (ps : List (List Int × Nat)) (rest : List Int) (b4 b5 b7 b8 b9 b10 b11 : Bd) (c0 : ρ = [.dat (web n (MK.ln E)), .dat (.py (dM ss)), .dat (.py (dM m)), .dat (.py (dL rest)), b4, b5, ownL K (ps.map encP), b7, b8, b9, b10, b11]) (c1 : rest.Pairwise (· < ·)) (c2 : ps.length + rest.length ≤ n.toNat) (c3 : ps ++ partsF E m rest = partsF E m (restF n E ss)) (c4 : μ = rest.length) : JQ2 K n E ss m μ ρ
inductive JQ3 (K : Frag) (n : Int) (E : MK.Edges) (ss m rest : List Int) (a : Int) (b4 b5 b6 : Bd) (t : Nat) (ρ : List Bd) : Prop
  | mk (p : List Int) (b8 b9 b10 b11 : Bd) (c0 : ρ = [.dat (web n (MK.ln E)), .dat (.py (dM ss)), .dat (.py (dM m)), .dat (.py (dL rest)), b4, b5, b6, .dat (.py (dL p)), b8, b9, b10, b11]) (c1 : rndsP E rest (n.toNat - t) p = rndsP E rest n.toNat [a]) (c2 : PInv E rest a p) : JQ3 K n E ss m rest a b4 b5 b6 t ρ
inductive JQ4 (K : Frag) (n : Int) (E : MK.Edges) (ss m rest : List Int) (a : Int) (p0 : List Int) (b4 b5 b6 b8 : Bd) (j : Nat) (ρ : List Bd) : Prop
  | mk (p : List Int) (b9 b10 b11 : Bd) (c0 : ρ = [.dat (web n (MK.ln E)), .dat (.py (dM ss)), .dat (.py (dM m)), .dat (.py (dL rest)), b4, b5, b6, .dat (.py (dL p)), b8, b9, b10, b11]) (c1 : p = (E.take j).foldl (stepP rest) p0) (c2 : PInv E rest a p) : JQ4 K n E ss m rest a p0 b4 b5 b6 b8 j ρ
theorem ok_lparts {k : Nat} {f : Addr} {fd : FuncData} (F : Fun K "_law_parts" "_law_parts" s_lparts f fd) (T : Txt K mg cSE cBW cBM cBS cUL cNT cBT) : FnOk P w K mg base (CX1 P w) (k + 1) f fd ["_law_web_here", "_law_some", "_law_marks_here"] (spD K F_lparts) := by
  refine F.okD sc_lparts (by decide) (fun ds r h => ?_) fun cdv A outer s H E' B ds r hr R h => ?_
  · obtain ⟨_, _, _, _, rfl, _⟩ := h; rfl
  · obtain ⟨n, E, ss, m, rfl, hn0, hn, hE, rfl⟩ := h
    have hu := hr.units
    let X : Cx := cxOf (CX1 P w) P w K mg base n_lparts "_law_parts" (defScope s_lparts) f cdv A outer s H E'
    show RunS X B _ _ _
    have m_len := T.len; refine run_cons (run_own (i := 3) evp_nil ?_ (size_le (by decide)) sc_lparts.nd rfl (Or.inl rfl) rfl (Or.inl rfl))
    refine' run_cons (run_for (xs := (MK.spots n).map .int) owns rfl ?it1 (JQ1 K n E ss m) ?h0 ?hs ?hd (fun _ => rfl))
    case it1 =>
      rw [← rng_spots]; refine' it_range1 ?it2 (by fail"o") (by fail"o") rfl T.range rfl
      fail "ev"
    case h0 => exact ⟨[], _, _, rfl, by simp, by simp⟩
    case hs =>
      rintro i d ρ hd ⟨L, b4, b5, rfl, hL, hll⟩
      obtain ⟨x, ex, rfl⟩ := map_get hd; have hi : i < (MK.spots n).length := (List.getElem?_eq_some_iff.mp ex).1
      rw [MK.spots_length] at hi
      have hnx : ((MK.spots n).take (i + 1)).filter (besB E ss) = L ++ (if besB E ss x = true then [x] else []) := by
        rw [List.take_succ, ex, List.filter_append, hL]
        congr 1
        show List.filter _ [x] = _
        by_cases z : besB E ss x = true
        · rw [if_pos z]; simp [z]
        · rw [if_neg z]; simp [z]
      refine ⟨_, _, tg_name (i := 4) sc_lparts.nd rfl (Or.inr rfl) (Or.inl rfl), ?_⟩
      refine run_gen fun D' hn' hrt => ?_
      refine' run_cons (run_setCompG (i := 5) (α := Int × Int) (enc := encE) (ns := E) (b := fun e => decide (x ∈ [e.1, e.2])) (f := fun e => .int (e.1 + e.2 - x)) (N := ["_law_one", "_law_other", "_law_spot"]) (src := [none, none, some 4]) (ρx := fun e => [.dat (dI e.1), .dat (dI e.2), .dat (dI x)]) decE decE_enc rfl (compOk_mk (defScope s_lparts) n_lparts rfl rfl (by decide +kernel)) (it_list ?c1) ?c2 ?c3 (size_le (by fail"o")) sc_lparts.nd rfl rfl rfl (fun _ => rfl))
      case c1 => rw [← ln_enc]; fail "ev"
      case c2 =>
        intro L s₀ H₀ fp e he; refine ⟨_, tg_pair (i := 0) (j := 1) rfl (show (["_law_one", "_law_other", "_law_spot"] : List Str).Nodup by decide +kernel) rfl rfl (Or.inl rfl) (Or.inl rfl) (Or.inr rfl) (Or.inr rfl), by simp, fun B => ⟨tvs_one ?_, fun _ => ?_⟩⟩
        · refine' tv_cmp (da := dI x) (db := .py (dM [e.1, e.2])) ?y1 ?y2 o_inM ?y3
          case y1 => fail "ev"
          case y2 =>
            show Ev _ _ _ _ (.py (.tuple [.int e.1, .int e.2]))
            fail "ev"
          case y3 => fail "mk"
        · fail "ev"
      case c3 =>
        have et : (E.filter fun e => decide (x ∈ [e.1, e.2])).map (fun e => PyData.int (e.1 + e.2 - x)) = (touchL E x).map PyData.int := by unfold touchL; rw [List.map_map]; rfl
        rw [et]
        have htl : (touchL E x).length ≤ 1000 := by
          unfold touchL; rw [List.length_map]; have := List.length_filter_le (fun e : Int × Int => decide (x ∈ [e.1, e.2])) E
          fail"o"
        refine' run_cons (run_if (r := besB E ss x) ?d1 ?d2 fun h1 => run_nil (run_nil (hn' _ ⟨L, _, _, rfl, ?k1, by fail"o"⟩)))
        case k1 => rw [hnx, if_neg (by rw [h1]; decide), List.append_nil]
        case d1 =>
          refine' tv_bool (tw_and (r := !decide (x ∈ ss)) (r' := !MK.touchesAny E x ss) ?e1 fun _ => tw_and1 (tv_not ?e2))
          case e1 => fail "tv"
          case e2 =>
            refine' tv_tru (x := .bool (MK.touchesAny E x ss)) ?f1 rfl (fun _ => rfl)
            refine' ev_callB (ds := [.py (.list (((touchL E x).map fun y => decide (y ∈ ss)).map .bool))]) ?f2 ?f3 rfl T.any boot_any (by decide) (by decide) rfl rfl
            case f3 => rw [← touchL_any]; exact c_any rfl
            refine' eva_cons ?f4 eva_nil rfl
            refine Ev.to (ev_compG (α := Int) (enc := .int) (ns := touchL E x) (b := fun _ => true) (f := fun y => .bool (decide (y ∈ ss))) (N := ["_law_one", "_law_some"]) (src := [none, some 1]) (ρx := fun y => [.dat (dI y), .dat (.py (dM ss))]) decI decI_enc rfl (compOk_mk (defScope s_lparts) n_lparts rfl rfl (by decide +kernel)) (it_list ?_) ?_ ?_ (fun _ => rfl)) ?_
            · fail "ev"
            · intro L s₀ H₀ fp y hy
              refine ⟨_, tg_name (i := 0) (show (["_law_one", "_law_some"] : List Str).Nodup by decide +kernel) rfl (Or.inl rfl) (Or.inr rfl), by simp, fun B => ⟨tvs_nil, fun _ => ?_⟩⟩
              fail "ev"
            · exact size_le (by fail"o")
            · rw [List.filter_eq_self.mpr (fun _ _ => rfl), List.map_map]; rfl
        case d2 =>
          intro h; refine' run_cons (run_append (i := 3) (y := .int x) rfl ?g1 (run_nil (run_nil (hn' _ ⟨L ++ [x], _, _, ?g2, ?g3, by simp; fail"o"⟩))) (size_lt (by rw [List.length_map]; fail"o")) rfl (Or.inl rfl) (by decide) (by decide) rfl rfl rfl rfl rfl)
          case g1 => fail "ev"
          case g2 => rw [List.map_append]; rfl
          case g3 => rw [hnx, if_pos h]
    case hd =>
      rintro ρ ⟨L, b4, b5, rfl, hL, hll⟩
      rw [List.length_map, List.take_length] at hL; rw [List.length_map, MK.spots_length] at hll; have eL : L = restF n E ss := hL; subst eL; refine run_give (i := 3) rfl ?_
      refine run_cons (run_own (i := 6) evp_nil ?_ (size_le (by decide)) sc_lparts.nd rfl (Or.inl rfl) rfl (Or.inl rfl))
      refine' run_cons (run_while owns (JQ2 K n E ss m) ?w0 ?ws)
      case w0 => exact ⟨_, [], restF n E ss, _, _, _, _, _, _, _, rfl, (MK.spots_pairwise n).sublist List.filter_sublist, by simpa using hll, rfl, rfl⟩
      case ws =>
        rintro μ ρ ⟨ps, rest, b4, b5, b7, b8, b9, b10, b11, rfl, hrs, hlen, hpp, rfl⟩
        cases rest with
        | nil =>
          refine ⟨false, ?_, (fun h => nomatch h), fun _ => ?_⟩
          · fail "tv"
          · rw [partsF_nil, List.append_nil] at hpp
            refine run_give (i := 6) rfl (run_cons (run_ret (d := .py (partsD (partsF E m (restF n E ss)))) ?_ rfl))
            rw [← hpp]
            fail "ev"
        | cons a r =>
          refine ⟨true, ?_, (fun _ => ?_), fun h => nomatch h⟩
          · fail "tv"
          · have nd := MK.nodup_of_lt hrs
            have ha : a ∈ a :: r := List.mem_cons_self ..; have hl1 : (a :: r).length ≤ n.toNat := by fail"o"
            obtain ⟨q1, q2, q3⟩ := rnds_part (E := E) hrs ha hl1; have sh := part_shorter (E := E) (a := a) (r := r); rw [partsF_cons] at hpp; have hrs' : ((a :: r).filter fun x => !decide (x ∈ partG E (a :: r) a)).Pairwise (· < ·) := hrs.sublist List.filter_sublist
            have hpl : ∀ p, PInv E (a :: r) a p → p.length ≤ 12 := fun p hp => by
              have := sub_len hp.nd hp.sub
              fail"o"
            have i0 : PInv E (a :: r) a [a] := ⟨by simp, fun x hx => by (have : x = a := by simpa using hx); exact this ▸ ha, fun x hx => by (have : x = a := by simpa using hx); exact this ▸ .here, by simp⟩
            generalize hre : a :: r = rest at *
            refine run_gen fun D' hn' hrt => ?_
            refine' run_cons (run_set (i := 7) (d := .py (dL [a])) ?c1 ?c2 sc_lparts.nd rfl (Or.inr rfl) rfl (Or.inl rfl))
            case c1 =>
              refine' Ev.to (ev_slice (ds := rest.map .int) ?y1 po_n (po_s (i := 1) ev_int)) ?y2
              case y1 => fail "ev"
              case y2 => rw [← hre, List.map_cons, cut_first]; rfl
            refine' run_cons (run_for (xs := rng 0 n.toNat) owns rfl (it_range1 ?it3 (by fail"o") (by fail"o") rfl T.range rfl) (JQ3 K n E ss m rest a b4 b5 (ownL K (ps.map encP))) ?g0 ?gs ?gd (fun _ => rfl))
            case it3 => fail "ev"
            case g0 => exact ⟨[a], _, _, _, _, rfl, by rw [Nat.sub_zero], i0⟩
            case gs =>
              rintro t d ρ hd ⟨p, b8, b9, b10, b11, rfl, hp, hpi⟩
              obtain ⟨hti, rfl⟩ := rng_get hd; refine ⟨_, _, tg_name (i := 8) sc_lparts.nd rfl (Or.inl rfl) (Or.inl rfl), ?_⟩
              refine run_gen fun D' hn' hrt => ?_
              refine' run_cons (run_for (xs := E.map encE) owns rfl (it_list ?it4) (JQ4 K n E ss m rest a p b4 b5 (ownL K (ps.map encP)) (.dat (dI (0 + (t : Int))))) ?j0 ?js ?jd (fun _ => rfl))
              case it4 => rw [← ln_enc]; fail "ev"
              case j0 => exact ⟨p, _, _, _, rfl, rfl, hpi⟩
              case jd =>
                rintro ρ ⟨p', b9, b10, b11, rfl, hp', hpi'⟩
                refine run_nil (hn' _ ⟨p', _, _, _, _, rfl, ?_, hpi'⟩)
                have e1 : n.toNat - t = (n.toNat - (t + 1)) + 1 := by fail"o"
                rw [e1] at hp; rw [List.length_map, List.take_length] at hp'; rw [hp']; exact hp
              case js =>
                rintro j d ρ hd ⟨p', b9, b10, b11, rfl, hp', hpi'⟩
                obtain ⟨e, ee, rfl⟩ := map_get hd; have hj : j < E.length := (List.getElem?_eq_some_iff.mp ee).1
                have he : e ∈ E := List.mem_of_getElem? ee
                have hnx : (E.take (j + 1)).foldl (stepP rest) p = stepP rest p' e := by
                  rw [List.take_succ, ee, List.foldl_append, ← hp']; rfl
                have hpl' := hpl p' hpi'; have hpi2 := stepP_inv he hpi'; refine ⟨_, _, tg_pair (i := 9) (j := 10) rfl sc_lparts.nd rfl rfl (Or.inl rfl) (Or.inl rfl) (Or.inl rfl) (Or.inl rfl), ?_⟩
                refine run_gen fun D' hn' hrt => ?_
                refine' run_cons (run_set (i := 11) (d := dB (decide (e.1 ∈ rest) && decide (e.2 ∈ rest))) ?k1 ?k2 sc_lparts.nd rfl (Or.inl rfl) rfl (Or.inl rfl))
                case k1 =>
                  refine' ev_and ?l1 fun _ => ev_one ?l2
                  case l1 => fail "ev"
                  case l2 => fail "ev"
                refine' run_cons (run_if (r := innB rest p' e) ?m1 ?m2 fun h1 => run_nil (run_nil (hn' _ ⟨p', _, _, _, rfl, ?m3, hpi'⟩)))
                case m1 =>
                  show Tv _ _ _ _ ((decide (e.1 ∈ rest) && decide (e.2 ∈ rest)) && (decide (e.1 ∈ p') != decide (e.2 ∈ p')))
                  fail "tv"
                case m3 => rw [hnx]; unfold stepP; rw [h1, if_neg (by decide)]
                case m2 =>
                  intro h; have es : stepP rest p' e = p' ++ [newP p' e] := by unfold stepP; rw [if_pos h]
                  rw [es] at hpi2; refine' run_cons (run_set (i := 7) (d := .py (dL (p' ++ [newP p' e]))) ?o1 (run_nil (run_nil (hn' _ ⟨_, _, _, _, rfl, ?o2, hpi2⟩))) sc_lparts.nd rfl (Or.inr rfl) rfl (Or.inl rfl))
                  case o2 => rw [hnx, es]
                  case o1 =>
                    refine' Ev.to (ev_bin (da := .py (.list (p'.map .int))) (db := .py (.list [.int (newP p' e)])) ?s1 ?s2 (o_catL ?s3)) ?s4
                    case s1 => fail "ev"
                    case s3 => rw [List.length_map]; show _ + 1 ≤ _; exact size_le (by fail"o")
                    case s4 => unfold dL; rw [List.map_append]; rfl
                    case s2 =>
                      refine' ev_lst (ds := [.int (newP p' e)]) (evp_cons ?u1 evp_nil rfl) (size_ble rfl)
                      refine' ev_if (d1 := dN) (d2 := dN) (r := decide (e.1 ∈ p')) ?u2 (fun h2 => Ev.to (d := dI e.2) ?u3 ?u4) (fun h2 => Ev.to (d := dI e.1) ?u5 ?u6)
                      case u2 => fail "tv"
                      case u3 => fail "ev"
                      case u5 => fail "ev"
                      case u4 => unfold newP; rw [if_pos (of_decide_eq_true h2)]
                      case u6 => unfold newP; rw [if_neg (of_decide_eq_false h2)]
            case gd =>
              rintro ρ ⟨p, b8, b9, b10, b11, rfl, hp, hpi⟩
              rw [rng_length, Nat.sub_self] at hp; have hp0 : p = rndsP E rest n.toNat [a] := hp; rw [← hp0] at q1 q2 q3; have hpl1 := hpl p hpi; have hcl : (inM m p).length = (inM m (partG E rest a)).length := inM_sort q1
              generalize hpg : partG E rest a = pg at *
              refine' run_cons (run_append (i := 6) (y := encP (pg, (inM m pg).length)) rfl ?v1 ?v2 (size_lt (by rw [List.length_map]; fail"o")) rfl (Or.inl rfl) (by decide) (by decide) rfl rfl rfl rfl rfl)
              case v1 =>
                refine' ev_tup (ds := [dL pg, .int (inM m pg).length]) (evp_cons ?w1 (evp_cons ?w2 evp_nil rfl) rfl) (size_ble rfl)
                case w1 =>
                  rw [← q1]; refine' ev_callB (ds := [.py (dL p)]) ?w3 (c_sortedI (ns := p) (.inl rfl) (by fail"o")) rfl T.sorted boot_sorted (by decide) (by decide) rfl rfl
                  fail "eva"
                case w2 =>
                  refine' Ev.to (ev_callB (ds := [.py (.list ((p.filter fun x => decide (x ∈ m)).map .int))]) ?x1 c_lenL rfl T.len boot_len (by decide) (by decide) rfl rfl) (by rw [List.length_map, ← hcl]; rfl)
                  refine' eva_cons ?x2 eva_nil rfl
                  refine ev_compG (α := Int) (enc := .int) (ns := p) (b := fun x => decide (x ∈ m)) (f := .int) (N := ["_law_spot", "_law_marks_here"]) (src := [none, some 2]) (ρx := fun x => [.dat (dI x), .dat (.py (dM m))]) decI decI_enc rfl (compOk_mk (defScope s_lparts) n_lparts rfl rfl (by decide +kernel)) (it_list ?_) ?_ (size_le (by fail"o")) (fun _ => rfl)
                  · fail "ev"
                  · intro L s₀ H₀ fp x hx
                    refine ⟨_, tg_name (i := 0) (show (["_law_spot", "_law_marks_here"] : List Str).Nodup by decide +kernel) rfl (Or.inl rfl) (Or.inr rfl), by simp, fun B => ⟨tvs_one ?_, fun _ => ?_⟩⟩
                    · fail "tv"
                    · fail "ev"
              case v2 =>
                refine' run_cons (run_setCompG (i := 3) (α := Int) (enc := .int) (ns := rest) (b := fun x => !decide (x ∈ p)) (f := .int) (N := ["_law_spot", "_law_part"]) (src := [none, some 7]) (ρx := fun x => [.dat (dI x), .dat (.py (dL p))]) decI decI_enc rfl (compOk_mk (defScope s_lparts) n_lparts rfl rfl (by decide +kernel)) (it_list ?z1) ?z2 ?z3 (size_le (by fail"o")) sc_lparts.nd rfl rfl rfl (fun _ => rfl))
                case z1 => fail "ev"
                case z2 =>
                  intro L s₀ H₀ fp x hx; refine ⟨_, tg_name (i := 0) (show (["_law_spot", "_law_part"] : List Str).Nodup by decide +kernel) rfl (Or.inl rfl) (Or.inr rfl), by simp, fun B => ⟨tvs_one ?_, fun _ => ?_⟩⟩
                  · fail "tv"
                  · fail "ev"
                case z3 =>
                  have ef : rest.filter (fun x => !decide (x ∈ p)) = rest.filter (fun x => !decide (x ∈ pg)) := List.filter_congr fun x _ => by
                    congr 1
                    rw [decide_eq_decide]; exact q2 x
                  rw [ef]; refine run_nil (hn' _ ⟨_, sh, ps ++ [(pg, (inM m pg).length)], rest.filter (fun x => !decide (x ∈ pg)), b4, b5, .dat (.py (dL p)), b8, b9, b10, b11, ?_, hrs', ?_, ?_, rfl⟩)
                  · rw [List.map_append]; rfl
                  · rw [List.length_append]
                    show ps.length + 1 + _ ≤ _
                    fail"o"
                  · rw [List.append_assoc]; exact hpp
abbrev s_lbarred : Stmt := top 46
abbrev n_lbarred : List Str := ["_law_script", "_law_web_here", "_law_roads"]
theorem sc_lbarred : FnScope n_lbarred ["_law_script"] (defScope s_lbarred) := ⟨rfl, rfl, rfl, by decide +kernel, rfl, by decide +kernel, by decide +kernel⟩
def EB : MK.Edges := [(0, 1), (0, 2), (0, 3), (0, 4), (3, 5), (4, 6)]
def Bar (d : Dt) : Prop := ∃ a b : Int, d = .py (.tuple [dW 7 (MK.ln EB), dM [1, 2, a], dM [1, 2, b]]) ∧ a ∈ [3, 4, 5, 6] ∧ b ∈ [3, 4, 5, 6]
inductive F_lbarred (K : Frag) (ds : List Dt) (r : DRes) : Prop
  | mk (sc : List Int) (c0 : ds = [.py (dL sc)]) (c1 : sc.length ≤ 63) (c2 : r = .val (exD K Bar)) : F_lbarred K ds r
theorem road_at (N : Int) : ∃ a, a ∈ ([3, 4, 5, 6] : List Int) ∧ atI (([3, 4, 5, 6] : List Int).map PyData.int) (N % 4) = some (.int a) := by
  have h0 := Int.emod_nonneg N (show (4 : Int) ≠ 0 by decide)
  have h1 := Int.emod_lt_of_pos N (show (0 : Int) < 4 by decide)
  obtain h | h | h | h : N % 4 = 0 ∨ N % 4 = 1 ∨ N % 4 = 2 ∨ N % 4 = 3 := by fail"o"
  · exact ⟨3, by simp, by rw [h]; rfl⟩
  · exact ⟨4, by simp, by rw [h]; rfl⟩
  · exact ⟨5, by simp, by rw [h]; rfl⟩
  · exact ⟨6, by simp, by rw [h]; rfl⟩
theorem ok_lbarred {k : Nat} {f : Addr} {fd : FuncData} (F : Fun K "_law_barred" "_law_barred" s_lbarred f fd)
    (D1 : Dfn P w K mg base k "_law_mix" ["_law_script", "_law_k"] (spD K F_mix)) : FnOk P w K mg base (CX1 P w) (k + 1) f fd ["_law_script"] (spD K (F_lbarred K)) := by
  refine F.okD sc_lbarred (by decide) (fun ds r h => ?_) fun cdv A outer s H E' B ds r hr R h => ?_
  · obtain ⟨_, rfl, _⟩ := h; rfl
  · obtain ⟨sc, rfl, hl, rfl⟩ := h
    have hu := hr.units
    let X : Cx := cxOf (CX1 P w) P w K mg base n_lbarred "_law_barred" (defScope s_lbarred) f cdv A outer s H E'
    show RunS X B _ _ _
    have f1 : F_mix [.py (dL sc), dI 131] (.val (dI (mixF sc 131))) := ⟨sc, _, rfl, hl, rfl⟩; have f2 : F_mix [.py (dL sc), dI 132] (.val (dI (mixF sc 132))) := ⟨sc, _, rfl, hl, rfl⟩; obtain ⟨a, ha, ea⟩ := road_at (mixF sc 131); obtain ⟨b, hb, eb⟩ := road_at (mixF sc 132)
    generalize mixF sc 131 = N1 at f1 ea
    generalize mixF sc 132 = N2 at f2 eb
    refine' run_cons (run_set (i := 1) (d := .py (dW 7 (MK.ln EB))) ?a1 ?a2 sc_lbarred.nd rfl (Or.inl rfl) rfl (Or.inl rfl))
    case a1 =>
      show Ev _ _ _ _ (.py (.tuple [.int 7, .list [.tuple [.int 0, .int 1], .tuple [.int 0, .int 2], .tuple [.int 0, .int 3], .tuple [.int 0, .int 4], .tuple [.int 3, .int 5], .tuple [.int 4, .int 6]]]))
      fail "ev"
    refine' run_cons (run_set (i := 2) (d := .py (.list (([3, 4, 5, 6] : List Int).map PyData.int))) ?b1 ?b2 sc_lbarred.nd rfl (Or.inl rfl) rfl (Or.inl rfl))
    case b1 =>
      show Ev _ _ _ _ (.py (.list [.int 3, .int 4, .int 5, .int 6]))
      fail "ev"
    refine' run_cons (run_ret (ev_ex (d := .py (.tuple [dW 7 (MK.ln EB), dM [1, 2, a], dM [1, 2, b]])) ?c1 ⟨a, b, rfl, ha, hb⟩) rfl)
    refine' ev_tup (ds := [dW 7 (MK.ln EB), dM [1, 2, a], dM [1, 2, b]]) (evp_cons ?d1 (evp_cons ?d2 (evp_cons ?d3 evp_nil rfl) rfl) rfl) (size_ble rfl)
    case d1 => fail "ev"
    case d2 =>
      refine' ev_tup (ds := [.int 1, .int 2, .int a]) (evp_cons ev_int (evp_cons ev_int (evp_cons ?e1 evp_nil rfl) rfl) rfl) (size_ble rfl)
      refine' ev_ix (da := .py (.list (([3, 4, 5, 6] : List Int).map PyData.int))) (db := dI (N1 % 4)) ?e2 ?e3 (ixd_L ea) (fun _ _ => rfl)
      case e2 => fail "ev"
      case e3 => fail "ev"
    case d3 =>
      refine' ev_tup (ds := [.int 1, .int 2, .int b]) (evp_cons ev_int (evp_cons ev_int (evp_cons ?g1 evp_nil rfl) rfl) rfl) (size_ble rfl)
      refine' ev_ix (da := .py (.list (([3, 4, 5, 6] : List Int).map PyData.int))) (db := dI (N2 % 4)) ?g2 ?g3 (ixd_L eb) (fun _ _ => rfl)
      case g2 => fail "ev"
      case g3 => fail "ev"
theorem sets_small : ∀ a : Fin 9, ∀ k : Fin 5, (MK.sets ((a.val : Nat) : Int) k.val).length ≤ (if a.val = 8 then 70 else 35) := by decide +kernel
theorem sets8 {n : Int} {k : Nat} (h1 : 1 ≤ n) (h2 : n ≤ 8) (hk : k ≤ 4) : (MK.sets n k).length ≤ (if n = 8 then 70 else 35) := by
  have := sets_small ⟨n.toNat, by fail"o"⟩ ⟨k, by fail"o"⟩
  have e : ((n.toNat : Nat) : Int) = n := by fail"o"
  dsimp only at this; rw [e] at this
  split at this <;> split <;> fail"o"
def offB (a b : Int) (x : List Int) : Bool := !(decide (a ∈ x) && decide (b ∈ x))
theorem sets_line : ∀ a b : Fin 8, a < b → ∀ k : Fin 5, ((MK.sets 8 k.val).filter (offB ((a.val : Nat) : Int) ((b.val : Nat) : Int))).length ≤ 60 := by decide +kernel
def pairs8 : MK.Edges := (List.range 8).flatMap fun (b : Nat) => (List.range b).map fun (a : Nat) => ((a : Int), (b : Int))
theorem few_lines {n : Int} {E : MK.Edges} (hg : MK.Good n E) (hr : MK.rises ltL (MK.ln E) = true) (hn : n ≤ 8) : E.length ≤ 28 := by
  have nd : E.Nodup := (edges_pw hr).imp fun {e f} z => ltE_ne z
  have := sub_len (a := E) (b := pairs8) nd fun e he => by
    have h := hg.lin e he; refine List.mem_flatMap.mpr ⟨e.2.toNat, List.mem_range.mpr (by fail"o"), List.mem_map.mpr ⟨e.1.toNat, List.mem_range.mpr (by fail"o"), ?_⟩⟩
    rw [Int.toNat_of_nonneg h.1, Int.toNat_of_nonneg (by fail"o")]
  have e : pairs8.length = 28 := by decide +kernel
  fail"o"
structure QW (n : Int) (E : MK.Edges) : Prop where
  ok : MK.webOk ltL n (MK.ln E) = true
  n1 : 1 ≤ n
  n8 : n ≤ 8
  ne : n ≤ 7 ∨ E ≠ []
theorem QW.gd {n : Int} {E : MK.Edges} (q : QW n E) : MK.Good n E := by have := webOk_good q.ok; rwa [MK.ends_ln] at this
theorem QW.ri {n : Int} {E : MK.Edges} (q : QW n E) : MK.rises ltL (MK.ln E) = true := by have := webOk_r q.ok; rwa [MK.ends_ln] at this
theorem QW.few {n : Int} {E : MK.Edges} (q : QW n E) : E.length ≤ 28 := few_lines q.gd q.ri q.n8
theorem QW.wok {n : Int} {E : MK.Edges} {m : List Int} (q : QW n E) (hM : MK.Marks n E m) (hm : m.length ≤ 4) : WOk n E m := by
  have hs := sets8 q.n1 q.n8 hm; refine ⟨q.gd, q.ri, hM, ?_, ?_, by fail"o", ?_⟩
  · split at hs <;> fail"o"
  · have := q.few; fail"o"
  · intro L nd rc
    by_cases h8 : n = 8
    · have hne : E ≠ [] := q.ne.resolve_left (by fail"o")
      obtain ⟨e, r, rfl⟩ : ∃ e r, E = e :: r := by
        cases E with
        | nil => exact absurd rfl hne
        | cons e r => exact ⟨e, r, rfl⟩
      have hl := q.gd.lin e (List.mem_cons_self ..); have hk := sets_line ⟨e.1.toNat, by fail"o"⟩ ⟨e.2.toNat, by fail"o"⟩ (by show e.1.toNat < e.2.toNat; fail"o") ⟨m.length, by fail"o"⟩
      dsimp only at hk; rw [Int.toNat_of_nonneg hl.1, Int.toNat_of_nonneg (by fail"o")] at hk
      subst h8; refine Nat.le_trans (sub_len nd fun x hx => ?_) hk
      have hx' := Reach.marks hM (rc x hx); refine List.mem_filter.mpr ⟨MK.mem_sets hx'.1.inn hx'.1.ris hx'.2, ?_⟩
      have := MK.apart_iff.mp hx'.1.apt e (List.mem_cons_self ..); unfold offB; rw [Bool.not_eq_true', ← Bool.not_eq_true, Bool.and_eq_true, decide_eq_true_iff, decide_eq_true_iff]; exact this
    · rw [if_neg h8] at hs
      have := few_L hM nd rc
      fail"o"
structure LK (n : Int) (E : MK.Edges) (m g : List Int) (room : LLI) : Prop where
  q : QW n E
  O : WOk n E m
  G : MK.Marks n E g
  m4 : m.length ≤ 4
  g4 : g.length ≤ 4
  rm : ∀ x, x ∈ room ↔ Reach n E m x
theorem qb : QW 7 EB := ⟨by decide +kernel, by decide, by decide, .inl (by decide)⟩
theorem barred_marks {a : Int} (h : a ∈ ([3, 4, 5, 6] : List Int)) : MK.Marks 7 EB [1, 2, a] := by
  have : a = 3 ∨ a = 4 ∨ a = 5 ∨ a = 6 := by simpa using h
  rcases this with rfl | rfl | rfl | rfl <;> exact MK.areMarks_iff.mp (by decide +kernel)
theorem tree_same {n : Int} {E : MK.Edges} (hg : MK.Good n E) : (decide (((MK.distinct (MK.knowAll E n.toNat [0])).length : Int) = n) && decide ((E.length : Int) = n - 1)) = treeB n (MK.ln E) := by
  unfold treeB; rw [MK.ends_ln, Bool.and_comm]; have e1 : (MK.ln E).length = E.length := List.length_map ..; rw [e1]
  congr 1
  rw [decide_eq_decide, MK.law_whole hg, hangG_whole hg]
abbrev s_law : Stmt := top 47
abbrev n_law : List Str := ["_law_script", "_law_web_here", "_law_marks_here", "_law_some", "_law_goal", "_law_due", "_law_never", "_law_parted", "_law_found"]
theorem sc_law : FnScope n_law ["_law_script"] (defScope s_law) := ⟨rfl, rfl, rfl, by decide +kernel, rfl, by decide +kernel, by decide +kernel⟩
inductive F_law (ds : List Dt) (r : DRes) : Prop
  | mk (sc : List Int) (c0 : ds = [.py (dL sc)]) (c1 : sc.length ≤ 63) (c2 : r = .val (dB true)) : F_law ds r
def w3 (a b c : Str) : PyData := .list [.str a, .str b, .str c]
def wt (c : Str) (i : Int) : Str := if i = 2 then c else "tree"
structure W3 (d : PyData) : Prop where
  lay : d.canLay0 = true
  dep : d.depth ≤ 60
  eqv : PyData.eqv d d = true
theorem w3_ttt : W3 (w3 "tree" "tree" "tree") := ⟨by decide +kernel, by decide +kernel, by decide +kernel⟩
theorem w3_ttu : W3 (w3 "tree" "tree" "unlike") := ⟨by decide +kernel, by decide +kernel, by decide +kernel⟩
theorem w3_mmm : W3 (w3 "marks" "marks" "marks") := ⟨by decide +kernel, by decide +kernel, by decide +kernel⟩
theorem w3_www : W3 (w3 "web" "web" "web") := ⟨by decide +kernel, by decide +kernel, by decide +kernel⟩
section
variable {f : Addr} {cdv : Value} {A : Around} {outer : List Env} {s : Shared} {H : Hp} {E' : XK} {B : Hp × Hp} {k : Nat}
theorem law_end {n : Int} {E : MK.Edges} {m g : List Int} {room : LLI} {sc : List Int} (hr : Room k (A.deeper (envOfC "law" (defScope s_law) s.heap.objs.size f cdv))) (T : Txt K mg cSE cBW cBM cBS cUL cNT cBT) (Q : LK n E m g room)
    (KM : Kits K cSE cBW cBM cBS cUL cNT cBT cBM true false false false false false) (KW : Kits K cSE cBW cBM cBS cUL cNT cBT cBW false false false true false false) (KN : Kits K cSE cBW cBM cBS cUL cNT cBT cNT false false false false true false) (KU : Kits K cSE cBW cBM cBS cUL cNT cBT cUL false false false false false true)
    (DT : Dfn P w K mg base k "_law_is_tree" ["_law_web_here"] (spD K F_lit)) (DS : Dfn P w K mg base k "_law_stiff" ["_law_web_here", "_law_marks_here"] (spD K F_lstiff)) (DP : Dfn P w K mg base k "_law_parts" ["_law_web_here", "_law_some", "_law_marks_here"] (spD K F_lparts))
    (DG : Dfn P w K mg base k "_law_got" p_lgot (spD K (F_lgot K cSE cBW cBM cBS cUL cNT cBT))) :
    RunS (cxOf (CX1 P w) P w K mg base n_law "law" (defScope s_law) f cdv A outer s H E') B [.dat (.py (dL sc)), .dat (web n (MK.ln E)), .dat (.py (dM m)), .dat (.py (dMs room)), .dat (.py (dM g)), .un, .un, .un, .un] ((defBody s_law).drop 7) (dEnd (.val (dB true))) := by
  have rM : F_refusal K cSE cBW cBM cBS cUL cNT cBT [excD cBM] (.val (dS "marks")) := .inl ⟨cBM, _, _, _, _, _, _, 0, _, rfl, KM, by decide, rfl, by decide, rfl, rfl⟩
  have rW : F_refusal K cSE cBW cBM cBS cUL cNT cBT [excD cBW] (.val (dS "web")) := .inl ⟨cBW, _, _, _, _, _, _, 3, _, rfl, KW, by decide, rfl, by decide, rfl, rfl⟩
  have rN : F_refusal K cSE cBW cBM cBS cUL cNT cBT [excD cNT] (.val (dS "tree")) := .inl ⟨cNT, _, _, _, _, _, _, 4, _, rfl, KN, by decide, rfl, by decide, rfl, rfl⟩
  have rU : F_refusal K cSE cBW cBM cBS cUL cNT cBT [excD cUL] (.val (dS "unlike")) := .inl ⟨cUL, _, _, _, _, _, _, 5, _, rfl, KU, by decide, rfl, by decide, rfl, rfl⟩
  have gv : ∀ {ds : List Dt} {q : DRes} {d : Dt}, Asked cBW cBM cUL cNT ds q → q = .val d → F_lgot K cSE cBW cBM cBS cUL cNT cBT ds (.val d) := fun a b => ⟨_, a, .v _ b rfl⟩
  have gM : ∀ {ds : List Dt} {q : DRes}, Asked cBW cBM cUL cNT ds q → q = .exc cBM → F_lgot K cSE cBW cBM cBS cUL cNT cBT ds (.val (dS "marks")) := fun a b => ⟨_, a, .x _ _ b KM.x rM rfl⟩
  have gW : ∀ {ds : List Dt} {q : DRes}, Asked cBW cBM cUL cNT ds q → q = .exc cBW → F_lgot K cSE cBW cBM cBS cUL cNT cBT ds (.val (dS "web")) := fun a b => ⟨_, a, .x _ _ b KW.x rW rfl⟩
  have gN : ∀ {ds : List Dt} {q : DRes}, Asked cBW cBM cUL cNT ds q → q = .exc cNT → F_lgot K cSE cBW cBM cBS cUL cNT cBT ds (.val (dS "tree")) := fun a b => ⟨_, a, .x _ _ b KN.x rN rfl⟩
  have gU : ∀ {ds : List Dt} {q : DRes}, Asked cBW cBM cUL cNT ds q → q = .exc cUL → F_lgot K cSE cBW cBM cBS cUL cNT cBT ds (.val (dS "unlike")) := fun a b => ⟨_, a, .x _ _ b KU.x rU rfl⟩
  have hu := hr.units
  let X : Cx := cxOf (CX1 P w) P w K mg base n_law "law" (defScope s_law) f cdv A outer s H E'
  show RunS X B _ _ _
  have m_len := T.len; have hok := Q.q.ok; have hn1 := Q.q.n1; have hn8 := Q.q.n8; have hE := Q.q.few; have hg := Q.q.gd; have hee := MK.ends_ln E; have hm4 := Q.m4; have hg4 := Q.g4; have hll : (MK.ln E).length ≤ 60 := by rw [MK.ln, List.length_map]; fail"o"
  have hmk : MK.areMarks n (MK.ends (MK.ln E)) m = true := by rw [hee]; exact MK.areMarks_iff.mpr Q.O.mks
  have hgk : MK.areMarks n (MK.ends (MK.ln E)) g = true := by rw [hee]; exact MK.areMarks_iff.mpr Q.G
  have hlk : ∀ v, lookR cBW cBM n (MK.ln E) m v = v := fun v => lookR_ok hok hmk
  have hlg : ∀ v, lookR cBW cBM n (MK.ln E) g v = v := fun v => lookR_ok hok hgk
  have oe : ∀ {d : PyData}, W3 d → CmpD X .Eq (.py d) (.py d) true := fun h => o_eq hu h.lay h.lay h.dep h.eqv
  have on : ∀ {d : PyData}, W3 d → CmpD X .NotEq (.py d) (.py d) false := fun h => o_ne (r := true) hu h.lay h.lay h.dep h.eqv
  have ft : F_lit [web n (MK.ln E)] (.val (dB (treeB n (MK.ln E)))) := ⟨n, E, rfl, by fail"o", by fail"o", by fail"o", by rw [tree_same hg]⟩
  have sp3 : (MK.spots 3).map PyData.int = rng 0 (3 : Int).toNat := (rng_spots 3).symm
  cases ht : treeB n (MK.ln E) with
  | false =>
    rw [ht] at ft; have hnt : ∀ v, treeR cNT n (MK.ln E) v = .exc cNT := fun v => by unfold treeR; rw [ht]; rfl
    refine' run_cons (run_if (r := true) ?a1 (fun _ => ?a2) fun h => nomatch h)
    case a1 =>
      refine' Tv.to (tv_not (r := false) (tv_tru (x := .bool false) (ev_def DT hr ?a3 ft rfl (by decide) rfl rfl) rfl (fun _ => rfl))) rfl
      fail "eva"
    obtain ⟨due, hdue, h2, hw3⟩ : ∃ due : Str, (if m.length = g.length then ("tree" : Str) else "unlike") = due ∧ F_lgot K cSE cBW cBM cBS cUL cNT cBT [dI 2, web n (MK.ln E), .py (dM m), .py (dM g)] (.val (dS due)) ∧ W3 (w3 "tree" "tree" due) := by
      by_cases q : m.length = g.length
      · refine ⟨"tree", if_pos q, gN (.a2 _ _ _ rfl ⟨n, MK.ln E, m, g, rfl, hll, by fail"o", by fail"o", rfl⟩) ?_, w3_ttt⟩
        unfold bothR unlR; rw [hlk, hlg, if_pos q, hnt]
      · refine ⟨"unlike", if_neg q, gU (.a2 _ _ _ rfl ⟨n, MK.ln E, m, g, rfl, hll, by fail"o", by fail"o", rfl⟩) ?_, w3_ttu⟩
        unfold bothR unlR; rw [hlk, hlg, if_neg q]
    have h0 : F_lgot K cSE cBW cBM cBS cUL cNT cBT [dI 0, web n (MK.ln E), .py (dM m), .py (dM g)] (.val (dS "tree")) := gN (.a0 _ _ _ rfl ⟨n, MK.ln E, m, rfl, hll, by fail"o", rfl⟩) (by rw [hlk, hnt])
    have h1 : F_lgot K cSE cBW cBM cBS cUL cNT cBT [dI 1, web n (MK.ln E), .py (dM m), .py (dM g)] (.val (dS "tree")) := gN (.a1 _ _ _ rfl ⟨n, MK.ln E, m, rfl, hll, by fail"o", rfl⟩) (by rw [hlk, hnt])
    refine' run_cons (run_set (i := 5) (d := dS due) ?b1 ?b2 sc_law.nd rfl (Or.inl rfl) rfl (Or.inl rfl))
    case b1 =>
      refine' ev_if (d1 := dN) (d2 := dN) (r := decide (((g.map PyData.int).length : Int) = ((m.map PyData.int).length : Int))) ?c1 (fun h => ?c2) (fun h => ?c3)
      case c1 => fail "tv"
      case c2 =>
        have q : m.length = g.length := by have := of_decide_eq_true h; rw [List.length_map, List.length_map] at this; fail"o"
        rw [if_pos q] at hdue; rw [← hdue]; exact ev_str
      case c3 =>
        have q : ¬ m.length = g.length := by have := of_decide_eq_false h; rw [List.length_map, List.length_map] at this; fail"o"
        rw [if_neg q] at hdue; rw [← hdue]; exact ev_str
    refine' run_cons (run_ret (d := dB true) ?d1 rfl)
    refine' ev_cmp (da := .py (w3 "tree" "tree" due)) (db := .py (w3 "tree" "tree" due)) ?e1 ?e2 (oe hw3) (nomark _)
    case e2 =>
      refine' ev_lst (ds := [.str "tree", .str "tree", .str due]) (evp_cons ev_str (evp_cons ev_str (evp_cons ?e3 evp_nil rfl) rfl) rfl) (size_ble rfl)
      fail "ev"
    case e1 =>
      refine Ev.to (ev_compG (α := Int) (enc := .int) (ns := MK.spots 3) (b := fun _ => true) (f := fun i => .str (wt due i)) (N := ["_law_way", "_law_web_here", "_law_marks_here", "_law_goal"]) (src := [none, some 1, some 2, some 4]) (ρx := fun x => [.dat (dI x), .dat (web n (MK.ln E)), .dat (.py (dM m)), .dat (.py (dM g))]) decI decI_enc rfl (compOk_mk (defScope s_law) n_law rfl rfl (by decide +kernel)) ?_ ?_ (size_ble rfl) (fun _ => rfl)) ?_
      · rw [sp3]
        exact it_range1 ev_int (by decide) (by decide) rfl T.range rfl
      · intro L s₀ H₀ fp x hx
        have hgx : F_lgot K cSE cBW cBM cBS cUL cNT cBT [dI x, web n (MK.ln E), .py (dM m), .py (dM g)] (.val (dS (wt due x))) := by
          have := MK.mem_spots.mp hx; obtain rfl | rfl | rfl : x = 0 ∨ x = 1 ∨ x = 2 := by fail"o"
          · exact h0
          · exact h1
          · exact h2
        refine ⟨_, tg_name (i := 0) (show (["_law_way", "_law_web_here", "_law_marks_here", "_law_goal"] : List Str).Nodup by decide +kernel) rfl (Or.inl rfl) (Or.inr rfl), by simp, fun B => ⟨tvs_nil, fun _ => ?_⟩⟩
        fail "ev"
      · rfl
  | true =>
    rw [ht] at ft; have hyt : ∀ v, treeR cNT n (MK.ln E) v = v := fun v => by unfold treeR; rw [ht]; rfl
    have hTW : TreeW n E := by have := treeW_of hok ht; rwa [hee] at this
    refine' run_cons (run_if (r := false) ?ta1 (fun h => nomatch h) fun _ => run_nil ?ta2)
    case ta1 =>
      refine' Tv.to (tv_not (r := true) (tv_tru (x := .bool true) (ev_def DT hr ?ta3 ft rfl (by decide) rfl rfl) rfl (fun _ => rfl))) rfl
      fail "eva"
    have fst : F_lstiff [web n (MK.ln E), .py (dM m)] (.val (.py (dM (stiffL n E m)))) := ⟨n, E, m, rfl, Q.O, by rw [stiff_law hTW Q.O.mks fun x => Q.O.room]⟩
    have fpa : F_lparts [web n (MK.ln E), .py (dM (stiffL n E m)), .py (dM m)] (.val (.py (partsD (partsF E m (restF n E (stiffL n E m)))))) := ⟨n, E, _, m, rfl, by fail"o", by fail"o", by fail"o", rfl⟩
    have g0 : F_lgot K cSE cBW cBM cBS cUL cNT cBT [dI 0, web n (MK.ln E), .py (dM m), .py (.tuple [])] (.val (.py (dM (stiffL n E m)))) := gv (.a0 _ _ _ rfl ⟨n, MK.ln E, m, rfl, hll, by fail"o", rfl⟩) (by rw [hlk, hyt, hee])
    have g1 : F_lgot K cSE cBW cBM cBS cUL cNT cBT [dI 1, web n (MK.ln E), .py (dM m), .py (.tuple [])] (.val (.py (partsD (partsF E m (restF n E (stiffL n E m)))))) := gv (.a1 _ _ _ rfl ⟨n, MK.ln E, m, rfl, hll, by fail"o", rfl⟩) (by rw [hlk, hyt, hee])
    have g2 : m.length = g.length → F_lgot K cSE cBW cBM cBS cUL cNT cBT [dI 2, web n (MK.ln E), .py (dM m), .py (dM g)] (.val (dB (toldB n E m g))) := fun q => gv (.a2 _ _ _ rfl ⟨n, MK.ln E, m, g, rfl, hll, by fail"o", by fail"o", rfl⟩) (by unfold bothR unlR; rw [hlk, hlg, if_pos q, hyt, hee])
    have g3 : ¬ m.length = g.length → F_lgot K cSE cBW cBM cBS cUL cNT cBT [dI 2, web n (MK.ln E), .py (dM m), .py (dM g)] (.val (dS "unlike")) := fun q => gU (.a2 _ _ _ rfl ⟨n, MK.ln E, m, g, rfl, hll, by fail"o", by fail"o", rfl⟩) (by unfold bothR unlR; rw [hlk, hlg, if_neg q])
    have htold : toldB n E m g = decide (g ∈ room) := by
      rw [Bool.eq_iff_iff, toldB_iff hTW Q.O.mks Q.G, decide_eq_true_iff, Q.rm]
    rw [htold] at g2; clear htold
    generalize stiffL n E m = sl at fst fpa g0 g1
    generalize partsF E m (restF n E sl) = pl at fpa g1
    have on0 : CmpD X .NotEq (.py (dM sl)) (.py (dM sl)) false := o_ne (r := true) hu (goodM.lay _) (goodM.lay _) (Nat.le_trans (goodM.dep _) (by decide)) (by rw [goodM.eqv]; simp)
    have on1 : CmpD X .NotEq (.py (partsD pl)) (.py (partsD pl)) false := o_ne (r := true) hu (goodPs.lay _) (goodPs.lay _) (Nat.le_trans (goodPs.dep _) (by decide)) (by rw [goodPs.eqv]; simp)
    refine' run_cons (run_set (i := 6) (d := .py (dM sl)) ?tb1 ?tb2 sc_law.nd rfl (Or.inl rfl) rfl (Or.inl rfl))
    case tb1 => fail "ev"
    refine' run_cons (run_set (i := 7) (d := .py (partsD pl)) ?tc1 ?tc2 sc_law.nd rfl (Or.inl rfl) rfl (Or.inl rfl))
    case tc1 => fail "ev"
    refine' run_cons (run_if (r := false) ?td1 (fun h => nomatch h) fun _ => run_nil ?td2)
    case td1 =>
      refine' Tv.to (d := false || false) (tv_bool (tw_or (r := false) (r' := false) ?te1 fun _ => tw_or1 ?te2)) rfl
      case te1 =>
        refine' tv_cmp (da := .py (dM sl)) (db := .py (dM sl)) ?tf1 ?tf2 on0 (nomark _)
        case tf1 => fail "ev"
        case tf2 => fail "ev"
      case te2 =>
        refine' tv_cmp (da := .py (partsD pl)) (db := .py (partsD pl)) ?tf3 ?tf4 on1 (nomark _)
        case tf3 => fail "ev"
        case tf4 => fail "ev"
    by_cases q : m.length = g.length
    · have g2' := g2 q
      clear g2 g3 g0 g1 on0 on1 fst fpa; refine' run_cons (run_set (i := 8) (d := dB (decide (g ∈ room))) ?th1 ?th2 sc_law.nd rfl (Or.inl rfl) rfl (Or.inl rfl))
      case th1 => fail "ev"
      refine' run_cons (run_if (r := false) ?ti1 (fun h => nomatch h) fun _ => run_nil ?ti2)
      case ti1 =>
        refine' Tv.to (d := !decide (((g.map PyData.int).length : Int) = ((m.map PyData.int).length : Int))) (by fail "tv") (by rw [List.length_map, List.length_map, q]; simp)
      refine' run_cons (run_if (r := false) ?tj1 (fun h => nomatch h) fun _ => run_nil ?tj2)
      case tj1 =>
        refine' Tv.to (tv_bool (tw_or (r := false) (r' := false) ?tk1 fun _ => tw_or1 ?tk2)) rfl
        case tk1 =>
          refine' Tv.to (tv_not (r := true) (tv_tru (x := .bool true) ?tl1 rfl (fun _ => rfl))) rfl
          refine' ev_callB ?tl2 (c_isB (x := decide (g ∈ room)) (b := true) (by unfold kitOne; rw [if_pos (by decide)])) rfl T.isin boot_isinstance (by decide) (by decide) rfl rfl
          refine' eva_cons ?tl3 (eva_cons (ev_bv (v := .ty "bool") rfl T.bool boot_bool rfl (by decide) (by decide)) eva_nil rfl) rfl
          fail "ev"
        case tk2 =>
          refine' Tv.to (tv_cmp (da := dB (decide (g ∈ room))) (db := dB (decide (g ∈ room))) ?tm1 ?tm2 (o_neB hu) (nomark _)) (by simp)
          case tm1 => fail "ev"
          case tm2 =>
            refine' ev_cmp (da := .py (dM g)) (db := .py (dMs room)) ?tm3 ?tm4 (o_inMs hu) ?tm5
            case tm3 => fail "ev"
            case tm4 => fail "ev"
            case tm5 => fail "mk"
      have hbm : MK.areMarks n (MK.ends (MK.ln E)) [99] = false := by
        cases e : MK.areMarks n (MK.ends (MK.ln E)) [99] with
        | false => rfl
        | true => have := (MK.areMarks_iff.mp e).inn 99 (by simp); fail"o"
      have hbx : ∀ v, lookR cBW cBM n (MK.ln E) [99] v = .exc cBM := fun v => lookR_bm hok hbm
      refine' run_cons (run_if (r := false) ?tn1 (fun h => nomatch h) fun _ => run_nil ?tn2)
      case tn1 =>
        refine' tv_cmp (da := .py (w3 "marks" "marks" "marks")) (db := .py (w3 "marks" "marks" "marks")) ?to1 ?to2 (on w3_mmm) (nomark _)
        case to2 => exact Ev.to (ev_rep (ds := [.str "marks"]) (n := 3) (evp_cons ev_str evp_nil rfl) ev_int (by decide) (by decide) (by decide)) rfl
        case to1 =>
          refine Ev.to (ev_compG (α := Int) (enc := .int) (ns := MK.spots 3) (b := fun _ => true) (f := fun _ => .str "marks") (N := ["_law_way", "_law_web_here"]) (src := [none, some 1]) (ρx := fun x => [.dat (dI x), .dat (web n (MK.ln E))]) decI decI_enc rfl (compOk_mk (defScope s_law) n_law rfl rfl (by decide +kernel)) ?_ ?_ (size_ble rfl) (fun _ => rfl)) ?_
          · rw [sp3]
            exact it_range1 ev_int (by decide) (by decide) rfl T.range rfl
          · intro L s₀ H₀ fp x hx
            have hgx : F_lgot K cSE cBW cBM cBS cUL cNT cBT [dI x, web n (MK.ln E), .py (.tuple [.int 99]), .py (.tuple [.int 98])] (.val (dS "marks")) := by
              have := MK.mem_spots.mp hx; obtain rfl | rfl | rfl : x = 0 ∨ x = 1 ∨ x = 2 := by fail"o"
              · exact gM (.a0 _ _ _ rfl ⟨n, MK.ln E, [99], rfl, hll, by decide, rfl⟩) (by rw [hbx])
              · exact gM (.a1 _ _ _ rfl ⟨n, MK.ln E, [99], rfl, hll, by decide, rfl⟩) (by rw [hbx])
              · exact gM (.a2 _ _ _ rfl ⟨n, MK.ln E, [99], [98], rfl, hll, by decide, by decide, rfl⟩) (by unfold bothR; rw [hbx])
            refine ⟨_, tg_name (i := 0) (show (["_law_way", "_law_web_here"] : List Str).Nodup by decide +kernel) rfl (Or.inl rfl) (Or.inr rfl), by simp, fun B => ⟨tvs_nil, fun _ => ?_⟩⟩
            fail "ev"
          · rfl
      have hbw : ∀ m v, lookR cBW cBM 13 [] m v = .exc cBW := fun m v => lookR_bw (by decide +kernel)
      refine' run_cons (run_ret (d := dB true) ?tp1 rfl)
      refine' ev_cmp (da := .py (w3 "web" "web" "web")) (db := .py (w3 "web" "web" "web")) ?tq1 ?tq2 (oe w3_www) (nomark _)
      case tq2 => exact Ev.to (ev_rep (ds := [.str "web"]) (n := 3) (evp_cons ev_str evp_nil rfl) ev_int (by decide) (by decide) (by decide)) rfl
      case tq1 =>
        refine Ev.to (ev_compG (α := Int) (enc := .int) (ns := MK.spots 3) (b := fun _ => true) (f := fun _ => .str "web") (N := ["_law_way"]) (src := [none]) (ρx := fun x => [.dat (dI x)]) decI decI_enc rfl (compOk_mk (defScope s_law) n_law rfl rfl (by decide +kernel)) ?_ ?_ (size_ble rfl) (fun _ => rfl)) ?_
        · rw [sp3]
          exact it_range1 ev_int (by decide) (by decide) rfl T.range rfl
        · intro L s₀ H₀ fp x hx
          have hgx : F_lgot K cSE cBW cBM cBS cUL cNT cBT [dI x, .py (.tuple [.int 13, .list []]), .py (.tuple [.int 99]), .py (.tuple [.int 98])] (.val (dS "web")) := by
            have := MK.mem_spots.mp hx; obtain rfl | rfl | rfl : x = 0 ∨ x = 1 ∨ x = 2 := by fail"o"
            · exact gW (.a0 _ _ _ rfl ⟨13, [], [99], rfl, by decide, by decide, rfl⟩) (by rw [hbw])
            · exact gW (.a1 _ _ _ rfl ⟨13, [], [99], rfl, by decide, by decide, rfl⟩) (by rw [hbw])
            · exact gW (.a2 _ _ _ rfl ⟨13, [], [99], [98], rfl, by decide, by decide, by decide, rfl⟩) (by unfold bothR; rw [hbw])
          refine ⟨_, tg_name (i := 0) (show (["_law_way"] : List Str).Nodup by decide +kernel) rfl (Or.inl rfl) (Or.inr rfl), by simp, fun B => ⟨tvs_nil, fun _ => ?_⟩⟩
          fail "ev"
        · rfl
    · have g3' := g3 q
      clear g2 g3 g0 g1 on0 on1 fst fpa; refine' run_cons (run_set (i := 8) (d := dS "unlike") ?uh1 ?uh2 sc_law.nd rfl (Or.inl rfl) rfl (Or.inl rfl))
      case uh1 => fail "ev"
      refine' run_cons (run_if (r := true) ?ui1 (fun _ => ?ui2) fun h => nomatch h)
      case ui1 =>
        refine' Tv.to (d := !decide (((g.map PyData.int).length : Int) = ((m.map PyData.int).length : Int))) (by fail "tv") (by rw [List.length_map, List.length_map]; simp; fail"o")
      refine' run_cons (run_ret (d := dB true) ?uj1 rfl)
      refine' Ev.to (ev_cmp (da := dS "unlike") (db := dS "unlike") ?uk1 ev_str o_eqS (nomark _)) (by simp)
      fail "ev"
end
inductive JW1 (sc : List Int) (ρ : List Bd) : Prop
  | mk (n : Int) (E : MK.Edges) (c0 : ρ = [.dat (.py (dL sc)), .dat (web n (MK.ln E)), .un, .un, .un, .un, .un, .un, .un]) (c1 : QW n E) : JW1 sc ρ
inductive JW2 (sc : List Int) (n : Int) (E : MK.Edges) (m : List Int) (room : LLI) (ρ : List Bd) : Prop
  | mk (g : List Int) (c0 : ρ = [.dat (.py (dL sc)), .dat (web n (MK.ln E)), .dat (.py (dM m)), .dat (.py (dMs room)), .dat (.py (dM g)), .un, .un, .un, .un]) (c1 : MK.Marks n E g) (c2 : g.length ≤ 4) : JW2 sc n E m room ρ
inductive JW3 (sc : List Int) (ρ : List Bd) : Prop
  | mk (n : Int) (E : MK.Edges) (m g : List Int) (room : LLI) (c0 : ρ = [.dat (.py (dL sc)), .dat (web n (MK.ln E)), .dat (.py (dM m)), .dat (.py (dMs room)), .dat (.py (dM g)), .un, .un, .un, .un]) (c1 : LK n E m g room) : JW3 sc ρ
theorem room_some {n : Int} {E : MK.Edges} {m : List Int} (O : WOk n E m) : ∃ room, roomF n E m = room ∧ ∀ x, x ∈ room ↔ Reach n E m x := ⟨_, rfl, fun x => O.room⟩
theorem ok_law {k : Nat} {f : Addr} {fd : FuncData} (F : Fun K "law" "law" s_law f fd) (T : Txt K mg cSE cBW cBM cBS cUL cNT cBT)
    (KM : Kits K cSE cBW cBM cBS cUL cNT cBT cBM true false false false false false) (KW : Kits K cSE cBW cBM cBS cUL cNT cBT cBW false false false true false false) (KN : Kits K cSE cBW cBM cBS cUL cNT cBT cNT false false false false true false) (KU : Kits K cSE cBW cBM cBS cUL cNT cBT cUL false false false false false true)
    (DX : Dfn P w K mg base k "_law_mix" ["_law_script", "_law_k"] (spD K F_mix)) (DW : Dfn P w K mg base k "_law_web" ["_law_script", "_law_k", "_law_places"] (spD K (F_web K))) (DTr : Dfn P w K mg base k "_law_tree" ["_law_script", "_law_k", "_law_places"] (spD K (F_ltree K)))
    (DM : Dfn P w K mg base k "_law_marks" ["_law_script", "_law_k", "_law_web_here", "_law_most"] (spD K (F_marks K))) (DR : Dfn P w K mg base k "_law_room" ["_law_web_here", "_law_marks_here"] (spD K F_lroom)) (DB : Dfn P w K mg base k "_law_barred" ["_law_script"] (spD K (F_lbarred K)))
    (DT : Dfn P w K mg base k "_law_is_tree" ["_law_web_here"] (spD K F_lit)) (DS : Dfn P w K mg base k "_law_stiff" ["_law_web_here", "_law_marks_here"] (spD K F_lstiff)) (DP : Dfn P w K mg base k "_law_parts" ["_law_web_here", "_law_some", "_law_marks_here"] (spD K F_lparts))
    (DG : Dfn P w K mg base k "_law_got" p_lgot (spD K (F_lgot K cSE cBW cBM cBS cUL cNT cBT))) : FnOk P w K mg base (CX1 P w) (k + 1) f fd ["_law_script"] (spD K F_law) := by
  refine F.okD sc_law (by decide) (fun ds r h => ?_) fun cdv A outer s H E' B ds r hr R h => ?_
  · obtain ⟨_, rfl, _⟩ := h; rfl
  · obtain ⟨sc, rfl, hl, rfl⟩ := h
    have hu := hr.units
    let X : Cx := cxOf (CX1 P w) P w K mg base n_law "law" (defScope s_law) f cdv A outer s H E'
    show RunS X B [.dat (.py (dL sc)), .un, .un, .un, .un, .un, .un, .un, .un] _ _
    have m_len := T.len; have fx : ∀ j, F_mix [.py (dL sc), dI j] (.val (dI (mixF sc j))) := fun j => ⟨sc, j, rfl, hl, rfl⟩
    have fw : F_web K [.py (dL sc), dI 0, dI 6] (.val (exD K fun d => ∃ n E, d = web n (MK.ln E) ∧ WebP 6 n E)) := ⟨sc, 0, 6, rfl, hl, by decide, by decide, rfl⟩
    have fw2 : F_ltree K [.py (dL sc), dI 0, dI 8] (.val (exD K fun d => ∃ n E, d = web n (MK.ln E) ∧ TreeP 8 n E)) := ⟨sc, 0, 8, rfl, hl, by decide, by decide, rfl⟩
    refine' run_cons (run_setE (i := 1) (p := fun d => ∃ n E, d = web n (MK.ln E) ∧ WebP 6 n E) ?a1 ?a2 sc_law.nd rfl (Or.inr rfl) rfl (Or.inl rfl))
    case a1 => fail "ev"
    rintro d ⟨n, E, rfl, hn1, hn2, hE60, hok⟩
    refine' run_seq (JW1 sc) ?b1 ?b2
    case b1 =>
      have f100 := fx 100
      generalize mixF sc 100 = N at f100
      refine' run_if (r := decide (0 < N % 4)) ?b3 (fun _ => ?b4) fun _ => run_nil ⟨n, E, rfl, hok, hn1, by fail"o", .inl (by fail"o")⟩
      case b3 => fail "tv"
      refine' run_cons (run_setE (i := 1) (p := fun d => ∃ n E, d = web n (MK.ln E) ∧ TreeP 8 n E) ?b5 ?b6 sc_law.nd rfl (Or.inr rfl) rfl (Or.inl rfl))
      case b5 => fail "ev"
      rintro d ⟨n', E1, rfl, ⟨h1, h2, h3, h4⟩, h5⟩
      refine run_nil ⟨n', E1, rfl, h4, h1, h2, ?_⟩
      by_cases q : n' ≤ 7
      · exact .inl q
      · refine .inr fun e => ?_
        subst e; have h6 : (0 : Int) = n' - 1 := h5
        fail"o"
    clear fw fw2 hok hE60 hn1 hn2
    rintro ρ ⟨n, E, rfl, q⟩
    have hn1 := q.n1; have hn8 := q.n8; have hE := q.few; have fm : F_marks K [.py (dL sc), dI 110, web n (MK.ln E), dI 4] (.val (exD K fun d => ∃ m, d = .py (dM m) ∧ MK.Marks n E m ∧ m.length ≤ 4)) := ⟨sc, 110, n, E, 4, rfl, hl, by fail"o", by fail"o", by fail"o", by decide, by decide, rfl⟩
    refine' run_cons (run_setE (i := 2) (p := fun d => ∃ m, d = .py (dM m) ∧ MK.Marks n E m ∧ m.length ≤ 4) ?c1 ?c2 sc_law.nd rfl (Or.inr rfl) rfl (Or.inl rfl))
    case c1 => fail "ev"
    rintro d ⟨m, rfl, hM, hm4⟩
    have O := q.wok hM hm4; obtain ⟨room, hre, hrm⟩ := room_some O; have fr : F_lroom [web n (MK.ln E), .py (dM m)] (.val (.py (dMs room))) := ⟨n, E, m, rfl, O, by rw [hre]⟩
    clear hre; refine' run_cons (run_set (i := 3) (d := .py (dMs room)) ?d1 ?d2 sc_law.nd rfl (Or.inl rfl) rfl (Or.inl rfl))
    case d1 => fail "ev"
    have hmr : m ∈ room := (hrm m).mpr .here; have hpos : 0 < ((room.map dM).length : Int) := by rw [List.length_map]; have := List.length_pos_of_mem hmr; fail"o"
    have f120 := fx 120
    generalize mixF sc 120 = N at f120
    obtain ⟨j, hj⟩ : ∃ j : Nat, (j : Int) = N % ((room.map dM).length : Int) := ⟨_, Int.toNat_of_nonneg (Int.emod_nonneg _ (by fail"o"))⟩
    have hjl : j < room.length := by
      have := Int.emod_lt_of_pos N hpos; rw [← hj, List.length_map] at this
      fail"o"
    have ej : room[j]? = some room[j] := List.getElem?_eq_getElem hjl
    have hgr : room[j] ∈ room := List.getElem_mem hjl
    generalize room[j] = g0 at ej hgr
    have hg0 := Reach.marks hM ((hrm g0).mp hgr); refine' run_cons (run_set (i := 4) (d := .py (dM g0)) ?e1 ?e2 sc_law.nd rfl (Or.inr rfl) rfl (Or.inl rfl))
    case e1 =>
      refine' ev_ix (da := .py (.list (room.map dM))) (db := dI (j : Int)) ?e3 ?e4 (ixd_L (atI_map ej)) (fun _ _ => rfl)
      case e3 => fail "ev"
      case e4 => rw [hj]; fail "ev"
    refine' run_seq (JW2 sc n E m room) ?g1 ?g2
    case g1 =>
      have f121 := fx 121
      generalize mixF sc 121 = N2 at f121
      refine' run_if (r := decide (N2 % 2 = 0)) ?g3 (fun _ => ?g4) fun _ => run_nil ⟨g0, rfl, hg0.1, by fail"o"⟩
      case g3 => fail "tv"
      have fm2 : F_marks K [.py (dL sc), dI 122, web n (MK.ln E), dI 4] (.val (exD K fun d => ∃ m, d = .py (dM m) ∧ MK.Marks n E m ∧ m.length ≤ 4)) := ⟨sc, 122, n, E, 4, rfl, hl, by fail"o", by fail"o", by fail"o", by decide, by decide, rfl⟩
      refine' run_cons (run_setE (i := 4) (p := fun d => ∃ m, d = .py (dM m) ∧ MK.Marks n E m ∧ m.length ≤ 4) ?g5 ?g6 sc_law.nd rfl (Or.inr rfl) rfl (Or.inl rfl))
      case g5 => fail "ev"
      rintro d ⟨g, rfl, hG, hg4⟩
      exact run_nil ⟨g, rfl, hG, hg4⟩
    clear ej hgr hg0 hj hjl fm
    rintro ρ ⟨g, rfl, hG, hg4⟩
    refine' run_seq (JW3 sc) ?h1 ?h2
    case h2 =>
      clear fr hpos hmr hrm O hM
      rintro ρ ⟨n, E, m, g, room, rfl, Q⟩
      exact law_end hr T Q KM KW KN KU DT DS DP DG
    case h1 =>
      have f130 := fx 130
      generalize mixF sc 130 = N3 at f130
      refine' run_if (r := decide (N3 % 6 = 0)) ?h3 (fun _ => ?h4) fun _ => run_nil ⟨n, E, m, g, room, rfl, q, O, hG, hm4, hg4, hrm⟩
      case h3 => fail "tv"
      have fb : F_lbarred K [.py (dL sc)] (.val (exD K Bar)) := ⟨sc, rfl, hl, rfl⟩; refine' run_cons (run_asgE (is := [1, 2, 4]) (p := Bar) ?i1 ?i2 rfl rfl rfl)
      case i1 => fail "ev"
      rintro d ⟨a, b, rfl, ha, hb⟩
      refine ⟨_, tg_three (i := 1) (j := 2) (l := 4) rfl sc_law.nd rfl rfl rfl (Or.inr rfl) (Or.inr rfl) (Or.inr rfl) (Or.inl rfl) (Or.inl rfl) (Or.inl rfl), ?_⟩
      have O2 : WOk 7 EB [1, 2, a] := qb.wok (barred_marks ha) (by show 3 ≤ 4; decide)
      obtain ⟨room2, hre2, hrm2⟩ := room_some O2; have fr2 : F_lroom [web 7 (MK.ln EB), .py (dM [1, 2, a])] (.val (.py (dMs room2))) := ⟨7, EB, [1, 2, a], rfl, O2, by rw [hre2]⟩
      clear hre2 fr; refine' run_cons (run_set (i := 3) (d := .py (dMs room2)) ?j1 ?j2 sc_law.nd rfl (Or.inl rfl) rfl (Or.inl rfl))
      case j1 => fail "ev"
      exact run_nil ⟨7, EB, [1, 2, a], [1, 2, b], room2, rfl, qb, O2, barred_marks hb, by show 3 ≤ 4; decide, by show 3 ≤ 4; decide, hrm2⟩
end
end V
namespace V
structure FN (K : Frag) (x : Str) (st : Stmt) : Prop where
  ex : ∃ (f : Addr) (fd : FuncData), nsIn K mainGlobals x = some (some (.ref f)) ∧ Fun K x x st f fd
theorem fn_mk {K : Frag} {x : Str} {st : Stmt} {f : Addr} {oc : Value} {od an : Option Addr} {osl : Array (Option Value)} {kV doc pm cdv ct : Value} (a : nsIn K mainGlobals x = some (some (.ref f)))
    (l : K.lookup f = some ⟨oc, od, .func (fnOf x x (defArgs st) (defBody st) (defScope st) .none kV doc pm an cdv ct), osl⟩) (c : codeIn K cdv x = true) (k : keepIn K (.ref f) = true) : FN K x st := ⟨f, _, a, fun_mk l c k⟩
section
variable {P : Program} {w : World} {K : Frag} {mg : MgT} {base h : Heap}
theorem FN.dfn {x : Str} {st : Stmt} {ps : List Str} {k : Nat} {sp : Sp} (n : FN K x st) (X : K.In h) (G : h.Ns mainGlobals mg)
    (hb : ∀ (kV doc pm : Value) (an : Option Addr) (cdv ct : Value) (us : List Value), us.length = ps.length → bindArgs (fnOf x x (defArgs st) (defBody st) (defScope st) .none kV doc pm an cdv ct) ⟨us, []⟩ = pure (ps.zip us))
    (ok : ∀ f fd, Fun K x x st f fd → FnOk P w K mg base (CX1 P w) k f fd ps sp) : Dfn P w K mg base k x ps sp := by
  obtain ⟨f, fd, a, F⟩ := n.ex; exact L2.dfn F (mg_of X G a) (F.binds hb) (ok f fd F)
structure TK (K : Frag) (cSE cBW cBM cBS cUL cNT cBT : Addr) : Prop where
  none : ∀ x ∈ (["len", "range", "any", "sorted", "set", "list", "tuple", "isinstance", "bool", "ValueError"] : List Str), nsIn K mainGlobals x = some Option.none
  most : ∃ t, nsIn K mainGlobals "MOST_SPOTS" = some (some (.int 12 t))
  se : nsIn K mainGlobals "SlideError" = some (some (.ref cSE))
  bw : nsIn K mainGlobals "BadWeb" = some (some (.ref cBW))
  bm : nsIn K mainGlobals "BadMarks" = some (some (.ref cBM))
  bs : nsIn K mainGlobals "BadSlide" = some (some (.ref cBS))
  ul : nsIn K mainGlobals "Unlike" = some (some (.ref cUL))
  nt : nsIn K mainGlobals "NoTree" = some (some (.ref cNT))
  bt : nsIn K mainGlobals "BadText" = some (some (.ref cBT))
  xbw : ExcCls K cBW
  xbm : ExcCls K cBM
  xbs : ExcCls K cBS
  xul : ExcCls K cUL
  xnt : ExcCls K cNT
  xbt : ExcCls K cBT
variable {cSE cBW cBM cBS cUL cNT cBT : Addr}
theorem TK.txt (t : TK K cSE cBW cBM cBS cUL cNT cBT) (X : K.In h) (G : h.Ns mainGlobals mg) : Txt K mg cSE cBW cBM cBS cUL cNT cBT where
  len := mg_none_of X G (t.none _ (by simp))
  range := mg_none_of X G (t.none _ (by simp))
  any := mg_none_of X G (t.none _ (by simp))
  sorted := mg_none_of X G (t.none _ (by simp))
  set := mg_none_of X G (t.none _ (by simp))
  list := mg_none_of X G (t.none _ (by simp))
  tuple := mg_none_of X G (t.none _ (by simp))
  isin := mg_none_of X G (t.none _ (by simp))
  bool := mg_none_of X G (t.none _ (by simp))
  ve := mg_none_of X G (t.none _ (by simp))
  most := let ⟨u, e⟩ := t.most; ⟨u, mg_of X G e⟩
  se := mg_of X G t.se
  bw := mg_of X G t.bw
  bm := mg_of X G t.bm
  bs := mg_of X G t.bs
  ul := mg_of X G t.ul
  nt := mg_of X G t.nt
  bt := mg_of X G t.bt
  xbw := t.xbw
  xbm := t.xbm
  xbs := t.xbs
  xul := t.xul
  xnt := t.xnt
  xbt := t.xbt
theorem len0 {p : List Value → Prop} (h : p []) (us : List Value) (e : us.length = 0) : p us := by
  cases us with
  | nil => exact h
  | cons a us => exact absurd e (Nat.succ_ne_zero _)
theorem lenS {p : List Value → Prop} {n : Nat} (h : ∀ a us, us.length = n → p (a :: us)) (us : List Value) (e : us.length = n + 1) : p us := by
  cases us with
  | nil => exact absurd e.symm (Nat.succ_ne_zero _)
  | cons a us => exact h a us (Nat.succ.inj e)
theorem len1 {p : List Value → Prop} (h : ∀ a, p [a]) : ∀ us : List Value, us.length = 1 → p us := lenS fun a => len0 (p := fun us => p (a :: us)) (h a)
theorem len2 {p : List Value → Prop} (h : ∀ a b, p [a, b]) : ∀ us : List Value, us.length = 2 → p us := lenS fun a => len1 (p := fun us => p (a :: us)) (h a)
theorem len3 {p : List Value → Prop} (h : ∀ a b c, p [a, b, c]) : ∀ us : List Value, us.length = 3 → p us := lenS fun a => len2 (p := fun us => p (a :: us)) (h a)
theorem len4 {p : List Value → Prop} (h : ∀ a b c d, p [a, b, c, d]) : ∀ us : List Value, us.length = 4 → p us := lenS fun a => len3 (p := fun us => p (a :: us)) (h a)
theorem law_fn (t : TK K cSE cBW cBM cBS cUL cNT cBT) (KM : Kits K cSE cBW cBM cBS cUL cNT cBT cBM true false false false false false) (KW : Kits K cSE cBW cBM cBS cUL cNT cBT cBW false false false true false false) (KN : Kits K cSE cBW cBM cBS cUL cNT cBT cNT false false false false true false) (KU : Kits K cSE cBW cBM cBS cUL cNT cBT cUL false false false false false true)
    (n0 : FN K "is_line" s_is_line)
    (n1 : FN K "rises" s_rises)
    (n2 : FN K "look_web" s_look_web)
    (n3 : FN K "are_marks" s_are_marks)
    (n4 : FN K "look_marks" s_look_marks)
    (n5 : FN K "touching" s_touching)
    (n6 : FN K "is_tree" s_is_tree)
    (n7 : FN K "hangs_together" s_hangs)
    (n8 : FN K "hanging" s_hanging)
    (n9 : FN K "touches_any" s_touches_any)
    (n10 : FN K "look_both" s_look_both)
    (n11 : FN K "stiff" s_stiff)
    (n12 : FN K "look_tree" s_look_tree)
    (n13 : FN K "stiff_ones" s_stiff_ones)
    (n14 : FN K "is_stiff" s_is_stiff)
    (n15 : FN K "is_barred" s_is_barred)
    (n16 : FN K "free_parts" s_free_parts)
    (n17 : FN K "parts_beside" s_parts)
    (n18 : FN K "tree_told" s_told)
    (n19 : FN K "_law_cell" s_cell)
    (n20 : FN K "_law_mix" s_mix)
    (n21 : FN K "_law_is_marks" s_lis)
    (n22 : FN K "_law_web" s_web)
    (n23 : FN K "_law_marks" s_marks)
    (n24 : FN K "_law_moved" s_lmoved)
    (n25 : FN K "_law_slides" s_lslides)
    (n26 : FN K "_law_room" s_lroom)
    (n27 : FN K "_law_refusal" s_refusal)
    (n28 : FN K "_law_got" s_lgot)
    (n29 : FN K "_law_tree" s_ltree)
    (n30 : FN K "_law_is_tree" s_lit)
    (n31 : FN K "_law_stiff" s_lstiff)
    (n32 : FN K "_law_parts" s_lparts)
    (n33 : FN K "_law_barred" s_lbarred)
    {f : Addr} {fd : FuncData} (F : Fun K "law" "law" s_law f fd) (X : K.In h) (G : h.Ns mainGlobals mg) : FnOk P w K mg base (CX1 P w) 32 f fd ["_law_script"] (spD K F_law) := by
  have T := t.txt X G; have d0 := n0.dfn (P := P) (w := w) (base := base) (ps := ["count", "line"]) X G (fun _ _ _ _ _ _ => len2 fun _ _ => rfl) fun f fd F => ok_is_line (k := 0) F T.len
  have d1 := n1.dfn (P := P) (w := w) (base := base) (ps := ["row"]) X G (fun _ _ _ _ _ _ => len1 fun _ => rfl) fun f fd F => ok_rises (k := 0) F T.len T.range 
  have d5 := n5.dfn (P := P) (w := w) (base := base) (ps := ["web", "spot"]) X G (fun _ _ _ _ _ _ => len2 fun _ _ => rfl) fun f fd F => ok_touching (k := 0) F T 
  have d19 := n19.dfn (P := P) (w := w) (base := base) (ps := ["_law_script", "_law_k"]) X G (fun _ _ _ _ _ _ => len2 fun _ _ => rfl) fun f fd F => ok_cell (k := 0) F T 
  have d21 := n21.dfn (P := P) (w := w) (base := base) (ps := ["_law_web_here", "_law_marks_here"]) X G (fun _ _ _ _ _ _ => len2 fun _ _ => rfl) fun f fd F => ok_lis (k := 0) F T 
  have d27 := n27.dfn (P := P) (w := w) (base := base) (ps := ["_law_kept"]) X G (fun _ _ _ _ _ _ => len1 fun _ => rfl) fun f fd F => ok_refusal (k := 0) F T 
  have d24 := n24.dfn (P := P) (w := w) (base := base) (ps := ["_law_marks_here", "_law_one", "_law_other"]) X G (fun _ _ _ _ _ _ => len3 fun _ _ _ => rfl) fun f fd F => ok_lmoved (k := 0) F T 
  have d2 := n2.dfn (P := P) (w := w) (base := base) (ps := ["web"]) X G (fun _ _ _ _ _ _ => len1 fun _ => rfl) fun f fd F => ok_look_web (k := 1) F T (d0.mono (by decide : 1 ≤ 1)) (d1.mono (by decide : 1 ≤ 1))
  have d3 := n3.dfn (P := P) (w := w) (base := base) (ps := ["web", "marks"]) X G (fun _ _ _ _ _ _ => len2 fun _ _ => rfl) fun f fd F => ok_are_marks (k := 1) F T (d1.mono (by decide : 1 ≤ 1))
  have d20 := n20.dfn (P := P) (w := w) (base := base) (ps := ["_law_script", "_law_k"]) X G (fun _ _ _ _ _ _ => len2 fun _ _ => rfl) fun f fd F => ok_mix (k := 1) F T (d19.mono (by decide : 1 ≤ 1))
  have d4 := n4.dfn (P := P) (w := w) (base := base) (ps := ["web", "marks"]) X G (fun _ _ _ _ _ _ => len2 fun _ _ => rfl) fun f fd F => ok_look_marks (k := 2) F T (d2.mono (by decide : 2 ≤ 2)) (d3.mono (by decide : 2 ≤ 2))
  have d22 := n22.dfn (P := P) (w := w) (base := base) (ps := ["_law_script", "_law_k", "_law_places"]) X G (fun _ _ _ _ _ _ => len3 fun _ _ _ => rfl) fun f fd F => ok_web (k := 2) F T (d20.mono (by decide : 2 ≤ 2))
  have d23 := n23.dfn (P := P) (w := w) (base := base) (ps := ["_law_script", "_law_k", "_law_web_here", "_law_most"]) X G (fun _ _ _ _ _ _ => len4 fun _ _ _ _ => rfl) fun f fd F => ok_marks (k := 2) F T (d20.mono (by decide : 2 ≤ 2)) (d21.mono (by decide : 1 ≤ 2))
  have d9 := n9.dfn (P := P) (w := w) (base := base) (ps := ["web", "spot", "some"]) X G (fun _ _ _ _ _ _ => len3 fun _ _ _ => rfl) fun f fd F => ok_touches_any (k := 1) F T (d5.mono (by decide : 1 ≤ 1))
  have d8 := n8.dfn (P := P) (w := w) (base := base) (ps := ["web", "start", "some"]) X G (fun _ _ _ _ _ _ => len3 fun _ _ _ => rfl) fun f fd F => ok_hanging (k := 2) F T (d9.mono (by decide : 2 ≤ 2))
  have d7 := n7.dfn (P := P) (w := w) (base := base) (ps := ["web"]) X G (fun _ _ _ _ _ _ => len1 fun _ => rfl) fun f fd F => ok_hangs (k := 3) F T (d8.mono (by decide : 3 ≤ 3))
  have d6 := n6.dfn (P := P) (w := w) (base := base) (ps := ["web"]) X G (fun _ _ _ _ _ _ => len1 fun _ => rfl) fun f fd F => ok_is_tree (k := 4) F T (d2.mono (by decide : 2 ≤ 4)) (d7.mono (by decide : 4 ≤ 4))
  have d10 := n10.dfn (P := P) (w := w) (base := base) (ps := ["web", "marks", "goal"]) X G (fun _ _ _ _ _ _ => len3 fun _ _ _ => rfl) fun f fd F => ok_look_both (k := 3) F T (d4.mono (by decide : 3 ≤ 3))
  have d12 := n12.dfn (P := P) (w := w) (base := base) (ps := ["web"]) X G (fun _ _ _ _ _ _ => len1 fun _ => rfl) fun f fd F => ok_look_tree (k := 5) F T (d6.mono (by decide : 5 ≤ 5))
  have dp : ∀ j : Nat, Dfn P w K mg base (1 + j) "is_stiff" ["web", "marks", "spot", "behind"] (spD K (F_is_stiff j)) ∧ Dfn P w K mg base (1 + j) "is_barred" ["web", "marks", "spot", "behind"] (spD K (F_is_barred j)) := by
    intro j
    induction j with
    | zero => exact ⟨n14.dfn (P := P) (w := w) (base := base) (ps := ["web", "marks", "spot", "behind"]) X G (fun _ _ _ _ _ _ => len4 fun _ _ _ _ => rfl) fun f fd F => ok_is_stiff0 (k := 0) F, n15.dfn (P := P) (w := w) (base := base) (ps := ["web", "marks", "spot", "behind"]) X G (fun _ _ _ _ _ _ => len4 fun _ _ _ _ => rfl) fun f fd F => ok_is_barred0 (k := 0) F⟩
    | succ j ih => exact ⟨n14.dfn (P := P) (w := w) (base := base) (ps := ["web", "marks", "spot", "behind"]) X G (fun _ _ _ _ _ _ => len4 fun _ _ _ _ => rfl) fun f fd F => ok_is_stiff (k := 1 + j) F (d5.mono (by fail"o" : 1 ≤ 1 + j)) ih.2, n15.dfn (P := P) (w := w) (base := base) (ps := ["web", "marks", "spot", "behind"]) X G (fun _ _ _ _ _ _ => len4 fun _ _ _ _ => rfl) fun f fd F => ok_is_barred (k := 1 + j) F (d5.mono (by fail"o" : 1 ≤ 1 + j)) ih.1⟩
  have d14 := (dp 27).1; have d13 := n13.dfn (P := P) (w := w) (base := base) (ps := ["web", "marks"]) X G (fun _ _ _ _ _ _ => len2 fun _ _ => rfl) fun f fd F => ok_stiff_ones (k := 28) F T (d14.mono (by decide : 28 ≤ 28))
  have d11 := n11.dfn (P := P) (w := w) (base := base) (ps := ["web", "marks"]) X G (fun _ _ _ _ _ _ => len2 fun _ _ => rfl) fun f fd F => ok_stiff (k := 29) F  (d4.mono (by decide : 3 ≤ 29)) (d12.mono (by decide : 6 ≤ 29)) (d13.mono (by decide : 29 ≤ 29))
  have d17 := n17.dfn (P := P) (w := w) (base := base) (ps := ["web", "marks", "held"]) X G (fun _ _ _ _ _ _ => len3 fun _ _ _ => rfl) fun f fd F => ok_parts (k := 3) F T (d9.mono (by decide : 2 ≤ 3)) (d8.mono (by decide : 3 ≤ 3))
  have d16 := n16.dfn (P := P) (w := w) (base := base) (ps := ["web", "marks"]) X G (fun _ _ _ _ _ _ => len2 fun _ _ => rfl) fun f fd F => ok_free_parts (k := 29) F  (d4.mono (by decide : 3 ≤ 29)) (d12.mono (by decide : 6 ≤ 29)) (d13.mono (by decide : 29 ≤ 29)) (d17.mono (by decide : 4 ≤ 29))
  have d18 := n18.dfn (P := P) (w := w) (base := base) (ps := ["web", "marks", "goal"]) X G (fun _ _ _ _ _ _ => len3 fun _ _ _ => rfl) fun f fd F => ok_told (k := 29) F  (d10.mono (by decide : 4 ≤ 29)) (d12.mono (by decide : 6 ≤ 29)) (d13.mono (by decide : 29 ≤ 29)) (d17.mono (by decide : 4 ≤ 29))
  have d25 := n25.dfn (P := P) (w := w) (base := base) (ps := ["_law_web_here", "_law_marks_here"]) X G (fun _ _ _ _ _ _ => len2 fun _ _ => rfl) fun f fd F => ok_lslides (k := 1) F T (d21.mono (by decide : 1 ≤ 1)) (d24.mono (by decide : 1 ≤ 1))
  have d26 := n26.dfn (P := P) (w := w) (base := base) (ps := ["_law_web_here", "_law_marks_here"]) X G (fun _ _ _ _ _ _ => len2 fun _ _ => rfl) fun f fd F => ok_lroom (k := 2) F T (d25.mono (by decide : 2 ≤ 2)) (d24.mono (by decide : 1 ≤ 2))
  have d28 := n28.dfn (P := P) (w := w) (base := base) (ps := ["_law_way", "_law_web_here", "_law_marks_here", "_law_goal"]) X G (fun _ _ _ _ _ _ => len4 fun _ _ _ _ => rfl) fun f fd F => ok_lgot (k := 30) F T (d11.mono (by decide : 30 ≤ 30)) (d16.mono (by decide : 30 ≤ 30)) (d18.mono (by decide : 30 ≤ 30)) (d27.mono (by decide : 1 ≤ 30))
  have d29 := n29.dfn (P := P) (w := w) (base := base) (ps := ["_law_script", "_law_k", "_law_places"]) X G (fun _ _ _ _ _ _ => len3 fun _ _ _ => rfl) fun f fd F => ok_ltree (k := 2) F T (d20.mono (by decide : 2 ≤ 2))
  have d30 := n30.dfn (P := P) (w := w) (base := base) (ps := ["_law_web_here"]) X G (fun _ _ _ _ _ _ => len1 fun _ => rfl) fun f fd F => ok_lit (k := 0) F T 
  have d31 := n31.dfn (P := P) (w := w) (base := base) (ps := ["_law_web_here", "_law_marks_here"]) X G (fun _ _ _ _ _ _ => len2 fun _ _ => rfl) fun f fd F => ok_lstiff (k := 3) F T (d26.mono (by decide : 3 ≤ 3)) (d25.mono (by decide : 2 ≤ 3))
  have d32 := n32.dfn (P := P) (w := w) (base := base) (ps := ["_law_web_here", "_law_some", "_law_marks_here"]) X G (fun _ _ _ _ _ _ => len3 fun _ _ _ => rfl) fun f fd F => ok_lparts (k := 0) F T 
  have d33 := n33.dfn (P := P) (w := w) (base := base) (ps := ["_law_script"]) X G (fun _ _ _ _ _ _ => len1 fun _ => rfl) fun f fd F => ok_lbarred (k := 2) F  (d20.mono (by decide : 2 ≤ 2))
  exact ok_law (k := 31) F T KM KW KN KU (d20.mono (by decide : 2 ≤ 31)) (d22.mono (by decide : 3 ≤ 31)) (d29.mono (by decide : 3 ≤ 31)) (d23.mono (by decide : 3 ≤ 31)) (d26.mono (by decide : 3 ≤ 31)) (d33.mono (by decide : 3 ≤ 31)) (d30.mono (by decide : 1 ≤ 31)) (d31.mono (by decide : 4 ≤ 31)) (d32.mono (by decide : 1 ≤ 31)) (d28.mono (by decide : 31 ≤ 31))
theorem kits_mk {C : Addr} {cd : ClassData} {b1 b2 b3 b4 b5 b6 : Bool} (ga : findIn K (.ref C) "__getattribute__" = some (some (.builtin "BaseException.__getattribute__"))) (gn : findIn K (.ref C) "__getattr__" = some Option.none) (cl : findIn K (.ref C) "__class__" = some (some (.builtin "object.__class__")))
    (gg : specialIn K (.builtin "object.__class__") "__get__" = some (some (.builtin "getset_descriptor.__get__"))) (tk : takesIn K (.builtin "object.__class__") = some true) (mo : mroIn K C (.type "object") = some true) (mb : mroIn K C (.type "BaseException") = some true) (cs : clsIn K C = some cd)
    (k1 : kitOne K (.ref C) (.ref cBM) = some b1) (k2 : kitOne K (.ref C) (.ref cBS) = some b2) (k3 : kitOne K (.ref C) (.ref cBT) = some b3) (k4 : kitOne K (.ref C) (.ref cBW) = some b4) (k5 : kitOne K (.ref C) (.ref cNT) = some b5) (k6 : kitOne K (.ref C) (.ref cUL) = some b6)
    (kv : kitOne K (.ref C) (.type "ValueError") = some true) (x : exmOne K (.ref C) (.ref cSE) = some true) : Kits K cSE cBW cBM cBS cUL cNT cBT C b1 b2 b3 b4 b5 b6 := ⟨⟨ga, gn, cl, gg, tk, mo, mb, by rw [cs]; rfl⟩, k1, k2, k3, k4, k5, k6, kv, x⟩
theorem fin_mk {l : OpenLaw} {fa : Addr} {tk : Tok} (X : K.In h) (G : h.Ns mainGlobals mg) (hfa : mg "law" = some (.ref fa))
    (n0 : FN K "is_line" s_is_line)
    (n1 : FN K "rises" s_rises)
    (n2 : FN K "look_web" s_look_web)
    (n3 : FN K "are_marks" s_are_marks)
    (n4 : FN K "look_marks" s_look_marks)
    (n5 : FN K "touching" s_touching)
    (n6 : FN K "is_tree" s_is_tree)
    (n7 : FN K "hangs_together" s_hangs)
    (n8 : FN K "hanging" s_hanging)
    (n9 : FN K "touches_any" s_touches_any)
    (n10 : FN K "look_both" s_look_both)
    (n11 : FN K "stiff" s_stiff)
    (n12 : FN K "look_tree" s_look_tree)
    (n13 : FN K "stiff_ones" s_stiff_ones)
    (n14 : FN K "is_stiff" s_is_stiff)
    (n15 : FN K "is_barred" s_is_barred)
    (n16 : FN K "free_parts" s_free_parts)
    (n17 : FN K "parts_beside" s_parts)
    (n18 : FN K "tree_told" s_told)
    (n19 : FN K "_law_cell" s_cell)
    (n20 : FN K "_law_mix" s_mix)
    (n21 : FN K "_law_is_marks" s_lis)
    (n22 : FN K "_law_web" s_web)
    (n23 : FN K "_law_marks" s_marks)
    (n24 : FN K "_law_moved" s_lmoved)
    (n25 : FN K "_law_slides" s_lslides)
    (n26 : FN K "_law_room" s_lroom)
    (n27 : FN K "_law_refusal" s_refusal)
    (n28 : FN K "_law_got" s_lgot)
    (n29 : FN K "_law_tree" s_ltree)
    (n30 : FN K "_law_is_tree" s_lit)
    (n31 : FN K "_law_stiff" s_lstiff)
    (n32 : FN K "_law_parts" s_lparts)
    (n33 : FN K "_law_barred" s_lbarred)
    (n34 : FN K "law" s_law)
    (z0 : nsIn K mainGlobals "len" = some Option.none)
    (z1 : nsIn K mainGlobals "range" = some Option.none)
    (z2 : nsIn K mainGlobals "any" = some Option.none)
    (z3 : nsIn K mainGlobals "sorted" = some Option.none)
    (z4 : nsIn K mainGlobals "set" = some Option.none)
    (z5 : nsIn K mainGlobals "list" = some Option.none)
    (z6 : nsIn K mainGlobals "tuple" = some Option.none)
    (z7 : nsIn K mainGlobals "isinstance" = some Option.none)
    (z8 : nsIn K mainGlobals "bool" = some Option.none)
    (z9 : nsIn K mainGlobals "ValueError" = some Option.none)
    (mo : nsIn K mainGlobals "MOST_SPOTS" = some (some (.int 12 tk)))
    (se : nsIn K mainGlobals "SlideError" = some (some (.ref cSE)))
    (bw : nsIn K mainGlobals "BadWeb" = some (some (.ref cBW)))
    (bm : nsIn K mainGlobals "BadMarks" = some (some (.ref cBM)))
    (bs : nsIn K mainGlobals "BadSlide" = some (some (.ref cBS)))
    (ul : nsIn K mainGlobals "Unlike" = some (some (.ref cUL)))
    (nt : nsIn K mainGlobals "NoTree" = some (some (.ref cNT)))
    (bt : nsIn K mainGlobals "BadText" = some (some (.ref cBT)))
    (xw : excIn K cBW veMro "ValueError.__new__" = true)
    (xm : excIn K cBM veMro "ValueError.__new__" = true)
    (xs : excIn K cBS veMro "ValueError.__new__" = true)
    (xu : excIn K cUL veMro "ValueError.__new__" = true)
    (xn : excIn K cNT veMro "ValueError.__new__" = true)
    (xt : excIn K cBT veMro "ValueError.__new__" = true)
    (KM : Kits K cSE cBW cBM cBS cUL cNT cBT cBM true false false false false false) (KW : Kits K cSE cBW cBM cBS cUL cNT cBT cBW false false false true false false) (KN : Kits K cSE cBW cBM cBS cUL cNT cBT cNT false false false false true false) (KU : Kits K cSE cBW cBM cBS cUL cNT cBT cUL false false false false false true)
    : ∃ fd : FuncData, (∀ (s : Shared) (u : Value), BindsTo s fd ⟨[u], []⟩ [("_law_script", u)]) ∧ ∀ base : Heap, K.In base → base.Ns mainGlobals mg → FnOk l.prog w K mg base (CX1 l.prog w) 32 fa fd ["_law_script"] (spD K F_law) := by
  obtain ⟨f, fd, a, F⟩ := n34.ex; have e := hfa.symm.trans (mg_of X G a); cases e
  have t : TK K cSE cBW cBM cBS cUL cNT cBT := ⟨fun x hx => by
    simp only [List.mem_cons, List.not_mem_nil, or_false] at hx; rcases hx with rfl | rfl | rfl | rfl | rfl | rfl | rfl | rfl | rfl | rfl
    all_goals assumption, ⟨tk, mo⟩, se, bw, bm, bs, ul, nt, bt, ⟨xw⟩, ⟨xm⟩, ⟨xs⟩, ⟨xu⟩, ⟨xn⟩, ⟨xt⟩⟩
  refine ⟨fd, fun s u => ?_, fun base _ _ => law_fn t KM KW KN KU n0 n1 n2 n3 n4 n5 n6 n7 n8 n9 n10 n11 n12 n13 n14 n15 n16 n17 n18 n19 n20 n21 n22 n23 n24 n25 n26 n27 n28 n29 n30 n31 n32 n33 F X G⟩
  obtain ⟨oc, od, kV, doc, pm, an, cdv, ct, osl, rfl, _, _⟩ := F.ex; exact .of_eq rfl
theorem walk {l : OpenLaw} {q : Program} {loose : List Str} {XP : (MgT) → Heap → Prop} {YP : World → Heap → Prop} {d : DefRec} {K : Params → Frag} (hn : l.most = some 63) (hdf : d.params.defaults = [])
    (hY : ∀ (w : World) (h : Heap), YP w h → (K w.params).In h)
    (F : ∀ (w : World) (mg : MgT) (fa : Addr) (h : Heap), (K w.params).In h → h.Ns mainGlobals mg → mg d.name = some (.ref fa) →
      ∃ fd : FuncData, (∀ (s : Shared) (u : Value), BindsTo s fd ⟨[u], []⟩ [("_law_script", u)]) ∧ ∀ base : Heap, (K w.params).In base → base.Ns mainGlobals mg → FnOk l.prog w (K w.params) mg base (CX1 l.prog w) 32 fa fd ["_law_script"] (spD (K w.params) F_law)) :
    WalkO q loose XP YP l.row.toRowW d [] (fun f vs => PySem.call f vs) :=
  L2.walk_of (n := 63) (k := 32) (x := "_law_script") (CX := fun w => CX1 l.prog w) (sp := fun w => spD (K w.params) F_law) hn (by decide) hdf ⟨rfl, by decide, by decide⟩ hY F
    (fun _ H a ns hl _ hS => ⟨[.py (dL ns)], .val (dB true), H, Same.refl _, .cons (.lst hS (isAll_ints ns)) .nil, ⟨ns, rfl, hl, rfl⟩, fun v Hm' H' g h => isD_bl h⟩)
    fun _ _ _ _ _ ⟨_, _, _, _, _, _, F⟩ => F.wish.elim
theorem walkX {q : Program} {loose : List Str} {XP : (MgT) → Heap → Prop} {r : RowW} {d : DefRec} {run : Value → List Value → Sem Value} {K : Params → Frag} {as : List Addr} {n t : Nat} (e : ∀ P, as = (K P).map (·.1))
    (hk : WalkO q loose XP (fun w h => (K w.params).In h) r d [] run) : WalkX q loose XP (PySem.W.X.obsZ as) (PySem.W.X.valZ K n t) r d [] run :=
  fun w s₀ s₁ mg mb G y a o pm cd doc dV kV ho hd hcd hD hmg hg args vals as' L hpre hlay hrd hwl hlo =>
    hk w s₀ s₁ mg mb G (Frag.In.keeps (Frag.in_of (e _) (congrArg Prod.fst y)) L.keeps) a o pm cd doc dV kV ho hd hcd hD hmg hg args vals as' hpre hlay hrd hwl hlo
end
end V
open PySem PySem.W PyProof.Rows
local macro_rules
  | `(tactic| fail $s:str) => match s.getString with
    | "fn" => `(tactic| (refine' V.fn_mk ?a ?l ?c ?k; (case a => k_is); (case l => k_is); (case c => k_is); (case k => k_is)))
    | "kits" => `(tactic| (refine' V.kits_mk ?ga ?gn ?cl ?gg ?tk ?mo ?mb ?cs ?k1 ?k2 ?k3 ?k4 ?k5 ?k6 ?kv ?x; (case ga | gn | cl | gg | tk | mo | mb | cs => k_is); (case k1 | k2 | k3 | k4 | k5 | k6 | kv => kit_is); (case x => kts_exm)))
    | _ => Lean.Macro.throwUnsupported
def PySem.W.Fast.tw3241412456235234270 : Unit := ()
set_option maxRecDepth 100000 in
set_option maxHeartbeats 0 in
theorem PySem.Challenge.cw_markslide_k20_whole_trees_holds : PySem.Challenge.rw_markslide_k20_whole_trees.Holds := by
  w_on; o_law; z_head; (case hw => w_witness2)
  k_fill
  refine V.walkX (fun _ => by kernel_rfl) (V.walk (l := PySem.Challenge.rw_markslide_k20_whole_trees) rfl rfl (fun w h Y => Y) ?F)
  case F =>
    intro w mg fa h KX G hmg; refine' V.fin_mk KX G hmg ?n0 ?n1 ?n2 ?n3 ?n4 ?n5 ?n6 ?n7 ?n8 ?n9 ?n10 ?n11 ?n12 ?n13 ?n14 ?n15 ?n16 ?n17 ?n18 ?n19 ?n20 ?n21 ?n22 ?n23 ?n24 ?n25 ?n26 ?n27 ?n28 ?n29 ?n30 ?n31 ?n32 ?n33 ?n34 ?z0 ?z1 ?z2 ?z3 ?z4 ?z5 ?z6 ?z7 ?z8 ?z9 ?mo ?se ?bw ?bm ?bs ?ul ?nt ?bt ?xw ?xm ?xs ?xu ?xn ?xt ?KM ?KW ?KN ?KU
    (case n0 | n1 | n2 | n3 | n4 | n5 | n6 | n7 | n8 | n9 | n10 | n11 | n12 | n13 | n14 | n15 | n16 | n17 | n18 | n19 | n20 | n21 | n22 | n23 | n24 | n25 | n26 | n27 | n28 | n29 | n30 | n31 | n32 | n33 | n34 => fail "fn")
    (case z0 | z1 | z2 | z3 | z4 | z5 | z6 | z7 | z8 | z9 | mo | se | bw | bm | bs | ul | nt | bt => k_is)
    (case xw | xm | xs | xu | xn | xt => k_exc)
    (case KM | KW | KN | KU => fail "kits")
