import PyProof.Rows.All
import Wide.All
import OpenK.AllK
import Wide.FinOn
import PyProof.EqAt
import PyProof.EqKinds
import PyProof.TupleCall
import KE.BitLaws
import Open.SpecLaws
import KE.OsHead
import KE.OsGo
import KE.KSortTupG
import KE.KDictSum
import PyFlatLaws
import PyKri5
import PySem.Challenge.RW_betweenmarks_s01_answers
import PyProof.MinMaxWalk
import PyProof.SetKind
section
set_option Elab.async false
set_option linter.all false
set_option maxRecDepth 100000
namespace L2
open PySem PySem.Spec PyProof.Rows
abbrev Key := Sum Int Str
def keyIs : Key → Value → Bool
  | .inl k, v => Value.isInt k v
  | .inr x, v => Value.isStrOf x v
def keyH (w : World) : Key → Int
  | .inl k => hashInt k
  | .inr x => hashStr w x
theorem keyIs_shape : ∀ {k : Key} {v : Value}, keyIs k v = true → (∃ i t, k = Sum.inl i ∧ v = Value.int i t) ∨ (∃ x t, k = Sum.inr x ∧ v = Value.str x t)
  | .inl i, v, h => by
    obtain ⟨t, e⟩ := Value.isInt_shape (k := i) (v := v) h
    exact .inl ⟨i, t, rfl, e⟩
  | .inr x, v, h => by
    obtain ⟨t, e⟩ := Value.isStrOf_shape (x := x) (v := v) h
    exact .inr ⟨x, t, rfl, e⟩
theorem keyIs_int (i : Int) (t : Tok) : keyIs (.inl i) (.int i t) = true := by simp [keyIs, Value.isInt]
theorem keyIs_str (x : Str) (t : Tok) : keyIs (.inr x) (.str x t) = true := by simp [keyIs, Value.isStrOf]
theorem key_ll (a b : Int) : decide ((Sum.inl a : Key) = Sum.inl b) = (a == b) := by
  by_cases e : a = b
  · subst e; simp
  · have h : ¬ (Sum.inl a : Key) = Sum.inl b := fun q => e (Sum.inl.inj q)
    rw [decide_eq_false h]
    exact (beq_eq_false_iff_ne.mpr e).symm
theorem key_rr (a b : Str) : decide ((Sum.inr a : Key) = Sum.inr b) = decide (a = b) := by
  by_cases e : a = b
  · subst e; simp
  · have h : ¬ (Sum.inr a : Key) = Sum.inr b := fun q => e (Sum.inr.inj q)
    rw [decide_eq_false h, decide_eq_false e]
theorem key_lr (a : Int) (b : Str) : decide ((Sum.inl a : Key) = Sum.inr b) = false := decide_eq_false (fun q => nomatch q)
theorem key_rl (a : Str) (b : Int) : decide ((Sum.inr a : Key) = Sum.inl b) = false := decide_eq_false (fun q => nomatch q)
def mixKind (prog : Program) (w : World) : PySem.KeyKind prog w Key where
  is := keyIs
  hash := keyH w
  inj := fun v a b ha hb => by
    rcases keyIs_shape ha with ⟨i, t, rfl, rfl⟩ | ⟨x, t, rfl, rfl⟩
    · rcases keyIs_shape hb with ⟨j, u, rfl, e⟩ | ⟨y, u, rfl, e⟩
      · injection e with e1 _; rw [e1]
      · exact nomatch e
    · rcases keyIs_shape hb with ⟨j, u, rfl, e⟩ | ⟨y, u, rfl, e⟩
      · exact nomatch e
      · injection e with e1 _; rw [e1]
  byValue := fun k v h => by
    rcases keyIs_shape h with ⟨i, t, rfl, rfl⟩ | ⟨x, t, rfl, rfl⟩ <;> rfl
  pyHash := fun hv h => by
    rcases keyIs_shape hv with ⟨i, t, rfl, rfl⟩ | ⟨x, t, rfl, rfl⟩
    · exact wpAny_pyHash_int h
    · exact wpAny_pyHash_str h
  eqBool := fun hu hv h => by
    rcases keyIs_shape hu with ⟨i, t, rfl, rfl⟩ | ⟨x, t, rfl, rfl⟩
    · rcases keyIs_shape hv with ⟨j, u, rfl, rfl⟩ | ⟨y, u, rfl, rfl⟩
      · rw [key_ll] at h; exact wpAny_eqBool_int h
      · rw [key_lr] at h; exact SeqAt.EqAt.int_str i t y u _ _ _ _ h
    · rcases keyIs_shape hv with ⟨j, u, rfl, rfl⟩ | ⟨y, u, rfl, rfl⟩
      · rw [key_rl] at h; exact SeqAt.EqAt.str_int x t j u _ _ _ _ h
      · rw [key_rr] at h; exact wpAny_eqBool_str h
  «strs» := fun k x t v h => by
    rcases keyIs_shape h with ⟨i, u, rfl, e⟩ | ⟨y, u, rfl, e⟩
    · exact nomatch e
    · injection e with e1 _
      subst e1
      cases v <;> rfl
theorem mixKind_int (prog : Program) (w : World) (i : Int) (t : Tok) : (mixKind prog w).is (.inl i) (.int i t) = true := keyIs_int i t
theorem mixKind_str (prog : Program) (w : World) (x : Str) (t : Tok) : (mixKind prog w).is (.inr x) (.str x t) = true := keyIs_str x t
end L2
namespace L2
open PySem PySem.Spec PyProof.Rows
inductive V where
  | non | bl (b : Bool) | int (i : Int) | str (x : Str) | byt (b : Array UInt8) | flt (b : UInt64) | ref (a : Addr) | ty (n : String)
  deriving DecidableEq
def RelV : V → Value → Prop
  | .non, u => u = Value.none
  | .bl b, u => u = Value.bool b
  | .int i, u => ∃ t, u = Value.int i t
  | .str x, u => ∃ t, u = Value.str x t
  | .byt b, u => ∃ t, u = Value.bytes b t
  | .flt b, u => ∃ t, u = Value.float b t
  | .ref a, u => u = Value.ref a
  | .ty n, u => u = Value.type n
abbrev Vals : List V → List Value → Prop := Paired RelV
theorem Vals.length {xs : List V} {us : List Value} (r : Vals xs us) : xs.length = us.length := Paired.length r
theorem Vals.get : ∀ {xs : List V} {us : List Value} {i : Nat} {x : V}, Vals xs us → xs[i]? = some x → ∃ u, us[i]? = some u ∧ RelV x u
  | _, _, _, _, .nil, e => by simp at e
  | _, _, 0, _, .cons r _, e => by simp at e; subst e; exact ⟨_, rfl, r⟩
  | _, _, i + 1, x, .cons _ t, e => by
    obtain ⟨u, h1, h2⟩ := Vals.get (i := i) (x := x) t (by simpa using e)
    exact ⟨u, by simpa using h1, h2⟩
theorem Vals.set {x : V} {u : Value} (r : RelV x u) : ∀ {xs : List V} {us : List Value} (i : Nat), Vals xs us → Vals (xs.set i x) (us.set i u)
  | _, _, _, .nil => .nil
  | _, _, 0, .cons _ t => .cons r t
  | _, _, i + 1, .cons q t => .cons q (Vals.set r i t)
theorem Vals.append : ∀ {xs ys : List V} {us ws : List Value}, Vals xs us → Vals ys ws → Vals (xs ++ ys) (us ++ ws)
  | _, _, _, _, .nil, s => s
  | _, _, _, _, .cons r t, s => .cons r (Vals.append t s)
theorem Vals.take : ∀ {xs : List V} {us : List Value} (n : Nat), Vals xs us → Vals (xs.take n) (us.take n)
  | _, _, 0, _ => .nil
  | _, _, _ + 1, .nil => .nil
  | _, _, n + 1, .cons r t => .cons r (Vals.take n t)
theorem Vals.drop : ∀ {xs : List V} {us : List Value} (n : Nat), Vals xs us → Vals (xs.drop n) (us.drop n)
  | _, _, 0, r => r
  | _, _, _ + 1, .nil => .nil
  | _, _, n + 1, .cons _ t => Vals.drop n t
def RelO : Option V → Option Value → Prop
  | some v, some u => RelV v u
  | none, none => True
  | _, _ => False
def KV {κ : Type} : List (κ × V) → List (κ × Value) → Prop := Paired fun (p : κ × V) (q : κ × Value) => p.1 = q.1 ∧ RelV p.2 q.2
def kV : Key → V
  | .inl i => .int i
  | .inr x => .str x
inductive HO where
  | lst (xs : List V)
  | tup (xs : List V)
  | dK (kvs : List (Key × V)) | dT (kvs : List (List Key × V))
  | set (S : Int → Bool) (n : Nat)
  | ins (C dx : Addr) (fs : List (Str × V))
  | own (x : Addr)
  | xd (fs : List (Str × V))
  | met (f x : Addr)
  | rng (lo hi : Int)
  | frz (o : Obj) (u : HO)
  | tbl (ps : Array Value)
  | ext (φ : Heap → Prop)
abbrev Hp := Addr → Option HO
def upd (H : Hp) (a : Addr) (o : HO) : Hp := fun b => if b = a then some o else H b
theorem upd_same {H : Hp} {a : Addr} {o : HO} : upd H a o a = some o := by unfold upd; rw [if_pos rfl]
theorem upd_ne {H : Hp} {a b : Addr} {o : HO} (h : b ≠ a) : upd H a o b = H b := by unfold upd; rw [if_neg h]
theorem ne_of {H : Hp} {a b : Addr} {o u : HO} (h : H a = some o) (h' : H b = some u) (d : o ≠ u) : a ≠ b := by
  intro e; subst e; rw [h] at h'; exact d (Option.some.inj h')
theorem ne_of_none {H : Hp} {a b : Addr} {o : HO} (h : H a = some o) (h' : H b = none) : a ≠ b := by
  intro e; subst e; rw [h] at h'; cases h'
section
variable (P : Program) (w : World)
def ObjOk (H : Hp) (h : Heap) (a : Addr) : HO → Prop
  | .lst xs => xs.length ≤ sizeLine ∧ ∃ (its : List Value) (n : Nat), Vals xs its ∧ h.get? a = some { cls := .type "list", data := .seq its.toArray n }
  | .tup xs => xs.length ≤ sizeLine ∧ ∃ its : List Value, Vals xs its ∧ IsTup h a its.toArray
  | .dK kvs => kvs.length ≤ sizeLine ∧ (a == sysModules) = false ∧ ∃ vs, KV kvs vs ∧ h.DictOf (mixKind P w) a vs
  | .dT kvs => kvs.length ≤ sizeLine ∧ (a == sysModules) = false ∧ ∃ xs : List (List Key × Addr × Value),
      Paired (fun (p : List Key × V) (q : List Key × Addr × Value) => p.1 = q.1 ∧ H q.2.1 = some (.tup (p.1.map kV)) ∧ RelV p.2 q.2.2) kvs xs ∧
      ∃ o es ep, h.get? a = some o ∧ o.ExactDict ∧ o.data = .dict es ep ∧ es.toList = xs.map (entryOfKey (tupleKind (mixKind P w))) ∧ (xs.map (·.1)).Nodup
  | .set S n => h.SetOf (intKind P w) a S n
  | .ins C dx fs => H dx = some (.own a) ∧ fs.length ≤ 1000 ∧ dx ≠ a ∧ h.get? a = some (PySem.W.instObj C dx) ∧
      ∃ mA, h.Ns1 dx mA ∧ (∀ f, RelO (fs.lookup f) (mA f)) ∧ PySem.Within mA (fs.map (·.1))
  | .own _ => ∃ o, h.get? a = some o
  | .xd fs => ∃ mA, h.Ns1 a mA ∧ ∀ f, RelO (fs.lookup f) (mA f)
  | .rng lo hi => ∃ t u v, h.get? a = some { cls := .type "range", data := .fields #[.int lo t, .int hi u, .int 1 v] }
  | .frz o u => h.get? a = some o ∧ ObjOk H h a u
  | .tbl ps => h.get? a = some { cls := .none, data := .fields ps }
  | .met f x => h.get? a = some (PySem.W.methodObj (.ref f) (.ref x))
  | .ext φ => φ h ∧ (∃ o, h.get? a = some o) ∧ ∀ h1 h2 : Heap, φ h1 → (∀ o, h1.get? a = some o → h2.get? a = some o) → φ h2
def HOk (H : Hp) (h : Heap) : Prop := ∀ a o, H a = some o → ObjOk P w H h a o
end
section
variable {P : Program} {w : World} {H H' : Hp} {h h' : Heap} {a : Addr} {o : HO}
theorem ObjOk.lt (x : ObjOk P w H h a o) : a < h.objs.size := by
  cases o with
  | lst xs => obtain ⟨_, _, _, _, e⟩ := x; exact Heap.lt_size e
  | tup xs => obtain ⟨_, _, _, p⟩ := x; exact p.lt
  | dK kvs => obtain ⟨_, _, _, _, o, _, _, e, _⟩ := x; exact Heap.lt_size e
  | dT kvs => obtain ⟨_, _, _, _, o, _, _, e, _⟩ := x; exact Heap.lt_size e
  | set S n => obtain ⟨o, _, _, _, e, _⟩ := x; exact Heap.lt_size e
  | ins C dx fs => obtain ⟨_, _, _, e, _⟩ := x; exact Heap.lt_size e
  | own y => obtain ⟨_, e⟩ := x; exact Heap.lt_size e
  | xd fs => obtain ⟨_, ⟨_, _, _, e, _⟩, _⟩ := x; exact Heap.lt_size e
  | rng lo hi => obtain ⟨_, _, _, e⟩ := x; exact Heap.lt_size e
  | frz ob u => obtain ⟨e, _⟩ := x; exact Heap.lt_size e
  | tbl ps => exact Heap.lt_size (show h.get? a = some _ from x)
  | met f y => exact Heap.lt_size (show h.get? a = some _ from x)
  | ext φ => obtain ⟨_, ⟨_, e⟩, _⟩ := x; exact Heap.lt_size e
theorem Paired.mapP {α β : Type} {F G : α → β → Prop} : ∀ {l₁ : List α} {l₂ : List β}, Paired F l₁ l₂ → (∀ a b, F a b → G a b) → Paired G l₁ l₂
  | _, _, .nil, _ => .nil
  | _, _, .cons r t, f => .cons (f _ _ r) (Paired.mapP t f)
theorem ObjOk.stay (x : ObjOk P w H h a o) (k : ∀ b u, (b = a ∨ H b = some (.own a)) → h.get? b = some u → h'.get? b = some u)
    (ho : ∀ b, H b = some (.own a) → H' b = some (.own a)) (ht : ∀ b xs, H b = some (.tup xs) → H' b = some (.tup xs)) : ObjOk P w H' h' a o := by
  induction o with
  | lst xs => obtain ⟨z, its, n, r, e⟩ := x; exact ⟨z, its, n, r, k _ _ (.inl rfl) e⟩
  | tup xs => obtain ⟨z, its, r, ob, e, c⟩ := x; exact ⟨z, its, r, ob, k _ _ (.inl rfl) e, c⟩
  | dK kvs => obtain ⟨z, y, vs, r, ob, es, ep, e, c⟩ := x; exact ⟨z, y, vs, r, ob, es, ep, k _ _ (.inl rfl) e, c⟩
  | dT kvs =>
    obtain ⟨z, y, xs, r, ob, es, ep, e, c⟩ := x
    exact ⟨z, y, xs, Paired.mapP r fun p q z => ⟨z.1, ht _ _ z.2.1, z.2.2⟩, ob, es, ep, k _ _ (.inl rfl) e, c⟩
  | set S n => obtain ⟨ob, es, ep, t, e, c⟩ := x; exact ⟨ob, es, ep, t, k _ _ (.inl rfl) e, c⟩
  | ins C dx fs =>
    obtain ⟨d, z, ne, e, mA, ⟨od, es, ep, e2, c⟩, r⟩ := x
    exact ⟨ho _ d, z, ne, k _ _ (.inl rfl) e, mA, ⟨od, es, ep, k _ _ (.inr d) e2, c⟩, r⟩
  | own y => obtain ⟨ob, e⟩ := x; exact ⟨ob, k _ _ (.inl rfl) e⟩
  | xd fs => obtain ⟨mA, ⟨od, es, ep, e, c⟩, r⟩ := x; exact ⟨mA, ⟨od, es, ep, k _ _ (.inl rfl) e, c⟩, r⟩
  | rng lo hi => obtain ⟨t, u, v, e⟩ := x; exact ⟨t, u, v, k _ _ (.inl rfl) e⟩
  | frz ob u ih => obtain ⟨e, q⟩ := x; exact ⟨k _ _ (.inl rfl) e, ih q⟩
  | tbl ps =>
    have e : h.get? a = some { cls := .none, data := .fields ps } := x
    show h'.get? a = some { cls := .none, data := .fields ps }
    exact k a _ (.inl rfl) e
  | met f y =>
    have e : h.get? a = some (PySem.W.methodObj (.ref f) (.ref y)) := x
    show h'.get? a = some (PySem.W.methodObj (.ref f) (.ref y))
    exact k a _ (.inl rfl) e
  | ext φ => obtain ⟨p, ⟨o, e⟩, st⟩ := x; exact ⟨st _ _ p fun o q => k _ _ (.inl rfl) q, ⟨o, k _ _ (.inl rfl) e⟩, st⟩
theorem HOk.lt (x : HOk P w H h) (e : H a = some o) : a < h.objs.size := (x a o e).lt
theorem HOk.fresh (x : HOk P w H h) (e : h.objs.size ≤ a) : H a = none := by
  cases q : H a with
  | none => rfl
  | some u => exact absurd (Nat.lt_of_lt_of_le (x.lt q) e) (Nat.lt_irrefl _)
theorem HOk.kept (x : HOk P w H h) (k : ∀ b u, h.get? b = some u → h'.get? b = some u) : HOk P w H h' := fun a o e =>
  (x a o e).stay (fun b u _ q => k b u q) (fun _ q => q) fun _ _ q => q
theorem HOk.laid (x : HOk P w H h) (k : ∀ b u, h.get? b = some u → h'.get? b = some u) (hp : h.objs.size ≤ a) (new : ObjOk P w (upd H a o) h' a o) : HOk P w (upd H a o) h' := fun b u e => by
  have hn := x.fresh hp
  by_cases hb : b = a
  · subst hb; rw [upd_same] at e; cases e; exact new
  · rw [upd_ne hb] at e
    exact (x b u e).stay (fun c v _ q => k c v q) (fun c q => by rw [upd_ne (ne_of_none q hn)]; exact q) fun c xs q => by rw [upd_ne (ne_of_none q hn)]; exact q
end
def Rd (H : Hp) (a : Addr) (u : HO) : Prop := H a = some u ∨ ∃ o, H a = some (.frz o u)
theorem Rd.ok {P : Program} {w : World} {H : Hp} {h : Heap} {a : Addr} {u : HO} (r : Rd H a u) (x : HOk P w H h) : ObjOk P w H h a u := by
  rcases r with r | ⟨o, r⟩
  · exact x a u r
  · obtain ⟨_, q⟩ := x a _ r
    exact q
def Mut : Option HO → Prop
  | some (.lst _) => True
  | some (.dK _) => True
  | some (.dT _) => True
  | some (.set _ _) => True
  | some (.ins _ _ _) => True
  | some (.ext _) => True
  | _ => False
section
variable {P : Program} {w : World} {H : Hp} {h h' : Heap} {x e : Addr} {o' : HO}
theorem HOk.write (ok : HOk P w H h) (mu : Mut (H x)) (he : e = x ∨ H e = some (.own x)) (k : ∀ b u, b ≠ e → h.get? b = some u → h'.get? b = some u) (heo : ∃ u, h'.get? e = some u)
    (new : ObjOk P w (upd H x o') h' x o') : HOk P w (upd H x o') h' := fun b u q => by
  have nown : ∀ c y, H c = some (.own y) → c ≠ x := fun c y r z => by subst z; rw [r] at mu; exact mu
  have ntup : ∀ c xs, H c = some (.tup xs) → c ≠ x := fun c xs r z => by subst z; rw [r] at mu; exact mu
  by_cases hb : b = x
  · subst hb; rw [upd_same] at q; cases q; exact new
  · rw [upd_ne hb] at q
    by_cases hbe : b = e
    · have q' : H b = some (.own x) := by
        rcases he with z | z
        · exact absurd (hbe.trans z) hb
        · rw [hbe]; exact z
      rw [q] at q'; cases q'
      obtain ⟨v, hv⟩ := heo
      exact ⟨v, by rw [hbe]; exact hv⟩
    · refine (ok b u q).stay (fun c v hc r => k c v ?_ r) (fun c r => by rw [upd_ne (nown c b r)]; exact r) fun c xs r => by rw [upd_ne (ntup c xs r)]; exact r
      rcases hc with rfl | hc
      · exact hbe
      · rintro rfl
        rcases he with z | z
        · exact nown c b hc z
        · rw [hc] at z; cases z; exact hb rfl
end
structure Un (fs ex : List Addr) (H H' : Hp) (h h' : Heap) : Prop where
  keep : ∀ b o, h.get? b = some o → H b = none → b ∉ fs → b ∉ ex → h'.get? b = some o
  slot : ∀ b o, h.get? b = some o → H b = none → b ∈ fs → b ∉ ex → ∃ sl, h'.get? b = some { o with slots := sl }
  free : ∀ b o, h.get? b = some o → H b = none → b ∉ ex → H' b = none
  there : ∀ b o, h.get? b = some o → b ∉ ex → ∃ o', h'.get? b = some o'
  tups : ∀ b xs, H b = some (.tup xs) → H' b = some (.tup xs)
  frzs : ∀ b o u, H b = some (.frz o u) → H' b = some (.frz o u)
  tbls : ∀ b ps, H b = some (.tbl ps) → ∃ more, H' b = some (.tbl (ps ++ more))
section
variable {fs fs' ex ex' : List Addr} {H H1 H2 : Hp} {h h1 h2 h' : Heap} {a x e : Addr} {o : HO}
theorem Un.any (u : Un fs ex H H1 h h1) {b : Addr} {ob : Obj} (q : h.get? b = some ob) (n : H b = none) (hx : b ∉ ex) : ∃ sl, h1.get? b = some { ob with slots := sl } := by
  by_cases hb : b ∈ fs
  · exact u.slot b ob q n hb hx
  · exact ⟨ob.slots, u.keep b ob q n hb hx⟩
theorem Un.kept (k : ∀ b u, h.get? b = some u → h'.get? b = some u) : Un fs ex H H h h' :=
  ⟨fun b ob q _ _ _ => k b ob q, fun b ob q _ _ _ => ⟨ob.slots, k b ob q⟩, fun _ _ _ n _ => n, fun b ob q _ => ⟨ob, k b ob q⟩, fun _ _ q => q, fun _ _ _ q => q, fun _ ps q => ⟨#[], by rw [q]; simp⟩⟩
theorem Un.refl : Un fs ex H H h h := Un.kept fun _ _ q => q
theorem Un.laid (k : ∀ b u, h.get? b = some u → h'.get? b = some u) (hp : h.objs.size ≤ a) (hn : H a = none) : Un fs ex H (upd H a o) h h' where
  keep := fun b u q _ _ _ => k b u q
  slot := fun b u q _ _ _ => ⟨u.slots, k b u q⟩
  free := fun b u q n _ => by rw [upd_ne (Nat.ne_of_lt (Nat.lt_of_lt_of_le (Heap.lt_size q) hp))]; exact n
  there := fun b u q _ => ⟨u, k b u q⟩
  tups := fun b xs q => by rw [upd_ne (ne_of_none q hn)]; exact q
  frzs := fun b u xs q => by rw [upd_ne (ne_of_none q hn)]; exact q
  tbls := fun b ps q => ⟨#[], by rw [upd_ne (ne_of_none q hn), q]; simp⟩
theorem Un.write (mu : Mut (H x)) (he : e = x ∨ H e = some (.own x)) (k : ∀ b u, b ≠ e → h.get? b = some u → h'.get? b = some u) (heo : ∃ u, h'.get? e = some u) : Un fs ex H (upd H x o) h h' := by
  have hx : ∀ b, H b = none → b ≠ x := fun b n z => by subst z; rw [n] at mu; exact mu
  have hb : ∀ b, H b = none → b ≠ e := fun b n z => by
    subst z
    rcases he with r | r
    · exact hx b n r
    · rw [n] at r; cases r
  have hm : ∀ b u, H b = some u → ¬ Mut (some u) → b ≠ x := fun b u q nm z => by subst z; rw [q] at mu; exact nm mu
  refine ⟨fun b u q n _ _ => k b u (hb b n) q, fun b u q n _ _ => ⟨u.slots, k b u (hb b n) q⟩, fun b u q n _ => by rw [upd_ne (hx b n)]; exact n, fun b u q _ => ?_,
    fun b xs q => by rw [upd_ne (hm b _ q fun z => z)]; exact q, fun b u xs q => by rw [upd_ne (hm b _ q fun z => z)]; exact q, fun b ps q => ⟨#[], by rw [upd_ne (hm b _ q fun z => z), q]; simp⟩⟩
  by_cases hbe : b = e
  · subst hbe; exact heo
  · exact ⟨u, k b u hbe q⟩
end
def trk (h : Heap) (H : Hp) : List Addr := (List.range h.objs.size).filter fun a => (H a).isSome
def hidT (h : Heap) (H : Hp) : Heap := PySem.W.hideAll h (trk h H)
theorem hidT_size (h : Heap) (H : Hp) : (hidT h H).objs.size = h.objs.size := PySem.W.hideAll_size _ _
theorem hidT_get {h : Heap} {H : Hp} {b : Addr} {o : Obj} (e : h.get? b = some o) (n : H b = none) : (hidT h H).get? b = some o :=
  PySem.W.hideAll_get _ e fun hm => by
    have q : (H b).isSome = true := (List.mem_filter.mp hm).2
    rw [n] at q; simp at q
theorem of_hidT {h : Heap} {H : Hp} {b : Addr} {o : Obj} (e : (hidT h H).get? b = some o) : h.get? b = some o ∧ H b = none := by
  have e' : h.get? b = some o := PySem.W.of_hideAll (trk h H) e
  refine ⟨e', ?_⟩
  cases q : H b with
  | none => rfl
  | some x =>
    have hm : b ∈ trk h H := List.mem_filter.mpr ⟨List.mem_range.mpr (Heap.lt_size e'), by simp [q]⟩
    have z : (hidT h H).get? b = none := PySem.W.hideAll_none (trk h H) hm
    rw [z] at e; cases e
def allNews (g h : Heap) (L : Addr) : List (Addr × Obj) := (List.range h.objs.size).filterMap fun a => if a = L ∨ (g.get? a).isSome = true then none else (h.get? a).map fun o => (a, o)
def rest (g h : Heap) (L d : Addr) : List (Addr × Obj) := (allNews g h L).filter fun p => decide (p.1 ≠ d)
end L2
namespace L2
open PySem PySem.Spec PyProof.Rows
structure Mod (K : PySem.W.Frag) (mg : Str → Option Value) (base : Heap) : Prop where
  kin : K.In base
  glob : base.Ns mainGlobals mg
  blt : ∃ mb, base.Ns builtinsNs mb ∧ ∀ x : Str, x ≠ "__name__" → mb x = bootBuiltins x
  nolimit : base.NoLimit
structure Cx where
  prog : Program
  w : World
  K : PySem.W.Frag
  mg : Str → Option Value
  base : Heap
  A : Around
  N : List Str
  s_0 : Shared
  H_0 : Hp
  env : Env
  outer : List Env
  stack : List Env
  ex : List Addr
  fn : Str → Bool
  calm : Bool
  pn : List (Addr × Obj)
  xe : Value → Shared → Prop
def frs (l : List Env) : List Addr := l.filterMap (·.frame)
abbrev Cx.fs (X : Cx) : List Addr := frs X.outer
def Vis (sc : Scope) (x : Str) : Prop := sc.names.lookup x = some .local ∨ sc.names.lookup x = some .cell ∨ sc.names.lookup x = some .free
def Loc (sc : Scope) (x : Str) : Prop := sc.names.lookup x = some .local ∨ sc.names.lookup x = some .cell
def Look (env : Env) (h : Heap) (m : Str → Option Value) (x : Str) (u : Value) : Prop :=
  (env.kindOf x = some .local ∧ m x = some u) ∨ ((env.kindOf x = some .cell ∨ env.kindOf x = some .free) ∧ ∃ c, env.cells.lookup x = some c ∧ h.IsCell c (some u))
structure Cx.Ok (X : Cx) : Prop where
  mod : Mod X.K X.mg X.base
  kind : X.env.scope.kind = .function
  glob : X.env.globals = mainGlobals
  blt : X.env.builtins = builtinsNs
  above : X.s_0.heap.objs.size ≤ X.env.locals
  inj : ∀ x y c, X.env.cells.lookup x = some c → X.env.cells.lookup y = some c → x = y
  has : ∀ x, (X.env.kindOf x = some .cell ∨ X.env.kindOf x = some .free) → ∃ c, X.env.cells.lookup x = some c
  cab : ∀ x c, X.fn x = true → X.env.cells.lookup x = some c → X.s_0.heap.objs.size ≤ c
  hd : X.calm = true → X.A.handled = none
  frames : X.A.frames = some X.stack
  stk : X.stack = X.outer ∨ (X.stack = X.env :: X.outer ∧ X.env.frame = some X.env.locals)
  exf : ∀ b ∈ X.ex, b ≠ X.env.locals ∧ ∀ x c, X.env.cells.lookup x = some c → c ≠ b
  bs : ∀ b o, X.base.get? b = some o → X.s_0.heap.get? b = some o ∧ X.H_0 b = none
  bsz : X.base.objs.size ≤ X.s_0.heap.objs.size
  noex : ∀ b o, X.base.get? b = some o → b ∉ X.ex
  exfs : ∀ b ∈ X.ex, b ∉ X.fs
  funs : X.s_0.heap.FunFrames X.base X.outer
  frf : ∀ b ∈ X.fs, X.H_0 b = none
structure Inv (X : Cx) (pins : List (Addr × Obj)) (σ : List (Option V)) (H : Hp) (s : Shared) : Prop where
  ok : X.Ok
  os : s.os = X.s_0.os
  bare : AllBare s.gens
  base : Un X.fs X.ex X.H_0 H X.s_0.heap s.heap
  loc : ∃ m, s.heap.Ns X.env.locals m ∧ ∀ (i : Nat) (x : Str) (v : V), X.N[i]? = some x → σ[i]? = some (some v) → Vis X.env.scope x → ∃ u, RelV v u ∧ Look X.env s.heap m x u
  cell : ∀ x c, X.env.cells.lookup x = some c → ∃ v, s.heap.IsCell c v
  free : H X.env.locals = none
  freeC : ∀ x c, X.env.cells.lookup x = some c → H c = none
  pin : ∀ p ∈ X.pn ++ pins, s.heap.get? p.1 = some p.2 ∧ H p.1 = none ∧ p.1 ≠ X.env.locals ∧ p.1 ∉ X.fs ∧ ∀ v, p.2.data ≠ .cell v
  hok : HOk X.prog X.w H s.heap
  len : σ.length = X.N.length
section
variable {X : Cx} {pins : List (Addr × Obj)} {σ : List (Option V)} {H H' : Hp} {s : Shared} {h' : Heap}
theorem Cx.Ok.nofr (ok : X.Ok) {b : Addr} {o : Obj} (e : X.base.get? b = some o) : b ∉ X.fs := fun hb => by
  have := (ok.funs.mem hb).1
  rw [e] at this; cases this
theorem Inv.bs (I : Inv X pins σ H s) : ∀ b o, X.base.get? b = some o → s.heap.get? b = some o ∧ H b = none := fun b o e =>
  ⟨I.base.keep b o (I.ok.bs b o e).1 (I.ok.bs b o e).2 (I.ok.nofr e) (I.ok.noex b o e), I.base.free b o (I.ok.bs b o e).1 (I.ok.bs b o e).2 (I.ok.noex b o e)⟩
theorem Inv.bk (I : Inv X pins σ H s) : ∀ b o, X.base.get? b = some o → s.heap.get? b = some o := fun b o e => (I.bs b o e).1
theorem Inv.mod (I : Inv X pins σ H s) : Mod X.K X.mg X.base := I.ok.mod
theorem Inv.kIn (I : Inv X pins σ H s) : X.K.In s.heap := I.ok.mod.kin.keeps I.bk
theorem Inv.lt (I : Inv X pins σ H s) : X.env.locals < s.heap.objs.size := let ⟨_, hn, _⟩ := I.loc; hn.lt
theorem Inv.sz (I : Inv X pins σ H s) : X.s_0.heap.objs.size ≤ s.heap.objs.size := Nat.le_trans I.ok.above (Nat.le_of_lt I.lt)
theorem Inv.nofs (I : Inv X pins σ H s) {a : Addr} (h : s.heap.objs.size ≤ a) : a ∉ X.fs := fun hb => by
  obtain ⟨_, o, ho, _⟩ := I.ok.funs.mem hb
  exact absurd (Nat.lt_of_lt_of_le (Heap.lt_size ho) (Nat.le_trans I.sz h)) (Nat.lt_irrefl _)
theorem Inv.cne (I : Inv X pins σ H s) : ∀ x c, X.env.cells.lookup x = some c → c ≠ X.env.locals := fun x c e z => by
  obtain ⟨v, o, ho, hd⟩ := I.cell x c e
  obtain ⟨m, ⟨o', es, ep, ho', hd', _⟩, _⟩ := I.loc
  rw [z, ho'] at ho; cases ho; rw [hd'] at hd; cases hd
theorem Inv.funs (I : Inv X pins σ H s) : s.heap.FunFrames X.base X.outer := by
  have all : ∀ (l : List Env), (∀ b ∈ frs l, b ∈ X.fs) → X.s_0.heap.FunFrames X.base l → s.heap.FunFrames X.base l := by
    intro l
    induction l with
    | nil => intro _ _; trivial
    | cons env r ih =>
      intro hs hl
      obtain ⟨hk, ⟨L, o, hf, hn, ho, hd⟩, hr⟩ := hl
      have hL : L ∈ X.fs := hs L (by unfold frs; rw [List.filterMap_cons, hf]; exact List.mem_cons_self)
      obtain ⟨sl, e⟩ := I.base.slot L o ho (I.ok.frf L hL) hL fun z => I.ok.exfs L z hL
      exact ⟨hk, ⟨L, _, hf, hn, e, hd⟩, ih (fun b hb => hs b (by unfold frs; rw [List.filterMap_cons, hf]; exact List.mem_cons_of_mem _ hb)) hr⟩
  exact all X.outer (fun _ hb => hb) I.ok.funs
theorem Inv.stack (I : Inv X pins σ H s) : s.heap.FunFrames X.base X.stack := by
  rcases I.ok.stk with e | ⟨e, hf⟩
  · rw [e]; exact I.funs
  · rw [e]
    obtain ⟨m, hn, _⟩ := I.loc
    refine .cons (by rw [I.ok.kind]; decide) hf hn ?_ I.funs
    exact Heap.get?_none_of_le (Nat.le_trans I.ok.bsz I.ok.above)
theorem Inv.stkSub (I : Inv X pins σ H s) : ∀ b ∈ frs X.stack, b ∈ X.env.locals :: X.fs := fun b hb => by
  rcases I.ok.stk with e | ⟨e, hf⟩
  · rw [e] at hb; exact List.mem_cons_of_mem _ hb
  · rw [e] at hb
    unfold frs at hb
    rw [List.filterMap_cons, hf] at hb
    exact hb
theorem Inv.stkFree (I : Inv X pins σ H s) : ∀ b ∈ frs X.stack, H b = none := fun b hb => by
  rcases List.mem_cons.mp (I.stkSub b hb) with e | hb
  · rw [e]; exact I.free
  · obtain ⟨_, o, ho, _⟩ := I.ok.funs.mem hb
    exact I.base.free b o ho (I.ok.frf b hb) fun z => I.ok.exfs b z hb
theorem Inv.step {g' : Array GenState} {t' : Nat} {d' : Drawn} {ch : List Addr} (I : Inv X pins σ H s)
    (hch : ∀ b ∈ ch, (b ∈ X.ex ∨ X.s_0.heap.objs.size ≤ b) ∧ b ≠ X.env.locals ∧ (∀ x c, X.env.cells.lookup x = some c → c ≠ b) ∧ ∀ p ∈ X.pn ++ pins, p.1 ≠ b)
    (keep : ∀ b o, b ≠ X.env.locals → b ∉ X.fs → b ∉ ch → s.heap.get? b = some o → H b = none → h'.get? b = some o)
    (slot : ∀ b o, b ≠ X.env.locals → b ∈ X.fs → b ∉ ch → s.heap.get? b = some o → H b = none → ∃ sl, h'.get? b = some { o with slots := sl }) (free : ∀ b o, b ∉ ch → s.heap.get? b = some o → H b = none → H' b = none)
    (there : ∀ b o, b ∉ ch → s.heap.get? b = some o → ∃ o', h'.get? b = some o')
    (tups : ∀ b xs, H b = some (.tup xs) → H' b = some (.tup xs)) (frzs : ∀ b o u, H b = some (.frz o u) → H' b = some (.frz o u)) (tbls : ∀ b ps, H b = some (.tbl ps) → ∃ more, H' b = some (.tbl (ps ++ more)))
    (ns : ∀ m, s.heap.Ns X.env.locals m → h'.Ns X.env.locals m) (hok : HOk X.prog X.w H' h') (hg : AllBare g') :
    Inv X pins σ H' { s with heap := h', gens := g', drawn := d', toks := t' } := by
  have neL : ∀ b o, X.s_0.heap.get? b = some o → b ≠ X.env.locals := fun b o e => Nat.ne_of_lt (Nat.lt_of_lt_of_le (Heap.lt_size e) I.ok.above)
  have neC : ∀ b o, X.s_0.heap.get? b = some o → b ∉ X.ex → b ∉ ch := fun b o e hx hb => by
    rcases (hch b hb).1 with z | z
    · exact hx z
    · exact absurd (Nat.lt_of_lt_of_le (Heap.lt_size e) z) (Nat.lt_irrefl _)
  have cellK : ∀ x c, X.env.cells.lookup x = some c → ∀ v, s.heap.IsCell c v → h'.IsCell c v := fun x c e v ⟨o, ho, hd⟩ => by
    have nch : c ∉ ch := fun z => (hch c z).2.2.1 x c e rfl
    by_cases hc : c ∈ X.fs
    · obtain ⟨sl, q⟩ := slot c o (I.cne x c e) hc nch ho (I.freeC x c e)
      exact ⟨_, q, hd⟩
    · exact ⟨o, keep c o (I.cne x c e) hc nch ho (I.freeC x c e), hd⟩
  refine ⟨I.ok, I.os, hg, ⟨fun b o e n hb hx => ?_, fun b o e n hb hx => ?_, fun b o e n hx => ?_, fun b o e hx => ?_, fun b xs e => tups b xs (I.base.tups b xs e), fun b o xs e => frzs b o xs (I.base.frzs b o xs e), fun b ps e => ?_⟩, ?_, fun x c e => ?_, ?_, fun x c e => ?_, fun p hp => ?_, hok, I.len⟩
  · exact keep b o (neL b o e) hb (neC b o e hx) (I.base.keep b o e n hb hx) (I.base.free b o e n hx)
  · obtain ⟨sl, e1⟩ := I.base.slot b o e n hb hx
    obtain ⟨sl', e2⟩ := slot b _ (neL b o e) hb (neC b o e hx) e1 (I.base.free b o e n hx)
    exact ⟨sl', e2⟩
  · obtain ⟨o', e1⟩ := I.base.there b o e hx
    exact free b o' (neC b o e hx) e1 (I.base.free b o e n hx)
  · obtain ⟨o', e1⟩ := I.base.there b o e hx
    exact there b o' (neC b o e hx) e1
  · obtain ⟨m1, e1⟩ := I.base.tbls b ps e
    obtain ⟨m2, e2⟩ := tbls b _ e1
    exact ⟨m1 ++ m2, by rw [e2, Array.append_assoc]⟩
  · obtain ⟨m, hn, hl⟩ := I.loc
    refine ⟨m, ns m hn, fun i x v e1 e2 e3 => ?_⟩
    obtain ⟨u, r, l⟩ := hl i x v e1 e2 e3
    refine ⟨u, r, ?_⟩
    rcases l with l | ⟨k, c, e, z⟩
    · exact .inl l
    · exact .inr ⟨k, c, e, cellK x c e _ z⟩
  · obtain ⟨v, z⟩ := I.cell x c e
    exact ⟨v, cellK x c e v z⟩
  · obtain ⟨m, ⟨o, _, _, ho, _⟩, _⟩ := I.loc
    exact free _ o (fun z => (hch _ z).2.1 rfl) ho I.free
  · obtain ⟨v, o, ho, hd⟩ := I.cell x c e
    exact free c o (fun z => (hch c z).2.2.1 x c e rfl) ho (I.freeC x c e)
  · obtain ⟨e, n, ne, nf, d⟩ := I.pin p hp
    have nch : p.1 ∉ ch := fun z => (hch p.1 z).2.2.2 p hp rfl
    exact ⟨keep p.1 p.2 ne nf nch e n, free p.1 p.2 nch e n, ne, nf, d⟩
theorem Inv.un {t' : Nat} (I : Inv X pins σ H s) (u : Un X.fs [] H H' s.heap h') (hok : HOk X.prog X.w H' h') : Inv X pins σ H' { s with heap := h', toks := t' } := by
  obtain ⟨m, ⟨o, es, ep, ho, r⟩, _⟩ := id I.loc
  obtain ⟨sl, hL⟩ := u.any ho I.free (by simp)
  exact I.step (g' := s.gens) (d' := s.drawn) (ch := []) (fun _ z => nomatch z) (fun b o _ hb _ e n => u.keep b o e n hb (by simp)) (fun b o _ hb _ e n => u.slot b o e n hb (by simp)) (fun b o _ e n => u.free b o e n (by simp)) (fun b o _ e => u.there b o e (by simp)) u.tups u.frzs u.tbls (fun m' hm => by
    obtain ⟨o', es', ep', ho', r'⟩ := hm
    rw [ho] at ho'; cases ho'
    exact ⟨_, es', ep', hL, r'⟩) hok I.bare
theorem Inv.call {g' : Array GenState} {t' : Nat} {d' : Drawn} {ch : List Addr} (I : Inv X pins σ H s) (u : Un (frs X.stack) ch H H' s.heap h') (hok : HOk X.prog X.w H' h') (hg : AllBare g')
    (hch : ∀ b ∈ ch, (b ∈ X.ex ∨ X.s_0.heap.objs.size ≤ b) ∧ b ≠ X.env.locals ∧ (∀ x c, X.env.cells.lookup x = some c → c ≠ b) ∧ ∀ p ∈ X.pn ++ pins, p.1 ≠ b) :
    Inv X pins σ H' { s with heap := h', gens := g', drawn := d', toks := t' } := by
  obtain ⟨m, ⟨o, es, ep, ho, r⟩, _⟩ := id I.loc
  obtain ⟨sl, hL⟩ := u.any ho I.free fun z => (hch _ z).2.1 rfl
  exact I.step (ch := ch) hch (fun b o hL hb hc e n => u.keep b o e n (fun z => (List.mem_cons.mp (I.stkSub b z)).elim hL hb) hc) (fun b o _ _ hc e n => u.any e n hc) (fun b o hc e n => u.free b o e n hc) (fun b o hc e => u.there b o e hc) u.tups u.frzs u.tbls (fun m' hm => by
    obtain ⟨o', es', ep', ho', r'⟩ := hm
    rw [ho] at ho'; cases ho'
    exact ⟨_, es', ep', hL, r'⟩) hok hg
theorem Inv.turned {t' : Nat} {it : Addr} (I : Inv X pins σ H s) (k : ∀ b o, b ≠ it → s.heap.get? b = some o → h'.get? b = some o) (hn : H it = none) (hL : it ≠ X.env.locals)
    (h1 : it ∈ X.ex ∨ X.s_0.heap.objs.size ≤ it) (h2 : ∀ x c, X.env.cells.lookup x = some c → c ≠ it) (h3 : ∀ p ∈ X.pn ++ pins, p.1 ≠ it) : Inv X pins σ H { s with heap := h', toks := t' } := by
  have nit : ∀ b u, H b = some u → b ≠ it := fun b u e z => by rw [z, hn] at e; cases e
  refine I.step (g' := s.gens) (d' := s.drawn) (ch := [it]) (fun b hb => ?_) (fun b o _ _ hc e _ => k b o (fun z => hc (by simp [z])) e) (fun b o _ _ hc e _ => ⟨o.slots, k b o (fun z => hc (by simp [z])) e⟩) (fun _ _ _ _ n => n)
    (fun b o hc e => ⟨o, k b o (fun z => hc (by simp [z])) e⟩) (fun _ _ e => e) (fun _ _ _ e => e) (fun b ps e => ⟨#[], by rw [e]; simp⟩) (fun m hm => ?_) (fun b u e => ?_) I.bare
  · have e : b = it := by simpa using hb
    subst e
    exact ⟨h1, hL, h2, h3⟩
  · obtain ⟨o, es, ep, ho, r⟩ := hm
    exact ⟨o, es, ep, k _ o (Ne.symm hL) ho, r⟩
  · refine (I.hok b u e).stay (fun c v hc q => k c v ?_ q) (fun _ q => q) fun _ _ q => q
    rcases hc with z | z
    · rw [z]; exact nit b u e
    · exact nit c _ z
theorem Inv.tok (I : Inv X pins σ H s) (t : Nat) : Inv X pins σ H { s with toks := t } := I.un (h' := s.heap) (t' := t) Un.refl I.hok
theorem Inv.kept {t' : Nat} (I : Inv X pins σ H s) (k : ∀ b u, s.heap.get? b = some u → h'.get? b = some u) : Inv X pins σ H { s with heap := h', toks := t' } := I.un (Un.kept k) (I.hok.kept k)
theorem Inv.laid {a : Addr} {o : HO} {t' : Nat} (I : Inv X pins σ H s) (k : ∀ b u, s.heap.get? b = some u → h'.get? b = some u) (hp : s.heap.objs.size ≤ a) (new : ObjOk X.prog X.w (upd H a o) h' a o) :
    Inv X pins σ (upd H a o) { s with heap := h', toks := t' } := I.un (Un.laid k hp (I.hok.fresh hp)) (I.hok.laid k hp new)
theorem Inv.write {x e : Addr} {o : HO} {t' : Nat} (I : Inv X pins σ H s) (mu : Mut (H x)) (he : e = x ∨ H e = some (.own x)) (k : ∀ b u, b ≠ e → s.heap.get? b = some u → h'.get? b = some u) (heo : ∃ u, h'.get? e = some u)
    (new : ObjOk X.prog X.w (upd H x o) h' x o) : Inv X pins σ (upd H x o) { s with heap := h', toks := t' } := I.un (Un.write mu he k heo) (I.hok.write mu he k heo new)
theorem Inv.weak {σ' : List (Option V)} (I : Inv X pins σ H s) (hl : σ'.length = σ.length) (w : ∀ (i : Nat) v, σ'[i]? = some (some v) → σ[i]? = some (some v)) : Inv X pins σ' H s :=
  ⟨I.ok, I.os, I.bare, I.base, let ⟨m, hn, hl'⟩ := I.loc; ⟨m, hn, fun i x v e1 e2 e3 => hl' i x v e1 (w i v e2) e3⟩, I.cell, I.free, I.freeC, I.pin, I.hok, hl.trans I.len⟩
theorem Inv.pins_of {pins' : List (Addr × Obj)} (I : Inv X pins σ H s) (h : ∀ p ∈ pins', s.heap.get? p.1 = some p.2 ∧ H p.1 = none ∧ p.1 ≠ X.env.locals ∧ p.1 ∉ X.fs ∧ ∀ v, p.2.data ≠ .cell v) : Inv X pins' σ H s :=
  ⟨I.ok, I.os, I.bare, I.base, I.loc, I.cell, I.free, I.freeC, fun p hp => (List.mem_append.mp hp).elim (fun z => I.pin p (List.mem_append_left _ z)) (h p), I.hok, I.len⟩
theorem nodup_ix {N : List Str} (hN : N.Nodup) {i j : Nat} {x : Str} (a : N[i]? = some x) (b : N[j]? = some x) : i = j := by
  obtain ⟨h1, e1⟩ := List.getElem?_eq_some_iff.mp a
  obtain ⟨h2, e2⟩ := List.getElem?_eq_some_iff.mp b
  exact (List.getElem_inj hN).mp (e1.trans e2.symm)
theorem store_ok2 {M : Model} {A : Around} {E : Value → Shared → Prop} {i : Nat} {x : Str} {v : V} {u : Value} {Q : Unit → Shared → Prop} (I : Inv X pins σ H s) (hN : X.N.Nodup) (hi : X.N[i]? = some x) (hx : Loc X.env.scope x) (r : RelV v u)
    (h : ∀ s', Inv X pins (σ.set i (some v)) H s' → (∃ a, Heap.SameBut a s.heap s'.heap ∧ (a = X.env.locals ∨ X.env.cells.lookup x = some a)) → Q () s') (hf : X.fn x = true ∨ X.env.scope.names.lookup x = some .local := by first | exact .inl rfl | exact .inr rfl | assumption) : wpAny M A (storeName X.env x u) Q E s := by
  obtain ⟨m, hn, hl⟩ := id I.loc
  have hcls : (X.env.scope.kind == .class || (X.env.scope.kind == .module && X.env.locals != X.env.globals)) = false := by rw [I.ok.kind]; rfl
  have hiσ : i < σ.length := by rw [I.len]; exact (List.getElem?_eq_some_iff.mp hi).1
  have cne := I.cne
  have tracked : ∀ {a : Addr} {h' : Heap}, (∃ o, s.heap.get? a = some o ∧ H a = none) → Heap.SameBut a s.heap h' → HOk X.prog X.w H h' := fun {a h'} ha hs b ob e => by
    obtain ⟨_, _, hfree⟩ := ha
    refine (I.hok b ob e).stay (fun c w' hc q => (hs.2 c ?_).trans q) (fun _ q => q) fun _ _ q => q
    rintro rfl
    rcases hc with rfl | hc
    · rw [hfree] at e; cases e
    · rw [hfree] at hc; cases hc
  rcases hx with hk | hk
  · refine wpAny_storeName_local hk hn (fun h' hn' hs => ?_) hcls
    obtain ⟨oL, _, _, hoL, _⟩ := id hn
    refine h _ ⟨I.ok, I.os, I.bare, ⟨fun b o e n hb hx => ?_, fun b o e n hb hx => ?_, I.base.free, fun b o e hx => ?_, I.base.tups, I.base.frzs, I.base.tbls⟩, ⟨_, hn', fun j y v' e1 e2 e3 => ?_⟩, fun y c e => ?_, I.free, I.freeC, fun p hp => ?_, tracked ⟨oL, hoL, I.free⟩ hs, by simpa using I.len⟩ ⟨_, hs, .inl rfl⟩
    · exact (hs.2 b (Nat.ne_of_lt (Nat.lt_of_lt_of_le (Heap.lt_size e) I.ok.above))).trans (I.base.keep b o e n hb hx)
    · obtain ⟨sl, e1⟩ := I.base.slot b o e n hb hx
      exact ⟨sl, (hs.2 b (Nat.ne_of_lt (Nat.lt_of_lt_of_le (Heap.lt_size e) I.ok.above))).trans e1⟩
    · obtain ⟨o', e1⟩ := I.base.there b o e hx
      exact ⟨o', (hs.2 b (Nat.ne_of_lt (Nat.lt_of_lt_of_le (Heap.lt_size e) I.ok.above))).trans e1⟩
    · by_cases hj : j = i
      · subst hj
        rw [hi] at e1; cases e1
        rw [List.getElem?_set_self hiσ] at e2
        cases e2
        exact ⟨u, r, .inl ⟨hk, by simp⟩⟩
      · rw [List.getElem?_set_ne (Ne.symm hj)] at e2
        obtain ⟨u', r', q⟩ := hl j y v' e1 e2 e3
        refine ⟨u', r', ?_⟩
        rcases q with ⟨k, e⟩ | ⟨k, c, e, z⟩
        · refine .inl ⟨k, ?_⟩
          have : y ≠ x := fun e => hj (nodup_ix hN e1 (e ▸ hi))
          simp [this, e]
        · exact .inr ⟨k, c, e, z.sameBut hs (cne y c e)⟩
    · obtain ⟨w', z⟩ := I.cell y c e
      exact ⟨w', z.sameBut hs (cne y c e)⟩
    · obtain ⟨e, n, ne, nf, d⟩ := I.pin p hp
      exact ⟨(hs.2 p.1 ne).trans e, n, ne, nf, d⟩
  · have hfn : X.fn x = true := by
      rcases hf with z | z
      · exact z
      · rw [z] at hk; cases hk
    obtain ⟨c, hc⟩ := I.ok.has x (.inl hk)
    obtain ⟨w', z⟩ := I.cell x c hc
    refine wpAny_storeName_cell I.ok.kind hk hc z (fun h' hc' hs => ?_)
    obtain ⟨oc, hoc, hocd⟩ := id z
    refine h { s with heap := h' } ⟨I.ok, I.os, I.bare, ⟨fun b o e n hb hx => ?_, fun b o e n hb hx => ?_, I.base.free, fun b o e hx => ?_, I.base.tups, I.base.frzs, I.base.tbls⟩, ⟨m, hn.sameBut hs (Ne.symm (cne x c hc)), fun j y v' e1 e2 e3 => ?_⟩, fun y c' e => ?_, I.free, I.freeC, fun p hp => ?_, tracked ⟨oc, hoc, I.freeC x c hc⟩ hs, by simpa using I.len⟩ ⟨c, hs, .inr hc⟩
    · exact (hs.2 b (Nat.ne_of_lt (Nat.lt_of_lt_of_le (Heap.lt_size e) (I.ok.cab x c hfn hc)))).trans (I.base.keep b o e n hb hx)
    · obtain ⟨sl, e1⟩ := I.base.slot b o e n hb hx
      exact ⟨sl, (hs.2 b (Nat.ne_of_lt (Nat.lt_of_lt_of_le (Heap.lt_size e) (I.ok.cab x c hfn hc)))).trans e1⟩
    · obtain ⟨o', e1⟩ := I.base.there b o e hx
      exact ⟨o', (hs.2 b (Nat.ne_of_lt (Nat.lt_of_lt_of_le (Heap.lt_size e) (I.ok.cab x c hfn hc)))).trans e1⟩
    · by_cases hj : j = i
      · subst hj
        rw [hi] at e1; cases e1
        rw [List.getElem?_set_self hiσ] at e2
        cases e2
        exact ⟨u, r, .inr ⟨.inl hk, c, hc, hc'⟩⟩
      · rw [List.getElem?_set_ne (Ne.symm hj)] at e2
        obtain ⟨u', r', q⟩ := hl j y v' e1 e2 e3
        refine ⟨u', r', ?_⟩
        rcases q with q | ⟨k, c', e, z'⟩
        · exact .inl q
        · refine .inr ⟨k, c', e, z'.sameBut hs ?_⟩
          rintro rfl
          exact hj (nodup_ix hN e1 (I.ok.inj _ _ _ e hc ▸ hi))
    · by_cases hcc : c' = c
      · subst hcc; exact ⟨_, hc'⟩
      · obtain ⟨w2, z2⟩ := I.cell y c' e
        exact ⟨w2, z2.sameBut hs hcc⟩
    · obtain ⟨e, n, ne, nf, d⟩ := I.pin p hp
      refine ⟨(hs.2 p.1 ?_).trans e, n, ne, nf, d⟩
      intro q
      rw [q, hoc] at e
      have q' : oc = p.2 := Option.some.inj e
      exact d w' (by rw [← q']; exact hocd)
theorem store_ok {M : Model} {A : Around} {E : Value → Shared → Prop} {i : Nat} {x : Str} {v : V} {u : Value} {Q : Unit → Shared → Prop} (I : Inv X pins σ H s) (hN : X.N.Nodup) (hi : X.N[i]? = some x) (hx : Loc X.env.scope x) (r : RelV v u)
    (h : ∀ s', Inv X pins (σ.set i (some v)) H s' → Q () s') (hf : X.fn x = true ∨ X.env.scope.names.lookup x = some .local := by first | exact .inl rfl | exact .inr rfl | assumption) : wpAny M A (storeName X.env x u) Q E s :=
  store_ok2 I hN hi hx r (fun s' I' _ => h s' I') hf
theorem Inv.call' {s' : Shared} {ch : List Addr} (I : Inv X pins σ H s) (ho : s'.os = s.os) (u : Un (frs X.stack) ch H H' s.heap s'.heap) (hok : HOk X.prog X.w H' s'.heap) (hg : AllBare s'.gens)
    (hch : ∀ b ∈ ch, (b ∈ X.ex ∨ X.s_0.heap.objs.size ≤ b) ∧ b ≠ X.env.locals ∧ (∀ x c, X.env.cells.lookup x = some c → c ≠ b) ∧ ∀ p ∈ X.pn ++ pins, p.1 ≠ b) : Inv X pins σ H' s' := by
  obtain ⟨h', g', d', t', o'⟩ := s'
  have e : o' = s.os := ho
  subst e
  exact I.call (g' := g') (t' := t') (d' := d') u hok hg hch
end
abbrev XK := Value → Option Addr → Hp → Prop
abbrev St := List (Option V)
abbrev VK := V → Hp → Prop
abbrev TE := St → Hp → VK → Prop
abbrev TT := St → Hp → (Bool → Hp → Prop) → Prop
abbrev TA := St → Hp → (List V → Hp → Prop) → Prop
structure Ends where
  nx : St → Hp → Prop
  rt : VK
  bk : St → Hp → Prop := fun _ _ => False
  ct : St → Hp → Prop := fun _ _ => False
abbrev TS := Ends → St → Hp → Prop
def EP (X : Cx) (pins : List (Addr × Obj)) (σ : St) (Q : VK) (u : Value) (s' : Shared) : Prop := ∃ v H', Inv X pins σ H' s' ∧ RelV v u ∧ Q v H'
def TP (X : Cx) (pins : List (Addr × Obj)) (σ : St) (Q : Bool → Hp → Prop) (b : Bool) (s' : Shared) : Prop := ∃ H', Inv X pins σ H' s' ∧ Q b H'
def AP (X : Cx) (pins : List (Addr × Obj)) (σ : St) (Q : List V → Hp → Prop) (us : List Value) (s' : Shared) : Prop := ∃ vs H', Inv X pins σ H' s' ∧ Vals vs us ∧ Q vs H'
def SP (X : Cx) (pins : List (Addr × Obj)) (D : Ends) (f : Flow) (s' : Shared) : Prop :=
  match f with
  | .next => ∃ σ' H', Inv X pins σ' H' s' ∧ D.nx σ' H'
  | .brk => ∃ σ' H', Inv X pins σ' H' s' ∧ D.bk σ' H'
  | .cont => ∃ σ' H', Inv X pins σ' H' s' ∧ D.ct σ' H'
  | .ret u => ∃ v σ' H', Inv X pins σ' H' s' ∧ RelV v u ∧ D.rt v H'
def PE (X : Cx) (e : Expr) (t : TE) : Prop :=
  ∀ (pins : List (Addr × Obj)) (s : Shared) (σ : St) (H : Hp) (Q : VK), Inv X pins σ H s → t σ H Q → wpAny (model X.prog X.w) X.A (eval e X.env) (EP X pins σ Q) X.xe s
def PT (X : Cx) (e : Expr) (t : TT) : Prop :=
  ∀ (pins : List (Addr × Obj)) (s : Shared) (σ : St) (H : Hp) (Q : Bool → Hp → Prop), Inv X pins σ H s → t σ H Q → wpAny (model X.prog X.w) X.A (isTrue e X.env (eval e X.env)) (TP X pins σ Q) X.xe s
def PW (X : Cx) (e : Expr) (t : TT) : Prop :=
  ∀ (whole : Sem Value) (pins : List (Addr × Obj)) (s : Shared) (σ : St) (H : Hp) (Q : Bool → Hp → Prop), Inv X pins σ H s → t σ H Q → wpAny (model X.prog X.w) X.A (isTrue e X.env whole) (TP X pins σ Q) X.xe s
theorem PW.pt {X : Cx} {e : Expr} {t : TT} (h : PW X e t) : PT X e t := h _
def PA (X : Cx) (es : List Expr) (t : TA) : Prop :=
  ∀ (pos : Pos) (pins : List (Addr × Obj)) (s : Shared) (σ : St) (H : Hp) (Q : List V → Hp → Prop), Inv X pins σ H s → t σ H Q → wpAny (model X.prog X.w) X.A (spliced (backTo pos (starEach es X.env))) (AP X pins σ Q) X.xe s
def PS (X : Cx) (st : Stmt) (t : TS) : Prop :=
  ∀ (pins : List (Addr × Obj)) (s : Shared) (σ : St) (H : Hp) (D : Ends), Inv X pins σ H s → t D σ H → wpAny (model X.prog X.w) X.A (exec st X.env) (SP X pins D) X.xe s
def PSs (X : Cx) (st : List Stmt) (t : TS) : Prop :=
  ∀ (pins : List (Addr × Obj)) (s : Shared) (σ : St) (H : Hp) (D : Ends), Inv X pins σ H s → t D σ H → wpAny (model X.prog X.w) X.A (execs st X.env) (SP X pins D) X.xe s
theorem thn {α : Type} {t : Sem α} {Q Q' : α → Shared → Prop} {M : Model} {A : Around} {E : Value → Shared → Prop} {s : Shared} (h : wpAny M A t Q E s) (hQ : ∀ a s, Q a s → Q' a s) : wpAny M A t Q' E s := wpAny_mono h hQ fun _ _ x => x
end L2
namespace L2
open PySem PySem.Spec PyProof.Rows
section
variable {X : Cx}
def tVar (i : Nat) : TE := fun σ H Q => ∃ v, σ[i]? = some (some v) ∧ Q v H
def tC (v : V) : TE := fun _ H Q => Q v H
theorem pe_var {i : Nat} {x : Str} {pos : Pos} (hN : X.N[i]? = some x) (hv : Vis X.env.scope x) (hd : (x == ("__debug__" : Str)) = false := by decide) (hcd : (x == ("__classdict__" : Str)) = false := by decide) : PE X (.Name x pos) (tVar i) := by
  intro pins s σ H Q I h
  obtain ⟨v, e, h⟩ := h
  obtain ⟨m, hn, hl⟩ := I.loc
  obtain ⟨u, r, l⟩ := hl i x v hN e hv
  have fin : EP X pins σ Q u s := ⟨v, H, I, r, h⟩
  rcases l with ⟨hk, hm⟩ | ⟨hk, c, hc, hcell⟩
  · exact wpAny_Name (wpAny_loadName_local I.ok.kind hk hn hm fin) hd
  · rcases hk with hk | hk
    · exact wpAny_Name (wpAny_loadName_cell I.ok.kind hk hc hcell fin) hd
    · exact wpAny_Name (wpAny_loadName_free I.ok.kind hk hc hcell fin hcd) hd
theorem pe_int {i j pos} : PE X (.Constant (.int i) j pos) (tC (.int i)) := fun _ _ _ H _ I h => wpAny_Constant_int ⟨.int i, H, I.tok _, ⟨_, rfl⟩, h⟩
theorem pe_bl {b j pos} : PE X (.Constant (.bool b) j pos) (tC (.bl b)) := fun _ _ _ H _ I h => Constant_bool ⟨.bl b, H, I, rfl, h⟩
theorem pe_non {j pos} : PE X (.Constant .none j pos) (tC .non) := fun _ _ _ H _ I h => Constant_none ⟨.non, H, I, rfl, h⟩
theorem pe_str {x j pos} : PE X (.Constant (.str x) j pos) (tC (.str x)) := fun _ _ _ H _ I h => Calls.Constant_str ⟨.str x, H, I.tok _, ⟨_, rfl⟩, h⟩
def Gl (X : Cx) (x : Str) : Prop := X.env.kindOf x = some .globalImplicit
theorem ld_glob {E : Value → Shared → Prop} {pins : List (Addr × Obj)} {s : Shared} {σ : St} {H : Hp} {x : Str} {u : Value} {pos : Pos} {Q : Value → Shared → Prop} (I : Inv X pins σ H s) (hg : Gl X x) (hm : X.mg x = some u) (h : Q u s)
    (hd : (x == ("__debug__" : Str)) = false := by decide) : wpAny (model X.prog X.w) X.A (eval (.Name x pos) X.env) Q E s :=
  Calls.Name_function_global I.ok.kind hg (Calls.loadGlobal_global (by rw [I.ok.glob]; exact I.mod.glob.keeps I.bk) hm h) hd
theorem ld_blt {E : Value → Shared → Prop} {pins : List (Addr × Obj)} {s : Shared} {σ : St} {H : Hp} {x : Str} {u : Value} {pos : Pos} {Q : Value → Shared → Prop} (I : Inv X pins σ H s) (hg : Gl X x) (hm : X.mg x = none) (hv : bootBuiltins x = some u) (h : Q u s)
    (hn : x ≠ "__name__" := by decide) (hd : (x == ("__debug__" : Str)) = false := by decide) : wpAny (model X.prog X.w) X.A (eval (.Name x pos) X.env) Q E s := by
  obtain ⟨mb, h1, h2⟩ := I.mod.blt
  exact Calls.Name_function_global I.ok.kind hg (Calls.loadGlobal_builtin (by rw [I.ok.glob]; exact I.mod.glob.keeps I.bk) hm (by rw [I.ok.blt]; exact h1.keeps I.bk) ((h2 x hn).trans hv) h) hd
theorem pe_glob {x : Str} {v : V} {u : Value} {pos : Pos} (hg : Gl X x) (hm : X.mg x = some u) (r : RelV v u) (hd : (x == ("__debug__" : Str)) = false := by decide) : PE X (.Name x pos) (tC v) :=
  fun _ _ _ H _ I h => ld_glob I hg hm ⟨v, H, I, r, h⟩ hd
variable {a b : Expr} {ta tb : TE} {pos : Pos}
def PC (X : Cx) (op : CmpOp) (a b : Expr) (t : TE) : Prop :=
  ∀ (pins : List (Addr × Obj)) (s : Shared) (σ : St) (H : Hp) (Q : VK), Inv X pins σ H s → t σ H Q →
    wpAny (model X.prog X.w) X.A (eval a X.env) (fun v s₁ => wpAny (model X.prog X.w) X.A (eval b X.env) (fun u s₂ => wpAny (model X.prog X.w) X.A (compareOp op v u) (EP X pins σ Q) X.xe s₂) X.xe s₁) X.xe s
theorem nobehind (b : Expr) {op : CmpOp} (h : op ≠ .In) (h2 : op ≠ .NotIn) : behindInMarks op b = false := by
  have e1 : (op == CmpOp.In) = false := by cases op <;> first | rfl | exact absurd rfl h
  have e2 : (op == CmpOp.NotIn) = false := by cases op <;> first | rfl | exact absurd rfl h2
  cases b <;> simp [behindInMarks, e1, e2]
def tIsN (ta : TE) : TE := fun σ H Q => ta σ H fun x H1 => Q (.bl (decide (x = .non))) H1
theorem RelV.none_iff {x : V} {v : Value} (r : RelV x v) : (v == Value.none) = decide (x = .non) := by
  cases x with
  | non => cases r; rfl
  | bl _ => cases r; rfl
  | int _ => obtain ⟨t, rfl⟩ := r; rfl
  | str _ => obtain ⟨t, rfl⟩ := r; rfl
  | byt _ => obtain ⟨t, rfl⟩ := r; rfl
  | flt _ => obtain ⟨t, rfl⟩ := r; rfl
  | ref _ => cases r; rfl
  | ty _ => cases r; rfl
theorem pc_isN {j pos'} (ha : PE X a ta) : PC X .Is a (.Constant .none j pos') (tIsN ta) := by
  intro pins s σ H Q I h
  refine thn (ha pins s σ H _ I h) fun v s1 ⟨x, H1, I1, r1, q1⟩ => ?_
  exact Constant_none (is_none_gen ⟨.bl _, H1, I1, by rw [r1.none_iff]; rfl, q1⟩)
def tB (t : TE) : TT := fun σ H Q => t σ H fun x H1 => ∃ c, x = .bl c ∧ Q c H1
theorem pe_cmp {op : CmpOp} {t : TE} (h : PC X op a b t) (h1 : behindInMarks op b = false := by first | exact nobehind _ (by decide) (by decide) | rfl) : PE X (.Compare a [op] [b] pos) t := fun pins s σ H Q I hw => wpAny_Compare1 (h pins s σ H Q I hw) h1
theorem pt_cmp {op : CmpOp} {t : TE} (h : PC X op a b t) (h1 : behindInMarks op b = false := by first | exact nobehind _ (by decide) (by decide) | rfl) : PT X (.Compare a [op] [b] pos) (tB t) := by
  intro pins s σ H Q I hw
  refine wpAny_isTrue_Compare1 (thn (h pins s σ H _ I hw) fun v s1 h1 => thn h1 fun u s2 h2 => thn h2 fun c s3 ⟨x, H1, I1, r1, q1⟩ => ?_) h1
  obtain ⟨d, rfl, q⟩ := q1
  cases r1
  exact wpAny_truthy_bool ⟨H1, I1, q⟩
theorem pt_val {e : Expr} {t : TE} (h : PE X e t) (he : ∀ whole, isTrue e X.env whole = (do let v ← whole; standAt e.pos; holding [v] (truthy v)) := by intro _; rfl) : PT X e (tB t) := by
  intro pins s σ H Q I hw
  refine isTrue_plain (thn (h pins s σ H _ I hw) fun v s1 ⟨x, H1, I1, r1, q1⟩ => ?_) (he _)
  obtain ⟨d, rfl, q⟩ := q1
  cases r1
  exact wpAny_truthy_bool ⟨H1, I1, q⟩
variable {tA tB' : TT} {rest : List Expr}
def tAnd (t u : TT) : TT := fun σ H Q => t σ H fun c H1 => if c = true then u σ H1 Q else Q false H1
def tOr (t u : TT) : TT := fun σ H Q => t σ H fun c H1 => if c = true then Q true H1 else u σ H1 Q
def tNot (t : TT) : TT := fun σ H Q => t σ H fun c H1 => Q (!c) H1
theorem pw_and1 (ha : PT X a tA) : PW X (.BoolOp .And [a] pos) tA := by
  intro wh pins s σ H Q I h
  refine isTrue_and (thn (ha pins s σ H Q I h) fun c s1 e => ?_)
  cases c with
  | true => exact isTrue_and_nil e
  | false => exact e
theorem pw_or1 (ha : PT X a tA) : PW X (.BoolOp .Or [a] pos) tA := by
  intro wh pins s σ H Q I h
  refine isTrue_or (thn (ha pins s σ H Q I h) fun c s1 e => ?_)
  cases c with
  | false => exact isTrue_or_nil e
  | true => exact e
theorem pw_and (ha : PT X a tA) (hb : PW X (.BoolOp .And (b :: rest) pos) tB') : PW X (.BoolOp .And (a :: b :: rest) pos) (tAnd tA tB') := by
  intro wh pins s σ H Q I h
  refine isTrue_and (thn (ha pins s σ H _ I h) fun c s1 ⟨H1, I1, q1⟩ => ?_)
  cases c with
  | true => exact hb wh pins s1 σ H1 Q I1 q1
  | false => exact ⟨H1, I1, q1⟩
theorem pw_or (ha : PT X a tA) (hb : PW X (.BoolOp .Or (b :: rest) pos) tB') : PW X (.BoolOp .Or (a :: b :: rest) pos) (tOr tA tB') := by
  intro wh pins s σ H Q I h
  refine isTrue_or (thn (ha pins s σ H _ I h) fun c s1 ⟨H1, I1, q1⟩ => ?_)
  cases c with
  | true => exact ⟨H1, I1, q1⟩
  | false => exact hb wh pins s1 σ H1 Q I1 q1
theorem pt_not (ha : PT X a tA) : PT X (.UnaryOp .Not a pos) (tNot tA) := by
  intro pins s σ H Q I h
  exact isTrue_not (ha pins s σ H (fun c H1 => Q (!c) H1) I h)
def tAndV (ta tb : TE) : TE := fun σ H Q => ta σ H fun x H1 => ∃ c, x = .bl c ∧ if c = true then tb σ H1 Q else Q (.bl false) H1
theorem pe_one {op} {t : TE} (h : PE X a t) : PE X (.BoolOp op [a] pos) t := fun pins s σ H Q I hw => BoolOp_one (h pins s σ H Q I hw)
theorem pe_and (ha : PE X a ta) (hb : PE X (.BoolOp .And (b :: rest) pos) tb) : PE X (.BoolOp .And (a :: b :: rest) pos) (tAndV ta tb) := by
  intro pins s σ H Q I h
  refine BoolOp_and (thn (ha pins s σ H _ I h) fun v s1 ⟨x, H1, I1, r1, q1⟩ => ?_)
  obtain ⟨c, rfl, q1⟩ := q1
  cases r1
  refine wpAny_truthy_bool ?_
  cases c with
  | true => exact hb pins s1 σ H1 Q I1 q1
  | false => exact ⟨.bl false, H1, I1, rfl, q1⟩
def tIf (t : TT) (ta tb : TE) : TE := fun σ H Q => t σ H fun c H1 => if c = true then ta σ H1 Q else tb σ H1 Q
theorem pe_ifExp {c : Expr} (hc : PT X c tA) (ha : PE X a ta) (hb : PE X b tb) : PE X (.IfExp c a b pos) (tIf tA ta tb) := by
  intro pins s σ H Q I h
  refine wpAny_IfExp (thn (hc pins s σ H _ I h) fun d s1 ⟨H1, I1, q1⟩ => ?_)
  cases d with
  | true => exact ha pins s1 σ H1 Q I1 q1
  | false => exact hb pins s1 σ H1 Q I1 q1
end
end L2
namespace L2
open PySem PySem.Spec PyProof.Rows
def SqL (K : PySem.W.Frag) (H : Hp) (a : Addr) (xs : List V) : Prop :=
  Rd H a (.lst xs) ∨
    ∃ (o : Obj) (its : Array Value) (n : Nat), K.lookup a = some o ∧ o.cls = .type "list" ∧ o.dict = none ∧ o.data = .seq its n ∧ its.size ≤ sizeLine ∧ Vals xs its.toList
def SqT (K : PySem.W.Frag) (H : Hp) (a : Addr) (xs : List V) : Prop :=
  Rd H a (.tup xs) ∨
    ∃ (o : Obj) (its : Array Value) (n : Nat), K.lookup a = some o ∧ o.cls = .type "tuple" ∧ o.data = .seq its n ∧ its.size ≤ sizeLine ∧ Vals xs its.toList
def absV : Value → Option V
  | .none => some .non
  | .bool b => some (.bl b)
  | .int i _ => some (.int i)
  | .str x _ => some (.str x)
  | .bytes b _ => some (.byt b)
  | .float b _ => some (.flt b)
  | .ref a => some (.ref a)
  | .type n => some (.ty n)
  | _ => none
theorem RelV.abs {x : V} {u : Value} (r : RelV x u) : absV u = some x := by
  cases x with
  | non => cases r; rfl
  | bl _ => cases r; rfl
  | int _ => obtain ⟨t, rfl⟩ := r; rfl
  | str _ => obtain ⟨t, rfl⟩ := r; rfl
  | byt _ => obtain ⟨t, rfl⟩ := r; rfl
  | flt _ => obtain ⟨t, rfl⟩ := r; rfl
  | ref _ => cases r; rfl
  | ty _ => cases r; rfl
theorem RelV.inj {x y : V} {u : Value} (r : RelV x u) (q : RelV y u) : x = y := Option.some.inj (r.abs.symm.trans q.abs)
theorem Vals.inj : ∀ {xs ys : List V} {us : List Value}, Vals xs us → Vals ys us → xs = ys
  | _, _, _, .nil, .nil => rfl
  | _, _, _, .cons r t, .cons r' t' => by rw [r.inj r', Vals.inj t t']
section
variable {X : Cx} {pins : List (Addr × Obj)} {σ : St} {H : Hp} {s : Shared} {a : Addr} {xs ys : List V}
theorem SqL.of {K : PySem.W.Frag} (h : H a = some (.lst xs)) : SqL K H a xs := .inl (.inl h)
theorem SqT.of {K : PySem.W.Frag} (h : H a = some (.tup xs)) : SqT K H a xs := .inl (.inl h)
theorem Inv.list (I : Inv X pins σ H s) (h : SqL X.K H a xs) : ∃ its : List Value, Vals xs its ∧ PlainL s.heap a its.toArray ∧ xs.length ≤ sizeLine := by
  rcases h with h | ⟨o, its, n, hk, hc, hd, hs, hz, r⟩
  · obtain ⟨z, its, n, r, e⟩ := h.ok I.hok
    exact ⟨its, r, ⟨_, n, e, rfl, rfl, rfl⟩, z⟩
  · refine ⟨its.toList, r, ⟨o, n, I.kIn a o hk, hc, hd, by simpa using hs⟩, ?_⟩
    have e := r.length
    simp only [Array.length_toList] at e
    omega
theorem Inv.tuple (I : Inv X pins σ H s) (h : SqT X.K H a xs) : ∃ its : List Value, Vals xs its ∧ IsTup s.heap a its.toArray ∧ xs.length ≤ sizeLine := by
  rcases h with h | ⟨o, its, n, hk, hc, hs, hz, r⟩
  · obtain ⟨z, its, r, p⟩ := h.ok I.hok
    exact ⟨its, r, p, z⟩
  · refine ⟨its.toList, r, ⟨o, I.kIn a o hk, hc, n, by simpa using hs⟩, ?_⟩
    have e := r.length
    simp only [Array.length_toList] at e
    omega
theorem Inv.list_inj (I : Inv X pins σ H s) (h : SqL X.K H a xs) (h' : SqL X.K H a ys) : xs = ys := by
  obtain ⟨its, r, ⟨o, n, e, _, _, d⟩, _⟩ := I.list h
  obtain ⟨its', r', ⟨o', n', e', _, _, d'⟩, _⟩ := I.list h'
  rw [e] at e'; cases e'
  rw [d] at d'
  injection d' with d1 _
  have : its = its' := by simpa using congrArg Array.toList d1
  subst this
  exact r.inj r'
theorem Inv.tuple_inj (I : Inv X pins σ H s) (h : SqT X.K H a xs) (h' : SqT X.K H a ys) : xs = ys := by
  obtain ⟨its, r, ⟨o, e, _, n, d⟩, _⟩ := I.tuple h
  obtain ⟨its', r', ⟨o', e', _, n', d'⟩, _⟩ := I.tuple h'
  rw [e] at e'; cases e'
  rw [d] at d'
  injection d' with d1 _
  have : its = its' := by simpa using congrArg Array.toList d1
  subst this
  exact r.inj r'
end
abbrev Cx.wish (X : Cx) (E : Value → Shared → Prop) : Cx := { X with xe := E }
abbrev Cx.nox (X : Cx) : Cx := X.wish fun _ _ => False
theorem Cx.Ok.wish {X : Cx} (ok : X.Ok) (E : Value → Shared → Prop) : (X.wish E).Ok :=
  ⟨ok.mod, ok.kind, ok.glob, ok.blt, ok.above, ok.inj, ok.has, ok.cab, ok.hd, ok.frames, ok.stk, ok.exf, ok.bs, ok.bsz, ok.noex, ok.exfs, ok.funs, ok.frf⟩
theorem Cx.Ok.unwish {X : Cx} {E : Value → Shared → Prop} (ok : (X.wish E).Ok) : X.Ok :=
  ⟨ok.mod, ok.kind, ok.glob, ok.blt, ok.above, ok.inj, ok.has, ok.cab, ok.hd, ok.frames, ok.stk, ok.exf, ok.bs, ok.bsz, ok.noex, ok.exfs, ok.funs, ok.frf⟩
section
variable {X : Cx} {pins : List (Addr × Obj)} {σ : St} {H : Hp} {s : Shared} {E : Value → Shared → Prop}
theorem Inv.wish (I : Inv X pins σ H s) (E : Value → Shared → Prop) : Inv (X.wish E) pins σ H s := ⟨I.ok.wish E, I.os, I.bare, I.base, I.loc, I.cell, I.free, I.freeC, I.pin, I.hok, I.len⟩
theorem Inv.unwish (I : Inv (X.wish E) pins σ H s) : Inv X pins σ H s := ⟨I.ok.unwish, I.os, I.bare, I.base, I.loc, I.cell, I.free, I.freeC, I.pin, I.hok, I.len⟩
theorem SP.unwish {D : Ends} {f : Flow} {s' : Shared} (h : SP (X.wish E) pins D f s') : SP X pins D f s' := by
  cases f with
  | next => obtain ⟨σ', H', I, q⟩ := h; exact ⟨σ', H', I.unwish, q⟩
  | brk => obtain ⟨σ', H', I, q⟩ := h; exact ⟨σ', H', I.unwish, q⟩
  | cont => obtain ⟨σ', H', I, q⟩ := h; exact ⟨σ', H', I.unwish, q⟩
  | ret u => obtain ⟨v, σ', H', I, r, q⟩ := h; exact ⟨v, σ', H', I.unwish, r, q⟩
theorem PSs.nox {st : List Stmt} {t : TS} (h : PSs X.nox st t) : PSs X st t := fun pins s σ H D I hw =>
  wpAny_mono (h pins s σ H D (I.wish _) hw) (fun _ _ q => q.unwish) fun _ _ z => False.elim z
end
section
variable {X : Cx} {st : Stmt} {rest : List Stmt} {t u : TS} {e : Expr} {te : TE} {pos : Pos}
def tNext : TS := fun D σ H => D.nx σ H
def tSeq (t u : TS) : TS := fun D σ H => t { D with nx := u D } σ H
theorem pss_nil : PSs X [] tNext := fun _ _ σ H _ I h => wpAny_execs_nil ⟨σ, H, I, h⟩
theorem pss_cons (h1 : PS X st t) (h2 : PSs X rest u) : PSs X (st :: rest) (tSeq t u) := by
  intro pins s σ H D I h
  refine wpAny_execs_cons (thn (h1 pins s σ H { D with nx := u D } I h) fun f s1 q => ?_)
  cases f with
  | next =>
    obtain ⟨σ', H', I', q⟩ := q
    exact h2 pins s1 σ' H' D I' q
  | ret v => exact q
  | brk => exact q
  | cont => exact q
theorem pss_one (h1 : PS X st t) : PSs X [st] t := by
  intro pins s σ H D I h
  refine wpAny_execs_cons (thn (h1 pins s σ H D I h) fun f s1 q => ?_)
  cases f with
  | next => exact wpAny_execs_nil q
  | ret v => exact q
  | brk => exact q
  | cont => exact q
theorem Inv.quiet {pins : List (Addr × Obj)} {σ : St} {H : Hp} {s : Shared} (I : Inv X pins σ H s) : interactive X.env = false := by simp [interactive, I.ok.kind]
def tDrop (te : TE) : TS := fun D σ H => te σ H fun _ H1 => D.nx σ H1
theorem ps_expr (he : PE X e te) (hs : swapsWith e none pos.line X.env = pure false := by rfl) : PS X (.Expr e pos) (tDrop te) := by
  intro pins s σ H D I h
  exact wpAny_Expr_any (thn (he pins s σ H _ I h) fun v s1 ⟨x, H1, I1, r1, q1⟩ => ⟨σ, H1, I1, q1⟩) I.quiet hs
def tRet (te : TE) : TS := fun D σ H => te σ H D.rt
theorem ps_ret (he : PE X e te) : PS X (.Return (some e) pos) (tRet te) := by
  intro pins s σ H D I h
  exact wpAny_Return_some (thn (he pins s σ H _ I h) fun v s1 ⟨x, H1, I1, r1, q1⟩ => ⟨x, σ, H1, I1, r1, q1⟩)
def tIfS (c : TT) (t u : TS) : TS := fun D σ H => c σ H fun b H1 => if b = true then t D σ H1 else u D σ H1
theorem ps_if {c : Expr} {a b : List Stmt} {tc : TT} (hc : PT X c tc) (ha : PSs X a t) (hb : PSs X b u) : PS X (.If c a b pos) (tIfS tc t u) := by
  intro pins s σ H D I h
  refine wpAny_If (thn (hc pins s σ H _ I h) fun d s1 ⟨H1, I1, q1⟩ => ?_)
  cases d with
  | true => exact ha pins s1 σ H1 D I1 q1
  | false => exact hb pins s1 σ H1 D I1 q1
end
abbrev TG := V → St → Hp → (St → Hp → Prop) → Prop
abbrev TGs := List V → St → Hp → (St → Hp → Prop) → Prop
def PG (X : Cx) (target : Expr) (t : TG) : Prop :=
  ∀ (pins : List (Addr × Obj)) (s : Shared) (σ : St) (H : Hp) (v : V) (u : Value) (Q : St → Hp → Prop), Inv X pins σ H s → RelV v u → t v σ H Q →
    wpAny (model X.prog X.w) X.A (assign target X.env u) (fun _ s' => ∃ σ' H', Inv X pins σ' H' s' ∧ Q σ' H') X.xe s
def PGs (X : Cx) (ts : List Expr) (t : TGs) : Prop :=
  ∀ (pins : List (Addr × Obj)) (s : Shared) (σ : St) (H : Hp) (vs : List V) (us : List Value) (Q : St → Hp → Prop), Inv X pins σ H s → Vals vs us → t vs σ H Q →
    wpAny (model X.prog X.w) X.A (assignInOrder ((assignEach ts X.env).map (·.2)) us) (fun _ s' => ∃ σ' H', Inv X pins σ' H' s' ∧ Q σ' H') X.xe s
abbrev TSet := V → V → V → Hp → (Hp → Prop) → Prop
def PSet (X : Cx) (t : TSet) : Prop :=
  ∀ (pins : List (Addr × Obj)) (s : Shared) (σ : St) (H : Hp) (o i v : V) (ov iv u : Value) (Q : Hp → Prop), Inv X pins σ H s → RelV o ov → RelV i iv → RelV v u → t o i v H Q →
    wpAny (model X.prog X.w) X.A (setItem ov iv u) (fun _ s' => ∃ H', Inv X pins σ H' s' ∧ Q H') X.xe s
section
variable {X : Cx} {pos : Pos}
def gName (i : Nat) : TG := fun v σ H Q => Q (σ.set i (some v)) H
theorem pg_name {i : Nat} {x : Str} (hN : X.N.Nodup) (hi : X.N[i]? = some x) (hx : Loc X.env.scope x) (hf : X.fn x = true ∨ X.env.scope.names.lookup x = some .local := by first | exact .inl rfl | exact .inr rfl | assumption) : PG X (.Name x pos) (gName i) := by
  intro pins s σ H v u Q I r h
  exact wpAny_assign_Name (store_ok I hN hi hx r (fun s' I' => ⟨_, H, I', h⟩) hf)
def gNil : TGs := fun vs σ H Q => vs = [] ∧ Q σ H
def gCons (t : TG) (u : TGs) : TGs := fun vs σ H Q => ∃ v r, vs = v :: r ∧ t v σ H fun σ' H' => u r σ' H' Q
theorem pgs_nil : PGs X [] gNil := by
  intro pins s σ H vs us Q I r h
  obtain ⟨e, h⟩ := h
  subst e
  cases r
  exact assignInOrder_nil ⟨σ, H, I, h⟩
theorem pgs_cons {e : Expr} {es : List Expr} {t : TG} {u : TGs} (h1 : PG X e t) (h2 : PGs X es u)
    (hs : (assignEach (e :: es) X.env).map (·.2) = assign e X.env :: (assignEach es X.env).map (·.2) := by rfl) : PGs X (e :: es) (gCons t u) := by
  intro pins s σ H vs us Q I r h
  obtain ⟨v, vr, e1, h⟩ := h
  subst e1
  cases r with
  | cons r rr =>
    rw [hs]
    refine assignInOrder_cons (thn (h1 pins s σ H _ _ _ I r h) fun _ s1 ⟨σ1, H1, I1, q1⟩ => ?_)
    exact h2 pins s1 σ1 H1 _ _ Q I1 rr q1
def gTup (K : PySem.W.Frag) (n : Nat) (t : TGs) : TG := fun v σ H Q => ∃ a xs, v = .ref a ∧ SqT K H a xs ∧ xs.length = n ∧ t xs σ H Q
theorem pg_tup {es : List Expr} {k : Nat} {t : TGs} {n : Nat} (hc : X.calm = true) (h : PGs X es t)
    (hn : (assignEach es X.env).length = n := by rfl) (hst : (assignEach es X.env).findIdx? (·.1) = none := by rfl) : PG X (.Tuple es k pos) (gTup X.K n t) := by
  intro pins s σ H v u Q I r hw
  obtain ⟨a, xs, e1, hq, hl, hw⟩ := hw
  subst e1
  cases r
  obtain ⟨its, rv, ht, hz⟩ := I.tuple hq
  refine assign_Tuple_tuple (I.ok.hd hc) ht (by simp [hn, ← hl, rv.length]) hst fun h' hx => ?_
  have I1 : Inv X pins σ H { s with heap := h' } := I.kept (t' := s.toks) fun b o e => hx b o (Nat.ne_of_lt (Heap.lt_size e)) e
  exact h pins _ σ H xs _ Q I1 (by simpa using rv) hw
def gSub (to ti : TE) (t : TSet) : TG := fun v σ H Q => to σ H fun o H1 => ti σ H1 fun i H2 => t o i v H2 fun H3 => Q σ H3
theorem pg_sub {o i : Expr} {to ti : TE} {t : TSet} (ho : PE X o to) (hi : PE X i ti) (hs : PSet X t)
    (ha : ∀ v, assign (.Subscript o i pos) X.env v = (do
      let ov ← holding [v] (eval o X.env)
      let iv ← holding [v, ov] (eval i X.env)
      standAt pos
      holding [v, ov, iv] (setItem ov iv v)
      release [v, ov, iv] []) := by intro _; rfl) : PG X (.Subscript o i pos) (gSub to ti t) := by
  intro pins s σ H v u Q I r h
  rw [ha]
  refine wpAny_bind (wpAny_holding (thn (ho pins s σ H _ I h) fun ov s1 ⟨x, H1, I1, r1, q1⟩ => ?_))
  refine wpAny_bind (wpAny_holding (thn (hi pins s1 σ H1 _ I1 q1) fun iv s2 ⟨y, H2, I2, r2, q2⟩ => ?_))
  refine wpAny_bind (wpAny_standAt (wpAny_bind (wpAny_holding (thn (hs pins s2 σ H2 x y v ov iv u _ I2 r1 r2 r q2) fun _ s3 ⟨H3, I3, q3⟩ => ?_))))
  exact wpAny_release ⟨σ, H3, I3, q3⟩
def tAsg (te : TE) (g : TG) : TS := fun D σ H => te σ H fun x H1 => g x σ H1 D.nx
theorem ps_asg {tg e : Expr} {te : TE} {g : TG} (he : PE X e te) (hg : PG X tg g) (hs : swapsWithSole [tg] e pos.line X.env = pure false := by rfl) (hw : swappedStores [tg] e X.env = pure none := by rfl)
    (h1 : (assignEach [tg] X.env).map (·.2) = [assign tg X.env] := by rfl) : PS X (.Assign [tg] e pos) (tAsg te g) := by
  intro pins s σ H D I h
  refine wpAny_Assign_stores (thn (he pins s σ H _ I h) fun v s1 ⟨x, H1, I1, r1, q1⟩ => ?_) hs hw
  rw [h1]
  exact thn (hg pins s1 σ H1 x v _ I1 r1 q1) fun _ s2 q => q
theorem ps_set {i : Nat} {x : Str} {e : Expr} {te : TE} {pos' : Pos} (hN : X.N.Nodup) (hi : X.N[i]? = some x) (hx : Loc X.env.scope x) (he : PE X e te) (hs : swapsWith e (some (.Name x pos')) pos.line X.env = pure false := by rfl) (hf : X.fn x = true ∨ X.env.scope.names.lookup x = some .local := by first | exact .inl rfl | exact .inr rfl | assumption) :
    PS X (.Assign [.Name x pos'] e pos) (tAsg te (gName i)) := by
  intro pins s σ H D I h
  refine wpAny_Assign_Name (thn (he pins s σ H _ I h) fun v s1 ⟨y, H1, I1, r1, q1⟩ => ?_) hs
  exact store_ok I1 hN hi hx r1 (fun s2 I2 => ⟨_, H1, I2, q1⟩) hf
end
section
variable {X : Cx} {pos : Pos}
def tWhile (c : TT) (tb : TS) : TS := fun D σ H => ∃ W : Nat → St → Hp → Prop, (∃ m, W m σ H) ∧ ∀ m σ H, W m σ H →
  c σ H fun b H1 => if b = true then ∃ N : St → Hp → Prop, (∀ σ' H', N σ' H' → ∃ m', m' < m ∧ W m' σ' H') ∧ tb { D with nx := N, ct := N, bk := D.nx } σ H1 else D.nx σ H1
theorem ps_while {c : Expr} {body : List Stmt} {tc : TT} {tb : TS} (hp : PassesOwn (model X.prog X.w) X.A X.env X.xe) (hc : PT X c tc) (hb : PSs X body tb) : PS X (.While c body [] pos) (tWhile tc tb) := by
  intro pins s σ H D I h
  obtain ⟨W, ⟨m0, w0⟩, turn⟩ := h
  refine wpAny_While (codeAny_whileLoop (fun n s' => ∃ σ' H', Inv X pins σ' H' s' ∧ W n σ' H') ?_ m0 ⟨σ, H, I, w0⟩)
  rintro n s1 ⟨σ1, H1, I1, w1⟩
  refine wpAny_passesOwn hp (thn (hc pins s1 σ1 H1 _ I1 (turn n σ1 H1 w1)) fun b s2 ⟨H2, I2, q2⟩ => ?_)
  cases b with
  | true =>
    obtain ⟨N, hN, q2⟩ := q2
    rw [if_pos rfl]
    refine wpAny_passesOwn hp (thn (hb pins s2 σ1 H2 _ I2 q2) fun f s3 q3 => ?_)
    cases f with
    | next =>
      obtain ⟨σ3, H3, I3, n3⟩ := q3
      obtain ⟨m', hm, w3⟩ := hN σ3 H3 n3
      exact ⟨m', hm, σ3, H3, I3, w3⟩
    | cont =>
      obtain ⟨σ3, H3, I3, n3⟩ := q3
      obtain ⟨m', hm, w3⟩ := hN σ3 H3 n3
      exact ⟨m', hm, σ3, H3, I3, w3⟩
    | brk => exact q3
    | ret v => exact q3
  | false =>
    rw [if_neg Bool.false_ne_true]
    exact wpAny_execs_nil ⟨σ1, H2, I2, q2⟩
end
structure It where
  go : Nat → Hp → Prop
  yld : Nat → Hp → V → Hp → Prop
  stop : Nat → Hp → Prop
def FpOk (X : Cx) (pins : List (Addr × Obj)) (H : Hp) (b : Addr) : Prop :=
  H b = none ∧ b ≠ X.env.locals ∧ b ∉ X.fs ∧ (b ∈ X.ex ∨ X.s_0.heap.objs.size ≤ b) ∧ (∀ x c, X.env.cells.lookup x = some c → c ≠ b) ∧ ∀ p ∈ X.pn ++ pins, p.1 ≠ b
theorem Inv.fpOk {X : Cx} {pins : List (Addr × Obj)} {σ : St} {H H' : Hp} {s : Shared} {b : Addr} (I : Inv X pins σ H s) (hb : s.heap.objs.size ≤ b) (hn : H' b = none) : FpOk X pins H' b := by
  refine ⟨hn, Nat.ne_of_gt (Nat.lt_of_lt_of_le I.lt hb), I.nofs hb, .inr (Nat.le_trans I.sz hb), fun x c e z => ?_, fun p hp z => ?_⟩
  · obtain ⟨v, q⟩ := I.cell x c e
    exact absurd (Nat.lt_of_lt_of_le q.lt (by rw [z]; exact hb)) (Nat.lt_irrefl _)
  · exact absurd (Nat.lt_of_lt_of_le (Heap.lt_size (I.pin p hp).1) (by rw [z]; exact hb)) (Nat.lt_irrefl _)
structure Turn (P : Program) (w : World) (K : PySem.W.Frag) (tg : Expr) (J : It) (fp : List Addr) (it : Addr) (tn : Nat → Heap → Prop) : Prop where
  mem : it ∈ fp
  obj : ∀ i h, tn i h → ∀ b ∈ fp, ∃ o, h.get? b = some o ∧ ∀ v, o.data ≠ .cell v
  keep : ∀ i h h', tn i h → (∀ b ∈ fp, ∀ o, h.get? b = some o → h'.get? b = some o) → tn i h'
  item : ∀ (X : Cx), X.prog = P → X.w = w → X.K = K → X.calm = true → ∀ (i : Nat) (pins : List (Addr × Obj)) (s : Shared) (σ : St) (H : Hp) (E : Value → Shared → Prop), Inv X pins σ H s → (∀ b ∈ fp, FpOk X pins H b) → tn i s.heap → J.go i H →
    wpAny (model P w) X.A (pyNext (.ref it)) (fun r s1 => ∃ u, r = some u ∧
      wpAny (model P w) X.A (letOwnedTupleGo tg (.ref it) u) (fun _ s2 => ∃ x H', Inv X pins σ H' s2 ∧ RelV x u ∧ J.yld i H x H' ∧ tn (i + 1) s2.heap ∧ ∀ b ∈ fp, H' b = none) E s1) E s
  done : ∀ (X : Cx), X.prog = P → X.w = w → X.K = K → X.calm = true → ∀ (i : Nat) (pins : List (Addr × Obj)) (s : Shared) (σ : St) (H : Hp) (E : Value → Shared → Prop), Inv X pins σ H s → (∀ b ∈ fp, FpOk X pins H b) → tn i s.heap → J.stop i H →
    wpAny (model P w) X.A (pyNext (.ref it)) (fun r s1 => r = none ∧ Inv X pins σ H s1) E s
  self : ∀ (A : Around) (i : Nat) (s : Shared) (Q : Value → Shared → Prop) (E : Value → Shared → Prop), tn i s.heap → Q (.ref it) s → wpAny (model P w) A (pyIter (.ref it)) Q E s
abbrev TI := St → Hp → (It → Hp → Prop) → Prop
def PIE (X : Cx) (pins : List (Addr × Obj)) (σ : St) (tg : Expr) (R : It → Hp → Prop) (itv : Value) (s2 : Shared) : Prop :=
  ∃ (it : Addr) (fp : List Addr) (tn : Nat → Heap → Prop) (J : It) (H' : Hp), itv = .ref it ∧ Inv X pins σ H' s2 ∧ Turn X.prog X.w X.K tg J fp it tn ∧ tn 0 s2.heap ∧ (∀ b ∈ fp, FpOk X pins H' b) ∧ R J H'
def PI (X : Cx) (tg iter : Expr) (wi : TI) : Prop :=
  ∀ (pins : List (Addr × Obj)) (s : Shared) (σ : St) (H : Hp) (R : It → Hp → Prop), Inv X pins σ H s → wi σ H R →
    wpAny (model X.prog X.w) X.A (eval iter X.env) (fun v s1 => wpAny (model X.prog X.w) X.A (pyIter v) (PIE X pins σ tg R) X.xe s1) X.xe s
theorem go_of {M : Model} {A : Around} {E : Value → Shared → Prop} {s : Shared} {tg : Expr} {it : Addr} {u : Value} {o : Obj} {n : String} {vs : Array Value} {Q : Unit → Shared → Prop} (ho : s.heap.get? it = some o) (hc : o.cls = .type n) (hd : o.data = .fields vs)
    (hn : ["enumerate", "zip", "dict_itemiterator", "dict_reverseitemiterator", "odict_iterator", "itertools.zip_longest", "itertools.pairwise"].contains n = false) (hQ : Q () s) : wpAny M A (letOwnedTupleGo tg (.ref it) u) Q E s := by
  unfold letOwnedTupleGo
  cases tg <;> first
    | exact wpAny_pure hQ
    | (cases u <;> first
        | exact wpAny_pure hQ
        | (refine wpAny_bind (wpAny_load ho ?_)
           rw [hc, hd]
           show wpAny M A (if (["enumerate", "zip", "dict_itemiterator", "dict_reverseitemiterator", "odict_iterator", "itertools.zip_longest", "itertools.pairwise"].contains n && vs[0]? == some (rawInt _)) = true then _ else _) Q E s
           rw [if_neg (by intro h; rw [hn, Bool.false_and] at h; cases h)]
           exact wpAny_pure hQ))
def Itl (K : PySem.W.Frag) (a : Addr) : It :=
  ⟨fun i H => ∃ xs x, SqL K H a xs ∧ xs[i]? = some x, fun i H x H' => H' = H ∧ ∀ xs, SqL K H a xs → xs[i]? = some x, fun i H => ∃ xs, SqL K H a xs ∧ xs.length ≤ i⟩
def Itt (K : PySem.W.Frag) (a : Addr) : It :=
  ⟨fun i H => ∃ xs x, SqT K H a xs ∧ xs[i]? = some x, fun i H x H' => H' = H ∧ ∀ xs, SqT K H a xs → xs[i]? = some x, fun i H => ∃ xs, SqT K H a xs ∧ xs.length ≤ i⟩
def Itr (lo : Int) (n : Nat) : It := ⟨fun i _ => i < n, fun i H x H' => H' = H ∧ x = .int (lo + i), fun i _ => n ≤ i⟩
theorem turn_list {P : Program} {w : World} {K : PySem.W.Frag} {tg : Expr} (a it : Addr) : Turn P w K tg (Itl K a) [it] it (fun i h => h.IsListIter it a i) where
  mem := by simp
  obj := fun i h st b hb => by
    have e : b = it := by simpa using hb
    subst e
    obtain ⟨o, e, c, d⟩ := st
    exact ⟨o, e, fun v z => by rw [d] at z; cases z⟩
  keep := fun i h h' st k => st.at fun o e => k it (by simp) o e
  item := by
    intro X hP hw hK hc i pins s σ H E I hf st hg
    subst hP hw hK
    obtain ⟨xs, x, hq, hx⟩ := hg
    obtain ⟨its, rv, p, hz⟩ := I.list hq
    obtain ⟨u, hu, ru⟩ := rv.get hx
    obtain ⟨f0, f1, f2, f3, f4, f5⟩ := hf it (by simp)
    refine wpAny_pyNext_list_item st p.isList (x := u) (by simpa using hu) fun h' st' sb => ?_
    have I1 : Inv X pins σ H { s with heap := h' } := I.turned (t' := s.toks) (fun b o hb e => (sb.2 b hb).trans e) f0 f1 f3 f4 f5
    obtain ⟨o, e, c, d⟩ := id st'
    exact ⟨u, rfl, go_of (s := { s with heap := h' }) e c d (by decide) ⟨x, H, I1, ru, ⟨rfl, fun ys hy => by rw [I.list_inj hy hq]; exact hx⟩, st', fun b hb => (hf b hb).1⟩⟩
  done := by
    intro X hP hw hK hc i pins s σ H E I hf st hg
    subst hP hw hK
    obtain ⟨xs, hq, hx⟩ := hg
    obtain ⟨its, rv, p, hz⟩ := I.list hq
    obtain ⟨f0, f1, f2, f3, f4, f5⟩ := hf it (by simp)
    have hl := rv.length
    exact wpAny_pyNext_list_end (I.ok.hd hc) st p.isList (by simp; omega) fun h' eb => ⟨rfl, I.turned (t' := s.toks) (fun b o hb e => eb b o hb e) f0 f1 f3 f4 f5⟩
  self := fun _ _ _ _ _ st h => wpAny_pyIter_listiter st h
theorem turn_tuple {P : Program} {w : World} {K : PySem.W.Frag} {tg : Expr} (a it : Addr) : Turn P w K tg (Itt K a) [it] it (fun i h => h.IsTupleIter it a i) where
  mem := by simp
  obj := fun i h st b hb => by
    have e : b = it := by simpa using hb
    subst e
    obtain ⟨o, e, c, d⟩ := st
    exact ⟨o, e, fun v z => by rw [d] at z; cases z⟩
  keep := fun i h h' st k => st.at fun o e => k it (by simp) o e
  item := by
    intro X hP hw hK hc i pins s σ H E I hf st hg
    subst hP hw hK
    obtain ⟨xs, x, hq, hx⟩ := hg
    obtain ⟨its, rv, p, hz⟩ := I.tuple hq
    obtain ⟨u, hu, ru⟩ := rv.get hx
    obtain ⟨f0, f1, f2, f3, f4, f5⟩ := hf it (by simp)
    refine wpAny_pyNext_tuple_item st (show s.heap.IsTuple a its.toArray from p) (x := u) (by simpa using hu) fun h' st' sb => ?_
    have I1 : Inv X pins σ H { s with heap := h' } := I.turned (t' := s.toks) (fun b o hb e => (sb.2 b hb).trans e) f0 f1 f3 f4 f5
    obtain ⟨o, e, c, d⟩ := id st'
    exact ⟨u, rfl, go_of (s := { s with heap := h' }) e c d (by decide) ⟨x, H, I1, ru, ⟨rfl, fun ys hy => by rw [I.tuple_inj hy hq]; exact hx⟩, st', fun b hb => (hf b hb).1⟩⟩
  done := by
    intro X hP hw hK hc i pins s σ H E I hf st hg
    subst hP hw hK
    obtain ⟨xs, hq, hx⟩ := hg
    obtain ⟨its, rv, p, hz⟩ := I.tuple hq
    obtain ⟨f0, f1, f2, f3, f4, f5⟩ := hf it (by simp)
    have hl := rv.length
    exact wpAny_pyNext_tuple_end (I.ok.hd hc) st (show s.heap.IsTuple a its.toArray from p) (by simp; omega) fun h' eb => ⟨rfl, I.turned (t' := s.toks) (fun b o hb e => eb b o hb e) f0 f1 f3 f4 f5⟩
  self := fun _ _ _ _ _ st h => wpAny_pyIter_tupleiter st h
theorem turn_range {P : Program} {w : World} {K : PySem.W.Frag} {tg : Expr} (it : Addr) (lo : Int) (n : Nat) : Turn P w K tg (Itr lo n) [it] it (fun i h => IsRangeIter h it (lo + (i : Nat) * 1) ((n : Int) - (i : Nat)) 1) where
  mem := by simp
  obj := fun i h st b hb => by
    have e : b = it := by simpa using hb
    subst e
    exact ⟨_, st, fun v z => by
      have z' : Data.fields _ = Data.cell v := z
      cases z'⟩
  keep := fun i h h' st k => k it (by simp) _ st
  item := by
    intro X hP hw hK hc i pins s σ H E I hf st hg
    subst hP hw hK
    obtain ⟨f0, f1, f2, f3, f4, f5⟩ := hf it (by simp)
    have W := Walks.range (prog := X.prog) (w := X.w) (I.ok.hd hc) it lo 1 n
    refine W.item i s _ _ hg st fun v h' tk hv st' kk => ?_
    obtain ⟨t, rfl⟩ := hv
    have I1 : Inv X pins σ H { s with heap := h', toks := tk } := I.turned (fun b o hb e => kk b o (by simpa using hb) e) f0 f1 f3 f4 f5
    refine ⟨_, rfl, go_of (s := { s with heap := h', toks := tk }) (n := "range_iterator") st' rfl rfl (by decide) ⟨.int (lo + i), H, I1, ⟨t, ?_⟩, ⟨rfl, rfl⟩, st', fun b hb => (hf b hb).1⟩⟩
    rw [Int.mul_one]
  done := by
    intro X hP hw hK hc i pins s σ H E I hf st hg
    subst hP hw hK
    obtain ⟨f0, f1, f2, f3, f4, f5⟩ := hf it (by simp)
    exact wpAny_pyNext_range_end (I.ok.hd hc) st (by have : n ≤ i := hg; omega) fun h' eb => ⟨rfl, I.turned (t' := s.toks) (fun b o hb e => eb b o hb e) f0 f1 f3 f4 f5⟩
  self := fun _ _ _ _ _ st h => wpAny_pyIter_rangeiter st h
end L2
namespace L2
open PySem PySem.Spec PyProof.Rows
section
variable {X : Cx} {tg : Expr}
def iList (K : PySem.W.Frag) (tl : TE) : TI := fun σ H R => tl σ H fun x H1 => ∃ a, x = .ref a ∧ (∃ xs, SqL K H1 a xs) ∧ R (Itl K a) H1
def iTup (K : PySem.W.Frag) (tl : TE) : TI := fun σ H R => tl σ H fun x H1 => ∃ a, x = .ref a ∧ (∃ xs, SqT K H1 a xs) ∧ R (Itt K a) H1
theorem pi_list {l : Expr} {tl : TE} (hl : PE X l tl) : PI X tg l (iList X.K tl) := by
  intro pins s σ H R I h
  refine thn (hl pins s σ H _ I h) fun v s1 ⟨x, H1, I1, r1, q1⟩ => ?_
  obtain ⟨a, e, ⟨xs, hq⟩, q⟩ := q1
  subst e
  cases r1
  obtain ⟨its, rv, p, hz⟩ := I1.list hq
  refine wpAny_pyIter_list p.isList ?_
  refine ⟨s1.heap.objs.size, [s1.heap.objs.size], _, _, H1, rfl, I1.kept (t' := s1.toks) fun b o e => Heap.get?_push_of_some _ e, turn_list a _, ⟨_, Heap.get?_push_size _ rfl, rfl, rfl⟩, fun b hb => ?_, q⟩
  have e : b = s1.heap.objs.size := by simpa using hb
  subst e
  exact I1.fpOk (Nat.le_refl _) (I1.hok.fresh (Nat.le_refl _))
theorem pi_tup {l : Expr} {tl : TE} (hl : PE X l tl) : PI X tg l (iTup X.K tl) := by
  intro pins s σ H R I h
  refine thn (hl pins s σ H _ I h) fun v s1 ⟨x, H1, I1, r1, q1⟩ => ?_
  obtain ⟨a, e, ⟨xs, hq⟩, q⟩ := q1
  subst e
  cases r1
  obtain ⟨its, rv, p, hz⟩ := I1.tuple hq
  refine wpAny_pyIter_tuple (show s1.heap.IsTuple a its.toArray from p) ?_
  refine ⟨s1.heap.objs.size, [s1.heap.objs.size], _, _, H1, rfl, I1.kept (t' := s1.toks) fun b o e => Heap.get?_push_of_some _ e, turn_tuple a _, ⟨_, Heap.get?_push_size _ rfl, rfl, rfl⟩, fun b hb => ?_, q⟩
  have e : b = s1.heap.objs.size := by simpa using hb
  subst e
  exact I1.fpOk (Nat.le_refl _) (I1.hok.fresh (Nat.le_refl _))
theorem range_it {pins : List (Addr × Obj)} {σ : St} {H : Hp} {s : Shared} {R : It → Hp → Prop} {E : Value → Shared → Prop} {lo hi : Int} {t u v : Tok} {tk : Nat} (I : Inv X pins σ H s) (h1 : -(2 ^ 62) ≤ lo) (h2 : lo < 2 ^ 62) (h3 : -(2 ^ 62) ≤ hi) (h4 : hi < 2 ^ 62)
    (q : R (Itr lo (hi - lo).toNat) H) : wpAny (model X.prog X.w) X.A (pyIter (.ref s.heap.objs.size)) (PIE X pins σ tg R) E { s with heap := s.heap.push { cls := .type "range", data := .fields #[.int lo t, .int hi u, .int 1 v] }, toks := tk } := by
  refine wpAny_pyIter_range (IsRange.new ..) (small_one h1 h2 h3 h4) ?_
  have I1 : Inv X pins σ H { s with heap := s.heap.push { cls := .type "range", data := .fields #[.int lo t, .int hi u, .int 1 v] }, toks := tk } := I.kept fun b o e => Heap.get?_push_of_some _ e
  refine ⟨(s.heap.push { cls := .type "range", data := .fields #[.int lo t, .int hi u, .int 1 v] }).objs.size, [(s.heap.push { cls := .type "range", data := .fields #[.int lo t, .int hi u, .int 1 v] }).objs.size], _, _, H, rfl,
    I1.kept (t' := tk) fun b o e => Heap.get?_push_of_some _ e, turn_range _ lo (hi - lo).toNat, ?_, fun b hb => ?_, q⟩
  · have e1 : lo + ((0 : Nat) : Int) * 1 = lo := by simp
    have e2 : (((hi - lo).toNat : Nat) : Int) - ((0 : Nat) : Int) = Builtin.Range.rangeSize lo hi 1 := by rw [rangeSize_one]; split <;> omega
    show IsRangeIter _ _ (lo + ((0 : Nat) : Int) * 1) ((((hi - lo).toNat : Nat) : Int) - ((0 : Nat) : Int)) 1
    rw [e1, e2]
    exact Heap.get?_push_size _ rfl
  · have e : b = (s.heap.push { cls := .type "range", data := .fields #[.int lo t, .int hi u, .int 1 v] }).objs.size := by simpa using hb
    subst e
    exact I1.fpOk (Nat.le_refl _) (I1.hok.fresh (Nat.le_refl _))
def iRng1 (ta : TA) : TI := fun σ H R => ta σ H fun vs H1 => ∃ j : Int, vs = [.int j] ∧ -(2 ^ 62) ≤ j ∧ j < 2 ^ 62 ∧ R (Itr 0 j.toNat) H1
theorem pi_range1 {a : Expr} {ta : TA} {p pos : Pos} (hg : Gl X "range") (hm : X.mg "range" = none) (ha : PA X [a] ta) (hs : starEach [a] X.env = [(false, eval a X.env)] := by rfl) : PI X tg (.Call (.Name "range" p) [a] [] pos) (iRng1 ta) := by
  intro pins s σ H R I h
  refine Call_ (ld_blt I hg hm boot_range (PyProof.Rows.callWith_type1 (thn (ha pos pins s σ H _ I h) fun us s1 ⟨vs, H1, I1, r1, q1⟩ => ?_) hs rfl))
  obtain ⟨j, e, q1, q2, q⟩ := q1
  subst e
  cases r1 with
  | cons r rr =>
    cases rr
    obtain ⟨t, rfl⟩ := r
    exact call_range_1 (range_it I1 (by omega) (by omega) q1 q2 (by simpa using q))
def tFor (wi : TI) (g : TG) (tb : TS) : TS := fun D σ H => wi σ H fun J H1 => ∃ W : Nat → Nat → St → Hp → Prop, (∃ m, W 0 m σ H1) ∧ ∀ i m σ H, W i m σ H →
  (J.stop i H ∧ D.nx σ H) ∨ (J.go i H ∧ ∃ N : St → Hp → Prop, (∀ σ' H', N σ' H' → ∃ m', m' < m ∧ W (i + 1) m' σ' H') ∧ ∀ x H', J.yld i H x H' → g x σ H' fun σ2 H2 => tb { D with nx := N, ct := N, bk := D.nx } σ2 H2)
def pinsAt (fp : List Addr) (h : Heap) : List (Addr × Obj) := fp.filterMap fun b => (h.get? b).map fun o => (b, o)
theorem mem_pinsAt {fp : List Addr} {h : Heap} {b : Addr} {o : Obj} (hb : b ∈ fp) (e : h.get? b = some o) : (b, o) ∈ pinsAt fp h := List.mem_filterMap.mpr ⟨b, hb, by rw [e]; rfl⟩
theorem of_pinsAt {fp : List Addr} {h : Heap} {p : Addr × Obj} (hp : p ∈ pinsAt fp h) : p.1 ∈ fp ∧ h.get? p.1 = some p.2 := by
  obtain ⟨b, hb, e⟩ := List.mem_filterMap.mp hp
  cases q : h.get? b with
  | none => rw [q] at e; cases e
  | some o =>
    rw [q] at e
    have e' : (b, o) = p := Option.some.inj e
    subst e'
    exact ⟨hb, q⟩
theorem Inv.pinned {pins : List (Addr × Obj)} {σ : St} {H : Hp} {s : Shared} {fp : List Addr} (I : Inv X pins σ H s) (hf : ∀ b ∈ fp, FpOk X pins H b) (ho : ∀ b ∈ fp, ∃ o, s.heap.get? b = some o ∧ ∀ v, o.data ≠ .cell v) : Inv X (pins ++ pinsAt fp s.heap) σ H s :=
  I.pins_of fun p hp => (List.mem_append.mp hp).elim (fun z => I.pin p (List.mem_append_right _ z)) fun z => by
    obtain ⟨hb, e⟩ := of_pinsAt z
    obtain ⟨f0, f1, f2, _⟩ := hf p.1 hb
    obtain ⟨o, e', d⟩ := ho p.1 hb
    rw [e] at e'; cases e'
    exact ⟨e, f0, f1, f2, d⟩
theorem Inv.unpinned {pins pl : List (Addr × Obj)} {σ : St} {H : Hp} {s : Shared} (I : Inv X (pins ++ pl) σ H s) : Inv X pins σ H s := I.pins_of fun p hp => I.pin p (List.mem_append_right _ (List.mem_append_left _ hp))
theorem ps_for {iter : Expr} {body : List Stmt} {wi : TI} {g : TG} {tb : TS} {pos : Pos} (hp : PassesOwn (model X.prog X.w) X.A X.env X.xe) (hc : X.calm = true) (hi : PI X tg iter wi) (hg : PG X tg g) (hb : PSs X body tb)
    (hs : ∀ x, foldedSetIterable iter X.env x = pure x := by intro _; rfl) : PS X (.For tg iter body [] pos) (tFor wi g tb) := by
  intro pins s σ H D I h
  refine wpAny_For (thn (hi pins s σ H _ I h) fun v s1 h1 => thn h1 fun itv s2 h2 => ?_) hs
  obtain ⟨it, fp, tn, J, H2, e, I2, T, st2, f2, W, ⟨m0, w0⟩, turn⟩ := h2
  subst e
  have stat : ∀ {H' : Hp}, (∀ b ∈ fp, H' b = none) → ∀ b ∈ fp, FpOk X pins H' b := fun hn b hb => ⟨hn b hb, (f2 b hb).2⟩
  refine codeAny_forLoop_any (fun n s' => ∃ i σ' H', Inv X pins σ' H' s' ∧ tn i s'.heap ∧ (∀ b ∈ fp, H' b = none) ∧ W i n σ' H') ?_ m0 ⟨0, σ, H2, I2, st2, fun b hb => (f2 b hb).1, w0⟩
  rintro n s3 ⟨i, σ3, H3, I3, st3, fr3, w3⟩
  rcases turn i n σ3 H3 w3 with ⟨stop, qn⟩ | ⟨go, N, hN, step⟩
  · refine wpAny_passesOwn hp (thn (T.done X rfl rfl rfl hc i pins s3 σ3 H3 X.xe I3 (stat fr3) st3 stop) fun r s4 ⟨hr, I4⟩ => ?_)
    subst hr
    exact wpAny_execs_nil ⟨σ3, H3, I4, qn⟩
  · refine wpAny_passesOwn hp (thn (T.item X rfl rfl rfl hc i pins s3 σ3 H3 X.xe I3 (stat fr3) st3 go) fun r s4 ⟨u, hr, h4⟩ => ?_)
    subst hr
    refine wpAny_passesOwn hp (thn h4 fun _ s5 ⟨x, H5, I5, r5, y5, st5, fr5⟩ => ?_)
    have I5' := I5.pinned (stat fr5) (T.obj _ _ st5)
    refine wpAny_passesOwn hp (thn (hg _ s5 σ3 H5 x u _ I5' r5 (step x H5 y5)) fun _ s6 ⟨σ6, H6, I6, q6⟩ => ?_)
    refine wpAny_passesOwn hp (thn (hb _ s6 σ6 H6 _ I6 q6) fun f s7 q7 => ?_)
    have again : ∀ {σ7 : St} {H7 : Hp}, Inv X (pins ++ pinsAt fp s5.heap) σ7 H7 s7 → N σ7 H7 → ∃ m, m < n ∧ ∃ i σ' H', Inv X pins σ' H' s7 ∧ tn i s7.heap ∧ (∀ b ∈ fp, H' b = none) ∧ W i m σ' H' := fun {σ7 H7} I7 n7 => by
      obtain ⟨m', hm, w7⟩ := hN σ7 H7 n7
      refine ⟨m', hm, i + 1, σ7, H7, I7.unpinned, T.keep _ _ _ st5 fun b hb o e => (I7.pin (b, o) (List.mem_append_right _ (List.mem_append_right _ (mem_pinsAt hb e)))).1, fun b hb => ?_, w7⟩
      obtain ⟨o, e, d⟩ := T.obj _ _ st5 b hb
      exact (I7.pin (b, o) (List.mem_append_right _ (List.mem_append_right _ (mem_pinsAt hb e)))).2.1
    cases f with
    | next => obtain ⟨σ7, H7, I7, n7⟩ := q7; exact again I7 n7
    | cont => obtain ⟨σ7, H7, I7, n7⟩ := q7; exact again I7 n7
    | brk => obtain ⟨σ7, H7, I7, q7⟩ := q7; exact ⟨σ7, H7, I7.unpinned, q7⟩
    | ret v => obtain ⟨x7, σ7, H7, I7, r7, q7⟩ := q7; exact ⟨x7, σ7, H7, I7.unpinned, r7, q7⟩
end
theorem for_list {K : PySem.W.Frag} {a : Addr} {xs : List V} {g : TG} {tb : TS} {D : Ends} {σ : St} {H : Hp} (Pv : Nat → St → Hp → Prop) (h0 : Pv 0 σ H) (hl : ∀ i σ H, i ≤ xs.length → Pv i σ H → SqL K H a xs)
    (hs : ∀ i x σ H, xs[i]? = some x → Pv i σ H → g x σ H fun σ2 H2 => tb { D with nx := Pv (i + 1), ct := Pv (i + 1), bk := D.nx } σ2 H2) (hd : ∀ σ H, Pv xs.length σ H → D.nx σ H) :
    ∃ W : Nat → Nat → St → Hp → Prop, (∃ m, W 0 m σ H) ∧ ∀ i m σ H, W i m σ H →
      ((Itl K a).stop i H ∧ D.nx σ H) ∨ ((Itl K a).go i H ∧ ∃ N : St → Hp → Prop, (∀ σ' H', N σ' H' → ∃ m', m' < m ∧ W (i + 1) m' σ' H') ∧ ∀ x H', (Itl K a).yld i H x H' → g x σ H' fun σ2 H2 => tb { D with nx := N, ct := N, bk := D.nx } σ2 H2) := by
  refine ⟨fun i m σ H => m = xs.length - i ∧ i ≤ xs.length ∧ Pv i σ H, ⟨xs.length, by simp, Nat.zero_le _, h0⟩, ?_⟩
  rintro i m σ H ⟨rfl, hi, p⟩
  have q := hl i σ H hi p
  by_cases hlt : i < xs.length
  · refine .inr ⟨⟨xs, xs[i], q, by simp [hlt]⟩, Pv (i + 1), fun σ' H' p' => ⟨xs.length - (i + 1), by omega, rfl, hlt, p'⟩, fun x H' y => ?_⟩
    obtain ⟨e, y⟩ := y
    subst e
    exact hs i x σ _ (y xs q) p
  · have e : i = xs.length := by omega
    subst e
    exact .inl ⟨⟨xs, q, Nat.le_refl _⟩, hd σ H p⟩
theorem for_tup {K : PySem.W.Frag} {a : Addr} {xs : List V} {g : TG} {tb : TS} {D : Ends} {σ : St} {H : Hp} (Pv : Nat → St → Hp → Prop) (h0 : Pv 0 σ H) (hl : ∀ i σ H, i ≤ xs.length → Pv i σ H → SqT K H a xs)
    (hs : ∀ i x σ H, xs[i]? = some x → Pv i σ H → g x σ H fun σ2 H2 => tb { D with nx := Pv (i + 1), ct := Pv (i + 1), bk := D.nx } σ2 H2) (hd : ∀ σ H, Pv xs.length σ H → D.nx σ H) :
    ∃ W : Nat → Nat → St → Hp → Prop, (∃ m, W 0 m σ H) ∧ ∀ i m σ H, W i m σ H →
      ((Itt K a).stop i H ∧ D.nx σ H) ∨ ((Itt K a).go i H ∧ ∃ N : St → Hp → Prop, (∀ σ' H', N σ' H' → ∃ m', m' < m ∧ W (i + 1) m' σ' H') ∧ ∀ x H', (Itt K a).yld i H x H' → g x σ H' fun σ2 H2 => tb { D with nx := N, ct := N, bk := D.nx } σ2 H2) := by
  refine ⟨fun i m σ H => m = xs.length - i ∧ i ≤ xs.length ∧ Pv i σ H, ⟨xs.length, by simp, Nat.zero_le _, h0⟩, ?_⟩
  rintro i m σ H ⟨rfl, hi, p⟩
  have q := hl i σ H hi p
  by_cases hlt : i < xs.length
  · refine .inr ⟨⟨xs, xs[i], q, by simp [hlt]⟩, Pv (i + 1), fun σ' H' p' => ⟨xs.length - (i + 1), by omega, rfl, hlt, p'⟩, fun x H' y => ?_⟩
    obtain ⟨e, y⟩ := y
    subst e
    exact hs i x σ _ (y xs q) p
  · have e : i = xs.length := by omega
    subst e
    exact .inl ⟨⟨xs, q, Nat.le_refl _⟩, hd σ H p⟩
theorem for_range {lo : Int} {n : Nat} {g : TG} {tb : TS} {D : Ends} {σ : St} {H : Hp} (Pv : Nat → St → Hp → Prop) (h0 : Pv 0 σ H)
    (hs : ∀ i σ H, i < n → Pv i σ H → g (.int (lo + i)) σ H fun σ2 H2 => tb { D with nx := Pv (i + 1), ct := Pv (i + 1), bk := D.nx } σ2 H2) (hd : ∀ σ H, Pv n σ H → D.nx σ H) :
    ∃ W : Nat → Nat → St → Hp → Prop, (∃ m, W 0 m σ H) ∧ ∀ i m σ H, W i m σ H →
      ((Itr lo n).stop i H ∧ D.nx σ H) ∨ ((Itr lo n).go i H ∧ ∃ N : St → Hp → Prop, (∀ σ' H', N σ' H' → ∃ m', m' < m ∧ W (i + 1) m' σ' H') ∧ ∀ x H', (Itr lo n).yld i H x H' → g x σ H' fun σ2 H2 => tb { D with nx := N, ct := N, bk := D.nx } σ2 H2) := by
  refine ⟨fun i m σ H => m = n - i ∧ i ≤ n ∧ Pv i σ H, ⟨n, by simp, Nat.zero_le _, h0⟩, ?_⟩
  rintro i m σ H ⟨rfl, hi, p⟩
  by_cases hlt : i < n
  · refine .inr ⟨hlt, Pv (i + 1), fun σ' H' p' => ⟨n - (i + 1), by omega, rfl, hlt, p'⟩, fun x H' y => ?_⟩
    obtain ⟨e, y⟩ := y
    subst e y
    exact hs i σ _ hlt p
  · have e : i = n := by omega
    subst e
    exact .inl ⟨Nat.le_refl _, hd σ H p⟩
end L2
namespace L2
open PySem PySem.Spec PyProof.Rows
abbrev R2 := V → V → Hp → VK → Prop
def OpR (X : Cx) (f : Value → Value → Sem Value) (r : R2) : Prop :=
  ∀ (pins : List (Addr × Obj)) (s : Shared) (σ : St) (H : Hp) (x y : V) (v u : Value) (Q : VK), Inv X pins σ H s → RelV x v → RelV y u → r x y H Q →
    wpAny (model X.prog X.w) X.A (f v u) (EP X pins σ Q) X.xe s
def UnR (X : Cx) (f : Value → Sem Value) (r : V → Hp → VK → Prop) : Prop :=
  ∀ (pins : List (Addr × Obj)) (s : Shared) (σ : St) (H : Hp) (x : V) (v : Value) (Q : VK), Inv X pins σ H s → RelV x v → r x H Q →
    wpAny (model X.prog X.w) X.A (f v) (EP X pins σ Q) X.xe s
def CallR (X : Cx) (f : Value) (r : List V → Hp → VK → Prop) : Prop :=
  ∀ (pins : List (Addr × Obj)) (s : Shared) (σ : St) (H : Hp) (xs : List V) (us : List Value) (Q : VK), Inv X pins σ H s → Vals xs us → r xs H Q →
    wpAny (model X.prog X.w) X.A (call f us) (EP X pins σ Q) X.xe s
def TruR (X : Cx) (r : V → Hp → (Bool → Hp → Prop) → Prop) : Prop :=
  ∀ (pins : List (Addr × Obj)) (s : Shared) (σ : St) (H : Hp) (x : V) (v : Value) (Q : Bool → Hp → Prop), Inv X pins σ H s → RelV x v → r x H Q →
    wpAny (model X.prog X.w) X.A (truthy v) (TP X pins σ Q) X.xe s
def tOp (r : R2) (ta tb : TE) : TE := fun σ H Q => ta σ H fun x H1 => tb σ H1 fun y H2 => r x y H2 Q
def tUn (r : V → Hp → VK → Prop) (ta : TE) : TE := fun σ H Q => ta σ H fun x H1 => r x H1 Q
def rI (C : Int → Int → Prop) (g : Int → Int → V) : R2 := fun x y H Q => ∃ i j, x = .int i ∧ y = .int j ∧ C i j ∧ Q (g i j) H
def rI0 (g : Int → Int → V) : R2 := fun x y H Q => ∃ i j, x = .int i ∧ y = .int j ∧ Q (g i j) H
def rU (g : Int → V) : V → Hp → VK → Prop := fun x H Q => ∃ i, x = .int i ∧ Q (g i) H
section
variable {X : Cx} {a b c : Expr} {ta tb tc : TE} {pos : Pos}
theorem binT (ha : PE X a ta) (hb : PE X b tb) {pins : List (Addr × Obj)} {s : Shared} {σ : St} {H : Hp} {R : V → V → Hp → Prop} (I : Inv X pins σ H s)
    (h : ta σ H fun x H1 => tb σ H1 fun y H2 => R x y H2) {Q : Value → Shared → Prop} {f : Value → Value → Sem Value}
    (hf : ∀ v u s2 x y H2, Inv X pins σ H2 s2 → RelV x v → RelV y u → R x y H2 → wpAny (model X.prog X.w) X.A (f v u) Q X.xe s2) :
    wpAny (model X.prog X.w) X.A (eval a X.env) (fun v s₁ => wpAny (model X.prog X.w) X.A (eval b X.env) (fun u s₂ => wpAny (model X.prog X.w) X.A (f v u) Q X.xe s₂) X.xe s₁) X.xe s := by
  refine thn (ha pins s σ H _ I h) fun v s1 ⟨x, H1, I1, r1, q1⟩ => ?_
  refine thn (hb pins s1 σ H1 _ I1 q1) fun u s2 ⟨y, H2, I2, r2, q2⟩ => ?_
  exact hf v u s2 x y H2 I2 r1 r2 q2
theorem pe_op {op : Operator} {r : R2} (ho : OpR X (binaryOp op) r) (ha : PE X a ta) (hb : PE X b tb) : PE X (.BinOp a op b pos) (tOp r ta tb) := by
  intro pins s σ H Q I h
  exact wpAny_BinOp (binT ha hb I h fun v u s2 x y H2 I2 rx ry q => ho pins s2 σ H2 x y v u Q I2 rx ry q)
theorem pe_un {op : UnaryOp} {r : V → Hp → VK → Prop} (ho : UnR X (unaryOp op) r) (ha : PE X a ta) : PE X (.UnaryOp op a pos) (tUn r ta) := by
  intro pins s σ H Q I h
  exact UnaryOp_ (thn (ha pins s σ H _ I h) fun v s1 ⟨x, H1, I1, r1, q1⟩ => ho pins s1 σ H1 x v Q I1 r1 q1)
theorem opI {f : Value → Value → Sem Value} {C : Int → Int → Prop} {g : Int → Int → Int}
    (rule : ∀ (i j : Int) (t u : Tok) (s : Shared) (Q : Value → Shared → Prop) (E : Value → Shared → Prop), C i j → Q (.int (g i j) s.toks) { s with toks := s.toks + 1 } → wpAny (model X.prog X.w) X.A (f (.int i t) (.int j u)) Q E s) :
    OpR X f (rI C fun i j => .int (g i j)) := by
  intro pins s σ H x y v u Q I rx ry h
  obtain ⟨i, j, rfl, rfl, hc, q⟩ := h
  obtain ⟨t, rfl⟩ := rx
  obtain ⟨t', rfl⟩ := ry
  exact rule i j t t' s _ _ hc ⟨.int (g i j), H, I.tok _, ⟨_, rfl⟩, q⟩
theorem opI0 {f : Value → Value → Sem Value} {g : Int → Int → Int}
    (rule : ∀ (i j : Int) (t u : Tok) (s : Shared) (Q : Value → Shared → Prop) (E : Value → Shared → Prop), Q (.int (g i j) s.toks) { s with toks := s.toks + 1 } → wpAny (model X.prog X.w) X.A (f (.int i t) (.int j u)) Q E s) :
    OpR X f (rI0 fun i j => .int (g i j)) := by
  intro pins s σ H x y v u Q I rx ry h
  obtain ⟨i, j, rfl, rfl, q⟩ := h
  obtain ⟨t, rfl⟩ := rx
  obtain ⟨t', rfl⟩ := ry
  exact rule i j t t' s _ _ ⟨.int (g i j), H, I.tok _, ⟨_, rfl⟩, q⟩
theorem opB0 {f : Value → Value → Sem Value} {g : Int → Int → Bool}
    (rule : ∀ (i j : Int) (t u : Tok) (s : Shared) (Q : Value → Shared → Prop) (E : Value → Shared → Prop), Q (.bool (g i j)) s → wpAny (model X.prog X.w) X.A (f (.int i t) (.int j u)) Q E s) :
    OpR X f (rI0 fun i j => .bl (g i j)) := by
  intro pins s σ H x y v u Q I rx ry h
  obtain ⟨i, j, rfl, rfl, q⟩ := h
  obtain ⟨t, rfl⟩ := rx
  obtain ⟨t', rfl⟩ := ry
  exact rule i j t t' s _ _ ⟨.bl (g i j), H, I, rfl, q⟩
def CPow (i j : Int) : Prop := 0 ≤ j ∧ j ≤ 1000000 ∧ i.natAbs < 2 ^ 64
def CMul (i j : Int) : Prop := (-(2 ^ 64) < i ∧ i < 2 ^ 64) ∨ (-(2 ^ 64) < j ∧ j < 2 ^ 64)
theorem CMul.ok {i j : Int} (h : CMul i j) : IntMulOk i j := by
  rcases h with ⟨h1, h2⟩ | ⟨h1, h2⟩
  · exact .of_left (intBits_le_64 h1 h2)
  · exact .of_right (intBits_le_64 h1 h2)
theorem op_add : OpR X (binaryOp .Add) (rI0 fun i j => .int (i + j)) := opI0 fun _ _ _ _ _ _ _ q => add_int q
theorem op_sub : OpR X (binaryOp .Sub) (rI0 fun i j => .int (i - j)) := opI0 fun _ _ _ _ _ _ _ q => sub_int q
theorem op_mul : OpR X (binaryOp .Mult) (rI CMul fun i j => .int (i * j)) := opI fun _ _ _ _ _ _ _ hc q => mul_int q hc.ok
theorem op_mod : OpR X (binaryOp .Mod) (rI (fun _ j => 0 < j) fun i j => .int (i % j)) := opI fun i j _ _ _ _ _ hc q => by
  have h1 : (0 : Int) < j := hc
  exact mod_int' (by omega) (by rw [Int.fmod_eq_emod_of_nonneg i (by omega)]; exact q)
theorem op_shl : OpR X (binaryOp .LShift) (rI CPow fun i j => .int (i * 2 ^ j.toNat)) := opI fun _ _ _ _ _ _ _ hc q => lshift_int_small hc.1 hc.2.1 hc.2.2 q
theorem unI {f : Value → Sem Value} {g : Int → Int}
    (rule : ∀ (i : Int) (t : Tok) (s : Shared) (Q : Value → Shared → Prop) (E : Value → Shared → Prop), Q (.int (g i) s.toks) { s with toks := s.toks + 1 } → wpAny (model X.prog X.w) X.A (f (.int i t)) Q E s) :
    UnR X f (rU fun i => .int (g i)) := by
  intro pins s σ H x v Q I rx h
  obtain ⟨i, rfl, q⟩ := h
  obtain ⟨t, rfl⟩ := rx
  exact rule i t s _ _ ⟨.int (g i), H, I.tok _, ⟨_, rfl⟩, q⟩
theorem un_neg : UnR X (unaryOp .USub) (rU fun i => .int (-i)) := unI fun _ _ _ _ _ q => neg_int q
end
def scal : V → V → Bool
  | .non, .non => true | .non, .int _ => true | .int _, .non => true | .non, .bl _ => true | .bl _, .non => true | .non, .str _ => true | .str _, .non => true
  | .int _, .int _ => true | .bl _, .bl _ => true | .str _, .str _ => true | .byt _, .byt _ => true
  | .int _, .str _ => true | .str _, .int _ => true | .bl _, .str _ => true | .str _, .bl _ => true
  | _, _ => false
def rEq : R2 := fun x y H Q => scal x y = true ∧ Q (.bl (decide (x = y))) H
def rNe : R2 := fun x y H Q => scal x y = true ∧ Q (.bl (!decide (x = y))) H
theorem dec_int {i j : Int} : decide (V.int i = V.int j) = (i == j) := by
  rw [Bool.eq_iff_iff]
  simp
theorem dec_bl {i j : Bool} : decide (V.bl i = V.bl j) = (i == j) := by
  rw [Bool.eq_iff_iff]
  simp
theorem dec_str {i j : Str} : decide (V.str i = V.str j) = (i == j) := by
  rw [Bool.eq_iff_iff]
  simp
theorem dec_byt {i j : Array UInt8} : decide (V.byt i = V.byt j) = (i.toList == j.toList) := by
  rw [Bool.eq_iff_iff]
  cases i
  cases j
  simp
section
variable {X : Cx} {a b c : Expr} {ta tb tc : TE} {pos : Pos}
theorem fin_bl {pins : List (Addr × Obj)} {σ : St} {H : Hp} {s : Shared} {Q : VK} {k k' : Bool} (I : Inv X pins σ H s) (q : Q (.bl k) H) (e : k = k') : EP X pins σ Q (.bool k') s := by
  subst e
  exact ⟨.bl k, H, I, rfl, q⟩
theorem op_eq : OpR X (compareOp .Eq) rEq := by
  intro pins s σ H x y v u Q I rx ry h
  obtain ⟨hs, q⟩ := h
  cases x with
  | non =>
    cases rx
    cases y with
    | non => cases ry; exact PySem.EqNone.eq_none_none (fin_bl I q (by simp))
    | bl j => cases ry; exact PySem.EqNone.eq_none_bool (fin_bl I q (by simp))
    | int j => obtain ⟨t', rfl⟩ := ry; exact PySem.EqNone.eq_none_int (fin_bl I q (by simp))
    | str j => obtain ⟨t', rfl⟩ := ry; exact PySem.EqNone.eq_none_str (fin_bl I q (by simp))
    | _ => exact absurd (show false = true from hs) Bool.false_ne_true
  | bl i =>
    cases rx
    cases y with
    | non => cases ry; exact PySem.EqNone.eq_bool_none (fin_bl I q (by simp))
    | bl j => cases ry; exact eq_bool (fin_bl I q dec_bl)
    | str j => obtain ⟨t', rfl⟩ := ry; exact PySem.EqMixed.eq_bool_str (fin_bl I q (by simp))
    | _ => exact absurd (show false = true from hs) Bool.false_ne_true
  | int i =>
    obtain ⟨t, rfl⟩ := rx
    cases y with
    | non => cases ry; exact PySem.EqNone.eq_int_none (fin_bl I q (by simp))
    | int j => obtain ⟨t', rfl⟩ := ry; exact eq_int (fin_bl I q dec_int)
    | str j => obtain ⟨t', rfl⟩ := ry; exact PySem.EqMixed.eq_int_str (fin_bl I q (by simp))
    | _ => exact absurd (show false = true from hs) Bool.false_ne_true
  | str i =>
    obtain ⟨t, rfl⟩ := rx
    cases y with
    | non => cases ry; exact PySem.EqNone.eq_str_none (fin_bl I q (by simp))
    | bl j => cases ry; exact PySem.EqMixed.eq_str_bool (fin_bl I q (by simp))
    | int j => obtain ⟨t', rfl⟩ := ry; exact PySem.EqMixed.eq_str_int (fin_bl I q (by simp))
    | str j => obtain ⟨t', rfl⟩ := ry; exact eq_str (fin_bl I q dec_str)
    | _ => exact absurd (show false = true from hs) Bool.false_ne_true
  | byt i =>
    obtain ⟨t, rfl⟩ := rx
    cases y with
    | byt j => obtain ⟨t', rfl⟩ := ry; exact PySem.W.eq_bytes (fin_bl I q dec_byt)
    | _ => exact absurd (show false = true from hs) Bool.false_ne_true
  | _ => cases y <;> exact absurd (show false = true from hs) Bool.false_ne_true
theorem op_ne : OpR X (compareOp .NotEq) rNe := by
  intro pins s σ H x y v u Q I rx ry h
  obtain ⟨hs, q⟩ := h
  cases x with
  | non =>
    cases rx
    cases y with
    | non => cases ry; exact PySem.EqNone.ne_none_none (fin_bl I q (by simp))
    | bl j => cases ry; exact PySem.EqNone.ne_none_bool (fin_bl I q (by simp))
    | int j => obtain ⟨t', rfl⟩ := ry; exact PySem.EqNone.ne_none_int (fin_bl I q (by simp))
    | str j => obtain ⟨t', rfl⟩ := ry; exact PySem.EqNone.ne_none_str (fin_bl I q (by simp))
    | _ => exact absurd (show false = true from hs) Bool.false_ne_true
  | bl i =>
    cases rx
    cases y with
    | non => cases ry; exact PySem.EqNone.ne_bool_none (fin_bl I q (by simp))
    | bl j => cases ry; exact ne_bool (fin_bl I q (congrArg not dec_bl))
    | str j => obtain ⟨t', rfl⟩ := ry; exact PySem.EqMixed.ne_bool_str (fin_bl I q (by simp))
    | _ => exact absurd (show false = true from hs) Bool.false_ne_true
  | int i =>
    obtain ⟨t, rfl⟩ := rx
    cases y with
    | non => cases ry; exact PySem.EqNone.ne_int_none (fin_bl I q (by simp))
    | int j => obtain ⟨t', rfl⟩ := ry; exact ne_int (fin_bl I q (congrArg not dec_int))
    | str j => obtain ⟨t', rfl⟩ := ry; exact PySem.EqMixed.ne_int_str (fin_bl I q (by simp))
    | _ => exact absurd (show false = true from hs) Bool.false_ne_true
  | str i =>
    obtain ⟨t, rfl⟩ := rx
    cases y with
    | non => cases ry; exact PySem.EqNone.ne_str_none (fin_bl I q (by simp))
    | bl j => cases ry; exact PySem.EqMixed.ne_str_bool (fin_bl I q (by simp))
    | int j => obtain ⟨t', rfl⟩ := ry; exact PySem.EqMixed.ne_str_int (fin_bl I q (by simp))
    | str j => obtain ⟨t', rfl⟩ := ry; exact ne_str (fin_bl I q (congrArg not dec_str))
    | _ => exact absurd (show false = true from hs) Bool.false_ne_true
  | byt i =>
    obtain ⟨t, rfl⟩ := rx
    cases y with
    | byt j => obtain ⟨t', rfl⟩ := ry; exact PySem.W.ne_bytes (fin_bl I q (congrArg not dec_byt))
    | _ => exact absurd (show false = true from hs) Bool.false_ne_true
  | _ => cases y <;> exact absurd (show false = true from hs) Bool.false_ne_true
theorem op_lt : OpR X (compareOp .Lt) (rI0 fun i j => .bl (decide (i < j))) := opB0 fun _ _ _ _ _ _ _ q => lt_int q
theorem op_le : OpR X (compareOp .LtE) (rI0 fun i j => .bl (decide (i ≤ j))) := opB0 fun _ _ _ _ _ _ _ q => le_int q
theorem op_gt : OpR X (compareOp .Gt) (rI0 fun i j => .bl (decide (j < i))) := opB0 fun _ _ _ _ _ _ _ q => gt_int q
theorem nomark (b : Expr) {op : CmpOp} (h : op ≠ .In := by decide) (h2 : op ≠ .NotIn := by decide) : behindInMarks op b = false := by
  have e1 : (op == CmpOp.In) = false := by cases op <;> first | rfl | exact absurd rfl h
  have e2 : (op == CmpOp.NotIn) = false := by cases op <;> first | rfl | exact absurd rfl h2
  cases b <;> simp [behindInMarks, e1, e2]
theorem pe_cmpR {op : CmpOp} {r : R2} (ho : OpR X (compareOp op) r) (ha : PE X a ta) (hb : PE X b tb) (hm : behindInMarks op b = false) : PE X (.Compare a [op] [b] pos) (tOp r ta tb) := by
  intro pins s σ H Q I h
  exact wpAny_Compare1 (binT ha hb I h fun v u s2 x y H2 I2 rx ry q => ho pins s2 σ H2 x y v u Q I2 rx ry q) hm
def tTest (t : TE) : TT := fun σ H Q => t σ H fun x H' => ∃ k, x = .bl k ∧ Q k H'
theorem pt_cmpR {op : CmpOp} {r : R2} (ho : OpR X (compareOp op) r) (ha : PE X a ta) (hb : PE X b tb) (hm : behindInMarks op b = false) : PT X (.Compare a [op] [b] pos) (tTest (tOp r ta tb)) := by
  intro pins s σ H Q I h
  refine wpAny_isTrue_Compare1 (thn (ha pins s σ H _ I h) fun v s1 ⟨x, H1, I1, r1, q1⟩ => thn (hb pins s1 σ H1 _ I1 q1) fun u s2 ⟨y, H2, I2, r2, q2⟩ =>
    thn (ho pins s2 σ H2 x y v u _ I2 r1 r2 q2) fun c s3 ⟨z, H3, I3, r3, k, e, q3⟩ => ?_) hm
  subst e
  cases r3
  exact wpAny_truthy_bool ⟨H3, I3, q3⟩
def TruV (K : PySem.W.Frag) (x : V) (H : Hp) (k : Bool) : Prop :=
  match x with
  | .non => k = false
  | .bl b => k = b
  | .int i => k = (i != 0)
  | .str y => y.length ≤ sizeLine ∧ k = ((y.length : Int) != 0)
  | .byt y => y.size ≤ sizeLine ∧ k = ((y.size : Int) != 0)
  | .ref p => (∃ xs, SqL K H p xs ∧ k = !xs.isEmpty) ∨ (∃ xs, SqT K H p xs ∧ k = !xs.isEmpty) ∨ ∃ kvs, H p = some (.dK kvs) ∧ k = !kvs.isEmpty
  | _ => False
theorem isEmpty_kv {κ : Type} {kvs : List (κ × V)} {vs : List (κ × Value)} (r : KV kvs vs) : (!vs.isEmpty) = !kvs.isEmpty := by
  cases r <;> rfl
theorem isEmpty_of {xs : List V} {its : List Value} (r : Vals xs its) : (!its.toArray.isEmpty) = !xs.isEmpty := by
  cases r <;> simp
theorem line63 : (sizeLine : Nat) < 2 ^ 63 := by rw [sizeLine_eq]; decide
theorem tru_ok : TruR X (fun x H Q => ∃ k, TruV X.K x H k ∧ Q k H) := by
  intro pins s σ H x v Q I rx h
  obtain ⟨k, e, q⟩ := h
  have hl := line63
  have hs : sizeLine = 16777216 := sizeLine_eq
  cases x with
  | non =>
    cases rx
    have e' : k = false := e
    subst e'
    exact truthy_none ⟨H, I, q⟩
  | bl b =>
    cases rx
    have e' : k = b := e
    subst e'
    exact wpAny_truthy_bool ⟨H, I, q⟩
  | int i =>
    obtain ⟨t, rfl⟩ := rx
    have e' : k = (i != 0) := e
    subst e'
    exact PySem.P.truthy_int ⟨H, I, q⟩
  | str y =>
    obtain ⟨t, rfl⟩ := rx
    obtain ⟨hy, e'⟩ : y.length ≤ sizeLine ∧ k = ((y.length : Int) != 0) := e
    subst e'
    exact PySem.P.truthy_str (by omega) ⟨H, I.tok _, q⟩
  | byt y =>
    obtain ⟨t, rfl⟩ := rx
    obtain ⟨hy, e'⟩ : y.size ≤ sizeLine ∧ k = ((y.size : Int) != 0) := e
    subst e'
    exact PySem.W.truthy_bytes (by omega) ⟨H, I.tok _, q⟩
  | ref p =>
    cases rx
    have e' : (∃ xs, SqL X.K H p xs ∧ k = !xs.isEmpty) ∨ (∃ xs, SqT X.K H p xs ∧ k = !xs.isEmpty) ∨ ∃ kvs, H p = some (.dK kvs) ∧ k = !kvs.isEmpty := e
    rcases e' with ⟨xs, hx, e'⟩ | ⟨xs, hx, e'⟩ | ⟨kvs, hx, e'⟩
    · subst e'
      obtain ⟨its, r, pl, hz⟩ := I.list hx
      have hlen := r.length
      exact wpAny_truthy_list pl.isList (by simp only [List.size_toArray]; omega) ⟨H, I.tok _, by rw [isEmpty_of r]; exact q⟩
    · subst e'
      obtain ⟨its, r, pl, hz⟩ := I.tuple hx
      have hlen := r.length
      exact truthy_tuple pl (by simp only [List.size_toArray]; omega) ⟨H, I.tok _, by rw [isEmpty_of r]; exact q⟩
    · subst e'
      obtain ⟨hz, hS, vs, r, m⟩ : kvs.length ≤ sizeLine ∧ (p == sysModules) = false ∧ ∃ vs, KV kvs vs ∧ s.heap.DictOf (mixKind X.prog X.w) p vs := I.hok p _ hx
      have hlen : kvs.length = vs.length := Paired.length r
      exact wpAny_truthy_dict hS m (by omega) ⟨H, I.tok _, by rw [isEmpty_kv r]; exact q⟩
  | _ => exact (show False from e).elim
theorem pt_truth (ha : PE X a ta) (he : ∀ whole, isTrue a X.env whole = (do let v ← whole; standAt a.pos; holding [v] (truthy v))) :
    PT X a (fun σ H Q => ta σ H fun x H' => ∃ k, TruV X.K x H' k ∧ Q k H') := by
  intro pins s σ H Q I h
  exact isTrue_plain (thn (ha pins s σ H _ I h) fun v s1 ⟨x, H1, I1, r1, q1⟩ => tru_ok pins s1 σ H1 x v Q I1 r1 q1) (he _)
theorem vals1 {x : V} {us : List Value} (r : Vals [x] us) : ∃ u, us = [u] ∧ RelV x u := by
  cases r with
  | cons r1 r2 => cases r2; exact ⟨_, rfl, r1⟩
theorem call_abs : CallR X (.builtin "abs") (fun xs H Q => ∃ i, xs = [.int i] ∧ Q (.int (if i < 0 then -i else i)) H) := by
  intro pins s σ H xs us Q I r h
  obtain ⟨i, rfl, q⟩ := h
  obtain ⟨u, rfl, t, rfl⟩ := vals1 r
  exact call_abs_int fun u tk => ⟨.int (if i < 0 then -i else i), H, I.tok _, ⟨_, rfl⟩, q⟩
end
end L2
namespace L2
open PySem PySem.Spec PyProof.Rows
structure ObjM (h : Heap) (x dx C : Addr) (mA : Str → Option Value) : Prop where
  obj : h.get? x = some (PySem.W.instObj C dx)
  ns : h.Ns1 dx mA
  ne : dx ≠ x
theorem lookIn_ns {h : Heap} {dx : Addr} {mA : Str → Option Value} (n : h.Ns1 dx mA) : ∃ od, h.get? dx = some od ∧ ∀ name, PySem.W.lookIn name od = some (mA name) := by
  obtain ⟨o, es, ep, ho, hd, hk, _, hm⟩ := n
  refine ⟨o, ho, fun name => ?_⟩
  have e := hm name
  unfold nsFind findBy at e
  rw [← Array.find?_toList] at e
  unfold PySem.W.lookIn
  rw [hd]
  dsimp only
  split
  · rename_i y q
    rw [q] at e
    exact congrArg some e
  · rename_i q
    rw [q] at e
    have a : es.toList.any (·.refKey) = false := by
      rw [List.any_eq_false]
      intro y hy
      obtain ⟨z, t, hkey⟩ := hk y (Array.mem_toList_iff.mp hy)
      simp [DictEntry.refKey, hkey]
    have a' : ¬ es.toList.any (·.refKey) = true := by rw [a]; exact Bool.false_ne_true
    rw [if_neg a']
    exact congrArg some e
theorem ObjM.look {h : Heap} {x dx C : Addr} {mA : Str → Option Value} (I : ObjM h x dx C mA) : ∃ od, PySem.W.InstAt h x (PySem.W.instObj C dx) C (some od) ∧ ∀ name, PySem.W.lookIn name od = some (mA name) :=
  let ⟨od, ho, hl⟩ := lookIn_ns I.ns
  ⟨od, ⟨I.obj, rfl, rfl, ho⟩, hl⟩
section
variable {prog : Program} {w : World} {A : Around} {E : Value → Shared → Prop} {s : Shared} {K : PySem.W.Frag} {x dx C f : Addr} {mA : Str → Option Value} {name : Str} {v : Value}
theorem get_map {expr : Bool} {Q : Value → Shared → Prop} (X : K.In s.heap) (I : ObjM s.heap x dx C mA) (hg : PySem.W.plainGet K C name = true) (hh : PySem.W.hasDictIn K C = true)
    (ha : PySem.W.findIn K (.ref C) name = some none) (hv : mA name = some v) (hv' : PySem.W.handedIn v = true) (h : Q v { s with toks := s.toks + 1 }) :
    wpAny (model prog w) A (getAttr (.ref x) name expr) Q E s := by
  obtain ⟨od, J, hl⟩ := I.look
  exact PySem.W.get_value X J (PySem.W.plainGet_of hg).1 (PySem.W.findObj_own hh ha rfl (by rw [hl, hv])) hv' h
theorem get_meth {pl : Sem Bool} {Q : Value × List Value → Shared → Prop} (X : K.In s.heap) (I : ObjM s.heap x dx C mA) (hg : PySem.W.plainGet K C name = true)
    (hf : PySem.W.findIn K (.ref C) name = some (some (.ref f))) (ht : PySem.W.isFn K (.ref f) = true) (hv : mA name = none) (h : Q (.ref f, [.ref x]) s) :
    wpAny (model prog w) A (getMethod (.ref x) name pl) Q E s := by
  obtain ⟨od, J, hl⟩ := I.look
  exact PySem.W.method_fn X J (PySem.W.plainGet_of hg).1 (PySem.W.plainGet_of hg).2 hf (beq_iff_eq.mp ht) (by show (PySem.W.lookIn name od).map (·.isSome) = some false; rw [hl, hv]; rfl) h
theorem set_map {ns : List Str} {Q : Unit → Shared → Prop} (X : K.In s.heap) (I : ObjM s.heap x dx C mA)
    (hs : PySem.W.findIn K (.ref C) "__setattr__" = some (some (.builtin "object.__setattr__"))) (hp : PySem.W.plainOver K C = true) (ht : PySem.W.takerIn K C name = some none) (hh : PySem.W.hasDictIn K C = true)
    (hw : PySem.Within mA ns) (hsz : ns.length ≤ sizeLine)
    (h : ∀ h', ObjM h' x dx C (fun y => if y = name then some v else mA y) → Heap.SameBut dx s.heap h' → Q () { s with heap := h', toks := s.toks + 2 }) :
    wpAny (model prog w) A (setAttr (.ref x) name v) Q E s := by
  obtain ⟨od, J, hl⟩ := I.look
  refine PySem.W.set_plain X J hs (PySem.W.osa_open (s := { s with toks := s.toks + 1 }) (r := none) X J hp ht fun b => ?_)
  obtain ⟨cd, hc, hd'⟩ := PySem.W.any_some hh
  have hx : s.heap.get? x = some ⟨.ref C, some dx, .plain, #[]⟩ := I.obj
  refine wpAny_bind (wpAny_pure (wpAny_bind (wpAny_bind (wpAny_loadPart hx (wpAny_bind (PySem.W.Looks.here (s := { s with toks := s.toks + 1 }) (PySem.W.looks_clsIn X hc) ?_))))))
  rw [hd']
  refine wpAny_pure (a := some dx) (wpAny_bind (wpAny_pure (wpAny_bind ?_)))
  refine wpAny_nsSet1 (s := { s with toks := s.toks + 1 }) I.ns fun h' hn2 hs2 => ?_
  obtain ⟨oD, esD, epD, hoD, hdD, hcD⟩ := hn2.count (PySem.Within.cons name v hw)
  refine wpAny_bind (wpAny_lookBehind hoD (by rw [hdD]; exact pastItsLine_dict (Nat.le_trans hcD (by rw [List.length_cons]; omega))) ?_)
  exact wpAny_pure (h _ ⟨(hs2.2 _ (Ne.symm I.ne)).trans I.obj, hn2, I.ne⟩ hs2)
theorem make_map {R : Result → Shared → Prop} {vs : List Value} {kw : List (Str × Value)} (X : K.In s.heap) (hm : PySem.W.makesIn K C = true)
    (hi : PySem.W.findIn K (.ref C) "__init__" = some (some (.ref f))) (hf : PySem.W.typeIn K (.ref f) = some (.type "function"))
    (h : codeAny (model prog w) (A.under (.builtin "type.__call__" ⟨.ref C :: vs, kw⟩)) (.call (.ref f) ⟨.ref (s.heap.objs.size + 1) :: vs, kw⟩) (PySem.W.InitBack (s.heap.objs.size + 1) R)
      { s with heap := (s.heap.push PySem.W.emptyDict).push (PySem.W.instObj C s.heap.objs.size) }) :
    codeAny (model prog w) A (.call (.ref C) ⟨vs, kw⟩) R s := by
  obtain ⟨hh, g, d, t, os⟩ := s
  exact PySem.W.make_core (PySem.W.makes_of X hm) (PySem.W.looks_findIn X hi) (fun self => PySem.W.bind_fn X self hf) (.inl rfl) h
end
def putF (f : Str) (v : V) : List (Str × V) → List (Str × V)
  | [] => [(f, v)]
  | (g, x) :: r => if g = f then (g, v) :: r else (g, x) :: putF f v r
theorem lookup_putF (f g : Str) (v : V) : ∀ fs : List (Str × V), (putF f v fs).lookup g = if g = f then some v else fs.lookup g
  | [] => by
    show List.lookup g [(f, v)] = _
    by_cases h : g = f
    · have hb : (g == f) = true := beq_iff_eq.mpr h
      simp only [List.lookup, hb, if_pos h]
    · have hb : (g == f) = false := beq_eq_false_iff_ne.mpr h
      simp only [List.lookup, hb, if_neg h]
  | (k, x) :: r => by
    have ih := lookup_putF f g v r
    rw [show putF f v ((k, x) :: r) = (if k = f then (k, v) :: r else (k, x) :: putF f v r) from rfl]
    by_cases hk : k = f
    · rw [if_pos hk]
      by_cases h : g = k
      · have hb : (g == k) = true := beq_iff_eq.mpr h
        simp only [List.lookup, hb, if_pos (h.trans hk)]
      · have hb : (g == k) = false := beq_eq_false_iff_ne.mpr h
        simp only [List.lookup, hb, if_neg (fun e : g = f => h (e.trans hk.symm))]
    · rw [if_neg hk]
      by_cases h : g = k
      · have hb : (g == k) = true := beq_iff_eq.mpr h
        simp only [List.lookup, hb, if_neg (fun e : g = f => hk (h.symm.trans e))]
      · have hb : (g == k) = false := beq_eq_false_iff_ne.mpr h
        simp only [List.lookup, hb]
        exact ih
theorem keys_putF (f : Str) (v : V) : ∀ fs : List (Str × V), f ∈ (putF f v fs).map (·.1) ∧ ∀ g, g ∈ fs.map (·.1) → g ∈ (putF f v fs).map (·.1)
  | [] => ⟨by simp [putF], fun g h => by simp at h⟩
  | (k, x) :: r => by
    obtain ⟨i1, i2⟩ := keys_putF f v r
    rw [show putF f v ((k, x) :: r) = (if k = f then (k, v) :: r else (k, x) :: putF f v r) from rfl]
    by_cases hk : k = f
    · rw [if_pos hk]
      subst hk
      exact ⟨by simp, fun g h => by simpa using h⟩
    · rw [if_neg hk]
      refine ⟨?_, fun g h => ?_⟩
      · rw [List.map_cons]
        exact List.mem_cons_of_mem _ i1
      · rw [List.map_cons] at h ⊢
        rcases List.mem_cons.mp h with e | e
        · exact List.mem_cons.mpr (.inl e)
        · exact List.mem_cons_of_mem _ (i2 g e)
theorem length_putF (f : Str) (v : V) : ∀ fs : List (Str × V), (putF f v fs).length ≤ fs.length + 1
  | [] => by simp [putF]
  | (k, x) :: r => by
    have ih := length_putF f v r
    rw [show putF f v ((k, x) :: r) = (if k = f then (k, v) :: r else (k, x) :: putF f v r) from rfl]
    by_cases hk : k = f
    · rw [if_pos hk, List.length_cons, List.length_cons]; omega
    · rw [if_neg hk, List.length_cons, List.length_cons]; omega
theorem RelO.some_of {v : V} {o : Option Value} (r : RelO (some v) o) : ∃ u, o = some u ∧ RelV v u := by
  cases o with
  | none => exact (show False from r).elim
  | some u => exact ⟨u, rfl, r⟩
theorem RelO.none_of {o : Option Value} (r : RelO none o) : o = none := by
  cases o with
  | none => rfl
  | some u => exact (show False from r).elim
theorem handed_of {v : V} {u : Value} (r : RelV v u) : PySem.W.handedIn u = true := by
  cases v with
  | non => cases (show u = Value.none from r); rfl
  | bl b => cases (show u = Value.bool b from r); rfl
  | int i => obtain ⟨t, e⟩ := (show ∃ t, u = Value.int i t from r); cases e; rfl
  | str x => obtain ⟨t, e⟩ := (show ∃ t, u = Value.str x t from r); cases e; rfl
  | byt b => obtain ⟨t, e⟩ := (show ∃ t, u = Value.bytes b t from r); cases e; rfl
  | flt b => obtain ⟨t, e⟩ := (show ∃ t, u = Value.float b t from r); cases e; rfl
  | ref a => cases (show u = Value.ref a from r); rfl
  | ty n => cases (show u = Value.type n from r); rfl
section
variable {P : Program} {w : World} {H H' : Hp} {h h' : Heap} {a C dx : Addr} {fs fs' : List (Str × V)}
theorem ins_get (hok : HOk P w H h) (e : H a = some (.ins C dx fs)) : ∃ mA, ObjM h a dx C mA ∧ (∀ f, RelO (fs.lookup f) (mA f)) ∧ PySem.Within mA (fs.map (·.1)) ∧ fs.length ≤ 1000 ∧ H dx = some (.own a) := by
  obtain ⟨d, z, ne, ob, mA, n, r, q⟩ := (show ObjOk P w H h a (.ins C dx fs) from hok a _ e)
  exact ⟨mA, ⟨ob, n, ne⟩, r, q, z, d⟩
end
structure Cls (K : PySem.W.Frag) (C : Addr) : Prop where
  pg : PySem.W.plainGet K C Str.empty = true
  hd : PySem.W.hasDictIn K C = true
  po : PySem.W.plainOver K C = true
  sa : PySem.W.findIn K (.ref C) "__setattr__" = some (some (.builtin "object.__setattr__"))
theorem Cls.get {K : PySem.W.Frag} {C : Addr} (c : Cls K C) (f : Str) : PySem.W.plainGet K C f = true := c.pg
def NoAttr (K : PySem.W.Frag) (C : Addr) (f : Str) : Prop := PySem.W.findIn K (.ref C) f = some none
theorem NoAttr.taker {K : PySem.W.Frag} {C : Addr} {f : Str} (n : NoAttr K C f) : PySem.W.takerIn K C f = some none := by
  unfold PySem.W.takerIn
  rw [show PySem.W.findIn K (.ref C) f = some none from n]
  rfl
structure Meth (K : PySem.W.Frag) (C : Addr) (m : Str) (f : Addr) : Prop where
  at_ : PySem.W.findIn K (.ref C) m = some (some (.ref f))
  fn : PySem.W.isFn K (.ref f) = true
  kp : PySem.W.keepIn K (.ref f) = true
section
variable {X : Cx} {pins : List (Addr × Obj)} {σ : St} {H : Hp} {s : Shared} {a C dx : Addr} {fs : List (Str × V)} {f : Str} {v : V} {A : Around} {E : Value → Shared → Prop}
theorem getattr_ok {b : Bool} {Q : Value → Shared → Prop} (I : Inv X pins σ H s) (e : H a = some (.ins C dx fs)) (c : Cls X.K C) (n : NoAttr X.K C f) (l : fs.lookup f = some v)
    (h : ∀ u s', Inv X pins σ H s' → RelV v u → Q u s') : wpAny (model X.prog X.w) A (getAttr (.ref a) f b) Q E s := by
  obtain ⟨mA, O, r, _, _, _⟩ := ins_get I.hok e
  obtain ⟨u, hu, ru⟩ := RelO.some_of (v := v) (o := mA f) (by rw [← l]; exact r f)
  exact get_map I.kIn O (c.get f) c.hd n hu (handed_of ru) (h u _ (I.tok _) ru)
theorem getmeth_ok {m : Str} {g : Addr} {pl : Sem Bool} {Q : Value × List Value → Shared → Prop} (I : Inv X pins σ H s) (e : H a = some (.ins C dx fs)) (c : Cls X.K C) (k : Meth X.K C m g) (l : fs.lookup m = none)
    (h : Q (.ref g, [.ref a]) s) : wpAny (model X.prog X.w) A (getMethod (.ref a) m pl) Q E s := by
  obtain ⟨mA, O, r, _, _, _⟩ := ins_get I.hok e
  have hn : mA m = none := RelO.none_of (by rw [← l]; exact r m)
  exact get_meth I.kIn O (c.get m) k.at_ k.fn hn h
theorem setattr_ok {y : V} {u : Value} {Q : Unit → Shared → Prop} (I : Inv X pins σ H s) (e : H a = some (.ins C dx fs)) (c : Cls X.K C) (n : NoAttr X.K C f) (hl : fs.length < 1000) (ry : RelV y u)
    (h : ∀ s', Inv X pins σ (upd H a (.ins C dx (putF f y fs))) s' → Q () s') : wpAny (model X.prog X.w) A (setAttr (.ref a) f u) Q E s := by
  obtain ⟨mA, O, r, wi, _, ho⟩ := ins_get I.hok e
  have hz : (fs.map (·.1)).length ≤ sizeLine := by rw [List.length_map, sizeLine_eq]; omega
  refine set_map I.kIn O c.sa c.po n.taker c.hd wi hz fun h' O' sb => h _ ?_
  have hd : ∃ o, h'.get? dx = some o := let ⟨o, _, _, e', _⟩ := O'.ns; ⟨o, e'⟩
  refine I.write (x := a) (e := dx) (by rw [e]; exact True.intro) (.inr ho) (fun b q hb z => (sb.2 b hb).trans z) hd ?_
  refine ⟨by rw [upd_ne O.ne]; exact ho, ?_, O.ne, O'.obj, _, O'.ns, fun g => ?_, fun g hg => ?_⟩
  · have := length_putF f y fs; omega
  · show RelO ((putF f y fs).lookup g) (if g = f then some u else mA g)
    rw [lookup_putF]
    by_cases q : g = f
    · rw [if_pos q, if_pos q]; exact ry
    · rw [if_neg q, if_neg q]; exact r g
  · by_cases q : g = f
    · rw [q]; exact (keys_putF f y fs).1
    · refine (keys_putF f y fs).2 g (wi g fun z => hg ?_)
      show (if g = f then some u else mA g) = none
      rw [if_neg q]; exact z
theorem Inv.made (I : Inv X pins σ H s) : Inv X pins σ (upd (upd H s.heap.objs.size (.own (s.heap.objs.size + 1))) (s.heap.objs.size + 1) (.ins C s.heap.objs.size []))
    { s with heap := (s.heap.push PySem.W.emptyDict).push (PySem.W.instObj C s.heap.objs.size) } := by
  have e1 : (s.heap.push PySem.W.emptyDict).get? s.heap.objs.size = some PySem.W.emptyDict := Heap.get?_push_size s.heap rfl
  have e2 : ((s.heap.push PySem.W.emptyDict).push (PySem.W.instObj C s.heap.objs.size)).get? (s.heap.objs.size + 1) = some (PySem.W.instObj C s.heap.objs.size) := by
    have := Heap.get?_push_size (s.heap.push PySem.W.emptyDict) (o := PySem.W.instObj C s.heap.objs.size) rfl
    rwa [Heap.size_push] at this
  have e3 : (s.heap.push PySem.W.emptyDict).Ns s.heap.objs.size (fun _ => none) := ⟨PySem.W.emptyDict, #[], _, e1, rfl, (fun e he => absurd he (by simp)), fun _ => rfl⟩
  have I1 := I.laid (a := s.heap.objs.size) (o := .own (s.heap.objs.size + 1)) (h' := s.heap.push PySem.W.emptyDict) (t' := s.toks) (fun b u q => Heap.get?_push_of_some _ q) (Nat.le_refl _) ⟨_, e1⟩
  refine I1.laid (a := s.heap.objs.size + 1) (o := .ins C s.heap.objs.size []) (t' := s.toks) (fun b u q => Heap.get?_push_of_some _ q) (Nat.le_of_eq (Heap.size_push _ _)) ?_
  have ne : s.heap.objs.size ≠ s.heap.objs.size + 1 := Nat.ne_of_lt (Nat.lt_succ_self _)
  refine ⟨by rw [upd_ne ne, upd_same], Nat.zero_le _, ne, e2, fun _ => none, (Heap.Ns1.of_empty e3).at fun o q => Heap.get?_push_of_some _ q, fun _ => True.intro, fun y hy => absurd rfl hy⟩
theorem attr_of {prog : Program} {w : World} {env : Env} {e : Expr} {f : Str} {pos : Pos} {s : Shared} {Q : Value → Shared → Prop} (hb : attributeBase e f env (eval e env) = eval e env)
    (h : wpAny (model prog w) A (eval e env) (fun o s₁ => wpAny (model prog w) A (getAttr o f true) Q E s₁) E s) : wpAny (model prog w) A (eval (.Attribute e f pos) env) Q E s :=
  Attribute_any_ h (by rw [arm_eval_Attribute, hb])
end
def tFld (K : PySem.W.Frag) (ta : TE) (f : Str) : TE := fun σ H Q => ta σ H fun x H1 => ∃ a C dx fs v, x = .ref a ∧ H1 a = some (.ins C dx fs) ∧ Cls K C ∧ NoAttr K C f ∧ fs.lookup f = some v ∧ Q v H1
def sFld (K : PySem.W.Frag) (ta tv : TE) (f : Str) : TS := fun D σ H => tv σ H fun y H1 => ta σ H1 fun x H2 => ∃ a C dx fs, x = .ref a ∧ H2 a = some (.ins C dx fs) ∧ Cls K C ∧ NoAttr K C f ∧ fs.length < 1000 ∧
  D.nx σ (upd H2 a (.ins C dx (putF f y fs)))
section
variable {X : Cx} {o e value : Expr} {f : Str} {pos pos' tpos : Pos} {ta tv : TE}
theorem pe_fld (he : PE X e ta) (hb : attributeBase e f X.env (eval e X.env) = eval e X.env) : PE X (.Attribute e f pos) (tFld X.K ta f) := by
  intro pins s σ H Q I h
  refine attr_of hb (thn (he pins s σ H _ I h) fun u s1 ⟨x, H1, I1, rx, a, C, dx, fs, v, ex, ea, c, n, l, q⟩ => ?_)
  subst ex
  obtain rfl : u = Value.ref a := rx
  exact getattr_ok I1 ea c n l fun u' s2 I2 ru => ⟨v, H1, I2, ru, q⟩
theorem ps_fld (ha : PE X o ta) (hv : PE X value tv) (hs : swapsWith value (some (.Attribute o f pos')) pos.line X.env = pure false) : PS X (.Assign [.Attribute o f pos'] value pos) (sFld X.K ta tv f) := by
  intro pins s σ H D I h
  refine plainObj_wpAny_Assign_Attribute (thn (hv pins s σ H _ I h) fun u s1 ⟨y, H1, I1, ry, q⟩ => thn (ha pins s1 σ H1 _ I1 q) fun ov s2 ⟨x, H2, I2, rx, a, C, dx, fs, ex, ea, c, n, l, q2⟩ => ?_) hs
  subst ex
  obtain rfl : ov = Value.ref a := rx
  exact setattr_ok I2 ea c n l ry fun s3 I3 => ⟨σ, _, I3, q2⟩
end
section
variable {X : Cx} {pins : List (Addr × Obj)} {σ : St} {H : Hp} {s : Shared} {A : Around} {E : Value → Shared → Prop} {Q : Value → Shared → Prop} {c : Value} {b : Bool}
end
end L2
namespace L2
open PySem PySem.Spec PyProof.Rows
structure Room (k : Nat) (A : Around) : Prop where
  hd : A.handled = none
  dp : A.depth + 3 * k + 5 < recursionLimit
  un : A.units + 16 * k + 200 < cLine
theorem Room.mono {j k : Nat} {A : Around} (r : Room k A) (h : j ≤ k) : Room j A := ⟨r.hd, by have := r.dp; omega, by have := r.un; omega⟩
theorem Room.deeper {k : Nat} {A : Around} (r : Room (k + 1) A) (env : Env) : Room k (A.deeper env) :=
  ⟨r.hd, by have := r.dp; show A.depth + 1 + 3 * k + 5 < _; omega, by have := r.un; show A.units + 3 + 16 * k + 200 < _; omega⟩
theorem make_depth {A : Around} {C : Addr} {us : List Value} {kw : List (Str × Value)} : (A.under (.builtin "type.__call__" ⟨.ref C :: us, kw⟩)).depth = A.depth + 1 := by
  first | rfl | simp [Around.under, Code.weight, Code.isCreation, Code.isGuard, Code.isCaller, Code.frames, Code.isFrame, guardIds]
theorem make_units {A : Around} {C : Addr} {us : List Value} {kw : List (Str × Value)} : (A.under (.builtin "type.__call__" ⟨.ref C :: us, kw⟩)).units = A.units + 1 := by
  first | rfl | simp [Around.under, Code.cUnits, Code.frames, Code.isFrame]
theorem Room.make {k : Nat} {A : Around} (r : Room (k + 1) A) (C : Addr) (us : List Value) (kw : List (Str × Value)) : Room k (A.under (.builtin "type.__call__" ⟨.ref C :: us, kw⟩)) :=
  ⟨r.hd, by have := r.dp; rw [make_depth]; omega, by have := r.un; rw [make_units]; omega⟩
theorem Room.depth {k : Nat} {A : Around} (r : Room k A) : A.depth < recursionLimit := by have := r.dp; omega
theorem Room.units {k : Nat} {A : Around} (r : Room k A) : A.units + 64 < cLine := by have := r.un; omega
def tNil : TA := fun _ H Q => Q [] H
def tCons (ta : TE) (tr : TA) : TA := fun σ H Q => ta σ H fun x H1 => tr σ H1 fun xs H2 => Q (x :: xs) H2
section
variable {X : Cx} {e : Expr} {es : List Expr} {te : TE} {t : TA} {pos : Pos}
theorem pa_nil : PA X [] tNil := fun _ _ _ _ H Q I h => Calls.spliced_nil ⟨[], H, I, .nil, h⟩
theorem pa_cons (ha : PE X e te) (hr : PA X es t) (hs : starEach (e :: es) X.env = (false, eval e X.env) :: starEach es X.env := by rfl) : PA X (e :: es) (tCons te t) := by
  intro pos pins s σ H Q I h
  rw [hs]
  show wpAny _ _ (spliced ((false, eval e X.env) :: backTo pos (starEach es X.env))) _ _ s
  refine Calls.spliced_cons (thn (ha pins s σ H _ I h) fun u s1 ⟨x, H1, I1, r1, q1⟩ => ?_)
  exact thn (hr pos pins s1 σ H1 _ I1 q1) fun us s2 ⟨xs, H2, I2, r2, q2⟩ => ⟨x :: xs, H2, I2, .cons r1 r2, q2⟩
def tTup (t : TA) : TE := fun σ H Q => t σ H fun xs H1 => xs.length ≤ sizeLine ∧ ∀ p, H1 p = none → Q (.ref p) (upd H1 p (.tup xs))
def tLst (t : TA) : TE := fun σ H Q => t σ H fun xs H1 => xs.length ≤ sizeLine ∧ ∀ p, H1 p = none → Q (.ref p) (upd H1 p (.lst xs))
theorem pe_tup {x1} (h : PA X es t) : PE X (.Tuple es x1 pos) (tTup t) := by
  intro pins s σ H Q I hq
  refine wpAny_Tuple_spliced (thn (h pos pins s σ H _ I hq) fun us s1 ⟨xs, H1, I1, r, z, q⟩ => ⟨by rw [← r.length]; exact z, ?_⟩)
  have hf : H1 s1.heap.objs.size = none := I1.hok.fresh (Nat.le_refl _)
  refine ⟨.ref s1.heap.objs.size, upd H1 s1.heap.objs.size (.tup xs), I1.laid (t' := s1.toks) (fun b u e => Heap.get?_push_of_some _ e) (Nat.le_refl _) ?_, rfl, q _ hf⟩
  exact ⟨z, us, r, ⟨_, Heap.get?_push_size _ rfl, rfl, _, rfl⟩⟩
theorem pe_lst (h : PA X es t) : PE X (.List es pos) (tLst t) := by
  intro pins s σ H Q I hq
  refine wpAny_List_spliced (thn (h pos pins s σ H _ I hq) fun us s1 ⟨xs, H1, I1, r, z, q⟩ => ⟨by rw [← r.length]; exact z, ?_⟩)
  have hf : H1 s1.heap.objs.size = none := I1.hok.fresh (Nat.le_refl _)
  refine ⟨.ref s1.heap.objs.size, upd H1 s1.heap.objs.size (.lst xs), I1.laid (t' := s1.toks) (fun b u e => Heap.get?_push_of_some _ e) (Nat.le_refl _) ?_, rfl, q _ hf⟩
  exact ⟨z, us, 0, r, Heap.get?_push_size _ rfl⟩
end
abbrev Sp := List V → Hp → VK → XK → Prop
abbrev CXT := List Env → Hp → Shared → XK → Value → Shared → Prop
structure Env0 (P : Program) (w : World) (K : PySem.W.Frag) (mg : Str → Option Value) (base : Heap) (A : Around) (outer : List Env) (s : Shared) (H : Hp) : Prop where
  frames : A.frames = some outer
  mod : Mod K mg base
  bs : ∀ b o, base.get? b = some o → s.heap.get? b = some o ∧ H b = none
  bsz : base.objs.size ≤ s.heap.objs.size
  funs : s.heap.FunFrames base outer
  frf : ∀ b ∈ frs outer, H b = none
  hok : HOk P w H s.heap
  bare : AllBare s.gens
def CE (outer : List Env) (P : Program) (w : World) (H : Hp) (s : Shared) (Q : VK) (u : Value) (s' : Shared) : Prop :=
  ∃ v H', s'.os = s.os ∧ AllBare s'.gens ∧ Un (frs outer) [] H H' s.heap s'.heap ∧ HOk P w H' s'.heap ∧ RelV v u ∧ Q v H'
def CR (CX : CXT) (outer : List Env) (P : Program) (w : World) (H : Hp) (s : Shared) (Q : VK) (E : XK) (r : Result) (s' : Shared) : Prop :=
  match r with
  | .ok (.ret u) => CE outer P w H s Q u s'
  | .ok _ => False
  | .error e => CX outer H s E e s'
structure FnOk (P : Program) (w : World) (K : PySem.W.Frag) (mg : Str → Option Value) (base : Heap) (CX : CXT) (k : Nat) (f : Addr) (fd : FuncData) (ps : List Str) (sp : Sp) : Prop where
  len : ∀ vs H Q E, sp vs H Q E → vs.length = ps.length
  run : ∀ (A : Around) (outer : List Env) (s : Shared) (H : Hp) (args : Args) (us : List Value) (vs : List V) (Q : VK) (E : XK), Room k A → Env0 P w K mg base A outer s H → BindsTo s fd args (ps.zip us) → Vals vs us → sp vs H Q E →
    codeAny (model P w) A (.call (.ref f) args) (CR CX outer P w H s Q E) s
theorem Env0.make {P : Program} {w : World} {K : PySem.W.Frag} {mg : Str → Option Value} {base : Heap} {A : Around} {outer : List Env} {s : Shared} {H : Hp} (e : Env0 P w K mg base A outer s H) (C : Addr) (us : List Value) (kw : List (Str × Value)) :
    Env0 P w K mg base (A.under (.builtin "type.__call__" ⟨.ref C :: us, kw⟩)) outer s H := ⟨by first | exact e.frames | (simpa [Around.under, Code.envs, Code.isFrame, pushEnvs] using e.frames), e.mod, e.bs, e.bsz, e.funs, e.frf, e.hok, e.bare⟩
section
variable {X : Cx} {pins : List (Addr × Obj)} {σ : St} {H : Hp} {s s' : Shared}
theorem Inv.env0 (I : Inv X pins σ H s) : Env0 X.prog X.w X.K X.mg X.base X.A X.stack s H :=
  ⟨I.ok.frames, I.ok.mod, I.bs, Nat.le_trans I.ok.bsz I.sz, I.stack, I.stkFree, I.hok, I.bare⟩
theorem Inv.after {Q : VK} {u : Value} (I : Inv X pins σ H s) (h : CE X.stack X.prog X.w H s Q u s') : EP X pins σ Q u s' := by
  obtain ⟨v, H', os, bare, un, hok, r, q⟩ := h
  obtain ⟨hh, g, d, t, os'⟩ := s'
  obtain rfl : os' = s.os := os
  exact ⟨v, H', I.call (h' := hh) (g' := g) (d' := d) (t' := t) (ch := []) un hok bare (fun b z => absurd z (by simp)), r, q⟩
end
def tCall (sp : Sp) (dvs : List V) (E : XK) (t : TA) : TE := fun σ H Q => t σ H fun vs H1 => sp (vs ++ dvs) H1 Q E
def tMeth (C : Addr) (m : Str) (sp : Sp) (dvs : List V) (E : XK) (ta : TE) (t : TA) : TE := fun σ H Q => ta σ H fun x H1 => ∃ a dx fs, x = .ref a ∧ H1 a = some (.ins C dx fs) ∧ fs.lookup m = none ∧
  t σ H1 fun vs H2 => sp (x :: (vs ++ dvs)) H2 Q E
def tMake (C : Addr) (sp : Sp) (dvs : List V) (E : XK) (t : TA) : TE := fun σ H Q => t σ H fun vs H1 => ∀ x dx, H1 x = none → H1 dx = none → dx ≠ x →
  sp (.ref x :: (vs ++ dvs)) (upd (upd H1 dx (.own x)) x (.ins C dx [])) (fun v H2 => v = .non ∧ Q (.ref x) H2) E
def Binds (K : PySem.W.Frag) (fd : FuncData) (ps : List Str) (ds : List Value) : Prop :=
  ∀ (s : Shared) (us : List Value), K.In s.heap → (us ++ ds).length = ps.length → BindsTo s fd ⟨us, []⟩ (ps.zip (us ++ ds))
theorem Binds.all {K : PySem.W.Frag} {fd : FuncData} {ps : List Str} (h : ∀ us : List Value, us.length = ps.length → bindArgs fd ⟨us, []⟩ = pure (ps.zip us)) : Binds K fd ps [] := fun s us _ hl => by
  rw [List.append_nil] at hl ⊢
  exact .of_eq (h us hl)
def Passes (CX : CXT) (X : Cx) (E : XK) : Prop := ∀ (pins : List (Addr × Obj)) (σ : St) (H : Hp) (s : Shared) (e : Value) (s' : Shared), Inv X pins σ H s → CX X.stack H s E e s' → X.xe e s'
section
variable {X : Cx} {CX : CXT} {k : Nat} {f C : Addr} {fd : FuncData} {ps : List Str} {sp : Sp} {dvs : List V} {ds : List Value} {E : XK} {x m : Str} {p pos apos : Pos} {e o : Expr} {es : List Expr} {ta : TE} {t : TA}
theorem run_fn {pins : List (Addr × Obj)} {σ : St} {H : Hp} {s : Shared} {Q : VK} {us : List Value} {vs : List V} (F : FnOk X.prog X.w X.K X.mg X.base CX k f fd ps sp) (hr : Room k X.A) (hb : Binds X.K fd ps ds) (hd : Vals dvs ds) (hx : Passes CX X E)
    (I : Inv X pins σ H s) (r : Vals vs us) (h : sp (vs ++ dvs) H Q E) : wpAny (model X.prog X.w) X.A (call (.ref f) us) (EP X pins σ Q) X.xe s := by
  have r2 : Vals (vs ++ dvs) (us ++ ds) := r.append hd
  have hl : (us ++ ds).length = ps.length := by rw [← r2.length]; exact F.len _ _ _ _ h
  refine wpAny_call (codeAny_mono (F.run X.A X.stack s H ⟨us, []⟩ (us ++ ds) (vs ++ dvs) Q E hr I.env0 (hb s us I.kIn hl) r2 h) fun r s' hq => ?_)
  cases r with
  | error e => exact hx pins σ H s e s' I hq
  | ok fl =>
    cases fl with
    | ret u => exact I.after hq
    | next => exact False.elim hq
    | brk => exact False.elim hq
    | cont => exact False.elim hq
theorem pe_call (F : FnOk X.prog X.w X.K X.mg X.base CX k f fd ps sp) (hr : Room k X.A) (hg : Gl X x) (hm : X.mg x = some (.ref f)) (hk : PySem.W.keepIn X.K (.ref f) = true) (hb : Binds X.K fd ps ds) (hd : Vals dvs ds) (hx : Passes CX X E)
    (ha : PA X (e :: es) t) (hdb : (x == ("__debug__" : Str)) = false := by decide) (he : starEach (e :: es) X.env = (false, eval e X.env) :: starEach es X.env := by rfl) (hpl : (backTo pos (starEach es X.env)).any (·.1) = false := by rfl) :
    PE X (.Call (.Name x p) (e :: es) [] pos) (tCall sp dvs E t) := by
  intro pins s σ H Q I h
  refine wpAny_Call_Name_kw (ld_glob I hg hm ?_ hdb)
  refine PySem.W.callWith_K (h₀ := X.base) I.ok.mod.kin hk (thn (ha pos pins s σ H _ I h) fun us s1 ⟨vs, H1, I1, r, q⟩ => ⟨I1.kIn, ?_⟩) he hpl
  exact run_fn F hr hb hd hx I1 r q
theorem pe_meth {pl : Sem Bool} (he : PE X o ta) (c : Cls X.K C) (hm : Meth X.K C m f) (F : FnOk X.prog X.w X.K X.mg X.base CX k f fd ps sp) (hr : Room k X.A) (hb : Binds X.K fd ps ds) (hd : Vals dvs ds) (hx : Passes CX X E) (ha : PA X (e :: es) t)
    (hst : starEach (e :: es) X.env = (false, eval e X.env) :: starEach es X.env := by rfl) (hpl : (backTo pos (starEach es X.env)).any (·.1) = false := by rfl)
    (ht : eval (.Call (.Attribute o m apos) (e :: es) [] pos) X.env = (do
      let ov ← eval o X.env
      standAt apos.atName
      let (f, first) ← holding [ov] (getMethod ov m pl)
      callWith pos f first (backTo pos (starEach (e :: es) X.env)) (backToKw pos (keywordEach [] X.env))) := by rfl) :
    PE X (.Call (.Attribute o m apos) (e :: es) [] pos) (tMeth C m sp dvs E ta t) := by
  intro pins s σ H Q I h
  refine PySem.W.methodCall_KW (pl := pl) (thn (he pins s σ H _ I h) fun u s1 ⟨x, H1, I1, rx, a, dx, fs, ex, ea, l, q⟩ => ?_) ht
  subst ex
  obtain rfl : u = Value.ref a := rx
  refine getmeth_ok I1 ea c hm l ?_
  refine PySem.W.callWith_K (first := [.ref a]) (h₀ := X.base) I.ok.mod.kin hm.kp (thn (ha pos pins s1 σ H1 _ I1 q) fun us s2 ⟨vs, H2, I2, r, q2⟩ => ⟨I2.kIn, ?_⟩) hst hpl
  exact run_fn (us := .ref a :: us) (vs := .ref a :: vs) F hr hb hd hx I2 (.cons rfl r) q2
theorem pe_meth0 {pl : Sem Bool} (he : PE X o ta) (c : Cls X.K C) (hm : Meth X.K C m f) (F : FnOk X.prog X.w X.K X.mg X.base CX k f fd ps sp) (hr : Room k X.A) (hb : Binds X.K fd ps ds) (hd : Vals dvs ds) (hx : Passes CX X E)
    (ht : eval (.Call (.Attribute o m apos) [] [] pos) X.env = (do
      let ov ← eval o X.env
      standAt apos.atName
      let (f, first) ← holding [ov] (getMethod ov m pl)
      callWith pos f first (backTo pos (starEach [] X.env)) (backToKw pos (keywordEach [] X.env))) := by rfl) :
    PE X (.Call (.Attribute o m apos) [] [] pos) (tMeth C m sp dvs E ta tNil) := by
  intro pins s σ H Q I h
  refine PySem.W.methodCall_KW (pl := pl) (thn (he pins s σ H _ I h) fun u s1 ⟨x, H1, I1, rx, a, dx, fs, ex, ea, l, q⟩ => ?_) ht
  subst ex
  obtain rfl : u = Value.ref a := rx
  refine getmeth_ok I1 ea c hm l ?_
  exact PySem.W.callWith_K0 (first := [.ref a]) I1.kIn hm.kp (run_fn (us := [.ref a]) (vs := [.ref a]) F hr hb hd hx I1 (.cons rfl .nil) q)
structure Mk (K : PySem.W.Frag) (C f : Addr) : Prop where
  makes : PySem.W.makesIn K C = true
  init : PySem.W.findIn K (.ref C) "__init__" = some (some (.ref f))
  fn : PySem.W.isFn K (.ref f) = true
  kp : PySem.W.keepIn K (.ref C) = true
theorem run_make {pins : List (Addr × Obj)} {σ : St} {H : Hp} {s : Shared} {Q : VK} {us : List Value} {vs : List V} (M : Mk X.K C f) (F : FnOk X.prog X.w X.K X.mg X.base CX k f fd ps sp) (hr : Room (k + 1) X.A) (hb : Binds X.K fd ps ds) (hd : Vals dvs ds)
    (hx : Passes CX X E) (I : Inv X pins σ H s) (r : Vals vs us)
    (h : ∀ x dx, H x = none → H dx = none → dx ≠ x → sp (.ref x :: (vs ++ dvs)) (upd (upd H dx (.own x)) x (.ins C dx [])) (fun v H2 => v = .non ∧ Q (.ref x) H2) E) :
    wpAny (model X.prog X.w) X.A (call (.ref C) us) (EP X pins σ Q) X.xe s := by
  have hq := h (s.heap.objs.size + 1) s.heap.objs.size (I.hok.fresh (Nat.le_succ _)) (I.hok.fresh (Nat.le_refl _)) (Nat.ne_of_lt (Nat.lt_succ_self _))
  have I2 := Inv.made (C := C) I
  have r2 : Vals (V.ref (s.heap.objs.size + 1) :: (vs ++ dvs)) (Value.ref (s.heap.objs.size + 1) :: (us ++ ds)) := .cons rfl (r.append hd)
  have hl : (Value.ref (s.heap.objs.size + 1) :: us ++ ds).length = ps.length := by
    have e := r2.length
    rw [F.len _ _ _ _ hq] at e
    exact e.symm
  refine wpAny_call (make_map (f := f) I.kIn M.makes M.init (beq_iff_eq.mp M.fn) (codeAny_mono (F.run _ X.stack _ _ ⟨Value.ref (s.heap.objs.size + 1) :: us, []⟩ (Value.ref (s.heap.objs.size + 1) :: (us ++ ds)) _ _ E (hr.make C us [])
    (I2.env0.make C us []) (hb _ (Value.ref (s.heap.objs.size + 1) :: us) I2.kIn hl) r2 hq) fun r s' hq' => ?_))
  cases r with
  | error e => exact hx pins σ _ _ e s' I2 hq'
  | ok fl =>
    cases fl with
    | ret u =>
      obtain ⟨v, H', I3, rv, ev, q3⟩ := I2.after hq'
      subst ev
      exact ⟨rv, ⟨V.ref (s.heap.objs.size + 1), H', I3, rfl, q3⟩⟩
    | next => exact False.elim hq'
    | brk => exact False.elim hq'
    | cont => exact False.elim hq'
theorem pe_make0 (M : Mk X.K C f) (F : FnOk X.prog X.w X.K X.mg X.base CX k f fd ps sp) (hr : Room (k + 1) X.A) (hg : Gl X x) (hm : X.mg x = some (.ref C)) (hb : Binds X.K fd ps ds) (hd : Vals dvs ds) (hx : Passes CX X E)
    (hdb : (x == ("__debug__" : Str)) = false := by decide) : PE X (.Call (.Name x p) [] [] pos) (tMake C sp dvs E tNil) := by
  intro pins s σ H Q I h
  refine wpAny_Call_Name_kw (ld_glob I hg hm ?_ hdb)
  exact PySem.W.callWith_K0 I.kIn M.kp (run_make (us := []) M F hr hb hd hx I .nil h)
end
section
variable {X : Cx} {CX : CXT} {k : Nat} {f C : Addr} {fd : FuncData} {ps ks : List Str} {sp : Sp} {E : XK} {x m : Str} {p pos apos kpos : Pos} {e o : Expr} {es : List Expr} {kws : List Keyword} {te ta : TE} {t tk : TA} {nm : Option Str}
variable {g : List Value → List Value → List Value} {gV : List V → List V → List V}
end
structure FnScope (N P : List Str) (sc : Scope) : Prop where
  kind : sc.kind = .function
  co : sc.isCoroutine = false
  gen : sc.isGenerator = false
  nd : N.Nodup
  pre : N.take P.length = P
  par : ∀ x ∈ P, sc.names.lookup x = some .local ∨ sc.names.lookup x = some .cell
  nofree : ∀ y ∈ sc.names, y.2 ≠ .free
theorem bindL_out {kindOf : Str → Option NameKind} {x : Str} : ∀ {binds : List (Str × Value)} {m : Str → Option Value}, (∀ v, (x, v) ∉ binds) → bindL kindOf binds m x = m x
  | [], _, _ => rfl
  | (n, v) :: r, m, h => by
    unfold bindL
    rw [bindL_out fun w hw => h w (List.mem_cons_of_mem _ hw)]
    split
    · have : x ≠ n := by rintro rfl; exact h v List.mem_cons_self
      simp [this]
    · rfl
theorem bindC_out {kindOf : Str → Option NameKind} {x : Str} : ∀ {binds : List (Str × Value)} {m : Str → Option Value}, (∀ v, (x, v) ∉ binds) → bindC kindOf binds m x = m x
  | [], _, _ => rfl
  | (n, v) :: r, m, h => by
    unfold bindC
    rw [bindC_out fun w hw => h w (List.mem_cons_of_mem _ hw)]
    split
    · rfl
    · have : x ≠ n := by rintro rfl; exact h v List.mem_cons_self
      simp [this]
theorem bindL_get {kindOf : Str → Option NameKind} {x : Str} {v : Value} : ∀ {P : List Str} {vs : List Value} {i : Nat} {m : Str → Option Value}, P.Nodup → P[i]? = some x → vs[i]? = some v → kindOf x = some .local →
    bindL kindOf (P.zip vs) m x = some v
  | [], _, _, _, _, h, _, _ => by simp at h
  | _ :: _, [], _, _, _, _, h, _ => by simp at h
  | p :: P, w :: vs, 0, m, nd, h1, h2, hk => by
    simp at h1 h2; subst h1; subst h2
    show bindL kindOf ((p, w) :: P.zip vs) m p = _
    unfold bindL
    rw [bindL_out fun v hv => (List.nodup_cons.mp nd).1 (List.of_mem_zip hv).1, if_pos hk]
    simp
  | p :: P, w :: vs, i + 1, m, nd, h1, h2, hk => by
    show bindL kindOf ((p, w) :: P.zip vs) m x = _
    unfold bindL
    exact bindL_get (i := i) (List.nodup_cons.mp nd).2 (by simpa using h1) (by simpa using h2) hk
theorem bindC_get {kindOf : Str → Option NameKind} {x : Str} {v : Value} : ∀ {P : List Str} {vs : List Value} {i : Nat} {m : Str → Option Value}, P.Nodup → P[i]? = some x → vs[i]? = some v → kindOf x ≠ some .local →
    bindC kindOf (P.zip vs) m x = some v
  | [], _, _, _, _, h, _, _ => by simp at h
  | _ :: _, [], _, _, _, _, h, _ => by simp at h
  | p :: P, w :: vs, 0, m, nd, h1, h2, hk => by
    simp at h1 h2; subst h1; subst h2
    show bindC kindOf ((p, w) :: P.zip vs) m p = _
    unfold bindC
    rw [bindC_out fun v hv => (List.nodup_cons.mp nd).1 (List.of_mem_zip hv).1, if_neg hk]
    simp
  | p :: P, w :: vs, i + 1, m, nd, h1, h2, hk => by
    show bindC kindOf ((p, w) :: P.zip vs) m x = _
    unfold bindC
    exact bindC_get (i := i) (List.nodup_cons.mp nd).2 (by simpa using h1) (by simpa using h2) hk
def start (N : List Str) (vs : List V) : St := vs.map some ++ List.replicate (N.length - vs.length) none
def cxOf (CX : CXT) (P : Program) (w : World) (K : PySem.W.Frag) (mg : Str → Option Value) (base : Heap) (N : List Str) (qual : Str) (scope : Scope) (f : Addr) (cd : Value) (A : Around) (outer : List Env) (s : Shared) (H : Hp) (E : XK) : Cx where
  prog := P
  w := w
  K := K
  mg := mg
  base := base
  A := A.deeper (envOfC qual scope s.heap.objs.size f cd)
  N := N
  s_0 := s
  H_0 := H
  env := envOfC qual scope s.heap.objs.size f cd
  outer := outer
  stack := envOfC qual scope s.heap.objs.size f cd :: outer
  ex := []
  calm := true
  fn := fun _ => true
  pn := []
  xe := fun e s' => wpAny (model P w) (A.deeper (envOfC qual scope s.heap.objs.size f cd)) (leaving (envOfC qual scope s.heap.objs.size f cd) e) (fun _ s'' => CX outer H s E e s'') (fun e' s'' => CX outer H s E e' s'') s'
theorem cell_has {sc : Scope} {n : Nat} {x : Str} (h : sc.names.lookup x = some .cell) : ∃ c, (cellsFrom n sc.names []).lookup x = some c := by
  have q := PySem.W.cellsFrom_some sc.names n [] (.inl h)
  exact Option.isSome_iff_exists.mp q
theorem inv_start {CX : CXT} {P : Program} {w : World} {K : PySem.W.Frag} {mg : Str → Option Value} {base : Heap} {N ps : List Str} {qual : Str} {scope : Scope} {f : Addr} {cd : Value} {A : Around} {outer : List Env} {s s1 : Shared} {H : Hp} {E : XK} {us : List Value} {vs : List V}
    (S : FnScope N ps scope) (hd : A.handled = none) (e0 : Env0 P w K mg base A outer s H) (hl : vs.length = ps.length) (r : Vals vs us)
    (x : InCallC s s.heap.objs.size (bindL (envOfC qual scope s.heap.objs.size f cd).kindOf (ps.zip us) fun _ => none) (cellsFrom (s.heap.objs.size + 1) scope.names []) (bindC (envOfC qual scope s.heap.objs.size f cd).kindOf (ps.zip us) fun _ => none) s1) :
    Inv (cxOf CX P w K mg base N qual scope f cd A outer s H E) [] (start N vs) H s1 := by
  have hpl : ps.length ≤ N.length := by have := congrArg List.length S.pre; rw [List.length_take] at this; omega
  obtain ⟨h1, tk, rfl, hk⟩ := x.done
  have noA : ∀ b : Addr, b ∉ (cxOf CX P w K mg base N qual scope f cd A outer s H E).ex := fun b z => absurd (show b ∈ ([] : List Addr) from z) (by simp)
  refine ⟨⟨e0.mod, S.kind, rfl, rfl, Nat.le_refl _, fun y z c h1 h2 => ?_, fun y hy => ?_, fun y c _ h => ?_, fun _ => hd, Around.frames_deeper e0.frames, .inr ⟨rfl, rfl⟩, fun b z => absurd z (noA b), e0.bs, e0.bsz, fun b _ _ => noA b, fun b z => absurd z (noA b), e0.funs, e0.frf⟩,
    rfl, e0.bare, Un.kept hk, ⟨_, x.toInCall.ns, fun i y v h1 h2 h3 => ?_⟩, fun y c h => ⟨_, x.cell y c h⟩, e0.hok.fresh (Nat.le_refl _), fun y c h => ?_, fun p hp => absurd (show p ∈ ([] : List (Addr × Obj)) from hp) (by simp), e0.hok.kept hk, ?_⟩
  · exact name_of_addr x.apart (PySem.mem_of_lookup h1) (PySem.mem_of_lookup h2)
  · have hy : scope.names.lookup y = some .cell ∨ scope.names.lookup y = some .free := hy
    rcases hy with hy | hy
    · exact cell_has hy
    · exact absurd rfl (S.nofree _ (PySem.mem_of_lookup hy))
  · exact Nat.le_of_lt (x.above y c (PySem.mem_of_lookup h))
  · have hi : i < vs.length := by
      unfold start at h2
      by_cases hi : i < vs.length
      · exact hi
      · rw [List.getElem?_append_right (by simpa using hi)] at h2
        rw [List.getElem?_replicate] at h2
        split at h2 <;> cases h2
    have ha : vs[i]? = some v := by
      unfold start at h2
      rw [List.getElem?_append_left (by simpa using hi), List.getElem?_map] at h2
      cases e : vs[i]? with
      | none => rw [e] at h2; cases h2
      | some a => rw [e] at h2; cases h2; rfl
    obtain ⟨u, hu, rv⟩ := r.get ha
    have hp : ps[i]? = some y := by
      rw [← S.pre, List.getElem?_take_of_lt (by omega)]; exact h1
    have ndP : ps.Nodup := by rw [← S.pre]; exact S.nd.sublist (List.take_sublist _ _)
    refine ⟨u, rv, ?_⟩
    rcases S.par y (List.mem_of_getElem? hp) with k | k
    · exact .inl ⟨k, bindL_get ndP hp hu k⟩
    · obtain ⟨c, e⟩ := cell_has (n := s.heap.objs.size + 1) k
      refine .inr ⟨.inl k, c, e, ?_⟩
      have q := x.cell y c e
      rw [bindC_get ndP hp hu (by show scope.names.lookup y ≠ _; rw [k]; decide)] at q
      exact q
  · exact e0.hok.fresh (Nat.le_of_lt (x.above y c (PySem.mem_of_lookup h)))
  · unfold start
    show _ = N.length
    rw [List.length_append, List.length_map, List.length_replicate]
    omega
theorem fn_of {CX : CXT} {P : Program} {w : World} {K : PySem.W.Frag} {mg : Str → Option Value} {base : Heap} {k : Nat} {f : Addr} {name qual : Str} {params : Arguments} {body : List Stmt} {scope : Scope} {dV kV doc pm cdv ct oc : Value} {an od : Option Addr}
    {osl : Array (Option Value)} {N ps : List Str} {sp : Sp} (lk : K.lookup f = some ⟨oc, od, .func (PySem.W.fnOf name qual params body scope dV kV doc pm an cdv ct), osl⟩) (hcd : PySem.W.codeIn K cdv qual = true) (S : FnScope N ps scope)
    (len : ∀ vs H Q E, sp vs H Q E → vs.length = ps.length)
    (hbody : ∀ (A : Around) (outer : List Env) (s : Shared) (H : Hp) (vs : List V) (Q : VK) (E : XK), Room k (A.deeper (envOfC qual scope s.heap.objs.size f cdv)) → sp vs H Q E →
      ∃ t, PSs (cxOf CX P w K mg base N qual scope f cdv A outer s H E) body t ∧ t { nx := fun _ H' => Q .non H', rt := Q } (start N vs) H) :
    FnOk P w K mg base CX (k + 1) f (PySem.W.fnOf name qual params body scope dV kV doc pm an cdv ct) ps sp := by
  refine ⟨len, fun A outer s H args us vs Q E hr e0 hb r hsp => ?_⟩
  have hl := len _ _ _ _ hsp
  have KX : K.In s.heap := e0.mod.kin.keeps fun b o e => (e0.bs b o e).1
  have lim : s.heap.NoLimit := e0.mod.nolimit.keeps fun b o e => (e0.bs b o e).1
  have hkind : ∀ y ∈ ps.zip us, scope.names.lookup y.1 = some .local ∨ (scope.names.lookup y.1 = some .cell ∧ ((cellsFrom (s.heap.objs.size + 1) scope.names []).lookup y.1).isSome = true) := fun ⟨n, v⟩ hy => by
    rcases S.par n (List.of_mem_zip hy).1 with q | q
    · exact .inl q
    · exact .inr ⟨q, PySem.W.cellsFrom_some _ _ _ (.inl q)⟩
  refine codeAny_call_function hr.depth (KX _ _ lk) rfl S.co S.gen rfl (PySem.W.codeRec_of KX hcd) (hb _ _ _ _ ?_)
  refine wpAny_newFunctionEnv_cells S.kind hkind fun env he s1 x => ?_
  subst he
  refine ⟨lim.keeps x.toInCall.keep, codeAny_func ?_⟩
  obtain ⟨t, ht, hq⟩ := hbody A outer s H vs Q E (hr.deeper _) hsp
  have I : Inv (cxOf CX P w K mg base N qual scope f cdv A outer s H E) [] (start N vs) H s1 := inv_start S hr.hd e0 hl r x
  refine wpAny_mono (ht [] s1 (start N vs) H _ I hq) (fun fl s' hs => ?_) fun e s' hs => hs
  have fin : ∀ {σ' : St} {H' : Hp} {v : V} {u : Value}, Inv (cxOf CX P w K mg base N qual scope f cdv A outer s H E) [] σ' H' s' → RelV v u → Q v H' → CE outer P w H s Q u s' :=
    fun {σ' H' v u} J rv q => ⟨v, H', J.os, J.bare, J.base, J.hok, rv, q⟩
  cases fl with
  | ret u =>
    obtain ⟨v, σ', H', J, rv, q⟩ := hs
    exact fin J rv q
  | next =>
    obtain ⟨σ', H', J, q⟩ := hs
    exact fin (v := V.non) (u := Value.none) J rfl q
  | brk =>
    obtain ⟨_, _, _, q⟩ := hs
    exact False.elim q
  | cont =>
    obtain ⟨_, _, _, q⟩ := hs
    exact False.elim q
end L2
namespace L2
open PySem PySem.Spec PyProof.Rows
section
variable {X : Cx} {x : Str} {p pos : Pos} {e : Expr} {es : List Expr} {t : TA} {id T : String} {r : List V → Hp → VK → Prop}
def tCB (r : List V → Hp → VK → Prop) (t : TA) : TE := fun σ H Q => t σ H fun vs H1 => r vs H1 Q
theorem pe_callB (hc : CallR X (.builtin id) r) (hg : Gl X x) (hm : X.mg x = none) (hv : bootBuiltins x = some (.builtin id)) (ha : PA X (e :: es) t) (hn : x ≠ "__name__" := by decide) (hdb : (x == ("__debug__" : Str)) = false := by decide)
    (he : starEach (e :: es) X.env = (false, eval e X.env) :: starEach es X.env := by rfl) (hpl : (backTo pos (starEach es X.env)).any (·.1) = false := by rfl) : PE X (.Call (.Name x p) (e :: es) [] pos) (tCB r t) := by
  intro pins s σ H Q I h
  refine wpAny_Call_Name_kw (ld_blt I hg hm hv ?_ hn hdb)
  exact PyProof.Rows.callWith_builtin1 (thn (ha pos pins s σ H _ I h) fun us s1 ⟨vs, H1, I1, r1, q1⟩ => hc pins s1 σ H1 vs us Q I1 r1 q1) he hpl
theorem pe_callTy (hc : CallR X (.type T) r) (hg : Gl X x) (hm : X.mg x = none) (hv : bootBuiltins x = some (.type T)) (ha : PA X (e :: es) t) (hn : x ≠ "__name__" := by decide) (hdb : (x == ("__debug__" : Str)) = false := by decide)
    (he : starEach (e :: es) X.env = (false, eval e X.env) :: starEach es X.env := by rfl) (hpl : (backTo pos (starEach es X.env)).any (·.1) = false := by rfl) : PE X (.Call (.Name x p) (e :: es) [] pos) (tCB r t) := by
  intro pins s σ H Q I h
  refine wpAny_Call_Name_kw (ld_blt I hg hm hv ?_ hn hdb)
  exact PyProof.Rows.callWith_type1 (thn (ha pos pins s σ H _ I h) fun us s1 ⟨vs, H1, I1, r1, q1⟩ => hc pins s1 σ H1 vs us Q I1 r1 q1) he hpl
end
end L2
namespace HT
open PySem PyProof.Rows
def lexLt : List Int → List Int → Bool
  | [], [] => false
  | [], _ :: _ => true
  | _ :: _, [] => false
  | x :: xs, y :: ys => if x = y then lexLt xs ys else decide (x < y)
theorem lexLt_cons (x y : Int) (xs ys : List Int) : lexLt (x :: xs) (y :: ys) = if x = y then lexLt xs ys else decide (x < y) := rfl
theorem lexLt_nil_nil : lexLt [] [] = false := rfl
theorem lexLt_nil_cons (y : Int) (ys : List Int) : lexLt [] (y :: ys) = true := rfl
theorem lexLt_cons_nil (x : Int) (xs : List Int) : lexLt (x :: xs) [] = false := rfl
theorem eqAt_int (A : Around) (s : Shared) (a : Int) (t : Tok) (c : Int) (u : Tok) : ∃ e, SeqAt.EqAt A s (.int a t) (.int c u) e ∧ (e = true ↔ a = c) :=
  ⟨(a == c), SeqAt.EqAt.int_int a t c u, by simp⟩
theorem rcLt_int (A : Around) (s : Shared) (a : Int) (t : Tok) (c : Int) (u : Tok) (prog : Program) (w : World) (E : Value → Shared → Prop) (Q : Value → Shared → Prop) (h : Q (.bool (decide (a < c))) s) :
    wpAny (model prog w) A (richCompare .Lt (.int a t) (.int c u)) Q E s :=
  (PyProof.Rows.lt_int h : wpAny (model prog w) A (compareOp .Lt (.int a t) (.int c u)) Q E s)
section
open PySem.SeqAt
open PySem.AutoSeq1 (wpAny_loadPart')
open PySem.MeetsSeq PySem.MeetsSeq2 PySem.MeetsSeq3
theorem tuple_lt_ints (l b : Addr) (items items2 : Array Value) (n n2 : Nat) (dd dd2 : Option Addr) (sl sl2 : Array (Option Value)) (ns ms : List Int) (hi : IntsAre items.toList ns) (hj : IntsAre items2.toList ms) :
    Meets (Builtin.«tuple.__lt__» ⟨[.ref l, .ref b], []⟩)
      (fun _ R s => s.heap.get? l = some { cls := .type "tuple", dict := dd, data := .seq items n, slots := sl } ∧ s.heap.get? b = some { cls := .type "tuple", dict := dd2, data := .seq items2 n2, slots := sl2 } ∧
        R (.ok (.ret (.bool (lexLt ns ms)))) s) :=
  .of_wp fun prog w A R s h => by
    obtain ⟨hp, g, d, tk, os⟩ := s; obtain ⟨hl, hb, h⟩ := h
    have f2 := AutoSeq1.sub_tuple_tuple
    have z1 : items.size = ns.length := by rw [← hi.length]; simp
    have z2 : items2.size = ms.length := by rw [← hj.length]; simp
    wp_walk using wpAny_loadPart' hl, wpAny_loadPart' hb, wpAny_forIn_list _ (fun rest b s' => b.1 = none ∧ s' = ⟨hp, g, d, tk, os⟩ ∧ ∃ (vs ws : List Value) (ns' ms' : List Int), rest = vs.zip ws ∧
      IntsAre vs ns' ∧ IntsAre ws ms' ∧ ns'.length + items2.size = ms'.length + items.size ∧ R (.ok (.ret (.bool (lexLt ns' ms')))) ⟨hp, g, d, tk, os⟩) _
    case turn =>
      rintro ⟨y, x⟩ rest b s' ⟨hb', rfl, vs, ws, ns', ms', hz, hvi, hwi, hlen, hR⟩
      cases hvi with
      | nil => rw [List.zip_nil_left] at hz; cases hz
      | cons a t hvi' =>
        cases hwi with
        | nil => rw [List.zip_nil_right] at hz; cases hz
        | cons c u hwi' =>
          rw [List.zip_cons_cons] at hz
          injection hz with hyx hrest
          injection hyx with hy hx
          subst hy hx
          rw [lexLt_cons] at hR
          simp only [List.length_cons] at hlen
          obtain ⟨e, he, hiff⟩ := eqAt_int A.in1 ⟨hp, g, d, tk, os⟩ a t c u
          refine wpAny_bind (he prog w _ _ ?_)
          cases e with
          | true =>
            rw [if_pos (hiff.mp rfl)] at hR
            wp_walk
            exact ⟨rfl, rfl, _, _, _, _, hrest, hvi', hwi', by omega, hR⟩
          | false =>
            rw [if_neg (fun q => absurd (hiff.mpr q) Bool.false_ne_true)] at hR
            have hri := rcLt_int A.in1 ⟨hp, g, d, tk, os⟩ a t c u prog w
            wp_walk using hri
            exact ⟨_, rfl, by simpa using hR⟩
    case fin =>
      rintro ⟨b1, b2⟩ s' ⟨hb', rfl, vs, ws, ns', ms', hz, hvi, hwi, hlen, hR⟩
      simp only at hb'
      subst hb'
      have hv : lexLt ns' ms' = decide (items.size < items2.size) := by
        cases hvi with
        | nil =>
          cases hwi with
          | nil =>
            simp only [List.length_nil] at hlen
            rw [lexLt_nil_nil]
            exact (decide_eq_false (by omega)).symm
          | cons c u hw =>
            simp only [List.length_nil, List.length_cons] at hlen
            rw [lexLt_nil_cons]
            exact (decide_eq_true (by omega)).symm
        | cons a t hv =>
          cases hwi with
          | nil =>
            simp only [List.length_nil, List.length_cons] at hlen
            rw [lexLt_cons_nil]
            exact (decide_eq_false (by omega)).symm
          | cons c u hw =>
            rw [List.zip_cons_cons] at hz
            cases hz
      rw [hv] at hR
      wp_walk
      exact ⟨_, rfl, by simpa [Builtin.Tuple.tupleCompareSizes] using hR⟩
    case h =>
      exact ⟨rfl, rfl, items.toList, items2.toList, ns, ms, rfl, hi, hj, by omega, h⟩
end
section
variable {prog : Program} {w : World} {A : Around} {E : Value → Shared → Prop} {s : Shared}
theorem lt_tupInts {l b : Addr} {items items2 : Array Value} {ns ms : List Int} {Q : Value → Shared → Prop} (hl : IsTup s.heap l items) (hb : IsTup s.heap b items2) (hi : IntsAre items.toList ns) (hj : IntsAre items2.toList ms)
    (hu : A.units < cLine) (h : Q (.bool (lexLt ns ms)) s) : wpAny (model prog w) A (compareOp .Lt (.ref l) (.ref b)) Q E s := by
  obtain ⟨⟨cls, dd, data, sl⟩, ho, hc, n, hd⟩ := id hl
  obtain ⟨⟨cls2, dd2, data2, sl2⟩, ho2, hc2, n2, hd2⟩ := id hb
  simp only at hc hd hc2 hd2
  subst hc hd hc2 hd2
  exact richCompare_meets_room (op := .Lt) ⟨_, ho, rfl⟩ ⟨_, ho2, rfl⟩ PySem.F.slot_tuple_lt PySem.F.entry_tuple_lt (PySem.F.args_tuple_lt_2 _ _) (tuple_lt_ints l b items items2 n n2 dd dd2 sl sl2 ns ms hi hj)
    ⟨ho, ho2, show Value.bool (lexLt ns ms) ≠ Value.notImplemented ∧ Q (.bool (lexLt ns ms)) s from ⟨(fun x => nomatch x), h⟩⟩ hu
def sIx (n d : Nat) : Option Int → Nat
  | none => d
  | some v => if v < 0 then (v + (n : Int)).toNat else min v.toNat n
theorem sIx_nat (n d k : Nat) : sIx n d (some (k : Int)) = min k n := by
  show (if (k : Int) < 0 then ((k : Int) + (n : Int)).toNat else min (k : Int).toNat n) = min k n
  rw [if_neg (by omega), Int.toNat_natCast]
end
end HT
namespace L2
open PySem PySem.Spec PyProof.Rows
abbrev TO := St → Hp → (Option Int → Hp → Prop) → Prop
def PO (X : Cx) (e : Option Expr) (t : TO) : Prop :=
  ∀ (pins : List (Addr × Obj)) (s : Shared) (σ : St) (H : Hp) (Q : Option Int → Hp → Prop), Inv X pins σ H s → t σ H Q →
    wpAny (model X.prog X.w) X.A (evalPart e X.env) (fun u s' => ∃ o H', Inv X pins σ H' s' ∧ IsPart u o ∧ Q o H') X.xe s
def tNoPart : TO := fun _ H Q => Q none H
def tPart (t : TE) : TO := fun σ H Q => t σ H fun x H1 => ∃ i, x = .int i ∧ Q (some i) H1
section
variable {X : Cx} {e : Expr} {te : TE} {lo hi : Option Expr} {tl th : TO} {pos p2 : Pos}
theorem po_none : PO X none tNoPart := by
  intro pins s σ H Q I h
  rw [evalPart_none]
  exact wpAny_pure ⟨none, H, I, .none, h⟩
theorem po_some (h : PE X e te) : PO X (some e) (tPart te) := by
  intro pins s σ H Q I hw
  rw [evalPart_some]
  refine thn (h pins s σ H _ I hw) fun u s1 ⟨x, H1, I1, r1, q1⟩ => ?_
  obtain ⟨i, rfl, q⟩ := q1
  obtain ⟨t, rfl⟩ := r1
  exact ⟨some i, H1, I1, .int i t, q⟩
def SlR (X : Cx) (r : V → Option Int → Option Int → Hp → VK → Prop) : Prop :=
  ∀ (pins : List (Addr × Obj)) (s : Shared) (σ : St) (H : Hp) (x : V) (v vl vu : Value) (lo hi : Option Int) (sl : Addr) (Q : VK), Inv X pins σ H s → RelV x v → s.heap.IsSliceOf sl vl vu .none → IsPart vl lo → IsPart vu hi → r x lo hi H Q →
    ∃ T id, typeLookup (.type T) "__getitem__" = pure (some (.builtin id)) ∧ s.TypeIs v T ∧ wpAny (model X.prog X.w) X.A (getItem v (.ref sl)) (EP X pins σ Q) X.xe s
def tSl (r : V → Option Int → Option Int → Hp → VK → Prop) (te : TE) (tl th : TO) : TE := fun σ H Q => te σ H fun x H1 => tl σ H1 fun l H2 => th σ H2 fun u H3 => r x l u H3 Q
theorem pe_slice {r : V → Option Int → Option Int → Hp → VK → Prop} (hr : SlR X r) (he : PE X e te) (hl : PO X lo tl) (hu : PO X hi th) : PE X (.Subscript e (.Slice lo hi none p2) pos) (tSl r te tl th) := by
  intro pins s σ H Q I h
  refine Subscript_ (thn (he pins s σ H _ I h) fun v s1 ⟨x, H1, I1, r1, q1⟩ => ?_)
  refine wpAny_Slice (thn (hl pins s1 σ H1 _ I1 q1) fun vl s2 ⟨l, H2, I2, pl, q2⟩ => thn (hu pins s2 σ H2 _ I2 q2) fun vu s3 ⟨u, H3, I3, pu, q3⟩ => ?_)
  rw [evalPart_none]
  refine wpAny_pure ?_
  have I4 : Inv X pins σ H3 { s3 with heap := s3.heap.push { cls := .type "slice", data := .fields #[vl, vu, .none] } } := I3.kept (t' := s3.toks) fun b ob q => Heap.get?_push_of_some _ q
  obtain ⟨T, id, hT, ht, hg⟩ := hr pins { s3 with heap := s3.heap.push { cls := .type "slice", data := .fields #[vl, vu, .none] } } σ H3 x v vl vu l u s3.heap.objs.size Q I4 r1 (Heap.IsSliceOf.new ..) pl pu q3
  show wpAny (model X.prog X.w) X.A (subscriptTail e (.Slice lo hi none p2) v (.ref s3.heap.objs.size)) (EP X pins σ Q) X.xe { s3 with heap := s3.heap.push { cls := .type "slice", data := .fields #[vl, vu, .none] } }
  exact tail_any (ops := [.ref s3.heap.objs.size, v]) ht hT hg (by with_unfolding_all rfl)
def cutV (xs : List V) (lo hi : Option Int) : List V := (xs.drop (HT.sIx xs.length 0 lo)).take (HT.sIx xs.length xs.length hi - HT.sIx xs.length 0 lo)
theorem cutV_length (xs : List V) (lo hi : Option Int) : (cutV xs lo hi).length ≤ xs.length := by
  unfold cutV
  rw [List.length_take, List.length_drop]
  omega
end
end L2
namespace L2
open PySem PySem.Spec PyProof.Rows
def ixN (n : Nat) (i : Int) : Option Nat := if 0 ≤ i then (if i < n then some i.toNat else none) else if -(n : Int) ≤ i then some (i + n).toNat else none
def atI {α : Type} (xs : List α) (i : Int) : Option α := (ixN xs.length i).bind fun j => xs[j]?
theorem ixN_seq {n : Nat} {i : Int} {j : Nat} (h : ixN n i = some j) : seqIndex? i n = some j ∧ j < n ∧ -(n : Int) ≤ i ∧ i < n := by
  unfold ixN at h
  by_cases h0 : 0 ≤ i
  · rw [if_pos h0] at h
    by_cases h1 : i < n
    · rw [if_pos h1] at h
      have e : i.toNat = j := Option.some.inj h
      exact ⟨by rw [seqIndex_of h0 h1, e], by omega, by omega, h1⟩
    · rw [if_neg h1] at h; cases h
  · rw [if_neg h0] at h
    by_cases h1 : -(n : Int) ≤ i
    · rw [if_pos h1] at h
      have e : (i + n).toNat = j := Option.some.inj h
      exact ⟨by rw [seqIndex_neg (by omega) h1, e], by omega, h1, by omega⟩
    · rw [if_neg h1] at h; cases h
theorem atI_get {α : Type} {xs : List α} {i : Int} {v : α} (h : atI xs i = some v) : ∃ j, seqIndex? i xs.length = some j ∧ xs[j]? = some v ∧ j < xs.length ∧ -(xs.length : Int) ≤ i ∧ i < xs.length := by
  unfold atI at h
  cases e : ixN xs.length i with
  | none => rw [e] at h; cases h
  | some j =>
    rw [e] at h
    obtain ⟨h1, h2, h3, h4⟩ := ixN_seq e
    exact ⟨j, h1, h, h2, h3, h4⟩
theorem atI_nat {α : Type} {xs : List α} {j : Nat} {v : α} (h : xs[j]? = some v) : atI xs (j : Int) = some v := by
  have hj : j < xs.length := (List.getElem?_eq_some_iff.mp h).1
  have e : ixN xs.length (j : Int) = some j := by
    unfold ixN
    rw [if_pos (by omega), if_pos (by omega)]; simp
  unfold atI; rw [e]; exact h
def PlainIx (b : Expr) : Prop := ∀ o i, subscripted b false o i = operate [o, i] (getItem o i)
def IxR (X : Cx) (r : R2) : Prop :=
  ∀ (value slice : Expr) (pins : List (Addr × Obj)) (s : Shared) (σ : St) (H : Hp) (x y : V) (v u : Value) (Q : VK), Inv X pins σ H s → RelV x v → RelV y u → r x y H Q →
    subscripted slice false v u = operate [v, u] (getItem v u) → wpAny (model X.prog X.w) X.A (subscriptTail value slice v u) (EP X pins σ Q) X.xe s
def MtR (X : Cx) (id : String) (r : V → List V → Hp → VK → Prop) : Prop :=
  ∀ (pins : List (Addr × Obj)) (s : Shared) (σ : St) (H : Hp) (x : V) (xs : List V) (v : Value) (us : List Value) (Q : VK), Inv X pins σ H s → RelV x v → Vals xs us → r x xs H Q →
    wpAny (model X.prog X.w) X.A (call (.builtin id) (v :: us)) (EP X pins σ Q) X.xe s
section
variable {X : Cx} {a b : Expr} {ta tb : TE} {pos : Pos}
theorem pe_ix {r : R2} (hr : IxR X r) (ha : PE X a ta) (hb : PE X b tb) (hs : PlainIx b) : PE X (.Subscript a b pos) (tOp r ta tb) := by
  intro pins s σ H Q I h
  exact Subscript_ (binT ha hb I h fun v u s2 x y H2 I2 rx ry q => hr a b pins s2 σ H2 x y v u Q I2 rx ry q (hs _ _))
def rIxL (K : PySem.W.Frag) : R2 := fun x y H Q => ∃ p xs i v, x = .ref p ∧ y = .int i ∧ SqL K H p xs ∧ atI xs i = some v ∧ Q v H
def rIxT (K : PySem.W.Frag) : R2 := fun x y H Q => ∃ p xs i v, x = .ref p ∧ y = .int i ∧ SqT K H p xs ∧ atI xs i = some v ∧ Q v H
theorem ix_list : IxR X (rIxL X.K) := by
  intro value slice pins s σ H x y v u Q I rx ry h hs
  obtain ⟨p, xs, i, z, rfl, rfl, hq, he, q⟩ := h
  cases rx
  obtain ⟨t, rfl⟩ := ry
  obtain ⟨its, r, pl, hz⟩ := I.list hq
  obtain ⟨j, h1, h2, h3, h4, h5⟩ := atI_get he
  obtain ⟨w, ew, rw'⟩ := r.get h2
  have hl := r.length
  have hn := line63
  have fin : EP X pins σ Q w s := ⟨z, H, I, rw', q⟩
  by_cases h0 : 0 ≤ i
  · have hj : i.toNat = j := by
      rw [seqIndex_of h0 h5] at h1
      exact Option.some.inj h1
    exact item_listR pl.isList h0 (by omega) (by rw [hj]; simpa using ew) fin hs
  · have hj : (i + (its.toArray.size : Int)).toNat = j := by
      rw [seqIndex_neg (by omega) h4] at h1
      rw [List.size_toArray, ← hl]
      exact Option.some.inj h1
    exact subscriptTail_builtinR (x := w) pl.isList.typeIs slot_list_getitem.lookup
      (wpAny_getItem_list_neg (Q := fun r s' => r = w ∧ EP X pins σ Q r s') pl.isList (by omega) (by rw [List.size_toArray] <;> omega) (by omega) (by rw [hj]; simpa using ew) ⟨rfl, fin⟩) hs
theorem ix_tup : IxR X (rIxT X.K) := by
  intro value slice pins s σ H x y v u Q I rx ry h hs
  obtain ⟨p, xs, i, z, rfl, rfl, hq, he, q⟩ := h
  cases rx
  obtain ⟨t, rfl⟩ := ry
  obtain ⟨its, r, pl, hz⟩ := I.tuple hq
  obtain ⟨j, h1, h2, h3, h4, h5⟩ := atI_get he
  obtain ⟨w, ew, rw'⟩ := r.get h2
  have hl := r.length
  have hn := line63
  have fin : EP X pins σ Q w s := ⟨z, H, I, rw', q⟩
  exact subscriptTail_builtinR (x := w) pl.typeIs slot_tuple_getitem.lookup
    (getItem_tuple (j := j) (Q := fun r s' => r = w ∧ EP X pins σ Q r s') pl (by omega) (by omega) (by rw [List.size_toArray, ← hl]; exact h1) (by simpa using ew) ⟨rfl, fin⟩) hs
theorem mapSeq_set (its : List Value) (n j : Nat) (u : Value) : Obj.mapSeq (·.setIfInBounds j u) { cls := .type "list", data := .seq its.toArray n } = { cls := .type "list", data := .seq (its.set j u).toArray n } := by
  simp [Obj.mapSeq]
theorem Inv.lst {pins : List (Addr × Obj)} {σ : St} {H : Hp} {s : Shared} {p : Addr} {xs : List V} (I : Inv X pins σ H s) (h : H p = some (.lst xs)) :
    ∃ (its : List Value) (n : Nat), Vals xs its ∧ s.heap.get? p = some { cls := .type "list", data := .seq its.toArray n } ∧ xs.length ≤ sizeLine := by
  obtain ⟨z, its, n, r, e⟩ := I.hok p _ h
  exact ⟨its, n, r, e, z⟩
theorem Inv.lstUpd {pins : List (Addr × Obj)} {σ : St} {H : Hp} {s : Shared} {p : Addr} {xs ys : List V} {its its' : List Value} {n n' : Nat} {f : Obj → Obj} (I : Inv X pins σ H s) (h : H p = some (.lst xs))
    (ho : s.heap.get? p = some { cls := .type "list", data := .seq its.toArray n }) (hf : f { cls := .type "list", data := .seq its.toArray n } = { cls := .type "list", data := .seq its'.toArray n' }) (r : Vals ys its') (hz : ys.length ≤ sizeLine) (t : Nat) :
    Inv X pins σ (upd H p (.lst ys)) { s with heap := s.heap.update p f, toks := t } := by
  have e : (s.heap.update p f).get? p = some { cls := .type "list", data := .seq its'.toArray n' } := by
    rw [Heap.get?_update_self f ho (by rw [hf] <;> rfl), hf]
  refine I.write (x := p) (e := p) (by rw [h]; trivial) (.inl rfl) (fun b u hb q => (Heap.get?_update_other _ _ (Ne.symm hb)).trans q) ⟨_, e⟩ ?_
  exact ⟨hz, its', n', r, e⟩
def rSetL : V → V → V → Hp → (Hp → Prop) → Prop := fun o i v H Q => ∃ p xs k j, o = .ref p ∧ i = .int k ∧ H p = some (.lst xs) ∧ ixN xs.length k = some j ∧ Q (upd H p (.lst (xs.set j v)))
theorem set_list : PSet X rSetL := by
  intro pins s σ H o i v ov iv u Q I ro ri rv h
  obtain ⟨p, xs, k, j, rfl, rfl, hp, hj, q⟩ := h
  cases ro
  obtain ⟨t, rfl⟩ := ri
  obtain ⟨its, n, r, ho, hz⟩ := I.lst hp
  obtain ⟨h1, h2, h3, h4⟩ := ixN_seq hj
  have hl := r.length
  have hn := line63
  have I' : Inv X pins σ (upd H p (.lst (xs.set j v))) { s with heap := s.heap.update p (Obj.mapSeq (·.setIfInBounds j u)) } :=
    I.lstUpd hp ho (mapSeq_set its n j u) (r.set rv j) (by rw [List.length_set]; exact hz) s.toks
  by_cases h0 : 0 ≤ k
  · have hk : k.toNat = j := by
      rw [seqIndex_of h0 h4] at h1
      exact Option.some.inj h1
    exact PySem.W.ki_setAt ho h0 (by omega) (by rw [List.size_toArray, ← hl]; exact h4) (by rw [hk]; exact ⟨_, I', q⟩)
  · have hk : (k + (its.toArray.size : Int)).toNat = j := by
      rw [seqIndex_neg (by omega) h3] at h1
      rw [List.size_toArray, ← hl]
      exact Option.some.inj h1
    exact PySem.W.ki_setBack ho (by omega) (by rw [List.size_toArray, ← hl]; exact h3) (by omega) (by rw [hk]; exact ⟨_, I', q⟩)
theorem slice_bounds (lo hi : Option Int) (n : Nat) : (sliceBounds lo hi none n).1 = ((HT.sIx n 0 lo : Nat) : Int) ∧ (sliceBounds lo hi none n).2.1 = ((HT.sIx n n hi : Nat) : Int) ∧ (sliceBounds lo hi none n).2.2 = 1 := by
  refine ⟨?_, ?_, rfl⟩
  · cases lo with
    | none => simp [sliceBounds, HT.sIx]
    | some i =>
      simp only [sliceBounds, HT.sIx, Option.getD_none, show (1 : Int) > 0 by decide, if_true]
      by_cases h : i < 0
      · simp only [h, if_true] <;> omega
      · simp only [h, if_false] <;> omega
  · cases hi with
    | none => simp [sliceBounds, HT.sIx]
    | some i =>
      simp only [sliceBounds, HT.sIx, Option.getD_none, show (1 : Int) > 0 by decide, if_true]
      by_cases h : i < 0
      · simp only [h, if_true] <;> omega
      · simp only [h, if_false] <;> omega
theorem slicePick_cut (its : List Value) (lo hi : Option Int) : slicePick its.toArray lo hi none = ((its.drop (HT.sIx its.length 0 lo)).take (HT.sIx its.length its.length hi - HT.sIx its.length 0 lo)).toArray := by
  obtain ⟨h1, h2, h3⟩ := slice_bounds lo hi its.toArray.size
  unfold slicePick
  rw [h1, h2, h3]
  simp only [sliceRange_one, pick_run, List.size_toArray] <;> rfl
def rSlL (K : PySem.W.Frag) : V → Option Int → Option Int → Hp → VK → Prop := fun x lo hi H Q => ∃ a xs, x = .ref a ∧ SqL K H a xs ∧ ∀ p, H p = none → Q (.ref p) (upd H p (.lst (cutV xs lo hi)))
theorem sl_list : SlR X (rSlL X.K) := by
  intro pins s σ H x v vl vu lo hi sl Q I rx hs pl pu h
  obtain ⟨a, xs, rfl, hx, q⟩ := h
  cases rx
  obtain ⟨its, r, ht, hz⟩ := I.list hx
  have hlen := r.length
  refine ⟨"list", _, slot_list_getitem.lookup, ht.isList.typeIs, ?_⟩
  refine wpAny_getItem_list_slice ht.isList hs pl pu .none (by simp) ?_ (by rw [List.size_toArray] <;> omega)
  rw [slicePick_cut, ← hlen]
  refine ⟨.ref s.heap.objs.size, _, I.laid (t' := s.toks) (o := .lst (cutV xs lo hi)) (fun b ob q => Heap.get?_push_of_some _ q) (Nat.le_refl _) ?_, rfl, q _ (I.hok.fresh (Nat.le_refl _))⟩
  exact ⟨Nat.le_trans (cutV_length xs lo hi) hz, _, 0, (r.drop (HT.sIx xs.length 0 lo)).take (HT.sIx xs.length xs.length hi - HT.sIx xs.length 0 lo), Heap.get?_push_size _ rfl⟩
def flatV : V → Bool
  | .non => true
  | .bl _ => true
  | .int _ => true
  | .str _ => true
  | _ => false
def eqV : V → V → Bool
  | .non, .non => true
  | .bl a, .bl b => a == b
  | .bl a, .int b => (if a then 1 else 0) == b
  | .int a, .bl b => a == (if b then 1 else 0)
  | .int a, .int b => a == b
  | .str a, .str b => a == b
  | _, _ => false
theorem eqAt_V {A : Around} {s : Shared} {y x : V} {u v : Value} (ry : RelV y u) (rx : RelV x v) (fy : flatV y = true) (fx : flatV x = true) : SeqAt.EqAt A s u v (eqV y x) := by
  cases y with
  | non =>
    cases ry
    cases x with
    | non => cases rx; exact SeqAt.EqAt.same _
    | bl b => cases rx; exact SeqAt.EqAt.none_bool b
    | int b => obtain ⟨t, rfl⟩ := rx; exact SeqAt.EqAt.none_int b t
    | str b => obtain ⟨t, rfl⟩ := rx; exact SeqAt.EqAt.none_str b t
    | _ => exact absurd (show false = true from fx) Bool.false_ne_true
  | bl a =>
    cases ry
    cases x with
    | non => cases rx; exact SeqAt.EqAt.bool_none a
    | bl b => cases rx; exact SeqAt.EqAt.bool_bool a b
    | int b => obtain ⟨t, rfl⟩ := rx; exact SeqAt.EqAt.bool_int a b t
    | str b => obtain ⟨t, rfl⟩ := rx; exact SeqAt.EqAt.bool_str a b t
    | _ => exact absurd (show false = true from fx) Bool.false_ne_true
  | int a =>
    obtain ⟨t', rfl⟩ := ry
    cases x with
    | non => cases rx; exact SeqAt.EqAt.int_none a t'
    | bl b => cases rx; exact SeqAt.EqAt.int_bool a t' b
    | int b => obtain ⟨t, rfl⟩ := rx; exact SeqAt.EqAt.int_int a t' b t
    | str b => obtain ⟨t, rfl⟩ := rx; exact SeqAt.EqAt.int_str a t' b t
    | _ => exact absurd (show false = true from fx) Bool.false_ne_true
  | str a =>
    obtain ⟨t', rfl⟩ := ry
    cases x with
    | non => cases rx; exact SeqAt.EqAt.str_none a t'
    | bl b => cases rx; exact SeqAt.EqAt.str_bool a t' b
    | int b => obtain ⟨t, rfl⟩ := rx; exact SeqAt.EqAt.str_int a t' b t
    | str b => obtain ⟨t, rfl⟩ := rx; exact SeqAt.EqAt.str_str a t' b t
    | _ => exact absurd (show false = true from fx) Bool.false_ne_true
  | _ => exact absurd (show false = true from fy) Bool.false_ne_true
def eqU (x : V) (u : Value) : Bool := match u with
  | .none => eqV .non x
  | .bool b => eqV (.bl b) x
  | .int i _ => eqV (.int i) x
  | .str z _ => eqV (.str z) x
  | _ => false
theorem eqU_of {x y : V} {u : Value} (r : RelV y u) (f : flatV y = true) : eqU x u = eqV y x := by
  cases y with
  | non => cases r; rfl
  | bl b => cases r; rfl
  | int i => obtain ⟨t, rfl⟩ := r; rfl
  | str z => obtain ⟨t, rfl⟩ := r; rfl
  | _ => exact absurd (show false = true from f) Bool.false_ne_true
theorem any_eqU {x : V} : ∀ {xs : List V} {us : List Value}, Vals xs us → xs.all flatV = true → us.any (eqU x) = xs.any fun y => eqV y x
  | _, _, .nil, _ => rfl
  | y :: xs, u :: us, .cons r t, f => by
    rw [List.all_cons, Bool.and_eq_true] at f
    rw [List.any_cons, List.any_cons, eqU_of r f.1, any_eqU t f.2]
theorem mem_eqAt {A : Around} {s : Shared} {x : V} {v : Value} (rx : RelV x v) (fx : flatV x = true) : ∀ {xs : List V} {us : List Value}, Vals xs us → xs.all flatV = true → ∀ u ∈ us, SeqAt.EqAt A s u v (eqU x u)
  | _, _, .nil, _ => fun u hu => by cases hu
  | y :: xs, u :: us, .cons r t, f => fun u' hu => by
    rw [List.all_cons, Bool.and_eq_true] at f
    rcases List.mem_cons.mp hu with rfl | hu
    · rw [eqU_of r f.1]; exact eqAt_V r rx f.1 fx
    · exact mem_eqAt rx fx t f.2 u' hu
def inV (x : V) (xs : List V) : Bool := xs.any fun y => eqV y x
def rIn (K : PySem.W.Frag) (neg : Bool) : R2 := fun x y H Q => ∃ p xs, y = .ref p ∧ (SqL K H p xs ∨ SqT K H p xs) ∧ flatV x = true ∧ xs.all flatV = true ∧ Q (.bl (if neg then !inV x xs else inV x xs)) H
theorem op_in_seq : OpR X (compareOp .In) (rIn X.K false) := by
  intro pins s σ H x y v u Q I rx ry h
  obtain ⟨p, xs, rfl, hq, fx, fs, q⟩ := h
  cases ry
  rcases hq with hq | hq
  · obtain ⟨its, r, pl, hz⟩ := I.list hq
    refine SeqAt.in_listAt (eqU x) pl.isList (fun w hw => mem_eqAt rx fx r fs w (by simpa using hw)) ⟨.bl _, H, I, rfl, ?_⟩
    rw [show its.toArray.any (eqU x) = its.any (eqU x) by simp, any_eqU r fs]
    exact q
  · obtain ⟨its, r, pl, hz⟩ := I.tuple hq
    refine SeqAt.in_tupleAt (eqU x) pl (fun w hw => mem_eqAt rx fx r fs w (by simpa using hw)) ⟨.bl _, H, I, rfl, ?_⟩
    rw [show its.toArray.any (eqU x) = its.any (eqU x) by simp, any_eqU r fs]
    exact q
theorem op_notIn_seq : OpR X (compareOp .NotIn) (rIn X.K true) := by
  intro pins s σ H x y v u Q I rx ry h
  obtain ⟨p, xs, rfl, hq, fx, fs, q⟩ := h
  cases ry
  rcases hq with hq | hq
  · obtain ⟨its, r, pl, hz⟩ := I.list hq
    refine SeqAt.notIn_listAt (eqU x) pl.isList (fun w hw => mem_eqAt rx fx r fs w (by simpa using hw)) ⟨.bl _, H, I, rfl, ?_⟩
    rw [show its.toArray.any (eqU x) = its.any (eqU x) by simp, any_eqU r fs]
    exact q
  · obtain ⟨its, r, pl, hz⟩ := I.tuple hq
    refine SeqAt.notIn_tupleAt (eqU x) pl (fun w hw => mem_eqAt rx fx r fs w (by simpa using hw)) ⟨.bl _, H, I, rfl, ?_⟩
    rw [show its.toArray.any (eqU x) = its.any (eqU x) by simp, any_eqU r fs]
    exact q
theorem call_len_seq : CallR X (.builtin "len") (fun xs H Q => ∃ p ys, xs = [.ref p] ∧ (SqL X.K H p ys ∨ SqT X.K H p ys) ∧ Q (.int ys.length) H) := by
  intro pins s σ H xs us Q I r h
  obtain ⟨p, ys, rfl, hq, q⟩ := h
  obtain ⟨u, rfl, rx⟩ := vals1 r
  cases rx
  have hn := line63
  rcases hq with hq | hq
  · obtain ⟨its, r', pl, hz⟩ := I.list hq
    have hlen := r'.length
    exact Calls.call_len_list pl.isList (by simp only [List.size_toArray] <;> omega) ⟨.int ys.length, H, I.tok _, ⟨s.toks + 1, by rw [List.size_toArray, hlen]⟩, q⟩
  · obtain ⟨its, r', pl, hz⟩ := I.tuple hq
    have hlen := r'.length
    exact len_tuple pl (by simp only [List.size_toArray] <;> omega) ⟨.int ys.length, H, I.tok _, ⟨s.toks + 1, by rw [List.size_toArray, hlen]⟩, q⟩
theorem call_list_of : CallR X (.type "list") (fun xs H Q => ∃ p ys, xs = [.ref p] ∧ (SqL X.K H p ys ∨ SqT X.K H p ys) ∧ ∀ l, H l = none → Q (.ref l) (upd H l (.lst ys))) := by
  intro pins s σ H xs us Q I r h
  obtain ⟨p, ys, rfl, hq, q⟩ := h
  obtain ⟨u, rfl, rx⟩ := vals1 r
  cases rx
  have fin : ∀ (its : List Value), Vals ys its → ys.length ≤ sizeLine → ∀ (h' : Heap) (c' : Nat), (∀ b o', s.heap.get? b = some o' → h'.get? b = some o') →
      h'.get? s.heap.objs.size = some { cls := .type "list", dict := none, data := .seq its.toArray c', slots := #[] } → EP X pins σ Q (.ref s.heap.objs.size) { s with heap := h' } := fun its r' hz h' c' kp e =>
    ⟨.ref s.heap.objs.size, _, I.laid (t' := s.toks) kp (Nat.le_refl _) (show ObjOk X.prog X.w _ h' _ (.lst ys) from ⟨hz, its, c', r', e⟩), rfl, q _ (I.hok.fresh (Nat.le_refl _))⟩
  rcases hq with hq | hq
  · obtain ⟨its, r', pl, hz⟩ := I.list hq
    have hlen := r'.length
    obtain ⟨o, ho, hc, n, hd⟩ := pl.isList
    exact call_list_seq p (.inl rfl) ho hc hd (fun h' c' kp e => fin its r' hz h' c' kp e) (by simp only [List.size_toArray] <;> omega)
  · obtain ⟨its, r', pl, hz⟩ := I.tuple hq
    have hlen := r'.length
    obtain ⟨o, ho, hc, n, hd⟩ := pl
    exact call_list_seq p (.inr rfl) ho hc hd (fun h' c' kp e => fin its r' hz h' c' kp e) (by simp only [List.size_toArray] <;> omega)
def tyV (K : PySem.W.Frag) (T : String) (x : V) (H : Hp) : Prop := match x with
  | .str _ => T = "str"
  | .int _ => T = "int"
  | .ref p => (T = "list" ∧ ∃ xs, SqL K H p xs) ∨ (T = "tuple" ∧ ∃ o, K.lookup p = some o ∧ o.cls = .type "tuple" ∧ o.dict = none) ∨
      (T = "dict" ∧ ((∃ kvs, H p = some (.dK kvs)) ∨ ∃ kvs, H p = some (.dT kvs))) ∨ (T = "set" ∧ ∃ S n, H p = some (.set S n))
  | _ => False
theorem tyV_is {pins : List (Addr × Obj)} {σ : St} {H : Hp} {s : Shared} {T : String} {x : V} {v : Value} (I : Inv X pins σ H s) (r : RelV x v) (ty : tyV X.K T x H) :
    s.TypeIs v T ∧ ∀ a, v = .ref a → ∃ ob, s.heap.get? a = some ob ∧ ob.dict = none := by
  cases x with
  | str z =>
    obtain ⟨t, rfl⟩ := r
    cases (show T = "str" from ty)
    exact ⟨typeIs_str s z t, fun _ e => nomatch e⟩
  | int i =>
    obtain ⟨t, rfl⟩ := r
    cases (show T = "int" from ty)
    exact ⟨typeIs_int s i t, fun _ e => nomatch e⟩
  | ref p =>
    cases r
    rcases ty with ⟨rfl, xs, hq⟩ | ⟨rfl, o, hk, hc, hd⟩ | ⟨rfl, hk⟩ | ⟨rfl, S, n, hk⟩
    · obtain ⟨its, _, pl, _⟩ := I.list hq
      refine ⟨pl.isList.typeIs, fun a e => ?_⟩
      cases e
      obtain ⟨o, n, e, c, hd, _⟩ := pl
      exact ⟨o, e, hd⟩
    · refine ⟨⟨o, I.kIn p o hk, hc⟩, fun a e => ?_⟩
      cases e
      exact ⟨o, I.kIn _ o hk, hd⟩
    · have z : ∃ o, s.heap.get? p = some o ∧ o.ExactDict := by
        rcases hk with ⟨kvs, hk⟩ | ⟨kvs, hk⟩
        · obtain ⟨_, _, _, _, o, _, _, e, ex, _⟩ := I.hok p _ hk
          exact ⟨o, e, ex⟩
        · obtain ⟨_, _, _, _, o, _, _, e, ex, _⟩ := I.hok p _ hk
          exact ⟨o, e, ex⟩
      obtain ⟨o, e, ex⟩ := z
      refine ⟨⟨o, e, ex.1⟩, fun a e2 => ?_⟩
      cases e2
      exact ⟨o, e, ex.2.1⟩
    · obtain ⟨o, _, _, _, e, ex, _⟩ := I.hok p _ hk
      refine ⟨⟨o, e, ex.1⟩, fun a e2 => ?_⟩
      cases e2
      exact ⟨o, e, ex.2.1⟩
  | _ => exact False.elim ty
def tBM0 (K : PySem.W.Frag) (T : String) (r : V → List V → Hp → VK → Prop) (to : TE) : TE := fun σ H Q => to σ H fun x H1 => tyV K T x H1 ∧ r x [] H1 Q
def tBM (K : PySem.W.Frag) (T : String) (r : V → List V → Hp → VK → Prop) (to : TE) (t : TA) : TE := fun σ H Q => to σ H fun x H1 => tyV K T x H1 ∧ t σ H1 fun xs H2 => r x xs H2 Q
variable {o e : Expr} {es : List Expr} {to : TE} {t : TA} {name : Str} {apos cpos : Pos} {T id : String} {r : V → List V → Hp → VK → Prop}
theorem pe_bm0 (pa : PlainAttrs T) (slot : Slot T name id) (hty : typeOf (.builtin id) = pure (.type "method_descriptor")) (hm : MtR X id r) (ho : PE X o to)
    (hbase : attributeBase o name X.env (eval o X.env) = eval o X.env := by rfl) (hline : (apos.endLine == cpos.line) = true := by rfl) : PE X (.Call (.Attribute o name apos) [] [] cpos) (tBM0 X.K T r to) := by
  intro pins s σ H Q I h
  refine wpAny_Call_method0_late hbase hline (thn (ho pins s σ H _ I h) fun v s1 ⟨x, H1, I1, r1, ty, q1⟩ => ?_)
  obtain ⟨h1, h2⟩ := tyV_is I1 r1 ty
  exact ⟨T, id, pa, slot, hty, h1, h2, Calls.callWith_builtin rfl (PySem.evalArgs_none (hm pins s1 σ H1 x [] v [] Q I1 r1 .nil q1))⟩
theorem pe_bm (pa : PlainAttrs T) (slot : Slot T name id) (hty : typeOf (.builtin id) = pure (.type "method_descriptor")) (hm : MtR X id r) (ho : PE X o to) (ha : PA X (e :: es) t)
    (hbase : attributeBase o name X.env (eval o X.env) = eval o X.env := by rfl)
    (hfew : ((backTo cpos (starEach (e :: es) X.env)).all (fun x => !x.1) && (backToKw cpos (keywordEach [] X.env)).all (fun x => x.1.isSome)
      && decide ((e :: es).length + ([] : List Keyword).length + (if ([] : List Keyword).isEmpty then 0 else 1) < 30)) = true := by rfl)
    (hline : (apos.endLine == cpos.line) = true := by rfl) (hs : starEach (e :: es) X.env = (false, eval e X.env) :: starEach es X.env := by rfl) (hplain : (backTo cpos (starEach es X.env)).any (·.1) = false := by rfl) :
    PE X (.Call (.Attribute o name apos) (e :: es) [] cpos) (tBM X.K T r to t) := by
  intro pins s σ H Q I h
  refine wpAny_Call_method_late hbase hfew hline rfl (thn (ho pins s σ H _ I h) fun v s1 ⟨x, H1, I1, r1, ty, q1⟩ => ?_)
  obtain ⟨h1, h2⟩ := tyV_is I1 r1 ty
  refine ⟨T, id, pa, slot, hty, h1, h2, ?_⟩
  have hA := ha cpos pins s1 σ H1 _ I1 q1
  rw [hs] at hA ⊢
  refine Calls.callWith_builtin (by show (false || (backTo cpos (starEach es X.env)).any (·.1)) = false; rw [hplain] <;> rfl) (Calls.evalArgs_plain ?_)
  exact thn hA fun us s2 ⟨vs, H2, I2, r2, q2⟩ => hm pins s2 σ H2 x vs v us Q I2 r1 r2 q2
end
end L2
namespace L2
open PySem PySem.Spec PyProof.Rows
def MtM (X : Cx) (id : String) (r : V → List V → Hp → VK → Prop) : Prop :=
  ∀ (pins : List (Addr × Obj)) (s : Shared) (σ : St) (H : Hp) (x : V) (xs : List V) (v : Value) (us : List Value) (Q : VK), Inv X pins σ H s → RelV x v → Vals xs us → r x xs H Q →
    wpAny (model X.prog X.w) X.A (call (.builtin id) (v :: us)) (EP X pins σ Q) X.xe s
theorem Vals.one : ∀ {x : V} {us : List Value}, Vals [x] us → ∃ u, us = [u] ∧ RelV x u
  | _, _, .cons r .nil => ⟨_, rfl, r⟩
theorem Vals.zero : ∀ {us : List Value}, Vals [] us → us = []
  | _, .nil => rfl
theorem Vals.dropLast {xs : List V} {us : List Value} (h : Vals xs us) : Vals xs.dropLast us.dropLast := by
  induction h with
  | nil => exact .nil
  | cons r t ih =>
    cases t with
    | nil => exact .nil
    | cons q t' => exact .cons r ih
theorem Vals.eraseIdx : ∀ {xs : List V} {us : List Value} (i : Nat), Vals xs us → Vals (xs.eraseIdx i) (us.eraseIdx i)
  | _, _, _, .nil => .nil
  | _, _, 0, .cons _ t => t
  | _, _, i + 1, .cons r t => .cons r (Vals.eraseIdx i t)
theorem erase_last {α : Type} (l : List α) : l.eraseIdx (l.length - 1) = l.dropLast := by
  induction l with
  | nil => rfl
  | cons a r ih =>
    cases r with
    | nil => rfl
    | cons b r =>
      have e : (a :: b :: r).length - 1 = ((b :: r).length - 1) + 1 := by
        have h1 : (a :: b :: r).length = r.length + 2 := rfl
        have h2 : (b :: r).length = r.length + 1 := rfl
        omega
      rw [e, List.eraseIdx_cons_succ, ih]
      all_goals rfl
theorem len_erase {α : Type} : ∀ (l : List α) (i : Nat), (l.eraseIdx i).length ≤ l.length
  | [], _ => Nat.le_refl _
  | _ :: _, 0 => Nat.le_succ _
  | _ :: r, i + 1 => Nat.succ_le_succ (len_erase r i)
section
variable {X : Cx} {pins : List (Addr × Obj)} {σ : St} {H : Hp} {s : Shared} {l b : Addr} {xs ys zs : List V}
theorem Inv.lset {its its' : List Value} {n : Nat} {f : Array Value → Array Value} {t' : Nat} (I : Inv X pins σ H s) (hH : H l = some (.lst xs))
    (e : s.heap.get? l = some { cls := .type "list", data := .seq its.toArray n }) (hf : f its.toArray = its'.toArray) (hv : Vals ys its') (hz : ys.length ≤ sizeLine) :
    Inv X pins σ (upd H l (.lst ys)) { s with heap := s.heap.update l (Obj.mapSeq f), toks := t' } := by
  have q := PySem.IsL.update e f
  rw [hf] at q
  refine I.write (x := l) (e := l) (by rw [hH]; exact trivial) (.inl rfl) (fun b' u hb hu => (Heap.get?_update_other s.heap (Obj.mapSeq f) (Ne.symm hb)).trans hu) ⟨_, q⟩ ?_
  exact ⟨hz, its', _, hv, q⟩
theorem Inv.lnew {its : List Value} {t' : Nat} (I : Inv X pins σ H s) (hv : Vals ys its) (hz : ys.length ≤ sizeLine) :
    Inv X pins σ (upd H s.heap.objs.size (.lst ys)) { s with heap := s.heap.push { cls := .type "list", data := .seq its.toArray }, toks := t' } :=
  I.laid (fun _ _ q => Heap.get?_push_of_some _ q) (Nat.le_refl _) ⟨hz, its, 0, hv, Heap.get?_push_size _ rfl⟩
theorem Inv.fresh (I : Inv X pins σ H s) : H s.heap.objs.size = none := I.hok.fresh (Nat.le_refl _)
theorem Inv.lstM (I : Inv X pins σ H s) (hH : H l = some (.lst xs)) : xs.length ≤ sizeLine ∧ ∃ (its : List Value) (n : Nat), Vals xs its ∧ xs.length = its.length ∧ s.heap.get? l = some { cls := .type "list", data := .seq its.toArray n } := by
  obtain ⟨z, its, n, r, e⟩ := I.hok l _ hH
  exact ⟨z, its, n, r, r.length, e⟩
theorem notLongL {n : Nat} (h : n ≤ sizeLine) : Builtin.List.listTooLong n = false := by
  unfold Builtin.List.listTooLong
  exact decide_eq_false (by omega)
end
section
variable {X : Cx}
def rAppend : V → List V → Hp → VK → Prop := fun x vs H Q => ∃ l xs y, x = .ref l ∧ vs = [y] ∧ H l = some (.lst xs) ∧ xs.length < sizeLine ∧ Q .non (upd H l (.lst (xs ++ [y])))
theorem mt_append : MtM X "list.append" rAppend := by
  intro pins s σ H x vs v us Q I rx rv h
  obtain ⟨l, xs, y, rfl, rfl, hH, hz, q⟩ := h
  cases rx
  obtain ⟨u, rfl, ru⟩ := rv.one
  obtain ⟨z, its, n, r, hl, e⟩ := I.lstM hH
  refine call_meets F.slot_list_append ⟨_, e, rfl⟩ F.entry_list_append (F.args_list_append_2 _ _) (PySem.list_append l its.toArray n u (by rw [List.size_toArray]; omega)) ⟨e, ?_⟩
  refine ⟨.non, _, I.lset (its' := its ++ [u]) hH e (by simp) (r.append (.cons ru .nil)) ?_, rfl, q⟩
  rw [List.length_append, List.length_singleton]
  omega
def rExtend : V → List V → Hp → VK → Prop := fun x vs H Q => ∃ l b xs zs, x = .ref l ∧ vs = [.ref b] ∧ H l = some (.lst xs) ∧ H b = some (.lst zs) ∧ xs.length + zs.length ≤ sizeLine ∧ Q .non (upd H l (.lst (xs ++ zs)))
theorem mt_extend : MtM X "list.extend" rExtend := by
  intro pins s σ H x vs v us Q I rx rv h
  obtain ⟨l, b, xs, zs, rfl, rfl, hH, hB, hz, q⟩ := h
  cases rx
  obtain ⟨u, rfl, ru⟩ := rv.one
  cases ru
  obtain ⟨z, its, n, r, hl, e⟩ := I.lstM hH
  obtain ⟨z2, its2, n2, r2, hl2, e2⟩ := I.lstM hB
  have hsz : its.toArray.size + its2.toArray.size ≤ sizeLine := by rw [List.size_toArray, List.size_toArray]; omega
  have hlong : ¬ (!its.toArray.isEmpty && Builtin.List.listTooLong (its.toArray.size + its2.toArray.size)) = true := by
    rw [notLongL hsz, Bool.and_false]
    exact Bool.false_ne_true
  refine call_meets F.slot_list_extend ⟨_, e, rfl⟩ F.entry_list_extend (F.args_list_extend_2 _ _)
    (AutoSeq1.list_extend_list_list_0 l its.toArray n b its2.toArray n2 hlong (by rw [List.size_toArray]; omega) (by omega)) ⟨e, e2, ?_⟩
  refine ⟨.non, _, I.lset (its' := its ++ its2) hH e (by simp) (r.append r2) ?_, rfl, q⟩
  rw [List.length_append]
  omega
def rPop : V → List V → Hp → VK → Prop := fun x vs H Q => ∃ l xs y, x = .ref l ∧ vs = [] ∧ H l = some (.lst xs) ∧ xs[xs.length - 1]? = some y ∧ Q y (upd H l (.lst xs.dropLast))
theorem mt_pop : MtM X "list.pop" rPop := by
  intro pins s σ H x vs v us Q I rx rv h
  obtain ⟨l, xs, y, rfl, rfl, hH, hy, q⟩ := h
  cases rx
  have hus := rv.zero
  subst hus
  obtain ⟨z, its, n, r, hl, e⟩ := I.lstM hH
  obtain ⟨u, hu, ru⟩ := r.get hy
  have hy' : its.toArray[its.toArray.size - 1]? = some u := by
    show its.toArray[its.length - 1]? = some u
    rw [← Array.getElem?_toList, ← hl]
    exact hu
  refine call_meets F.slot_list_pop ⟨_, e, rfl⟩ F.entry_list_pop (F.args_list_pop_1 _) (MeetsSeq.list_pop_last l its.toArray n u hy' (by rw [List.size_toArray]; omega)) ⟨e, ?_⟩
  refine ⟨y, _, I.lset (its' := its.dropLast) hH e ?_ r.dropLast ?_, ru, q⟩
  · show its.toArray.eraseIdxIfInBounds (its.toArray.size - 1) = its.dropLast.toArray
    rw [List.size_toArray, List.eraseIdxIfInBounds_toArray, erase_last]
  · rw [List.length_dropLast]
    omega
def rPopAt : V → List V → Hp → VK → Prop := fun x vs H Q => ∃ l xs i k y, x = .ref l ∧ vs = [.int i] ∧ H l = some (.lst xs) ∧ -(2 ^ 63) ≤ i ∧ i < 2 ^ 63 ∧ seqIndex? i xs.length = some k ∧ xs[k]? = some y ∧ Q y (upd H l (.lst (xs.eraseIdx k)))
theorem mt_popAt : MtM X "list.pop" rPopAt := by
  intro pins s σ H x vs v us Q I rx rv h
  obtain ⟨l, xs, i, k, y, rfl, rfl, hH, h1, h2, hk, hy, q⟩ := h
  cases rx
  obtain ⟨u, rfl, ru⟩ := rv.one
  obtain ⟨t, rfl⟩ := ru
  obtain ⟨z, its, n, r, hl, e⟩ := I.lstM hH
  obtain ⟨w, hw, rw'⟩ := r.get hy
  refine call_meets F.slot_list_pop ⟨_, e, rfl⟩ F.entry_list_pop (F.args_list_pop_2 _ _)
    (MeetsSeq.list_pop_at l its.toArray n i t k w (fitsIndex_both h1 h2) (by rw [List.size_toArray, ← hl]; exact hk) (by rw [← Array.getElem?_toList]; exact hw) (by rw [List.size_toArray]; omega)) ⟨e, ?_⟩
  refine ⟨y, _, I.lset (its' := its.eraseIdx k) hH e ?_ (r.eraseIdx k) ?_, rw', q⟩
  · show its.toArray.eraseIdxIfInBounds k = (its.eraseIdx k).toArray
    rw [List.eraseIdxIfInBounds_toArray]
  · have := len_erase xs k
    omega
def rCat : R2 := fun x y H Q => ∃ l b xs zs, x = .ref l ∧ y = .ref b ∧ H l = some (.lst xs) ∧ H b = some (.lst zs) ∧ xs.length + zs.length ≤ sizeLine ∧ ∀ p, H p = none → Q (.ref p) (upd H p (.lst (xs ++ zs)))
theorem op_cat : OpR X (binaryOp .Add) rCat := by
  intro pins s σ H x y v u Q I rx ry h
  obtain ⟨l, b, xs, zs, rfl, rfl, hH, hB, hz, q⟩ := h
  cases rx
  cases ry
  obtain ⟨z, its, n, r, hl, e⟩ := I.lstM hH
  obtain ⟨z2, its2, n2, r2, hl2, e2⟩ := I.lstM hB
  refine PySem.P.add_list e e2 ?_ (by rw [List.size_toArray, List.size_toArray]; omega)
  have ea : its.toArray ++ its2.toArray = (its ++ its2).toArray := by simp
  rw [ea]
  exact ⟨.ref _, _, I.lnew (t' := s.toks) (r.append r2) (by rw [List.length_append]; omega), rfl, q _ I.fresh⟩
end
section
variable {prog : Program} {w : World} {A : Around} {E : Value → Shared → Prop} {s : Shared}
end
section
variable {X : Cx}
end
end L2
namespace L2
open PySem PySem.Spec PyProof.Rows
theorem Vals.ints : ∀ {ns : List Int} {us : List Value}, Vals (ns.map V.int) us → IntsAre us ns
  | [], us, h => by
    rw [List.map_nil] at h
    cases h
    exact IntsAre.nil
  | n :: ns, us, h => by
    rw [List.map_cons] at h
    cases h with
    | cons r t =>
      obtain ⟨k, rfl⟩ := r
      exact IntsAre.cons n k (Vals.ints t)
theorem vals_of_ints : ∀ {us : List Value} {ns : List Int}, IntsAre us ns → Vals (ns.map V.int) us
  | _, _, .nil => by rw [List.map_nil]; exact Paired.nil
  | _, _, .cons n t h => by rw [List.map_cons]; exact Paired.cons (show RelV (V.int n) (Value.int n t) from ⟨t, rfl⟩) (vals_of_ints h)
theorem Vals.bls : ∀ {bs : List Bool} {us : List Value}, Vals (bs.map V.bl) us → us = bs.map Value.bool
  | [], us, h => by
    rw [List.map_nil] at h
    cases h
    rfl
  | b :: bs, us, h => by
    rw [List.map_cons] at h
    cases h with
    | cons r t =>
      cases r
      rw [Vals.bls t, List.map_cons]
theorem Vals.ref1 {a : Addr} {us : List Value} (r : Vals [V.ref a] us) : us = [Value.ref a] := by
  cases r with
  | cons r t =>
    cases t
    cases r
    rfl
section
variable {prog : Program} {w : World} {A : Around} {E : Value → Shared → Prop} {s : Shared} {l : Addr} {its : List Value} {ns : List Int} {Q : Value → Shared → Prop}
theorem sum_raw (hh : A.handled = none) (hl : s.heap.IsList l its.toArray) (hi : IntsAre its ns)
    (h : ∀ h' tk t', (∀ b o, s.heap.get? b = some o → h'.get? b = some o) → Q (.int ns.sum t') { s with heap := h', toks := tk }) : wpAny (model prog w) A (call (.builtin "sum") [.ref l]) Q E s := by
  obtain ⟨xs, e⟩ := hi.allInts.items
  have hn : numsOf (intItems xs).toList = ns := by rw [← e]; exact hi.numsOf
  rw [nums_intItems] at hn
  rw [e] at hl
  refine PySem.sum_intListG hh hl fun h' tk t' hk => ?_
  have := h h' tk t' hk
  rw [preSum_eq, List.take_of_length_le (by simp), hn]; exact this
theorem min_raw (hh : A.handled = none) (hl : s.heap.IsList l its.toArray) (hi : IntsAre its ns) (hne : 0 < ns.length)
    (h : ∀ h' tk M t', (∀ b o, s.heap.get? b = some o → h'.get? b = some o) → M ∈ ns → (∀ a, a ∈ ns → M ≤ a) → Q (.int M t') { s with heap := h', toks := tk }) : wpAny (model prog w) A (call (.builtin "min") [.ref l]) Q E s := by
  obtain ⟨xs, e⟩ := hi.allInts.items
  have hn : numsOf (intItems xs).toList = ns := by rw [← e]; exact hi.numsOf
  rw [nums_intItems] at hn
  subst hn
  rw [e] at hl
  have hsz : 0 < xs.size := by simpa using hne
  refine PySem.min_intList hh hl hsz fun v h' tk hv hk => ?_
  obtain ⟨t, rfl⟩ := intItems_at hv
  obtain ⟨h1, h2⟩ := argBest_lt (numAt xs) (xs.size - 1)
  refine h h' tk _ t hk ?_ fun a ha => ?_
  · rw [numAt_eq]; exact PySem.getD_mem (by rw [List.length_map, Array.length_toList]; omega)
  · obtain ⟨j, hj, rfl⟩ := mem_getD ha
    rw [List.length_map, Array.length_toList] at hj
    rw [← numAt_eq]; exact h2 j (by omega)
end
section
variable {X : Cx}
def rSum (K : PySem.W.Frag) : List V → Hp → VK → Prop := fun vs H Q => ∃ (a : Addr) (ns : List Int), vs = [V.ref a] ∧ SqL K H a (ns.map V.int) ∧ Q (.int ns.sum) H
def rMin (K : PySem.W.Frag) : List V → Hp → VK → Prop := fun vs H Q => ∃ (a : Addr) (ns : List Int), vs = [V.ref a] ∧ SqL K H a (ns.map V.int) ∧ 0 < ns.length ∧ ∀ m, m ∈ ns → (∀ y, y ∈ ns → m ≤ y) → Q (.int m) H
theorem cr_sum (hc : X.calm = true) : CallR X (.builtin "sum") (rSum X.K) := by
  intro pins s σ H vs us Q I r h
  obtain ⟨a, ns, rfl, hs, q⟩ := h
  obtain ⟨its, rv, hl, _⟩ := I.list hs
  rw [Vals.ref1 r]
  exact sum_raw (I.ok.hd hc) hl.isList rv.ints fun h' tk t' hk => ⟨.int _, H, I.kept hk, ⟨_, rfl⟩, q⟩
theorem cr_min (hc : X.calm = true) : CallR X (.builtin "min") (rMin X.K) := by
  intro pins s σ H vs us Q I r h
  obtain ⟨a, ns, rfl, hs, hne, q⟩ := h
  obtain ⟨its, rv, hl, _⟩ := I.list hs
  rw [Vals.ref1 r]
  exact min_raw (I.ok.hd hc) hl.isList rv.ints hne fun h' tk m t' hk h1 h2 => ⟨.int _, H, I.kept hk, ⟨_, rfl⟩, q m h1 h2⟩
end
section
variable {X : Cx}
end
section
variable {X : Cx}
end
theorem iter_any {prog : Program} {w : World} {A : Around} {E : Value → Shared → Prop} {s : Shared} {l : Addr} {items : Array Value} {Q : Value → Shared → Prop} (hl : s.heap.IsList l items)
    (h : ∀ s₂ : Shared, s₂ = { s with heap := s.heap.push { cls := .type "list_iterator", data := .fields #[.ref l, .int 0 0] } } →
      (s₂.heap.IsListIter s.heap.objs.size l 0 ∧ s₂.heap.IsList l items) → l ≠ s.heap.objs.size → Q (.ref s.heap.objs.size) s₂) : wpAny (model prog w) A (pyIter (.ref l)) Q E s := by
  have hlt : l < s.heap.objs.size := by obtain ⟨_, e, _⟩ := hl; exact Heap.lt_size e
  exact wpAny_pyIter_list hl (h _ rfl ⟨⟨_, Heap.get?_push_size _ rfl, rfl, rfl⟩, hl.push _⟩ (Nat.ne_of_lt hlt))
theorem truth_bools {prog : Program} {w : World} {A : Around} {bs : List Bool} {its : List Value} (e : its = bs.map Value.bool) :
    TruthOf prog w A (fun i v => its.toArray[i]? = some v) (fun i => bs.getD i false) := fun i v s Q E hv hq => by
  have hv' : its[i]? = some v := by simpa using hv
  rw [e, List.getElem?_map] at hv'
  obtain ⟨b, hb, rfl⟩ := Option.map_eq_some_iff.mp hv'
  have hg : bs.getD i false = b := by rw [List.getD_eq_getElem?_getD, hb] <;> rfl
  have hq' : Q (bs.getD i false) s := hq
  rw [hg] at hq'
  exact wpAny_truthy_bool hq'
theorem any_range : ∀ bs : List Bool, (List.range bs.length).any (fun i => bs.getD i false) = bs.any id
  | [] => rfl
  | b :: bs => by
    rw [List.length_cons, List.range_succ_eq_map, List.any_cons, List.any_map, List.any_cons, ← any_range bs]
    all_goals rfl
theorem all_range : ∀ bs : List Bool, (List.range bs.length).all (fun i => bs.getD i false) = bs.all id
  | [] => rfl
  | b :: bs => by
    rw [List.length_cons, List.range_succ_eq_map, List.all_cons, List.all_map, List.all_cons, ← all_range bs]
    all_goals rfl
section
variable {X : Cx}
def rAny (K : PySem.W.Frag) : List V → Hp → VK → Prop := fun vs H Q => ∃ (a : Addr) (bs : List Bool), vs = [V.ref a] ∧ SqL K H a (bs.map V.bl) ∧ Q (.bl (bs.any id)) H
def rAll (K : PySem.W.Frag) : List V → Hp → VK → Prop := fun vs H Q => ∃ (a : Addr) (bs : List Bool), vs = [V.ref a] ∧ SqL K H a (bs.map V.bl) ∧ Q (.bl (bs.all id)) H
theorem cr_any (hc : X.calm = true) : CallR X (.builtin "any") (rAny X.K) := by
  intro pins s σ H vs us Q I r h
  obtain ⟨a, bs, rfl, hs, q⟩ := h
  obtain ⟨its, rv, hl, _⟩ := I.list hs
  rw [Vals.ref1 r]
  have hb := rv.bls
  refine call_any_walk (iter_any hl.isList fun s₂ e2 st hne => ?_)
  subst e2
  refine ⟨_, _, _, _, _, _, _, rfl, Walks.list (A := X.A.in1) (I.ok.hd hc) _ a hne its.toArray, st, truth_bools hb, fun h' tk hk => ?_⟩
  refine ⟨.bl _, H, I.kept fun b o eo => hk b o (fun hmem => ?_) (Heap.get?_push_of_some _ eo), ?_, q⟩
  · rcases List.mem_cons.mp hmem with e1 | hmem
    · exact absurd (e1 ▸ Heap.lt_size eo) (Nat.lt_irrefl _)
    · cases hmem
  · show Value.bool _ = Value.bool _
    rw [← any_range, hb, List.size_toArray, List.length_map]
theorem cr_all (hc : X.calm = true) : CallR X (.builtin "all") (rAll X.K) := by
  intro pins s σ H vs us Q I r h
  obtain ⟨a, bs, rfl, hs, q⟩ := h
  obtain ⟨its, rv, hl, _⟩ := I.list hs
  rw [Vals.ref1 r]
  have hb := rv.bls
  refine call_all_walk (iter_any hl.isList fun s₂ e2 st hne => ?_)
  subst e2
  refine ⟨_, _, _, _, _, _, _, rfl, Walks.list (A := X.A.in1) (I.ok.hd hc) _ a hne its.toArray, st, truth_bools hb, fun h' tk hk => ?_⟩
  refine ⟨.bl _, H, I.kept fun b o eo => hk b o (fun hmem => ?_) (Heap.get?_push_of_some _ eo), ?_, q⟩
  · rcases List.mem_cons.mp hmem with e1 | hmem
    · exact absurd (e1 ▸ Heap.lt_size eo) (Nat.lt_irrefl _)
    · cases hmem
  · show Value.bool _ = Value.bool _
    rw [← all_range, hb, List.size_toArray, List.length_map]
end
mutual
inductive Dp (K : PySem.W.Frag) (H : Hp) : V → PyData → Prop
  | non : Dp K H .non .none
  | bl (b : Bool) : Dp K H (.bl b) (.bool b)
  | int (i : Int) : Dp K H (.int i) (.int i)
  | str (x : Str) : Dp K H (.str x) (.str x)
  | lst {a : Addr} {xs : List V} {ds : List PyData} : SqL K H a xs → DpAll K H xs ds → Dp K H (.ref a) (.list ds)
  | tup {a : Addr} {xs : List V} {ds : List PyData} : SqT K H a xs → DpAll K H xs ds → Dp K H (.ref a) (.tuple ds)
inductive DpAll (K : PySem.W.Frag) (H : Hp) : List V → List PyData → Prop
  | nil : DpAll K H [] []
  | cons {v : V} {vs : List V} {d : PyData} {ds : List PyData} : Dp K H v d → DpAll K H vs ds → DpAll K H (v :: vs) (d :: ds)
end
section
variable {X : Cx} {pins : List (Addr × Obj)} {σ : St} {H : Hp} {s : Shared}
mutual
theorem Dp.reads (I : Inv X pins σ H s) : ∀ (d : PyData) (v : V) (u : Value), Dp X.K H v d → RelV v u → ∃ as, Reads s.heap u d as
  | .none, _, _, h, r => by
    cases h
    cases r
    exact ⟨_, Reads.none⟩
  | .bool b, _, _, h, r => by
    cases h
    cases r
    exact ⟨_, Reads.bool b⟩
  | .int i, _, _, h, r => by
    cases h
    obtain ⟨t, rfl⟩ := r
    exact ⟨_, Reads.int i t⟩
  | .str x, _, _, h, r => by
    cases h
    obtain ⟨t, rfl⟩ := r
    exact ⟨_, Reads.str x t⟩
  | .list ds, _, _, h, r => by
    cases h with
    | lst hs ha =>
      cases r
      obtain ⟨its, rv, ⟨o, n, ho, hc, _, hd⟩, _⟩ := I.list hs
      obtain ⟨as, hr⟩ := Dp.readsAll I ds _ its ha rv
      exact ⟨_, Reads.list ho hc hd hr⟩
  | .tuple ds, _, _, h, r => by
    cases h with
    | tup hs ha =>
      cases r
      obtain ⟨its, rv, ⟨o, ho, hc, n, hd⟩, _⟩ := I.tuple hs
      obtain ⟨as, hr⟩ := Dp.readsAll I ds _ its ha rv
      exact ⟨_, Reads.tuple ho hc hd hr⟩
  | .dict _, _, _, h, _ => by cases h
theorem Dp.readsAll (I : Inv X pins σ H s) : ∀ (ds : List PyData) (vs : List V) (us : List Value), DpAll X.K H vs ds → Vals vs us → ∃ as, ReadsAll s.heap us ds as
  | [], _, _, h, r => by
    cases h
    cases r
    exact ⟨_, ReadsAll.nil⟩
  | d :: ds, _, _, h, r => by
    cases h with
    | cons h1 h2 =>
      cases r with
      | cons r1 r2 =>
        obtain ⟨as, q1⟩ := Dp.reads I d _ _ h1 r1
        obtain ⟨bs, q2⟩ := Dp.readsAll I ds _ _ h2 r2
        exact ⟨_, ReadsAll.cons q1 q2⟩
end
end
section
variable {X : Cx}
end
end L2
namespace L2
open PySem PySem.Spec PyProof.Rows
abbrev CellAt (h : Heap) (c : Addr) (v : Option Value) : Prop := h.IsCell c v
def relS (scope sc : Scope) : Scope :=
  { scope with names := scope.names.map fun (n, k) => if (k == .free && sc.kind == .function && sc.names.lookup n == some .cell) then (n, .cell) else (n, k) }
def cloFrom (cells : List (Str × Addr)) : List (Str × NameKind) → List (Str × Addr) → List (Str × Addr)
  | [], acc => acc
  | (n, k) :: r, acc => if k == .free then cloFrom cells r ((n, (cells.lookup n).getD 0) :: acc) else cloFrom cells r acc
theorem closure_loop (env : Env) (f : Str × NameKind → List (Str × Addr) → Sem (ForInStep (List (Str × Addr))))
    (hf : ∀ n k c, f (n, k) c = if k == .free then (do let a ← cellOf env n; pure (.yield ((n, a) :: c))) else pure (.yield c)) :
    ∀ (names : List (Str × NameKind)) (acc : List (Str × Addr)), (∀ y ∈ names, y.2 = .free → ∃ c, env.cells.lookup y.1 = some c) → forIn names acc f = pure (cloFrom env.cells names acc)
  | [], acc, _ => by rw [List.forIn_nil]; rfl
  | (n, k) :: r, acc, h => by
    rw [List.forIn_cons, hf]
    have ih := fun acc => closure_loop env f hf r acc fun y hy => h y (List.mem_cons_of_mem _ hy)
    unfold cloFrom
    by_cases hk : (k == NameKind.free) = true
    · rw [if_pos hk, if_pos hk]
      obtain ⟨c, hc⟩ := h (n, k) List.mem_cons_self (by simpa using hk)
      have e : cellOf env n = pure c := by unfold cellOf; rw [hc]
      rw [e]
      have e2 : (env.cells.lookup n).getD 0 = c := by rw [hc]; rfl
      rw [e2]
      exact ih _
    · rw [if_neg hk, if_neg hk]
      exact ih _
theorem closure_ok {scope : Scope} {env : Env} (h : ∀ y ∈ scope.names, y.2 = .free → ∃ c, env.cells.lookup y.1 = some c) : closureFor scope env = pure (cloFrom env.cells scope.names []) := by
  simp only [closureFor]
  rw [closure_loop env _ (fun n k c => rfl) scope.names [] h]
  rfl
theorem mem_lookup {α : Type} : ∀ {l : List (Str × α)} {n : Str} {c : α}, (n, c) ∈ l → ∃ c', l.lookup n = some c'
  | (k, v) :: r, n, c, h => by
    rw [List.lookup_cons]
    cases hb : n == k with
    | true => exact ⟨_, rfl⟩
    | false =>
      rcases List.mem_cons.mp h with e | h
      · cases e; simp at hb
      · exact mem_lookup h
theorem cloFrom_mem {cells : List (Str × Addr)} : ∀ {names : List (Str × NameKind)} {acc : List (Str × Addr)} {n : Str} {c : Addr}, (n, c) ∈ cloFrom cells names acc → (n, c) ∈ acc ∨ ((n, .free) ∈ names ∧ c = (cells.lookup n).getD 0)
  | [], _, _, _, h => .inl h
  | (m, k) :: r, acc, n, c, h => by
    unfold cloFrom at h
    split at h
    · rename_i hk
      have hk : k = .free := by simpa using hk
      rcases cloFrom_mem h with h | ⟨h1, h2⟩
      · rcases List.mem_cons.mp h with e | h
        · cases e; exact .inr ⟨hk ▸ List.mem_cons_self, rfl⟩
        · exact .inl h
      · exact .inr ⟨List.mem_cons_of_mem _ h1, h2⟩
    · rcases cloFrom_mem h with h | ⟨h1, h2⟩
      · exact .inl h
      · exact .inr ⟨List.mem_cons_of_mem _ h1, h2⟩
theorem cloFrom_acc {cells : List (Str × Addr)} : ∀ {names : List (Str × NameKind)} {acc : List (Str × Addr)} {p : Str × Addr}, p ∈ acc → p ∈ cloFrom cells names acc
  | [], _, _, h => h
  | (m, k) :: r, acc, p, h => by
    unfold cloFrom
    split
    · exact cloFrom_acc (List.mem_cons_of_mem _ h)
    · exact cloFrom_acc h
theorem cloFrom_has {cells : List (Str × Addr)} : ∀ {names : List (Str × NameKind)} {acc : List (Str × Addr)} {n : Str}, (n, .free) ∈ names → (n, (cells.lookup n).getD 0) ∈ cloFrom cells names acc
  | (m, k) :: r, acc, n, h => by
    unfold cloFrom
    rcases List.mem_cons.mp h with e | h
    · cases e
      exact cloFrom_acc List.mem_cons_self
    · split
      · exact cloFrom_has h
      · exact cloFrom_has h
theorem cells_mem : ∀ {names : List (Str × NameKind)} {h : Heap} {acc : List (Str × Addr)} {x : Str} {c : Addr}, (x, c) ∈ cellsFrom h.objs.size names acc →
    (x, c) ∈ acc ∨ ((x, .cell) ∈ names ∧ h.objs.size ≤ c ∧ CellAt (pushCells h names) c none)
  | [], _, _, _, _, h => .inl h
  | (n, k) :: r, h, acc, x, c, hm => by
    unfold cellsFrom at hm
    unfold pushCells
    split at hm
    · rename_i hk
      rw [if_pos hk]
      have hk : k = .cell := by simpa using hk
      rw [← Heap.size_push h { cls := .type "cell", data := .cell none }] at hm
      rcases cells_mem hm with hm | ⟨h1, h2, h3⟩
      · rcases List.mem_cons.mp hm with e | hm
        · cases e
          exact .inr ⟨hk ▸ List.mem_cons_self, Nat.le_refl _, _, pushCells_keeps r _ _ _ (Heap.get?_push_size _ rfl), rfl⟩
        · exact .inl hm
      · rw [Heap.size_push] at h2
        exact .inr ⟨List.mem_cons_of_mem _ h1, Nat.le_of_succ_le h2, h3⟩
    · rename_i hk
      rw [if_neg hk]
      rcases cells_mem hm with hm | ⟨h1, h2, h3⟩
      · exact .inl hm
      · exact .inr ⟨List.mem_cons_of_mem _ h1, h2, h3⟩
theorem cells_acc : ∀ {names : List (Str × NameKind)} {n : Nat} {acc : List (Str × Addr)} {p : Str × Addr}, p ∈ acc → p ∈ cellsFrom n names acc
  | [], _, _, _, h => h
  | (m, k) :: r, n, acc, p, h => by
    unfold cellsFrom
    split
    · exact cells_acc (List.mem_cons_of_mem _ h)
    · exact cells_acc h
theorem cells_has : ∀ {names : List (Str × NameKind)} {n : Nat} {acc : List (Str × Addr)} {x : Str}, (x, .cell) ∈ names → ∃ c, (x, c) ∈ cellsFrom n names acc
  | (m, k) :: r, n, acc, x, h => by
    unfold cellsFrom
    rcases List.mem_cons.mp h with e | h
    · cases e
      exact ⟨n, cells_acc List.mem_cons_self⟩
    · split
      · exact cells_has h
      · exact cells_has h
theorem cells_inj : ∀ {names : List (Str × NameKind)} {h : Heap} {acc : List (Str × Addr)} {x y : Str} {c : Addr}, (∀ p ∈ acc, p.2 < h.objs.size) → (∀ x y c, (x, c) ∈ acc → (y, c) ∈ acc → x = y) →
    (x, c) ∈ cellsFrom h.objs.size names acc → (y, c) ∈ cellsFrom h.objs.size names acc → x = y
  | [], _, _, _, _, _, _, hi, h1, h2 => hi _ _ _ h1 h2
  | (n, k) :: r, h, acc, x, y, c, hl, hi, h1, h2 => by
    unfold cellsFrom at h1 h2
    split at h1
    · rename_i hk
      rw [if_pos hk] at h2
      rw [← Heap.size_push h { cls := .type "cell", data := .cell none }] at h1 h2
      refine cells_inj (h := h.push _) (fun p hp => ?_) (fun x y c a b => ?_) h1 h2
      · rw [Heap.size_push]
        rcases List.mem_cons.mp hp with rfl | hp
        · exact Nat.lt_succ_self _
        · exact Nat.lt_succ_of_lt (hl p hp)
      · rcases List.mem_cons.mp a with e | a <;> rcases List.mem_cons.mp b with e' | b
        · cases e; cases e'; rfl
        · cases e; exact absurd (hl _ b) (Nat.lt_irrefl _)
        · cases e'; exact absurd (hl _ a) (Nat.lt_irrefl _)
        · exact hi _ _ _ a b
    · rename_i hk
      rw [if_neg hk] at h2
      exact cells_inj hl hi h1 h2
theorem newEnv_comp {M : Model} {A : Around} {E : Value → Shared → Prop} {s : Shared} {scope : Scope} {globals : Addr} {closure : List (Str × Addr)} {qual : Str} {func : Option Addr} {code : Value} {around : Env} {builtins : Addr} {Q : Env → Shared → Prop}
    (h : Q (newEnv scope s.heap.objs.size globals (cellsFrom (s.heap.objs.size + 1) scope.names closure) qual func code (some around) builtins)
      { s with heap := pushCells (s.heap.push { cls := .type "dict", data := .dict #[] }) scope.names }) :
    wpAny M A (newFunctionEnv scope globals closure [] qual func code (some around) builtins) Q E s := by
  simp only [newFunctionEnv, Option.isSome_some, if_true]
  refine wpAny_bind (wpAny_alloc ?_)
  refine wpAny_bind (wpAny_layCells _ (fun n k c => rfl) scope.names closure _ _ ?_)
  rw [show ({ s with heap := s.heap.push { cls := .type "dict", data := .dict #[] } } : Shared).heap.objs.size = s.heap.objs.size + 1 from Heap.size_push ..]
  rw [List.forIn_nil]
  exact wpAny_bind (wpAny_pure (wpAny_pure h))
theorem lookup_relS {sc : Scope} : ∀ {names : List (Str × NameKind)} {x : Str} {k : NameKind},
    (names.map fun (n, k) => if (k == NameKind.free && sc.kind == .function && sc.names.lookup n == some .cell) then (n, NameKind.cell) else (n, k)).lookup x = some k →
    ∃ k', names.lookup x = some k' ∧ (k = k' ∨ (k' = .free ∧ k = .cell))
  | [], _, _, h => by simp at h
  | (n, k₀) :: r, x, k, h => by
    have ih := @lookup_relS sc r x k
    have h' : List.lookup x ((if (k₀ == NameKind.free && sc.kind == .function && sc.names.lookup n == some .cell) = true then (n, NameKind.cell) else (n, k₀)) :: (r.map _)) = some k := h
    cases hx : x == n with
    | true =>
      simp only [List.lookup_cons, hx]
      by_cases hc : (k₀ == NameKind.free && sc.kind == .function && sc.names.lookup n == some .cell) = true
      · rw [if_pos hc] at h'
        simp only [List.lookup_cons, hx] at h'
        cases h'
        simp only [Bool.and_eq_true, beq_iff_eq] at hc
        exact ⟨k₀, rfl, .inr ⟨hc.1.1, rfl⟩⟩
      · rw [if_neg hc] at h'
        simp only [List.lookup_cons, hx] at h'
        cases h'
        exact ⟨_, rfl, .inl rfl⟩
    | false =>
      simp only [List.lookup_cons, hx]
      by_cases hc : (k₀ == NameKind.free && sc.kind == .function && sc.names.lookup n == some .cell) = true
      · rw [if_pos hc] at h'
        simp only [List.lookup_cons, hx] at h'
        exact ih h'
      · rw [if_neg hc] at h'
        simp only [List.lookup_cons, hx] at h'
        exact ih h'
structure BlkOk (N : List Str) (sc scope : Scope) (own : List (Str × Nat)) : Prop where
  kind : scope.kind = .function
  uniq : ∀ y ∈ scope.names, scope.names.lookup y.1 = some y.2
  ix : ∀ p ∈ own, N[p.2]? = some p.1
  free : ∀ y ∈ scope.names, y.2 = .free → sc.names.lookup y.1 = some .cell ∨ sc.names.lookup y.1 = some .free
  own : ∀ y ∈ scope.names, y.2 = .local ∨ y.2 = .cell → y.1 ∈ own.map (·.1) ∨ y.1 ∉ N
def wipe (σ : St) : List Nat → St
  | [] => σ
  | v :: vs => (wipe σ vs).set v none
theorem wipe_length (σ : St) : ∀ vs : List Nat, (wipe σ vs).length = σ.length
  | [] => rfl
  | v :: vs => by unfold wipe; rw [List.length_set, wipe_length σ vs]
theorem wipe_some {σ : St} {i : Nat} {x : V} : ∀ {vs : List Nat}, (wipe σ vs)[i]? = some (some x) → σ[i]? = some (some x) ∧ i ∉ vs
  | [], h => ⟨h, by simp⟩
  | v :: vs, h => by
    unfold wipe at h
    by_cases hi : v = i
    · subst hi
      by_cases hv : v < (wipe σ vs).length
      · rw [List.getElem?_set_self hv] at h; cases h
      · rw [List.getElem?_eq_none (by simpa using hv)] at h; cases h
    · rw [List.getElem?_set_ne hi] at h
      obtain ⟨h1, h2⟩ := wipe_some h
      exact ⟨h1, by simp only [List.mem_cons, not_or]; exact ⟨fun e => hi e.symm, h2⟩⟩
abbrev Cx.blk (X : Cx) (s : Shared) (H : Hp) (scope : Scope) (cenv : Env) (fp : List Addr) : Cx := { X with s_0 := s, H_0 := H, env := cenv, outer := X.stack, ex := fp, fn := fun x => scope.names.lookup x == some .cell, pn := [], xe := fun _ _ => False }
section
variable {X : Cx} {pins : List (Addr × Obj)} {σ : St} {H : Hp} {s : Shared}
theorem block_start {scope : Scope} {own : List (Str × Nat)} {fp : List Addr} (I : Inv X pins σ H s) (ok : BlkOk X.N X.env.scope scope own) (hN : X.N.Nodup) (hfp : ∀ b ∈ fp, FpOk X pins H b ∧ b < s.heap.objs.size) :
    Inv (X.blk s H scope (compEnvC scope (cellsFrom (s.heap.objs.size + 1) scope.names (cloFrom X.env.cells scope.names [])) s.heap.objs.size X.env) fp) [] (wipe σ (own.map (·.2))) H { s with heap := pushCells (s.heap.push { cls := .type "dict", data := .dict #[] }) scope.names } := by
  have hfree : ∀ y ∈ scope.names, y.2 = .free → ∃ c, X.env.cells.lookup y.1 = some c := fun y hy e => by
    rcases ok.free y hy e with k | k
    · exact I.ok.has _ (.inl k)
    · exact I.ok.has _ (.inr k)
  generalize hcenv : compEnvC scope (cellsFrom (s.heap.objs.size + 1) scope.names (cloFrom X.env.cells scope.names [])) s.heap.objs.size X.env = cenv
  have kp : ∀ b o, s.heap.get? b = some o → (pushCells (s.heap.push { cls := .type "dict", data := .dict #[] }) scope.names).get? b = some o := fun b o e => pushCells_keeps _ _ _ _ (Heap.get?_push_of_some _ e)
  have hL : cenv.locals = s.heap.objs.size := by rw [← hcenv]; rfl
  have hcl : cenv.cells = cellsFrom (s.heap.objs.size + 1) scope.names (cloFrom X.env.cells scope.names []) := by rw [← hcenv]; rfl
  have hsc : cenv.scope = relS scope X.env.scope := by rw [← hcenv]; rfl
  rw [← Heap.size_push s.heap { cls := .type "dict", data := .dict #[] }] at hcl
  have cm : ∀ {y c}, (y, c) ∈ cloFrom X.env.cells scope.names [] → X.env.cells.lookup y = some c ∧ c < s.heap.objs.size := fun {y c} hm => by
    rcases cloFrom_mem hm with hm | ⟨h1, rfl⟩
    · cases hm
    · obtain ⟨c, hc⟩ := hfree _ h1 rfl
      rw [hc]
      obtain ⟨w, z⟩ := I.cell _ _ hc
      exact ⟨rfl, z.lt⟩
  have mem : ∀ {y c}, cenv.cells.lookup y = some c → (X.env.cells.lookup y = some c ∧ c < s.heap.objs.size) ∨ (s.heap.objs.size + 1 ≤ c ∧ CellAt (pushCells (s.heap.push { cls := .type "dict", data := .dict #[] }) scope.names) c none) := fun {y c} e => by
    rw [hcl] at e
    rcases cells_mem (PySem.mem_of_lookup e) with hm | ⟨_, h2, h3⟩
    · exact .inl (cm hm)
    · rw [Heap.size_push] at h2; exact .inr ⟨h2, h3⟩
  have look : ∀ {y}, scope.names.lookup y = some .free → ∃ c, cenv.cells.lookup y = some c ∧ X.env.cells.lookup y = some c := fun {y} hl => by
    have hy : (y, NameKind.free) ∈ scope.names := PySem.mem_of_lookup hl
    obtain ⟨c', e'⟩ := mem_lookup (cells_acc (names := scope.names) (n := (s.heap.push { cls := .type "dict", data := .dict #[] }).objs.size) (cloFrom_has (cells := X.env.cells) (acc := []) hy))
    rw [← hcl] at e'
    refine ⟨c', e', ?_⟩
    rw [hcl] at e'
    rcases cells_mem (PySem.mem_of_lookup e') with hm | ⟨h1, _, _⟩
    · exact (cm hm).1
    · have := ok.uniq _ h1
      rw [hl] at this; cases this
  have okB : (X.blk s H scope cenv fp).Ok := by
    refine ⟨I.ok.mod, by show cenv.scope.kind = _; rw [hsc]; exact ok.kind, by show cenv.globals = _; rw [← hcenv]; exact I.ok.glob, by show cenv.builtins = _; rw [← hcenv]; exact I.ok.blt, by show s.heap.objs.size ≤ cenv.locals; rw [hL]; exact Nat.le_refl _,
      fun y z c e1 e2 => ?_, fun y hy => ?_, fun y c z e => ?_, I.ok.hd, I.ok.frames, .inl rfl, fun b hb => ⟨?_, fun y c e z => ?_⟩, I.bs, Nat.le_trans I.ok.bsz I.sz, fun b o e hb => ?_, fun b hb z => ?_, I.stack, I.stkFree⟩
    · have e1 : cenv.cells.lookup y = some c := e1
      have e2 : cenv.cells.lookup z = some c := e2
      rw [hcl] at e1 e2
      refine cells_inj (fun p hp => ?_) (fun y z c a b => I.ok.inj y z c (cm a).1 (cm b).1) (PySem.mem_of_lookup e1) (PySem.mem_of_lookup e2)
      rw [Heap.size_push]
      exact Nat.lt_succ_of_lt (cm (y := p.1) (c := p.2) hp).2
    · show ∃ c, cenv.cells.lookup y = some c
      have key : ∀ k, cenv.kindOf y = some k → (k = .cell ∨ k = .free) → ∃ c, cenv.cells.lookup y = some c := fun k hk hk' => by
        unfold Env.kindOf at hk
        rw [hsc] at hk
        obtain ⟨k', e, r⟩ := lookup_relS hk
        have : k' = .cell ∨ k' = .free := by
          rcases r with rfl | ⟨rfl, _⟩
          · exact hk'
          · exact .inr rfl
        rcases this with rfl | rfl
        · obtain ⟨c, hm⟩ := cells_has (n := (s.heap.push { cls := .type "dict", data := .dict #[] }).objs.size) (acc := cloFrom X.env.cells scope.names []) (PySem.mem_of_lookup e)
          obtain ⟨c', e'⟩ := mem_lookup hm
          exact ⟨c', by rw [hcl]; exact e'⟩
        · obtain ⟨c, h1, _⟩ := look e
          exact ⟨c, h1⟩
      rcases hy with hy | hy
      · exact key _ hy (.inl rfl)
      · exact key _ hy (.inr rfl)
    · have z : (scope.names.lookup y == some NameKind.cell) = true := z
      have z : scope.names.lookup y = some .cell := by simpa using z
      have e : cenv.cells.lookup y = some c := e
      rw [hcl] at e
      rcases cells_mem (PySem.mem_of_lookup e) with hm | ⟨_, h2, _⟩
      · rcases cloFrom_mem hm with hm | ⟨h1, _⟩
        · cases hm
        · have q := ok.uniq _ h1
          rw [z] at q; cases q
      · rw [Heap.size_push] at h2
        exact Nat.le_of_succ_le h2
    · show b ≠ cenv.locals
      rw [hL]; exact Nat.ne_of_lt (hfp b hb).2
    · have e : cenv.cells.lookup y = some c := e
      rcases mem e with ⟨h1, _⟩ | ⟨h1, _⟩
      · exact (hfp b hb).1.2.2.2.2.1 y c h1 z
      · have h2 : s.heap.objs.size + 1 ≤ b := by rw [← z]; exact h1
        exact absurd (Nat.lt_of_lt_of_le (hfp b hb).2 (Nat.le_of_succ_le h2)) (Nat.lt_irrefl _)
    · rcases (hfp b hb).1.2.2.2.1 with z | z
      · exact I.ok.noex b o e z
      · exact absurd (Nat.lt_of_lt_of_le (Heap.lt_size e) (Nat.le_trans I.ok.bsz z)) (Nat.lt_irrefl _)
    · rcases List.mem_cons.mp (I.stkSub b z) with z | z
      · exact (hfp b hb).1.2.1 z
      · exact (hfp b hb).1.2.2.1 z
  refine ⟨okB, rfl, I.bare, Un.kept kp, ⟨fun _ => none, ?_, fun i y av e1 e2 e3 => ?_⟩, fun y c e => ?_, ?_, fun y c e => ?_, fun p hp => ?_, I.hok.kept kp, by rw [wipe_length]; exact I.len⟩
  · show Heap.Ns _ cenv.locals _
    rw [hL]
    exact Heap.Ns.keeps (Heap.Ns.new ..) fun b o e => pushCells_keeps _ _ _ _ e
  · obtain ⟨e2, hne⟩ := wipe_some e2
    have hfr : scope.names.lookup y = some .free ∧ (cenv.kindOf y = some .cell ∨ cenv.kindOf y = some .free) := by
      have key : ∀ k, cenv.scope.names.lookup y = some k → k = .local ∨ k = .cell ∨ k = .free → scope.names.lookup y = some .free ∧ (cenv.kindOf y = some .cell ∨ cenv.kindOf y = some .free) := fun k hk hk' => by
        have hk0 := hk
        rw [hsc] at hk
        obtain ⟨k', e, r⟩ := lookup_relS hk
        have no : ¬ (k' = .local ∨ k' = .cell) := fun hh => by
          rcases ok.own _ (PySem.mem_of_lookup e) hh with e' | e'
          · obtain ⟨p, hp, hpy⟩ := List.mem_map.mp e'
            have e3 := ok.ix p hp
            have : p.1 = y := hpy
            rw [this] at e3
            exact hne (List.mem_map.mpr ⟨p, hp, nodup_ix hN e3 e1⟩)
          · exact e' (List.mem_of_getElem? e1)
        rcases r with rfl | ⟨rfl, rfl⟩
        · rcases hk' with rfl | rfl | rfl
          · exact absurd (.inl rfl) no
          · exact absurd (.inr rfl) no
          · exact ⟨e, .inr hk0⟩
        · exact ⟨e, .inl hk0⟩
      have e3 : Vis cenv.scope y := e3
      rcases e3 with e3 | e3 | e3
      · exact key _ e3 (.inl rfl)
      · exact key _ e3 (.inr (.inl rfl))
      · exact key _ e3 (.inr (.inr rfl))
    obtain ⟨m, hn, hl⟩ := I.loc
    have hvis : Vis X.env.scope y := (ok.free _ (PySem.mem_of_lookup hfr.1) rfl).elim (fun k => .inr (.inl k)) (fun k => .inr (.inr k))
    obtain ⟨w, r, q⟩ := hl i y av e1 e2 hvis
    refine ⟨w, r, .inr ⟨hfr.2, ?_⟩⟩
    obtain ⟨c, h1, h2⟩ := look hfr.1
    rcases q with ⟨k, _⟩ | ⟨_, c', e', z⟩
    · have k : X.env.scope.names.lookup y = some .local := k
      rcases ok.free _ (PySem.mem_of_lookup hfr.1) rfl with k' | k' <;> rw [show X.env.scope.names.lookup y = _ from k'] at k <;> cases k
    · rw [h2] at e'; cases e'
      exact ⟨c, h1, z.keeps kp⟩
  · have e : cenv.cells.lookup y = some c := e
    rcases mem e with ⟨h1, _⟩ | ⟨_, z⟩
    · obtain ⟨w, z⟩ := I.cell y c h1
      exact ⟨w, z.keeps kp⟩
    · exact ⟨_, z⟩
  · show H cenv.locals = none
    rw [hL]; exact I.hok.fresh (Nat.le_refl _)
  · have e : cenv.cells.lookup y = some c := e
    rcases mem e with ⟨h1, _⟩ | ⟨h1, _⟩
    · exact I.freeC y c h1
    · exact I.hok.fresh (Nat.le_of_succ_le h1)
  · exact absurd (show p ∈ ([] : List (Addr × Obj)) ++ [] from hp) (by simp)
theorem app_ok {E : Value → Shared → Prop} {D : Addr} {xs : List V} {y : V} {v : Value} {Q : Value → Shared → Prop} (I : Inv X pins σ H s) (hD : H D = some (.lst xs)) (hz : xs.length < sizeLine) (r : RelV y v)
    (h : ∀ s', Inv X pins σ (upd H D (.lst (xs ++ [y]))) s' → Q .none s') : wpAny (model X.prog X.w) X.A (call (.builtin "list.append") [.ref D, v]) Q E s := by
  obtain ⟨hz', its, n, ri, e⟩ := I.hok D _ hD
  have hl := ri.length
  refine append_at (hsz := by rw [List.size_toArray]; omega) e fun h' sb ho' => ?_
  refine h { s with heap := h' } (I.write (t' := s.toks) (by rw [hD]; trivial) (.inl rfl) (fun b u hb q => (sb.2 b hb).trans q) ⟨_, ho'⟩ ⟨by rw [List.length_append]; exact hz, its ++ [v], n + 1, ri.append (.cons r .nil), ?_⟩)
  rw [ho']
  simp
def PTs (X : Cx) (ifs : List Expr) (t : TT) : Prop :=
  ∀ (pins : List (Addr × Obj)) (s : Shared) (σ : St) (H : Hp) (Q : Bool → Hp → Prop), Inv X pins σ H s → t σ H Q →
    wpAny (model X.prog X.w) X.A (forIn ifs true fun c r => if r = true then do let ok ← isTrue c X.env (eval c X.env); pure (ForInStep.yield ok) else pure (ForInStep.yield r)) (TP X pins σ Q) X.xe s
def tYes : TT := fun _ H Q => Q true H
theorem pts_nil : PTs X [] tYes := fun _ _ _ H _ I h => wpAny_tests_nil ⟨H, I, h⟩
theorem pts_one {c : Expr} {t : TT} (h : PT X c t) : PTs X [c] t := fun pins s σ H Q I hw => wpAny_tests_one (h pins s σ H Q I hw)
end
theorem thnF {α : Type} {t : Sem α} {Q Q' : α → Shared → Prop} {M : Model} {A : Around} {E : Value → Shared → Prop} {s : Shared} (h : wpAny M A t Q (fun _ _ => False) s) (hQ : ∀ a s, Q a s → Q' a s) : wpAny M A t Q' E s := wpAny_mono h hQ fun _ _ z => False.elim z
theorem compLoop_any {prog : Program} {w : World} {A : Around} {R : Result → Shared → Prop} {s : Shared} {elt target iter : Expr} {ifs : List Expr} {scope : Scope} {pos : Pos} {it acc : Value} {env : Env} (I : Nat → Shared → Prop)
    (turn : ∀ n s, I n s → wpAny (model prog w) A (pyNext it) (fun r s₁ => match r with
      | none => R (.ok .next) s₁
      | some v => wpAny (model prog w) A (letOwnedTupleGo target it v) (fun _ s₁' => wpAny (model prog w) A (assign target env v) (fun _ s₂ =>
          wpAny (model prog w) A (forIn ifs true fun c r => if r = true then do let ok ← isTrue c env (eval c env); pure (ForInStep.yield ok) else pure (ForInStep.yield r)) (fun ok s₃ =>
            if ok = true then wpAny (model prog w) A (eval elt env) (fun x s₄ =>
              wpAny (model prog w) A (call (.builtin "list.append") [acc, x]) (fun _ s₅ => ∃ m, m < n ∧ I m s₅) (notedBy (model prog w) A env fun e s' => R (.error e) s') s₄) (notedBy (model prog w) A env fun e s' => R (.error e) s') s₃
            else ∃ m, m < n ∧ I m s₃) (notedBy (model prog w) A env fun e s' => R (.error e) s') s₂) (notedBy (model prog w) A env fun e s' => R (.error e) s') s₁') (notedBy (model prog w) A env fun e s' => R (.error e) s') s₁) (notedBy (model prog w) A env fun e s' => R (.error e) s') s)
    (n : Nat) (h : I n s) :
    codeAny (model prog w) A (.compLoop (.ListComp elt [⟨target, iter, ifs, 0⟩] scope pos) 0 it acc env) R s := by
  refine codeAny_loop rfl I (fun n s hI => ?_) n h
  show wpAny _ A ((compTurn (.ListComp elt [⟨target, iter, ifs, 0⟩] scope pos) 0 it acc env).onRaise (fun x => do noteFrame x env; theTreesLotGoes x)) _ _ s
  refine wpAny_noted ?_
  rw [compTurn_list]
  refine wpAny_bind (wpAny_standAt (wpAny_bind (wpAny_mono (turn n s hI) (fun r s₁ h₁ => ?_) fun _ _ h' => h')))
  cases r with
  | none => exact wpAny_pure h₁
  | some v =>
    refine wpAny_bind (wpAny_mono h₁ (fun _ s₁' h₁' => ?_) fun _ _ h' => h')
    refine wpAny_bind (wpAny_mono h₁' (fun _ s₂ h₂ => wpAny_bind (wpAny_mono h₂ (fun ok s₃ h₃ => ?_) fun _ _ h' => h')) fun _ _ h' => h')
    cases ok with
    | false => exact wpAny_pure ⟨rfl, h₃⟩
    | true =>
      exact wpAny_bind (wpAny_bind (wpAny_mono h₃ (fun x s₄ h₄ => wpAny_bind (wpAny_mono h₄ (fun _ s₅ h₅ => wpAny_pure (wpAny_pure ⟨rfl, h₅⟩)) fun _ _ h' => h')) fun _ _ h' => h'))
section
variable {X : Cx}
def tLc (wi : TI) (g : TG) (tt : TT) (te : TE) (vs : List Nat) : TE := fun σ H Q => wi σ H fun J H1 => ∀ D, H1 D = none → ∃ W : Nat → Nat → Hp → Prop, (∃ m, W 0 m (upd H1 D (.lst []))) ∧ ∀ i m H, W i m H →
  (J.stop i H ∧ Q (.ref D) H) ∨ (J.go i H ∧ ∃ Nx : Hp → Prop, (∀ H', Nx H' → ∃ m', m' < m ∧ W (i + 1) m' H') ∧ ∀ x H', J.yld i H x H' → g x (wipe σ vs) H' fun σ2 H2 => wipe σ2 vs = wipe σ vs ∧ tt σ2 H2 fun b H3 =>
    if b = true then te σ2 H3 fun y H4 => ∃ acc, H4 D = some (.lst acc) ∧ acc.length < sizeLine ∧ Nx (upd H4 D (.lst (acc ++ [y]))) else Nx H3)
theorem lc_core {pins : List (Addr × Obj)} {s : Shared} {σ : St} {H : Hp} {Q : VK} {elt tg iter : Expr} {ifs : List Expr} {scope : Scope} {own : List (Str × Nat)} {pos pos' : Pos} {wi : TI} {g : TG} {tt : TT} {te : TE} {use : Option (Value → Sem Unit)} {Qf : Value → Shared → Prop}
    (hc : X.calm = true) (hN : X.N.Nodup) (I : Inv X pins σ H s) (hi : PI X tg iter wi) (ok : BlkOk X.N X.env.scope scope own)
    (hg : ∀ (s : Shared) (H : Hp) (C : Addr) (cl : List (Str × Addr)) (fp : List Addr), PG (X.blk s H scope (compEnvC scope cl C X.env) fp) tg g) (ht : ∀ (s : Shared) (H : Hp) (C : Addr) (cl : List (Str × Addr)) (fp : List Addr), PTs (X.blk s H scope (compEnvC scope cl C X.env) fp) ifs tt)
    (he : ∀ (s : Shared) (H : Hp) (C : Addr) (cl : List (Str × Addr)) (fp : List Addr), PE (X.blk s H scope (compEnvC scope cl C X.env) fp) elt te) (hs : ∀ x, foldedSetIterable iter X.env x = pure x)
    (h : tLc wi g tt te (own.map (·.2)) σ H Q)
    (hRR : ∀ D C s' m H', Inv X pins σ H' s' → Q (.ref D) H' → s'.heap.Ns C m → FpOk X pins H' C → compPost (model X.prog X.w) X.A X.xe use Qf (.ref D) C (.ok .next) s') :
    wpAny (model X.prog X.w) X.A (comprehension (.ListComp elt [⟨tg, iter, ifs, 0⟩] scope pos) scope X.env pos' (newList []) false (eval iter X.env) use) Qf X.xe s := by
  have hfree : ∀ y ∈ scope.names, y.2 = .free → ∃ c, X.env.cells.lookup y.1 = some c := fun y hy e => by
    rcases ok.free y hy e with k | k
    · exact I.ok.has _ (.inl k)
    · exact I.ok.has _ (.inr k)
  refine wpAny_comprehension_free (use := use) rfl hs (closure_ok hfree) ok.kind (fun y hy e => by rw [ok.uniq y hy, e])
    (thn (hi pins s σ H _ I h) fun xv s1 hx => thn hx fun itv s2 h2 => ?_)
  obtain ⟨it, fp, tn, J, H2, e, I2, T, st2, f2, q⟩ := h2
  subst e
  refine wpAny_newObj_type (newEnv_comp ?_) (by show 0 ≤ sizeLine; decide)
  generalize hD : s2.heap.objs.size = D
  have hDn : H2 D = none := I2.hok.fresh (Nat.le_of_eq hD)
  obtain ⟨W, ⟨m0, w0⟩, turn⟩ := q D hDn
  generalize hs3 : ({ s2 with heap := s2.heap.push { cls := .type "list", data := .seq ([] : List Value).toArray } } : Shared) = s3
  have I3 : Inv X pins σ (upd H2 D (.lst [])) s3 := by
    rw [← hs3]
    refine I2.laid (t' := s2.toks) (fun b o e => Heap.get?_push_of_some _ e) (Nat.le_of_eq hD) ⟨Nat.zero_le _, [], 0, .nil, ?_⟩
    rw [← hD]
    exact Heap.get?_push_size _ rfl
  have h3 : s3.heap = s2.heap.push { cls := .type "list", data := .seq ([] : List Value).toArray } := by rw [← hs3]
  have sz : ∀ b ∈ fp, b < s2.heap.objs.size := fun b hb => by
    obtain ⟨o, e, _⟩ := T.obj _ _ st2 b hb
    exact Heap.lt_size e
  have f3 : ∀ b ∈ fp, FpOk X pins (upd H2 D (.lst [])) b ∧ b < s3.heap.objs.size := fun b hb => by
    have hlt := sz b hb
    refine ⟨⟨?_, (f2 b hb).2⟩, by rw [h3, Heap.size_push]; exact Nat.lt_succ_of_lt hlt⟩
    rw [upd_ne (by rw [← hD]; exact Nat.ne_of_lt hlt)]
    exact (f2 b hb).1
  have st3 : tn 0 s3.heap := T.keep _ _ _ st2 fun b _ o e => by rw [h3]; exact Heap.get?_push_of_some _ e
  have I4 := block_start I3 ok hN f3
  have pg := hg s3 (upd H2 D (.lst [])) s3.heap.objs.size (cellsFrom (s3.heap.objs.size + 1) scope.names (cloFrom X.env.cells scope.names [])) fp
  have pt := ht s3 (upd H2 D (.lst [])) s3.heap.objs.size (cellsFrom (s3.heap.objs.size + 1) scope.names (cloFrom X.env.cells scope.names [])) fp
  have pe := he s3 (upd H2 D (.lst [])) s3.heap.objs.size (cellsFrom (s3.heap.objs.size + 1) scope.names (cloFrom X.env.cells scope.names [])) fp
  show codeAny _ _ (.compStart (.ListComp elt [⟨tg, iter, ifs, 0⟩] scope pos) 0 (.ref it) (.ref D) (compEnvC scope (cellsFrom (s3.heap.objs.size + 1) scope.names (cloFrom X.env.cells scope.names [])) s3.heap.objs.size X.env)) (compPost (model X.prog X.w) X.A X.xe use Qf (.ref D) s3.heap.objs.size) { s3 with heap := pushCells (s3.heap.push { cls := .type "dict", data := .dict #[] }) scope.names }
  have nfp : ∀ b ∈ fp, (upd H2 D (.lst [])) b = none := fun b hb => (f3 b hb).1.1
  generalize hce : compEnvC scope (cellsFrom (s3.heap.objs.size + 1) scope.names (cloFrom X.env.cells scope.names [])) s3.heap.objs.size X.env = ce at I4 pg pt pe ⊢
  have cL : ce.locals = s3.heap.objs.size := by subst hce; rfl
  generalize hH3 : upd H2 D (.lst []) = H3 at I3 I4 pg pt pe w0 nfp f3
  generalize hs4 : ({ s3 with heap := pushCells (s3.heap.push { cls := .type "dict", data := .dict #[] }) scope.names } : Shared) = s4 at I4 ⊢
  have st4 : tn 0 s4.heap := T.keep _ _ _ st3 fun b _ o e => by rw [← hs4]; exact pushCells_keeps _ _ _ _ (Heap.get?_push_of_some _ e)
  have stat : ∀ {σ' : St} {H' : Hp} {s' : Shared}, Inv (X.blk s3 H3 scope ce fp) [] σ' H' s' → (∀ b ∈ fp, H' b = none) → ∀ b ∈ fp, FpOk (X.blk s3 H3 scope ce fp) [] H' b := fun {σ' H' s'} I' hn b hb =>
    ⟨hn b hb, (I'.ok.exf b hb).1, I'.ok.exfs b hb, .inl hb, fun x c e => (I'.ok.exf b hb).2 x c e, fun p hp => absurd (show p ∈ ([] : List (Addr × Obj)) ++ [] from hp) (by simp)⟩
  have loop : codeAny (model X.prog X.w) X.A (.compLoop (.ListComp elt [⟨tg, iter, ifs, 0⟩] scope pos) 0 (.ref it) (.ref D) ce) (compPost (model X.prog X.w) X.A X.xe use Qf (.ref D) s3.heap.objs.size) s4 := by
    refine compLoop_any (fun n s' => ∃ i H', Inv (X.blk s3 H3 scope ce fp) [] (wipe σ (own.map (·.2))) H' s' ∧ tn i s'.heap ∧ (∀ b ∈ fp, H' b = none) ∧ W i n H') ?_ m0 ⟨0, H3, I4, st4, nfp, w0⟩
    rintro n s5 ⟨i, H5, I5, st5, n5, w5⟩
    rcases turn i n H5 w5 with ⟨stop, qq⟩ | ⟨go, Nx, hNx, step⟩
    · have td := T.done (X.blk s3 H3 scope ce fp) rfl rfl rfl hc i [] s5 _ H5 (fun _ _ => False) I5 (stat I5 n5) st5 stop
      refine thnF td fun r s6 ⟨hr, I6⟩ => ?_
      subst hr
      have I7 : Inv X pins σ H5 s6 := I3.call' (ch := fp) I6.os I6.base I6.hok I6.bare fun b hb => ⟨(f3 b hb).1.2.2.2.1, (f3 b hb).1.2.1, (f3 b hb).1.2.2.2.2.1, (f3 b hb).1.2.2.2.2.2⟩
      have nC : H5 s3.heap.objs.size = none := by
        have z : H5 ce.locals = none := I6.free
        rw [cL] at z
        exact z
      obtain ⟨m, hn, _⟩ := I6.loc
      have hn : s6.heap.Ns ce.locals m := hn
      rw [cL] at hn
      exact hRR D s3.heap.objs.size s6 m H5 I7 qq hn (I3.fpOk (Nat.le_refl _) nC)
    · have ti := T.item (X.blk s3 H3 scope ce fp) rfl rfl rfl hc i [] s5 _ H5 (fun _ _ => False) I5 (stat I5 n5) st5 go
      refine thnF ti fun r s6 ⟨u, hr, h6⟩ => ?_
      subst hr
      refine thnF h6 fun _ s7 ⟨x, H7, I7, r7, y7, st7, n7⟩ => ?_
      have I7' := I7.pinned (stat I7 n7) (T.obj _ _ st7)
      refine thnF (pg _ s7 _ H7 x u _ I7' r7 (step x H7 y7)) fun _ s8 ⟨σ8, H8, I8, hw8, q8⟩ => ?_
      refine thnF (pt _ s8 σ8 H8 _ I8 q8) fun b s9 ⟨H9, I9, q9⟩ => ?_
      have fin : ∀ {s' : Shared} {H' : Hp}, Inv (X.blk s3 H3 scope ce fp) ([] ++ pinsAt fp s7.heap) σ8 H' s' → Nx H' → ∃ m, m < n ∧ ∃ i H', Inv (X.blk s3 H3 scope ce fp) [] (wipe σ (own.map (·.2))) H' s' ∧ tn i s'.heap ∧ (∀ b ∈ fp, H' b = none) ∧ W i m H' := fun {s' H'} I' nx => by
        obtain ⟨m', hm, w'⟩ := hNx H' nx
        have pin' : ∀ b ∈ fp, ∀ o, s7.heap.get? b = some o → s'.heap.get? b = some o ∧ H' b = none := fun b hb o e =>
          let z := I'.pin (b, o) (List.mem_append_right _ (List.mem_append_right _ (mem_pinsAt hb e)))
          ⟨z.1, z.2.1⟩
        have hl : (wipe σ (own.map (·.2))).length = σ8.length := by rw [← hw8, wipe_length]
        refine ⟨m', hm, i + 1, H', (I'.unpinned (pins := [])).weak hl (fun j v e => ?_), T.keep _ _ _ st7 fun b hb o e => (pin' b hb o e).1, fun b hb => ?_, w'⟩
        · rw [← hw8] at e
          exact (wipe_some e).1
        · obtain ⟨o, e, _⟩ := T.obj _ _ st7 b hb
          exact (pin' b hb o e).2
      cases b with
      | false =>
        simp only [Bool.false_eq_true, if_false] at q9 ⊢
        exact fin I9 q9
      | true =>
        simp only [if_true] at q9 ⊢
        refine thnF (pe _ s9 σ8 H9 _ I9 q9) fun z s10 ⟨yv, H10, I10, r10, acc, hD10, hz10, nx⟩ => ?_
        exact app_ok (X := X.blk s3 H3 scope ce fp) I10 hD10 hz10 r10 fun s11 I11 => fin I11 nx
  exact codeAny_compStart_list loop (T.self X.A 0 _ _ _ st4 loop)
theorem pe_lc {elt tg iter : Expr} {ifs : List Expr} {scope : Scope} {own : List (Str × Nat)} {pos : Pos} {wi : TI} {g : TG} {tt : TT} {te : TE} (hc : X.calm = true) (hN : X.N.Nodup) (hi : PI X tg iter wi) (ok : BlkOk X.N X.env.scope scope own)
    (hg : ∀ (s : Shared) (H : Hp) (C : Addr) (cl : List (Str × Addr)) (fp : List Addr), PG (X.blk s H scope (compEnvC scope cl C X.env) fp) tg g) (ht : ∀ (s : Shared) (H : Hp) (C : Addr) (cl : List (Str × Addr)) (fp : List Addr), PTs (X.blk s H scope (compEnvC scope cl C X.env) fp) ifs tt)
    (he : ∀ (s : Shared) (H : Hp) (C : Addr) (cl : List (Str × Addr)) (fp : List Addr), PE (X.blk s H scope (compEnvC scope cl C X.env) fp) elt te) (hs : ∀ x, foldedSetIterable iter X.env x = pure x := by intro _; rfl) :
    PE X (.ListComp elt [⟨tg, iter, ifs, 0⟩] scope pos) (tLc wi g tt te (own.map (·.2))) := by
  intro pins s σ H Q I h
  rw [eval_ListComp]
  refine lc_core hc hN I hi ok hg ht he hs h fun D C s' m H' I' q hn f => ⟨m, hn, fun h'' sb => ?_⟩
  obtain ⟨f0, f1, f2, f3, f4, f5⟩ := f
  exact ⟨.ref D, H', I'.turned (t' := s'.toks) (fun b o hb e => (sb.2 b hb).trans e) f0 f1 f3 f4 f5, rfl, q⟩
theorem ps_setLc {i : Nat} {y : Str} {py : Pos} {elt tg iter : Expr} {ifs : List Expr} {scope : Scope} {own : List (Str × Nat)} {pos spos : Pos} {wi : TI} {g : TG} {tt : TT} {te : TE} (hc : X.calm = true) (hN : X.N.Nodup) (hy : X.N[i]? = some y) (hyl : X.env.scope.names.lookup y = some .local)
    (hsw : swapsWith (.ListComp elt [⟨tg, iter, ifs, 0⟩] scope pos) (some (.Name y py)) spos.line X.env = pure true) (hi : PI X tg iter wi) (ok : BlkOk X.N X.env.scope scope own)
    (hg : ∀ (s : Shared) (H : Hp) (C : Addr) (cl : List (Str × Addr)) (fp : List Addr), PG (X.blk s H scope (compEnvC scope cl C X.env) fp) tg g) (ht : ∀ (s : Shared) (H : Hp) (C : Addr) (cl : List (Str × Addr)) (fp : List Addr), PTs (X.blk s H scope (compEnvC scope cl C X.env) fp) ifs tt)
    (he : ∀ (s : Shared) (H : Hp) (C : Addr) (cl : List (Str × Addr)) (fp : List Addr), PE (X.blk s H scope (compEnvC scope cl C X.env) fp) elt te) (hs : ∀ x, foldedSetIterable iter X.env x = pure x := by intro _; rfl) :
    PS X (.Assign [.Name y py] (.ListComp elt [⟨tg, iter, ifs, 0⟩] scope pos) spos) (tAsg (tLc wi g tt te (own.map (·.2))) (gName i)) := by
  intro pins s σ H D I h
  rw [exec_Assign_Name_used _ _ _ _ hsw]
  refine wpAny_bind (wpAny_standAt (wpAny_bind ?_))
  show wpAny _ X.A (do let _ ← comprehension (.ListComp elt [⟨tg, iter, ifs, 0⟩] scope pos) scope X.env (firstIterPos [⟨tg, iter, ifs, 0⟩] pos) (newList []) false (eval iter X.env) (some (assign (.Name y py) X.env))) _ _ s
  have h : tLc wi g tt te (own.map (·.2)) σ H (fun x H1 => gName i x σ H1 D.nx) := h
  refine wpAny_bind (thn (lc_core (Qf := fun _ s' => SP X pins D .next s') hc hN I hi ok hg ht he hs h fun L C s' m H' I' q hn f => ?_) fun _ s' hq => wpAny_pure (wpAny_pure hq))
  show wpAny _ _ (assign (.Name y py) X.env (.ref L)) _ _ _
  refine wpAny_assign_Name (store_ok2 (v := V.ref L) I' hN hy (.inl hyl) rfl (fun s2 I2 ⟨a, sb, ha⟩ => ?_) (.inr hyl))
  obtain ⟨f0, f1, f2, f3, f4, f5⟩ := f
  have haC : C ≠ a := by
    rcases ha with z | z
    · rw [z]; exact f1
    · exact fun e => f4 y a z e.symm
  refine ⟨m, hn.sameBut sb haC, fun h3 sb3 => ?_⟩
  exact ⟨_, H', I2.turned (t' := s2.toks) (fun b o hb e => (sb3.2 b hb).trans e) f0 f1 f3 f4 f5, q⟩
theorem sw_true {elt : Expr} {gs : List Comprehension} {scope : Scope} {pos py : Pos} {y : Str} {l : Nat} {env : Env} (hk : env.scope.kind = .function) (hy : env.scope.names.lookup y = some .local) (hl : (py.line == pos.line) = true)
    (ha : (scope.names.any fun (n, k) => n == y && (k == .local || k == .cell)) = false) : swapsWith (.ListComp elt gs scope pos) (some (.Name y py)) l env = pure true := by
  have ky : env.kindOf y = some .local := hy
  have hb : env.blockKind = .function := by unfold Env.blockKind; rw [hk]; rfl
  unfold swapsWith
  simp only [hb, ky, ha, Expr.pos, hl]
  rfl
end
theorem lc_list {K : PySem.W.Frag} {a : Addr} {xs : List V} {g : TG} {tt : TT} {te : TE} {vs : List Nat} {σ : St} {H1 : Hp} {D : Addr} {Qd : Hp → Prop} (Pv : Nat → Hp → Prop) (h0 : Pv 0 (upd H1 D (.lst []))) (hl : ∀ i H, i ≤ xs.length → Pv i H → SqL K H a xs)
    (hs : ∀ i x H, xs[i]? = some x → Pv i H → g x (wipe σ vs) H fun σ2 H2 => wipe σ2 vs = wipe σ vs ∧ tt σ2 H2 fun b H3 =>
      if b = true then te σ2 H3 fun y H4 => ∃ acc, H4 D = some (.lst acc) ∧ acc.length < sizeLine ∧ Pv (i + 1) (upd H4 D (.lst (acc ++ [y]))) else Pv (i + 1) H3) (hd : ∀ H, Pv xs.length H → Qd H) :
    ∃ W : Nat → Nat → Hp → Prop, (∃ m, W 0 m (upd H1 D (.lst []))) ∧ ∀ i m H, W i m H →
      ((Itl K a).stop i H ∧ Qd H) ∨ ((Itl K a).go i H ∧ ∃ Nx : Hp → Prop, (∀ H', Nx H' → ∃ m', m' < m ∧ W (i + 1) m' H') ∧ ∀ x H', (Itl K a).yld i H x H' → g x (wipe σ vs) H' fun σ2 H2 => wipe σ2 vs = wipe σ vs ∧ tt σ2 H2 fun b H3 =>
        if b = true then te σ2 H3 fun y H4 => ∃ acc, H4 D = some (.lst acc) ∧ acc.length < sizeLine ∧ Nx (upd H4 D (.lst (acc ++ [y]))) else Nx H3) := by
  refine ⟨fun i m H => m = xs.length - i ∧ i ≤ xs.length ∧ Pv i H, ⟨xs.length, by simp, Nat.zero_le _, h0⟩, ?_⟩
  rintro i m H ⟨rfl, hi, p⟩
  have q := hl i H hi p
  by_cases hlt : i < xs.length
  · refine .inr ⟨⟨xs, xs[i], q, by simp [hlt]⟩, Pv (i + 1), fun H' p' => ⟨xs.length - (i + 1), by omega, rfl, hlt, p'⟩, fun x H' y => ?_⟩
    obtain ⟨e, y⟩ := y
    subst e
    exact hs i x _ (y xs q) p
  · have e : i = xs.length := by omega
    subst e
    exact .inl ⟨⟨xs, q, Nat.le_refl _⟩, hd H p⟩
theorem lc_tup {K : PySem.W.Frag} {a : Addr} {xs : List V} {g : TG} {tt : TT} {te : TE} {vs : List Nat} {σ : St} {H1 : Hp} {D : Addr} {Qd : Hp → Prop} (Pv : Nat → Hp → Prop) (h0 : Pv 0 (upd H1 D (.lst []))) (hl : ∀ i H, i ≤ xs.length → Pv i H → SqT K H a xs)
    (hs : ∀ i x H, xs[i]? = some x → Pv i H → g x (wipe σ vs) H fun σ2 H2 => wipe σ2 vs = wipe σ vs ∧ tt σ2 H2 fun b H3 =>
      if b = true then te σ2 H3 fun y H4 => ∃ acc, H4 D = some (.lst acc) ∧ acc.length < sizeLine ∧ Pv (i + 1) (upd H4 D (.lst (acc ++ [y]))) else Pv (i + 1) H3) (hd : ∀ H, Pv xs.length H → Qd H) :
    ∃ W : Nat → Nat → Hp → Prop, (∃ m, W 0 m (upd H1 D (.lst []))) ∧ ∀ i m H, W i m H →
      ((Itt K a).stop i H ∧ Qd H) ∨ ((Itt K a).go i H ∧ ∃ Nx : Hp → Prop, (∀ H', Nx H' → ∃ m', m' < m ∧ W (i + 1) m' H') ∧ ∀ x H', (Itt K a).yld i H x H' → g x (wipe σ vs) H' fun σ2 H2 => wipe σ2 vs = wipe σ vs ∧ tt σ2 H2 fun b H3 =>
        if b = true then te σ2 H3 fun y H4 => ∃ acc, H4 D = some (.lst acc) ∧ acc.length < sizeLine ∧ Nx (upd H4 D (.lst (acc ++ [y]))) else Nx H3) := by
  refine ⟨fun i m H => m = xs.length - i ∧ i ≤ xs.length ∧ Pv i H, ⟨xs.length, by simp, Nat.zero_le _, h0⟩, ?_⟩
  rintro i m H ⟨rfl, hi, p⟩
  have q := hl i H hi p
  by_cases hlt : i < xs.length
  · refine .inr ⟨⟨xs, xs[i], q, by simp [hlt]⟩, Pv (i + 1), fun H' p' => ⟨xs.length - (i + 1), by omega, rfl, hlt, p'⟩, fun x H' y => ?_⟩
    obtain ⟨e, y⟩ := y
    subst e
    exact hs i x _ (y xs q) p
  · have e : i = xs.length := by omega
    subst e
    exact .inl ⟨⟨xs, q, Nat.le_refl _⟩, hd H p⟩
def blkC (N : List Str) (sc scope : Scope) (own : List (Str × Nat)) : Bool :=
  (match scope.kind with | .function => true | _ => false) && (scope.names.all fun y => decide (scope.names.lookup y.1 = some y.2)) && (own.all fun p => decide (N[p.2]? = some p.1)) &&
    (scope.names.all fun y => match y.2 with
      | .free => (match sc.names.lookup y.1 with | some .cell => true | some .free => true | _ => false)
      | .local => decide (y.1 ∈ own.map (·.1)) || decide (y.1 ∉ N)
      | .cell => decide (y.1 ∈ own.map (·.1)) || decide (y.1 ∉ N)
      | _ => true)
theorem blkOk_by {N : List Str} {sc scope : Scope} {own : List (Str × Nat)} (h : blkC N sc scope own = true) : BlkOk N sc scope own := by
  unfold blkC at h
  simp only [Bool.and_eq_true, List.all_eq_true, decide_eq_true_eq] at h
  obtain ⟨⟨⟨h1, h2⟩, h3⟩, h4⟩ := h
  refine ⟨?_, h2, h3, fun y hy e => ?_, fun y hy e => ?_⟩
  · split at h1
    · assumption
    · cases h1
  · have q := h4 y hy
    simp only [e] at q
    split at q <;> first | exact .inl (by assumption) | exact .inr (by assumption) | cases q
  · have q := h4 y hy
    rcases e with e | e <;> (simp only [e, Bool.or_eq_true, decide_eq_true_eq] at q; exact q)
end L2
namespace L2
open PySem PySem.Spec PyProof.Rows
section
variable {prog : Program} {w : World} {A : Around} {R : Result → Shared → Prop} {s : Shared} {elt t0 i0 t1 i1 : Expr} {ifs0 ifs1 : List Expr} {scope : Scope} {pos : Pos} {it acc : Value} {env : Env}
end
section
variable {X : Cx}
end
end L2
namespace L2
open PySem PySem.Spec PyProof.Rows
section
variable {κ : Type} [DecidableEq κ]
def valV (kvs : List (κ × V)) (k : κ) : Option V := (kvs.find? fun kv => decide (kv.1 = k)).map (·.2)
def putK (kvs : List (κ × V)) (k : κ) (v : V) : List (κ × V) :=
  if (kvs.any fun kv => decide (kv.1 = k)) = true then kvs.map (fun kv => if kv.1 = k then (kv.1, v) else kv) else kvs ++ [(k, v)]
theorem valV_pos {p : κ × V} {r : List (κ × V)} {k : κ} (e : p.1 = k) : valV (p :: r) k = some p.2 := by simp [valV, List.find?_cons, e]
theorem valV_neg {p : κ × V} {r : List (κ × V)} {k : κ} (e : ¬ p.1 = k) : valV (p :: r) k = valV r k := by simp [valV, List.find?_cons, e]
theorem valV_any (k : κ) : ∀ kvs : List (κ × V), (kvs.any fun kv => decide (kv.1 = k)) = (valV kvs k).isSome
  | [] => rfl
  | p :: r => by
    rw [List.any_cons]
    by_cases e : p.1 = k
    · simp only [valV_pos e, decide_eq_true e, Bool.true_or, Option.isSome_some]
    · rw [valV_neg e, decide_eq_false e, Bool.false_or]; exact valV_any k r
theorem valV_map (k j : κ) (y : V) : ∀ kvs : List (κ × V), valV (kvs.map fun kv => if kv.1 = k then (kv.1, y) else kv) j = (valV kvs j).map fun x => if j = k then y else x
  | [] => rfl
  | p :: r => by
    have ih := valV_map k j y r
    rw [List.map_cons]
    by_cases h : p.1 = k
    · rw [if_pos h]
      by_cases e : p.1 = j
      · rw [valV_pos (p := (p.1, y)) e, valV_pos e, Option.map_some, if_pos (e.symm.trans h)]
      · rw [valV_neg (p := (p.1, y)) e, valV_neg e, ih]
    · rw [if_neg h]
      by_cases e : p.1 = j
      · rw [valV_pos (p := p) e, valV_pos e, Option.map_some, if_neg (fun z => h (e.trans z))]
      · rw [valV_neg (p := p) e, valV_neg e, ih]
theorem valV_snoc (k j : κ) (y : V) : ∀ kvs : List (κ × V), valV kvs k = none → valV (kvs ++ [(k, y)]) j = if j = k then some y else valV kvs j
  | [], _ => by
    by_cases e : k = j
    · rw [if_pos e.symm]; exact valV_pos (p := (k, y)) e
    · rw [if_neg (fun z => e z.symm)]; exact valV_neg (p := (k, y)) e
  | p :: r, hn => by
    rw [List.cons_append]
    have hk : ¬ p.1 = k := fun z => by rw [valV_pos z] at hn; cases hn
    rw [valV_neg hk] at hn
    have ih := valV_snoc k j y r hn
    by_cases e : p.1 = j
    · rw [valV_pos e, valV_pos e, if_neg (fun z => hk (e.trans z))]
    · rw [valV_neg e, valV_neg e, ih]
theorem valV_put (kvs : List (κ × V)) (k j : κ) (y : V) : valV (putK kvs k y) j = if j = k then some y else valV kvs j := by
  unfold putK
  by_cases a : (kvs.any fun kv => decide (kv.1 = k)) = true
  · rw [if_pos a, valV_map]
    rw [valV_any] at a
    by_cases e : j = k
    · obtain ⟨x, hx⟩ := Option.isSome_iff_exists.mp a
      rw [if_pos e, e, hx, Option.map_some, if_pos rfl]
    · rw [if_neg e]
      cases valV kvs j with
      | none => rfl
      | some x => rw [Option.map_some, if_neg e]
  · rw [if_neg a]
    refine valV_snoc k j y kvs ?_
    rw [valV_any] at a
    cases q : valV kvs k with
    | none => rfl
    | some x => rw [q] at a; exact (a rfl).elim
theorem length_putK (kvs : List (κ × V)) (k : κ) (v : V) : (putK kvs k v).length ≤ kvs.length + 1 := by
  unfold putK
  split
  · rw [List.length_map]; omega
  · rw [List.length_append, List.length_cons, List.length_nil]; omega
theorem putK_new {kvs : List (κ × V)} {k : κ} (v : V) (h : valV kvs k = none) : putK kvs k v = kvs ++ [(k, v)] := by
  unfold putK
  rw [valV_any, h]
  exact if_neg (by decide)
theorem RelO.isSome_eq {o : Option V} {u : Option Value} (r : RelO o u) : o.isSome = u.isSome := by
  cases o with
  | none => cases u with
    | none => rfl
    | some _ => exact (show False from r).elim
  | some _ => cases u with
    | none => exact (show False from r).elim
    | some _ => rfl
theorem RelO.getD {o : Option V} {u : Option Value} {d : V} {d' : Value} (r : RelO o u) (rd : RelV d d') : RelV (o.getD d) (u.getD d') := by
  cases o with
  | none => cases u with
    | none => exact rd
    | some _ => exact (show False from r).elim
  | some _ => cases u with
    | none => exact (show False from r).elim
    | some _ => exact r
theorem KV.val {kvs : List (κ × V)} {vs : List (κ × Value)} (r : KV kvs vs) (k : κ) : RelO (valV kvs k) (valueAt vs k) := by
  unfold KV at r
  induction r with
  | nil => exact True.intro
  | @cons p q ps qs h t ih =>
    obtain ⟨h1, h2⟩ := h
    by_cases e : p.1 = k
    · have e' : q.1 = k := h1.symm.trans e
      have b : valueAt (q :: qs) k = some q.2 := by simp [valueAt, List.find?_cons, e']
      rw [valV_pos e, b]; exact h2
    · have e' : ¬ q.1 = k := fun z => e (h1.trans z)
      have b : valueAt (q :: qs) k = valueAt qs k := by simp [valueAt, List.find?_cons, e']
      rw [valV_neg e, b]; exact ih
theorem KV.any {kvs : List (κ × V)} {vs : List (κ × Value)} (r : KV kvs vs) (k : κ) : (kvs.any fun kv => decide (kv.1 = k)) = vs.any fun kv => decide (kv.1 = k) := by
  unfold KV at r
  induction r with
  | nil => rfl
  | cons h t ih => rw [List.any_cons, List.any_cons, ih, h.1]
theorem KV.repl {kvs : List (κ × V)} {vs : List (κ × Value)} (r : KV kvs vs) (k : κ) {y : V} {u : Value} (ry : RelV y u) :
    KV (kvs.map fun kv => if kv.1 = k then (kv.1, y) else kv) (vs.map fun kv => if kv.1 = k then (kv.1, u) else kv) := by
  unfold KV at r ⊢
  induction r with
  | nil => exact .nil
  | @cons p q ps qs h t ih =>
    rw [List.map_cons, List.map_cons]
    refine .cons ?_ ih
    obtain ⟨h1, h2⟩ := h
    by_cases e : p.1 = k
    · rw [if_pos e, if_pos (h1.symm.trans e)]; exact ⟨h1, ry⟩
    · rw [if_neg e, if_neg (fun z => e (h1.trans z))]; exact ⟨h1, h2⟩
theorem KV.put {kvs : List (κ × V)} {vs : List (κ × Value)} (r : KV kvs vs) (k : κ) {y : V} {u : Value} (ry : RelV y u) : KV (putK kvs k y) (stored vs k u) := by
  unfold putK stored
  rw [r.any k]
  by_cases e : (vs.any fun kv => decide (kv.1 = k)) = true
  · rw [if_pos e, if_pos e]; exact r.repl k ry
  · rw [if_neg e, if_neg e]; exact Paired.snoc r ⟨rfl, ry⟩
theorem KV.length {kvs : List (κ × V)} {vs : List (κ × Value)} (r : KV kvs vs) : kvs.length = vs.length := Paired.length r
end
theorem kV_is {P : Program} {w : World} {k : Key} {u : Value} (r : RelV (kV k) u) : (mixKind P w).is k u = true := by
  cases k with
  | inl i => obtain ⟨t, e⟩ := (show ∃ t, u = Value.int i t from r); subst e; exact mixKind_int P w i t
  | inr x => obtain ⟨t, e⟩ := (show ∃ t, u = Value.str x t from r); subst e; exact mixKind_str P w x t
theorem items_are {P : Program} {w : World} : ∀ {ks : List Key} {us : List Value}, Vals (ks.map kV) us → ItemsAre (mixKind P w) ks us
  | [], _, r => by rw [List.map_nil] at r; cases r; exact .nil
  | k :: ks, _, r => by
    rw [List.map_cons] at r
    cases r with
    | cons h t => exact .cons (kV_is h) (items_are t)
abbrev KT (H : Hp) : List (List Key × V) → List (List Key × Addr × Value) → Prop := Paired fun p q => p.1 = q.1 ∧ H q.2.1 = some (.tup (p.1.map kV)) ∧ RelV p.2 q.2.2
theorem KT.val {H : Hp} {kvs : List (List Key × V)} {xs : List (List Key × Addr × Value)} (r : KT H kvs xs) (k : List Key) : RelO (valV kvs k) ((atKey xs k).map (·.2)) := by
  induction r with
  | nil => exact True.intro
  | @cons p q ps qs h t ih =>
    obtain ⟨h1, _, h2⟩ := h
    by_cases e : p.1 = k
    · have e' : q.1 = k := h1.symm.trans e
      have b : atKey (q :: qs) k = some q.2 := by simp [atKey, List.find?_cons, e']
      rw [valV_pos e, b]; exact h2
    · have e' : ¬ q.1 = k := fun z => e (h1.trans z)
      have b : atKey (q :: qs) k = atKey qs k := by simp [atKey, List.find?_cons, e']
      rw [valV_neg e, b]; exact ih
theorem KT.repl {H : Hp} {kvs : List (List Key × V)} {xs : List (List Key × Addr × Value)} (r : KT H kvs xs) (k : List Key) {y : V} {u : Value} (ry : RelV y u) :
    KT H (kvs.map fun kv => if kv.1 = k then (kv.1, y) else kv) (xs.map (putAt k u)) := by
  induction r with
  | nil => exact .nil
  | @cons p q ps qs h t ih =>
    rw [List.map_cons, List.map_cons]
    refine .cons ?_ ih
    obtain ⟨h1, h2, h3⟩ := h
    unfold putAt
    by_cases e : p.1 = k
    · rw [if_pos e, if_pos (h1.symm.trans e)]; exact ⟨h1, h2, ry⟩
    · rw [if_neg e, if_neg (fun z => e (h1.trans z))]; exact ⟨h1, h2, h3⟩
theorem KT.put {H : Hp} {kvs : List (List Key × V)} {xs : List (List Key × Addr × Value)} (r : KT H kvs xs) (k : List Key) {b : Addr} {y : V} {u : Value} (hb : H b = some (.tup (k.map kV))) (ry : RelV y u) :
    KT H (putK kvs k y) (storedH xs k b u) := by
  have e : (kvs.any fun kv => decide (kv.1 = k)) = (atKey xs k).isSome := by
    rw [valV_any, (r.val k).isSome_eq, Option.isSome_map]
  unfold putK storedH
  rw [e]
  by_cases q : (atKey xs k).isSome = true
  · rw [if_pos q, if_pos q]; exact r.repl k ry
  · rw [if_neg q, if_neg q]; exact Paired.snoc r ⟨rfl, hb, ry⟩
theorem KT.keeps {H H' : Hp} {kvs : List (List Key × V)} {xs : List (List Key × Addr × Value)} (r : KT H kvs xs) (ht : ∀ b ys, H b = some (.tup ys) → H' b = some (.tup ys)) : KT H' kvs xs :=
  Paired.mapP r fun _ _ z => ⟨z.1, ht _ _ z.2.1, z.2.2⟩
section
variable {P : Program} {w : World} {H : Hp} {h : Heap} {a : Addr}
theorem rd_of {u : HO} (ok : HOk P w H h) (e : Rd H a u) : ObjOk P w H h a u := e.ok ok
theorem dk_rd {kvs : List (Key × V)} (ok : HOk P w H h) (e : Rd H a (.dK kvs)) : kvs.length ≤ sizeLine ∧ (a == sysModules) = false ∧ ∃ vs, KV kvs vs ∧ h.DictOf (mixKind P w) a vs :=
  show ObjOk P w H h a (.dK kvs) from rd_of ok e
theorem dk_of {kvs : List (Key × V)} (ok : HOk P w H h) (e : H a = some (.dK kvs)) : kvs.length ≤ sizeLine ∧ (a == sysModules) = false ∧ ∃ vs, KV kvs vs ∧ h.DictOf (mixKind P w) a vs := dk_rd ok (.inl e)
theorem key_of {ks : List Key} (ok : HOk P w H h) (e : H a = some (.tup (ks.map kV))) : (tupleKind (mixKind P w)).is h ks a := by
  obtain ⟨_, its, r, o, h1, h2, n, h3⟩ := (show ObjOk P w H h a (.tup (ks.map kV)) from ok a _ e)
  exact ⟨o, its.toArray, n, h1, h2, h3, by simpa using items_are r⟩
theorem dt_rd {kvs : List (List Key × V)} (ok : HOk P w H h) (e : Rd H a (.dT kvs)) : kvs.length ≤ sizeLine ∧ (a == sysModules) = false ∧
    ∃ xs, KT H kvs xs ∧ h.DictOfH (tupleKind (mixKind P w)) a xs := by
  obtain ⟨z, y, xs, r, o, es, ep, h1, h2, h3, h4, h5⟩ := (show ObjOk P w H h a (.dT kvs) from rd_of ok e)
  refine ⟨z, y, xs, r, o, es, ep, h1, h2, h3, h4, fun x hx => ?_, h5⟩
  have all : ∀ {l : List (List Key × V)} {m : List (List Key × Addr × Value)}, KT H l m → ∀ x ∈ m, (tupleKind (mixKind P w)).is h x.1 x.2.1 := by
    intro l m q
    induction q with
    | nil => intro x hx; exact nomatch hx
    | @cons p q ps qs hq t ih =>
      intro x hx
      rcases List.mem_cons.mp hx with e | hx
      · subst e
        exact key_of ok (by rw [← hq.1]; exact hq.2.1)
      · exact ih x hx
  exact all r x hx
theorem dt_of {kvs : List (List Key × V)} (ok : HOk P w H h) (e : H a = some (.dT kvs)) : kvs.length ≤ sizeLine ∧ (a == sysModules) = false ∧
    ∃ xs, KT H kvs xs ∧ h.DictOfH (tupleKind (mixKind P w)) a xs := dt_rd ok (.inl e)
end
def DGet (H : Hp) (a : Addr) (y : V) (r : Option V) : Prop :=
  (∃ kvs k, Rd H a (.dK kvs) ∧ y = kV k ∧ r = valV kvs k) ∨ ∃ kvs k b, Rd H a (.dT kvs) ∧ y = .ref b ∧ H b = some (.tup (k.map kV)) ∧ r = valV kvs k
def DPut (H : Hp) (a : Addr) (y v : V) (H' : Hp) : Prop :=
  (∃ kvs k, H a = some (.dK kvs) ∧ y = kV k ∧ kvs.length < sizeLine ∧ H' = upd H a (.dK (putK kvs k v))) ∨
  ∃ kvs k b, H a = some (.dT kvs) ∧ y = .ref b ∧ H b = some (.tup (k.map kV)) ∧ kvs.length < sizeLine ∧ H' = upd H a (.dT (putK kvs k v))
theorem DGet.k {H : Hp} {a : Addr} {kvs : List (Key × V)} {k : Key} (e : H a = some (.dK kvs)) : DGet H a (kV k) (valV kvs k) := .inl ⟨kvs, k, .inl e, rfl, rfl⟩
theorem DGet.t {H : Hp} {a b : Addr} {kvs : List (List Key × V)} {k : List Key} (e : H a = some (.dT kvs)) (eb : H b = some (.tup (k.map kV))) : DGet H a (.ref b) (valV kvs k) := .inr ⟨kvs, k, b, .inl e, rfl, eb, rfl⟩
theorem DPut.k {H : Hp} {a : Addr} {kvs : List (Key × V)} {k : Key} {v : V} (e : H a = some (.dK kvs)) (hl : kvs.length < sizeLine) : DPut H a (kV k) v (upd H a (.dK (putK kvs k v))) := .inl ⟨kvs, k, e, rfl, hl, rfl⟩
theorem DPut.t {H : Hp} {a b : Addr} {kvs : List (List Key × V)} {k : List Key} {v : V} (e : H a = some (.dT kvs)) (eb : H b = some (.tup (k.map kV))) (hl : kvs.length < sizeLine) :
    DPut H a (.ref b) v (upd H a (.dT (putK kvs k v))) := .inr ⟨kvs, k, b, e, rfl, eb, hl, rfl⟩
section
variable {X : Cx} {pins : List (Addr × Obj)} {σ : St} {H : Hp} {s : Shared} {a : Addr} {y v : V} {u r : Value} {o : Option V} {A : Around} {E : Value → Shared → Prop}
theorem Inv.big (I : Inv X pins σ H s) : sysModules < s.heap.objs.size := by
  have h : mainGlobals < s.heap.objs.size := (I.mod.glob.keeps I.bk).lt
  exact Nat.lt_trans (by decide) h
theorem d_getItem {Q : Value → Shared → Prop} (hu : A.units + 1 < cLine) (I : Inv X pins σ H s) (g : DGet H a y (some v)) (ry : RelV y u) (h : ∀ w' s', Inv X pins σ H s' → RelV v w' → Q w' s') :
    wpAny (model X.prog X.w) A (getItem (.ref a) u) Q E s := by
  rcases g with ⟨kvs, k, e, ey, l⟩ | ⟨kvs, k, b, e, ey, eb, l⟩
  · subst ey
    obtain ⟨z, hd, vs, rel, dd⟩ := dk_rd I.hok e
    obtain ⟨w', hw, rw'⟩ := RelO.some_of (v := v) (o := valueAt vs k) (by rw [l]; exact rel.val k)
    exact wpAny_getItem_of (kV_is ry) dd.mapOf hw (h w' _ (I.tok _) rw')
  · subst ey
    cases (show u = Value.ref b from ry)
    obtain ⟨z, hd, xs, rel, dd⟩ := dt_rd I.hok e
    obtain ⟨w', hw, rw'⟩ := RelO.some_of (v := v) (o := (atKey xs k).map (·.2)) (by rw [l]; exact rel.val k)
    obtain ⟨p, hp, hp2⟩ := Option.map_eq_some_iff.mp hw
    refine wpAny_getItem_heap (tupleKind_room_in1 hu) (key_of I.hok eb) dd hp ?_
    rw [hp2]
    exact h w' _ (I.tok _) rw'
theorem d_notIn {Q : Value → Shared → Prop} (hu : A.units + 1 < cLine) (I : Inv X pins σ H s) (g : DGet H a y o) (ry : RelV y u) (h : ∀ s', Inv X pins σ H s' → Q (.bool (!o.isSome)) s') :
    wpAny (model X.prog X.w) A (compareOp .NotIn u (.ref a)) Q E s := by
  rcases g with ⟨kvs, k, e, ey, l⟩ | ⟨kvs, k, b, e, ey, eb, l⟩
  · subst ey
    obtain ⟨z, hd, vs, rel, dd⟩ := dk_rd I.hok e
    refine wpAny_notIn_of (kV_is ry) hd dd.mapOf ?_
    rw [← (rel.val k).isSome_eq, ← l]
    exact h _ (I.tok _)
  · subst ey
    cases (show u = Value.ref b from ry)
    obtain ⟨z, hd, xs, rel, dd⟩ := dt_rd I.hok e
    refine wpAny_notIn_heap (tupleKind_room_in1 hu) (key_of I.hok eb) hd dd ?_
    have q := (rel.val k).isSome_eq
    rw [Option.isSome_map] at q
    rw [← q, ← l]
    exact h _ (I.tok _)
theorem d_write {h' : Heap} {t' : Nat} {ob : HO} (I : Inv X pins σ H s) (mu : Mut (H a)) (hs : Heap.SameBut a s.heap h') (he : ∃ q, h'.get? a = some q) (new : ObjOk X.prog X.w (upd H a ob) h' a ob) :
    Inv X pins σ (upd H a ob) { s with heap := h', toks := t' } :=
  I.write (x := a) (e := a) mu (.inl rfl) (fun b q hb z => (hs.2 b hb).trans z) he new
theorem dk_new {P : Program} {w : World} {H' : Hp} {h' : Heap} {kvs : List (Key × V)} {vs : List (Key × Value)} (z : kvs.length ≤ sizeLine) (hd : (a == sysModules) = false) (rel : KV kvs vs) (dd : h'.DictOf (mixKind P w) a vs) :
    ObjOk P w H' h' a (.dK kvs) := ⟨z, hd, vs, rel, dd⟩
theorem d_setItem {H' : Hp} {Q : Unit → Shared → Prop} (hu : A.units + 1 < cLine) (I : Inv X pins σ H s) (g : DPut H a y v H') (ry : RelV y u) (rv : RelV v r) (h : ∀ s', Inv X pins σ H' s' → Q () s') :
    wpAny (model X.prog X.w) A (setItem (.ref a) u r) Q E s := by
  rcases g with ⟨kvs, k, e, ey, l, eH⟩ | ⟨kvs, k, b, e, ey, eb, l, eH⟩
  · subst ey eH
    obtain ⟨z, hd, vs, rel, dd⟩ := dk_of I.hok e
    have hz : vs.length ≤ sizeLine := by rw [← rel.length]; exact z
    have hl : (putK kvs k v).length ≤ sizeLine := by have := length_putK kvs k v; omega
    refine wpAny_setItem_pairs (hsz := hz) (kV_is ry) dd fun h' dd' hs => h _ ?_
    have he : ∃ q, h'.get? a = some q := let ⟨q, _, _, hq, _⟩ := dd'; ⟨q, hq⟩
    exact d_write I (by rw [e]; exact True.intro) hs he (dk_new hl hd (rel.put k rv) dd')
  · subst ey eH
    cases (show u = Value.ref b from ry)
    obtain ⟨z, hd, xs, rel, dd⟩ := dt_of I.hok e
    have hz : xs.length ≤ sizeLine := by rw [← Paired.length rel]; exact z
    have hl : (putK kvs k v).length ≤ sizeLine := by have := length_putK kvs k v; omega
    refine wpAny_setItem_heap (hsz := hz) (tupleKind_room_in1 hu) (key_of I.hok eb) dd fun h' dd' hs => h _ ?_
    obtain ⟨q, es, ep, hq, h2, h3, h4, _, h5⟩ := dd'
    refine d_write I (by rw [e]; exact True.intro) hs ⟨q, hq⟩ ⟨hl, hd, _, (rel.put k eb rv).keeps fun c ys ec => ?_, q, es, ep, hq, h2, h3, h4, h5⟩
    rw [upd_ne (ne_of ec e (fun z => nomatch z))]
    exact ec
end
section
variable {X : Cx} {pins : List (Addr × Obj)} {σ : St} {H : Hp} {s : Shared} {a : Addr} {kvs : List (Key × V)} {k : Key} {u : Value} {A : Around} {E : Value → Shared → Prop}
end
def NoSl (i : Expr) : Prop := ∀ ov iv, subscripted i false ov iv = operate [ov, iv] (getItem ov iv)
theorem subD_of {prog : Program} {w : World} {A : Around} {E : Value → Shared → Prop} {s : Shared} {env : Env} {value slice : Expr} {pos : Pos} {T id : String} {Q : Value → Shared → Prop}
    (hl : typeLookup (.type T) "__getitem__" = pure (some (.builtin id))) (hs : NoSl slice)
    (h : wpAny (model prog w) A (eval value env) (fun o s₁ => wpAny (model prog w) A (eval slice env) (fun i s₂ => s₂.TypeIs o T ∧ wpAny (model prog w) A (getItem o i) Q E s₂) E s₁) E s) :
    wpAny (model prog w) A (eval (.Subscript value slice pos) env) Q E s := by
  refine Subscript_ (wpAny_mono h (fun o s₁ h₁ => wpAny_mono h₁ (fun i s₂ h₂ => ?_) fun _ _ x => x) fun _ _ x => x)
  obtain ⟨hT, h₂⟩ := h₂
  unfold subscriptTail
  refine wpAny_bind ?_
  rw [getitemInPython_of_ne hT.not_modules]
  refine wpAny_bind (wpAny_specialOf hT hl ?_)
  have fin : wpAny (model prog w) A (subscripted slice false o i) (fun r s₃ => wpAny (model prog w) A (letTemporaryGo value o r >>= fun _ => pure r) Q E s₃) E s₂ := by
    rw [hs o i]
    exact wpAny_operating (wpAny_mono h₂ (fun r s₃ h₃ => wpAny_bind (wpAny_letTemporaryGo (wpAny_pure h₃))) fun _ _ x => x)
  first
    | exact wpAny_pure (wpAny_bind fin)
    | exact wpAny_bind (wpAny_pure (wpAny_bind fin))
    | exact wpAny_bind fin
theorem dict_typeIs {X : Cx} {pins : List (Addr × Obj)} {σ : St} {H : Hp} {s : Shared} {a : Addr} {y : V} {o : Option V} (I : Inv X pins σ H s) (g : DGet H a y o) : s.TypeIs (.ref a) "dict" := by
  rcases g with ⟨kvs, k, e, _, _⟩ | ⟨kvs, k, b, e, _, _, _⟩
  · obtain ⟨_, _, vs, _, dd⟩ := dk_rd I.hok e
    exact dd.typeIs
  · obtain ⟨_, _, xs, _, dd⟩ := dt_rd I.hok e
    exact dd.typeIs
def tDGet (td ty : TE) : TE := fun σ H Q => td σ H fun x H1 => ty σ H1 fun y H2 => ∃ a v, x = .ref a ∧ DGet H2 a y (some v) ∧ Q v H2
def tDNotIn (ty td : TE) : TE := fun σ H Q => ty σ H fun y H1 => td σ H1 fun x H2 => ∃ a o, x = .ref a ∧ DGet H2 a y o ∧ Q (.bl (!o.isSome)) H2
def sDPut (td ty tv : TE) : TS := fun D σ H => tv σ H fun v H1 => td σ H1 fun x H2 => ty σ H2 fun y H3 => ∃ a H4, x = .ref a ∧ DPut H3 a y v H4 ∧ D.nx σ H4
section
variable {X : Cx} {o i e value : Expr} {pos pos' tpos : Pos} {td ty tv : TE}
theorem pe_dget (hu : X.A.units + 1 < cLine) (ho : PE X o td) (hi : PE X i ty) (hs : NoSl i) : PE X (.Subscript o i pos) (tDGet td ty) := by
  intro pins s σ H Q I h
  refine subD_of PySem.F.slot_dict_getitem.lookup hs (thn (ho pins s σ H _ I h) fun u s1 ⟨x, H1, I1, rx, q1⟩ => thn (hi pins s1 σ H1 _ I1 q1) fun iv s2 ⟨y, H2, I2, ry, a, v, ex, g, q2⟩ => ?_)
  subst ex
  obtain rfl : u = Value.ref a := rx
  exact ⟨dict_typeIs I2 g, d_getItem hu I2 g ry fun w' s3 I3 rw' => ⟨v, H2, I3, rw', q2⟩⟩
theorem pc_dnotin (hu : X.A.units + 1 < cLine) (hi : PE X i ty) (ho : PE X o td) : PC X .NotIn i o (tDNotIn ty td) := by
  intro pins s σ H Q I h
  refine thn (hi pins s σ H _ I h) fun iv s1 ⟨y, H1, I1, ry, q1⟩ => thn (ho pins s1 σ H1 _ I1 q1) fun u s2 ⟨x, H2, I2, rx, a, ov, ex, g, q2⟩ => ?_
  subst ex
  obtain rfl : u = Value.ref a := rx
  exact d_notIn hu I2 g ry fun s3 I3 => ⟨.bl (!ov.isSome), H2, I3, rfl, q2⟩
theorem ps_dput (hu : X.A.units + 1 < cLine) (ho : PE X o td) (hi : PE X i ty) (hv : PE X value tv) (hs : swapsWith value (some (.Subscript o i pos')) pos.line X.env = pure false) :
    PS X (.Assign [.Subscript o i pos'] value pos) (sDPut td ty tv) := by
  intro pins s σ H D I h
  refine wpAny_Assign_Subscript (thn (hv pins s σ H _ I h) fun r s1 ⟨v, H1, I1, rv, q1⟩ => thn (ho pins s1 σ H1 _ I1 q1) fun u s2 ⟨x, H2, I2, rx, q2⟩ => thn (hi pins s2 σ H2 _ I2 q2) fun iv s3 ⟨y, H3, I3, ry, a, H4, ex, g, q3⟩ => ?_) hs
  subst ex
  obtain rfl : u = Value.ref a := rx
  exact d_setItem hu I3 g ry rv fun s4 I4 => ⟨σ, H4, I4, q3⟩
end
theorem dt_empty {P : Program} {w : World} {H : Hp} (h : Heap) (hb : sysModules < h.objs.size) : ObjOk P w H (h.push { cls := .type "dict", data := .dict #[] }) h.objs.size (.dT []) :=
  ⟨Nat.zero_le _, beq_eq_false_iff_ne.mpr (Ne.symm (Nat.ne_of_lt hb)), [], .nil, _, #[], 0, Heap.get?_push_size _ rfl, ⟨rfl, rfl, rfl⟩, rfl, rfl, List.nodup_nil⟩
def tDNewT : TE := fun _ H Q => ∀ p, H p = none → Q (.ref p) (upd H p (.dT []))
section
variable {X : Cx} {pos : Pos}
theorem pe_dnewT : PE X (.Dict [] [] pos) tDNewT := fun pins s σ H Q I h =>
  wpAny_Dict_empty ⟨.ref s.heap.objs.size, _, I.laid (a := s.heap.objs.size) (o := .dT []) (t' := s.toks) (fun _ _ q => Heap.get?_push_of_some _ q) (Nat.le_refl _) (dt_empty s.heap I.big), rfl, h _ (I.hok.fresh (Nat.le_refl _))⟩
end
structure M2 (X : Cx) (o : Expr) (m : Str) (apos : Pos) (e f : Expr) (cpos : Pos) : Prop where
  base : attributeBase o m X.env (eval o X.env) = eval o X.env
  few : ((backTo cpos (starEach [e, f] X.env)).all (fun x => !x.1) && (backToKw cpos (keywordEach [] X.env)).all (fun x => x.1.isSome)
    && decide (([e, f] : List Expr).length + ([] : List Keyword).length + (if ([] : List Keyword).isEmpty then 0 else 1) < 30)) = true
  line : (apos.endLine == cpos.line) = true
  trees : backTo cpos (starEach [e, f] X.env) = [(false, eval e X.env), (false, eval f X.env)]
def IsD (H : Hp) (a : Addr) : Prop := (∃ kvs, Rd H a (.dK kvs)) ∨ ∃ kvs, Rd H a (.dT kvs)
theorem isD_at {X : Cx} {pins : List (Addr × Obj)} {σ : St} {H : Hp} {s : Shared} {a : Addr} (I : Inv X pins σ H s) (d : IsD H a) :
    s.TypeIs (.ref a) "dict" ∧ (∀ b, Value.ref a = .ref b → ∃ ob, s.heap.get? b = some ob ∧ ob.dict = none) ∧ (a == sysModules) = false := by
  rcases d with ⟨kvs, e⟩ | ⟨kvs, e⟩
  · obtain ⟨_, hd, vs, _, dd⟩ := dk_rd I.hok e
    refine ⟨dd.typeIs, fun b q => ?_, hd⟩
    cases q
    obtain ⟨ob, _, _, h1, h2, _⟩ := dd
    exact ⟨ob, h1, h2.2.1⟩
  · obtain ⟨_, hd, xs, _, dd⟩ := dt_rd I.hok e
    refine ⟨dd.typeIs, fun b q => ?_, hd⟩
    cases q
    obtain ⟨ob, _, _, h1, h2, _⟩ := dd
    exact ⟨ob, h1, h2.2.1⟩
section
variable {X : Cx} {pins : List (Addr × Obj)} {σ : St} {H : Hp} {s : Shared} {a : Addr} {y d : V} {u r : Value} {o : Option V} {A : Around} {E : Value → Shared → Prop}
theorem d_get2 {Q : Value → Shared → Prop} (hu : A.units + 1 < cLine) (I : Inv X pins σ H s) (g : DGet H a y o) (ry : RelV y u) (rd : RelV d r) (h : ∀ w' s', Inv X pins σ H s' → RelV (o.getD d) w' → Q w' s') :
    wpAny (model X.prog X.w) A (call (.builtin "dict.get") [.ref a, u, r]) Q E s := by
  rcases g with ⟨kvs, k, e, ey, l⟩ | ⟨kvs, k, b, e, ey, eb, l⟩
  · subst ey
    obtain ⟨z, hd, vs, rel, dd⟩ := dk_rd I.hok e
    refine call_meetsIn PySem.F.slot_dict_get dd.typeIs PySem.F.entry_dict_get (PySem.F.args_dict_get_3 _ _ _) (meets_dict_get_default (mixKind X.prog X.w) a (kV_is ry) hd r) ⟨_, dd.mapOf, h _ _ (I.tok _) ?_⟩
    rw [l]
    exact (rel.val k).getD rd
  · subst ey
    cases (show u = Value.ref b from ry)
    obtain ⟨z, hd, xs, rel, dd⟩ := dt_rd I.hok e
    refine call_meetsIn PySem.F.slot_dict_get dd.typeIs PySem.F.entry_dict_get (PySem.F.args_dict_get_3 _ _ _) (meetsH_dict_get_default (tupleKind (mixKind X.prog X.w)) a b hd r) ⟨tupleKind_room_in1 hu, k, xs, key_of I.hok eb, dd, h _ _ (I.tok _) ?_⟩
    rw [l]
    exact (rel.val k).getD rd
end
def tDGet2 (td ty tx : TE) : TE := fun σ H Q => td σ H fun x H1 => ∃ a, x = .ref a ∧ IsD H1 a ∧ ty σ H1 fun y H2 => tx σ H2 fun z H3 => ∃ o, DGet H3 a y o ∧ Q (o.getD z) H3
section
variable {X : Cx} {o e f : Expr} {apos cpos : Pos} {td ty tx : TE}
theorem pe_dget2 (hu : X.A.units + 1 < cLine) (ho : PE X o td) (he : PE X e ty) (hf : PE X f tx) (m : M2 X o "get" apos e f cpos) : PE X (.Call (.Attribute o "get" apos) [e, f] [] cpos) (tDGet2 td ty tx) := by
  intro pins s σ H Q I h
  refine wpAny_Call_method m.base m.few m.line PySem.F.plainAttrs_dict PySem.F.slot_dict_get PySem.F.type_dict_get (thn (ho pins s σ H _ I h) fun u s1 ⟨x, H1, I1, rx, a, ex, d, q1⟩ => ?_)
  subst ex
  obtain rfl : u = Value.ref a := rx
  obtain ⟨t1, t2, _⟩ := isD_at I1 d
  refine ⟨t1, t2, ?_⟩
  rw [m.trees]
  refine Calls.callWith_builtin rfl (Calls.evalArgs_plain (Calls.spliced_cons (thn (he pins s1 σ H1 _ I1 q1) fun iv s2 ⟨y, H2, I2, ry, q2⟩ =>
    Calls.spliced_cons (thn (hf pins s2 σ H2 _ I2 q2) fun fv s3 ⟨z, H3, I3, rz, ov, g, q3⟩ => Calls.spliced_nil ?_))))
  exact d_get2 hu I3 g ry rz fun w' s4 I4 rw' => ⟨_, H3, I4, rw', q3⟩
end
section
variable {X : Cx} {pins : List (Addr × Obj)} {σ : St} {H : Hp} {s : Shared} {a : Addr} {kvs : List (Key × V)} {A : Around} {E : Value → Shared → Prop}
end
section
variable {X : Cx} {pins : List (Addr × Obj)} {σ : St} {H : Hp} {s : Shared} {a : Addr} {y : V} {u : Value} {A : Around} {E : Value → Shared → Prop}
end
end L2
namespace L2
open PySem PySem.Spec PyProof.Rows
section
variable {prog : Program} {w : World} {A : Around} {E : Value → Shared → Prop}
end
section
variable {X : Cx}
end
end L2
namespace L2
open PySem PySem.Spec PyProof.Rows
section
variable {X : Cx} {pins : List (Addr × Obj)} {σ : St} {H : Hp} {s : Shared} {h' : Heap}
theorem Inv.turnedL {t' : Nat} {ch : List Addr} (I : Inv X pins σ H s) (k : ∀ b o, b ∉ ch → s.heap.get? b = some o → h'.get? b = some o) (hf : ∀ b ∈ ch, FpOk X pins H b) : Inv X pins σ H { s with heap := h', toks := t' } := by
  have nit : ∀ b u, H b = some u → b ∉ ch := fun b u e z => by
    have q := (hf b z).1
    rw [q] at e; cases e
  refine I.step (g' := s.gens) (d' := s.drawn) (ch := ch) (fun b hb => ⟨(hf b hb).2.2.2.1, (hf b hb).2.1, (hf b hb).2.2.2.2.1, (hf b hb).2.2.2.2.2⟩) (fun b o _ _ hc e _ => k b o hc e) (fun b o _ _ hc e _ => ⟨o.slots, k b o hc e⟩)
    (fun _ _ _ _ n => n) (fun b o hc e => ⟨o, k b o hc e⟩) (fun _ _ e => e) (fun _ _ _ e => e) (fun b ps e => ⟨#[], by rw [e]; simp⟩) (fun m hm => ?_) (fun b u e => ?_) I.bare
  · obtain ⟨o, es, ep, ho, r⟩ := hm
    exact ⟨o, es, ep, k _ o (fun z => (hf _ z).2.1 rfl) ho, r⟩
  · refine (I.hok b u e).stay (fun c v hc q => k c v ?_ q) (fun _ q => q) fun _ _ q => q
    rcases hc with z | z
    · rw [z]; exact nit b u e
    · exact nit c _ z
theorem Inv.turnedNew {t' : Nat} {ch : List Addr} {T : Addr} {ob : HO} (I : Inv X pins σ H s) (k : ∀ b o, b ∉ ch → s.heap.get? b = some o → h'.get? b = some o) (hf : ∀ b ∈ ch, FpOk X pins H b) (hT : s.heap.objs.size ≤ T)
    (new : ObjOk X.prog X.w (upd H T ob) h' T ob) : Inv X pins σ (upd H T ob) { s with heap := h', toks := t' } := by
  have hn : H T = none := I.hok.fresh hT
  have nit : ∀ b u, H b = some u → b ∉ ch := fun b u e z => by
    have q := (hf b z).1
    rw [q] at e; cases e
  refine I.step (g' := s.gens) (d' := s.drawn) (ch := ch) (fun b hb => ⟨(hf b hb).2.2.2.1, (hf b hb).2.1, (hf b hb).2.2.2.2.1, (hf b hb).2.2.2.2.2⟩) (fun b o _ _ hc e _ => k b o hc e) (fun b o _ _ hc e _ => ⟨o.slots, k b o hc e⟩)
    (fun b o _ e n => ?_) (fun b o hc e => ⟨o, k b o hc e⟩) (fun b xs e => ?_) (fun b o u e => ?_) (fun b ps e => ⟨#[], ?_⟩) (fun m hm => ?_) (fun b u e => ?_) I.bare
  · rw [upd_ne (Nat.ne_of_lt (Nat.lt_of_lt_of_le (Heap.lt_size e) hT))]; exact n
  · rw [upd_ne (ne_of_none e hn)]; exact e
  · rw [upd_ne (ne_of_none e hn)]; exact e
  · rw [upd_ne (ne_of_none e hn), e]; simp
  · obtain ⟨o, es, ep, ho, r⟩ := hm
    exact ⟨o, es, ep, k _ o (fun z => (hf _ z).2.1 rfl) ho, r⟩
  · by_cases hb : b = T
    · subst hb
      rw [upd_same] at e
      cases e
      exact new
    · rw [upd_ne hb] at e
      refine (I.hok b u e).stay (fun c v hc q => k c v ?_ q) (fun c q => by rw [upd_ne (ne_of_none q hn)]; exact q) fun c xs q => by rw [upd_ne (ne_of_none q hn)]; exact q
      rcases hc with z | z
      · rw [z]; exact nit b u e
      · exact nit c _ z
theorem Inv.lock {d : Addr} {u : HO} (I : Inv X pins σ H s) (h : H d = some u) (mu : Mut (some u)) : ∃ od, Inv X pins σ (upd H d (.frz od u)) s := by
  have x := I.hok d u h
  have ex : ∃ od, s.heap.get? d = some od := by
    cases u with
    | lst xs => obtain ⟨_, _, _, _, e⟩ := x; exact ⟨_, e⟩
    | dK kvs => obtain ⟨_, _, _, _, o, _, _, e, _⟩ := x; exact ⟨o, e⟩
    | dT kvs => obtain ⟨_, _, _, _, o, _, _, e, _⟩ := x; exact ⟨o, e⟩
    | set S n => obtain ⟨o, _, _, _, e, _⟩ := x; exact ⟨o, e⟩
    | ins C dx fs => obtain ⟨_, _, _, e, _⟩ := x; exact ⟨_, e⟩
    | ext φ => obtain ⟨_, ⟨_, e⟩, _⟩ := x; exact ⟨_, e⟩
    | _ => exact False.elim mu
  obtain ⟨od, e⟩ := ex
  have new : ObjOk X.prog X.w (upd H d (.frz od u)) s.heap d (.frz od u) := by
    refine ⟨e, x.stay (fun b v _ q => q) (fun b q => ?_) fun b xs q => ?_⟩
    · rw [upd_ne (fun z => by rw [z, h] at q; cases q; exact mu)]; exact q
    · rw [upd_ne (fun z => by rw [z, h] at q; cases q; exact mu)]; exact q
  exact ⟨od, I.write (x := d) (e := d) (t' := s.toks) (h' := s.heap) (by rw [h]; exact mu) (.inl rfl) (fun b v _ q => q) ⟨od, e⟩ new⟩
theorem Inv.nofrz {d : Addr} {u : HO} (I : Inv X pins σ H s) (h : H d = some u) (mu : Mut (some u)) : ∀ o' u', X.H_0 d ≠ some (.frz o' u') := fun o' u' e => by
  have q := I.base.frzs d o' u' e
  rw [h] at q
  cases q
  exact mu
theorem Inv.unlock {d : Addr} {od : Obj} {u : HO} (I : Inv X pins σ H s) (h : H d = some (.frz od u)) (hn : ∀ o' u', X.H_0 d ≠ some (.frz o' u')) : Inv X pins σ (upd H d u) s := by
  have neH : ∀ b o, H b = some o → (∀ o' u', o ≠ .frz o' u') → b ≠ d := fun b o e hne z => by
    rw [z, h] at e
    cases e
    exact hne _ _ rfl
  have neN : ∀ b, H b = none → b ≠ d := fun b e z => by rw [z, h] at e; cases e
  refine ⟨I.ok, I.os, I.bare, ⟨I.base.keep, I.base.slot, fun b o e n hx => ?_, I.base.there, fun b xs e => ?_, fun b o x e => ?_, fun b ps e => ?_⟩, I.loc, I.cell, ?_, fun x c e => ?_, fun p hp => ?_, fun b o e => ?_, I.len⟩
  · rw [upd_ne (neN b (I.base.free b o e n hx))]; exact I.base.free b o e n hx
  · have q := I.base.tups b xs e
    rw [upd_ne (neH b _ q (fun _ _ z => nomatch z))]; exact q
  · have q := I.base.frzs b o x e
    rw [upd_ne (fun z => by rw [z] at e; exact hn _ _ e)]; exact q
  · obtain ⟨m, q⟩ := I.base.tbls b ps e
    exact ⟨m, by rw [upd_ne (neH b _ q (fun _ _ z => nomatch z))]; exact q⟩
  · rw [upd_ne (neN _ I.free)]; exact I.free
  · rw [upd_ne (neN c (I.freeC x c e))]; exact I.freeC x c e
  · obtain ⟨e, n, r⟩ := I.pin p hp
    exact ⟨e, by rw [upd_ne (neN _ n)]; exact n, r⟩
  · by_cases hb : b = d
    · rw [hb, upd_same] at e
      cases e
      rw [hb]
      obtain ⟨_, x⟩ := I.hok d _ h
      exact x.stay (fun c v _ q => q) (fun c q => by rw [upd_ne (neH c _ q (fun _ _ z => nomatch z))]; exact q) fun c xs q => by rw [upd_ne (neH c _ q (fun _ _ z => nomatch z))]; exact q
    · rw [upd_ne hb] at e
      exact (I.hok b o e).stay (fun c v _ q => q) (fun c q => by rw [upd_ne (neH c _ q (fun _ _ z => nomatch z))]; exact q) fun c xs q => by rw [upd_ne (neH c _ q (fun _ _ z => nomatch z))]; exact q
end
def tLock (t : TS) : TS := fun D σ H => ∃ d u, H d = some u ∧ Mut (some u) ∧ ∀ od, t ⟨fun σ' H' => H' d = some (.frz od u) ∧ D.nx σ' (upd H' d u), fun v H' => H' d = some (.frz od u) ∧ D.rt v (upd H' d u), fun σ' H' => H' d = some (.frz od u) ∧ D.bk σ' (upd H' d u), fun σ' H' => H' d = some (.frz od u) ∧ D.ct σ' (upd H' d u)⟩ σ (upd H d (.frz od u))
section
variable {X : Cx}
theorem ps_lock {st : Stmt} {t : TS} (h : PS X st t) : PS X st (tLock t) := by
  intro pins s σ H D I hw
  obtain ⟨d, u, hd, mu, hw⟩ := hw
  obtain ⟨od, I1⟩ := I.lock hd mu
  refine thn (h pins s σ _ _ I1 (hw od)) fun f s1 q => ?_
  cases f with
  | next => obtain ⟨σ', H', I2, e, q⟩ := q; exact ⟨σ', _, I2.unlock e (I.nofrz hd mu), q⟩
  | brk => obtain ⟨σ', H', I2, e, q⟩ := q; exact ⟨σ', _, I2.unlock e (I.nofrz hd mu), q⟩
  | cont => obtain ⟨σ', H', I2, e, q⟩ := q; exact ⟨σ', _, I2.unlock e (I.nofrz hd mu), q⟩
  | ret v => obtain ⟨x, σ', H', I2, r, e, q⟩ := q; exact ⟨x, σ', _, I2.unlock e (I.nofrz hd mu), r, q⟩
theorem pi_one {tg : Expr} {pins : List (Addr × Obj)} {σ : St} {H : Hp} {s : Shared} {R : It → Hp → Prop} {J : It} {tn : Nat → Heap → Prop} {tk : Nat} (I : Inv X pins σ H s) (o : Obj)
    (T : Turn X.prog X.w X.K tg J [s.heap.objs.size] s.heap.objs.size tn) (st : tn 0 (s.heap.push o)) (q : R J H) : PIE X pins σ tg R (.ref s.heap.objs.size) { s with heap := s.heap.push o, toks := tk } := by
  refine ⟨s.heap.objs.size, [s.heap.objs.size], tn, J, H, rfl, I.kept fun b ob e => Heap.get?_push_of_some _ e, T, st, fun b hb => ?_, q⟩
  have e : b = s.heap.objs.size := by simpa using hb
  subst e
  exact I.fpOk (Nat.le_refl _) (I.hok.fresh (Nat.le_refl _))
end
def Itc (lo c : Int) (n : Nat) : It := ⟨fun i _ => i < n, fun i H x H' => H' = H ∧ x = .int (lo + (i : Nat) * c), fun i _ => n ≤ i⟩
theorem turn_rangeC {P : Program} {w : World} {K : PySem.W.Frag} {tg : Expr} (it : Addr) (lo c : Int) (n : Nat) : Turn P w K tg (Itc lo c n) [it] it (fun i h => IsRangeIter h it (lo + (i : Nat) * c) ((n : Int) - (i : Nat)) c) where
  mem := by simp
  obj := fun i h st b hb => by
    have e : b = it := by simpa using hb
    subst e
    exact ⟨_, st, fun v z => nomatch z⟩
  keep := fun i h h' st k => k it (by simp) _ st
  item := by
    intro X hP hw hK hc i pins s σ H E I hf st hg
    subst hP hw hK
    obtain ⟨f0, f1, f2, f3, f4, f5⟩ := hf it (by simp)
    have W := Walks.range (prog := X.prog) (w := X.w) (I.ok.hd hc) it lo c n
    refine W.item i s _ _ hg st fun v h' tk hv st' kk => ?_
    obtain ⟨t, rfl⟩ := hv
    have I1 : Inv X pins σ H { s with heap := h', toks := tk } := I.turned (fun b o hb e => kk b o (by simpa using hb) e) f0 f1 f3 f4 f5
    exact ⟨_, rfl, go_of (s := { s with heap := h', toks := tk }) (n := "range_iterator") st' rfl rfl (by decide) ⟨.int (lo + (i : Nat) * c), H, I1, ⟨t, rfl⟩, ⟨rfl, rfl⟩, st', fun b hb => (hf b hb).1⟩⟩
  done := by
    intro X hP hw hK hc i pins s σ H E I hf st hg
    subst hP hw hK
    obtain ⟨f0, f1, f2, f3, f4, f5⟩ := hf it (by simp)
    exact wpAny_pyNext_range_end (I.ok.hd hc) st (by have : n ≤ i := hg; omega) fun h' eb => ⟨rfl, I.turned (t' := s.toks) (fun b o hb e => eb b o hb e) f0 f1 f3 f4 f5⟩
  self := fun A i s Q E st h => wpAny_pyIter_rangeiter st h
def RgC (i j c : Int) (n : Nat) : Prop := c ≠ 0 ∧ c.natAbs < 1073741824 ∧ Builtin.Range.small i j c = true ∧ Builtin.Range.rangeSize i j c = n
theorem RgC.neg {i j : Int} (ha : -(2 ^ 62) ≤ i) (ha' : i < 2 ^ 62) (hb : -(2 ^ 62) ≤ j) (hb' : j < 2 ^ 62) : RgC i j (-1) (i - j).toNat :=
  ⟨by decide, by decide, PySem.W.small_down ha ha' hb hb', PySem.W.rangeSize_downNat i j⟩
def iRng3 (ta : TA) : TI := fun σ H R => ta σ H fun vs H1 => ∃ (i j c : Int) (n : Nat), vs = [.int i, .int j, .int c] ∧ RgC i j c n ∧ R (Itc i c n) H1
section
variable {X : Cx} {tg : Expr}
theorem pi_range3 {a b c : Expr} {ta : TA} {p pos : Pos} (hg : Gl X "range") (hm : X.mg "range" = none) (ha : PA X [a, b, c] ta)
    (hs : starEach [a, b, c] X.env = (false, eval a X.env) :: starEach [b, c] X.env := by rfl) (hpl : (backTo pos (starEach [b, c] X.env)).any (·.1) = false := by rfl) :
    PI X tg (.Call (.Name "range" p) [a, b, c] [] pos) (iRng3 ta) := by
  intro pins s σ H R I h
  refine Call_ (ld_blt I hg hm boot_range (PyProof.Rows.callWith_type1 (thn (ha pos pins s σ H _ I h) fun us s1 ⟨vs, H1, I1, r1, q1⟩ => ?_) hs hpl))
  obtain ⟨i, j, k, n, e, ⟨c0, c1, c2, c3⟩, q⟩ := q1
  subst e
  cases r1 with
  | cons r rr =>
    cases rr with
    | cons r' rr =>
      cases rr with
      | cons r'' rr =>
        cases rr
        obtain ⟨t, rfl⟩ := r
        obtain ⟨t', rfl⟩ := r'
        obtain ⟨t'', rfl⟩ := r''
        refine call_range_3 c0 ?_ (.inl (PyProof.noPylong_small c1))
        refine wpAny_pyIter_range (IsRange.new ..) c2 ?_
        have I2 : Inv X pins σ H1 { s1 with heap := s1.heap.push { cls := .type "range", data := .fields #[.int i t, .int j t', .int k t''] } } := I1.kept (t' := s1.toks) fun b o e => Heap.get?_push_of_some _ e
        refine pi_one (tk := s1.toks) I2 _ (turn_rangeC _ i k n) ?_ q
        have e1 : i + ((0 : Nat) : Int) * k = i := by simp
        have e2 : (n : Int) - ((0 : Nat) : Int) = Builtin.Range.rangeSize i j k := by rw [c3]; simp
        show IsRangeIter _ _ (i + ((0 : Nat) : Int) * k) ((n : Int) - ((0 : Nat) : Int)) k
        rw [e1, e2]
        exact Heap.get?_push_size _ rfl
end
theorem for_rangeC {lo c : Int} {n : Nat} {g : TG} {tb : TS} {D : Ends} {σ : St} {H : Hp} (Pv : Nat → St → Hp → Prop) (h0 : Pv 0 σ H)
    (hs : ∀ i σ H, i < n → Pv i σ H → g (.int (lo + (i : Nat) * c)) σ H fun σ2 H2 => tb { D with nx := Pv (i + 1), ct := Pv (i + 1), bk := D.nx } σ2 H2) (hd : ∀ σ H, Pv n σ H → D.nx σ H) :
    ∃ W : Nat → Nat → St → Hp → Prop, (∃ m, W 0 m σ H) ∧ ∀ i m σ H, W i m σ H →
      ((Itc lo c n).stop i H ∧ D.nx σ H) ∨ ((Itc lo c n).go i H ∧ ∃ N : St → Hp → Prop, (∀ σ' H', N σ' H' → ∃ m', m' < m ∧ W (i + 1) m' σ' H') ∧ ∀ x H', (Itc lo c n).yld i H x H' → g x σ H' fun σ2 H2 => tb { D with nx := N, ct := N, bk := D.nx } σ2 H2) := by
  refine ⟨fun i m σ H => m = n - i ∧ i ≤ n ∧ Pv i σ H, ⟨n, by simp, Nat.zero_le _, h0⟩, ?_⟩
  rintro i m σ H ⟨rfl, hi, p⟩
  by_cases hlt : i < n
  · refine .inr ⟨hlt, Pv (i + 1), fun σ' H' p' => ⟨n - (i + 1), by omega, rfl, hlt, p'⟩, fun x H' y => ?_⟩
    obtain ⟨e, y⟩ := y
    subst e y
    exact hs i σ _ hlt p
  · have e : i = n := by omega
    subst e
    exact .inl ⟨Nat.le_refl _, hd σ H p⟩
section
variable {X : Cx} {tg : Expr}
end
section
variable {prog : Program} {w : World} {A : Around} {E : Value → Shared → Prop} {s : Shared}
theorem iter_keys {d : Addr} {o : Obj} {es : Array DictEntry} {ep : Nat} {Q : Value → Shared → Prop} (hd : (d == sysModules) = false) (ho : s.heap.get? d = some o) (hc : o.ExactDict) (hdat : o.data = .dict es ep)
    (hQ : Q (.ref s.heap.objs.size) { s with heap := s.heap.push { cls := .type "dict_keyiterator", data := .fields #[.ref d, .int 0 0, .int es.size 0, .int ep 0] } }) :
    wpAny (model prog w) A (pyIter (.ref d)) Q E s := by
  have hT : s.TypeIs (.ref d) "dict" := ⟨o, ho, hc.1⟩
  refine wpAny_pyIter_slot hT F.slot_dict_iter (wpAny_call_entry F.slot_dict_iter hT F.entry_dict_iter ?_ (F.args_dict_iter_1 _))
  unfold Builtin.«dict.__iter__»
  refine wpAny_bind ?_
  unfold Builtin.Dict.dictSlotNone
  refine wpAny_bind (wpAny_notOrdered_dict hT ?_)
  show wpAny _ _ (pure (Value.ref d)) _ _ s
  refine wpAny_pure ?_
  show wpAny _ _ (Builtin.Dict.showsAll d >>= _) _ _ s
  unfold Builtin.Dict.showsAll
  rw [if_neg (by rw [hd]; exact Bool.false_ne_true)]
  refine wpAny_bind (wpAny_pure ?_)
  refine wpAny_bind (wpAny_dictEntries ho hdat ?_)
  refine wpAny_bind (wpAny_dictEpoch ho hdat ?_)
  refine wpAny_bind (wpAny_newObj_type (wpAny_pure ⟨_, rfl, "dict_keyiterator", _, ⟨_, Heap.get?_push_size _ rfl, rfl⟩, F.slot_dict_keyiterator_next.lookup, ?_⟩))
  simpa [rawInt] using hQ
theorem next_key_item {it d : Addr} {i n ep : Nat} {od : Obj} {es : Array DictEntry} {en : DictEntry} {Q : Option Value → Shared → Prop} (hit : s.heap.IsKeyIter it d i n ep) (hod : s.heap.get? d = some od) (hdd : od.data = .dict es ep)
    (hsz : es.size = n) (hx : es[i]? = some en) (hQ : ∀ h', h'.IsKeyIter it d (i + 1) n ep → Heap.SameBut it s.heap h' → Q (some en.key) { s with heap := h' }) : wpAny (model prog w) A (pyNext (.ref it)) Q E s := by
  obtain ⟨o, ho, hc, hd⟩ := id hit
  unfold pyNext
  refine wpAny_bind (wpAny_attempt (wpAny_callSpecial?_slot (name := Str.ofString "__next__") hit.typeIs F.slot_dict_keyiterator_next
    (wpAny_call_entry F.slot_dict_keyiterator_next hit.typeIs F.entry_dict_keyiterator_next ?_ (F.args_dict_keyiterator_next_1 _))))
  refine wpAny_bind (wpAny_pure ?_)
  refine wpAny_bind ?_
  refine wpAny_bind ?_
  first | refine wpAny_bind (wpAny_typeNameOfWhole_keyiter hit.typeIs (wpAny_pure ?_)) | refine wpAny_bind (wpAny_typeNameOf_keyiter hit.typeIs (wpAny_pure ?_))
  refine wpAny_bind (wpAny_fieldsOf ho hd ?_)
  have hown : Builtin.Dict_items.ownsTuple "dict_keyiterator" = false := by decide
  simp only [hown, Bool.false_eq_true, if_false]
  show wpAny _ _ (if (Value.ref d == Value.none) = true then _ else _) _ _ s
  rw [if_neg (show ¬ ((Value.ref d == Value.none) = true) from Bool.false_ne_true)]
  refine wpAny_bind (wpAny_pure ?_)
  refine wpAny_bind (wpAny_dictEntries hod hdd ?_)
  rw [if_neg (by rw [hsz]; simp)]
  refine wpAny_bind (wpAny_pure ?_)
  refine wpAny_bind (wpAny_dictEpoch hod hdd ?_)
  rw [if_neg (by simp)]
  refine wpAny_pure ?_
  obtain ⟨hlt', hen⟩ := Array.getElem?_eq_some_iff.mp hx
  simp only [show ¬ ((i : Int) < 0) from by omega, if_false, Int.toNat_natCast, Array.getElem?_eq_getElem hlt']
  refine wpAny_bind ?_
  first | refine wpAny_bind (wpAny_typeNameOfWhole_keyiter hit.typeIs (wpAny_pure ?_)) | refine wpAny_bind (wpAny_typeNameOf_keyiter hit.typeIs (wpAny_pure ?_))
  refine wpAny_bind (wpAny_isOneOf_keyiter hit.typeIs ?_)
  show wpAny _ _ (setField (.ref it) 1 (rawInt ((i : Int) + 1)) >>= _) _ _ s
  refine wpAny_bind (wpAny_setField ho hd (by simp) ?_)
  have hit' : (s.heap.update it (Obj.mapFields (·.setIfInBounds 1 (rawInt ((i : Int) + 1))))).IsKeyIter it d (i + 1) n ep :=
    ⟨_, Heap.get?_update_self _ ho (Obj.isFreed_of_fields (Obj.data_mapFields hd _)), (Obj.cls_mapFields ..).trans hc, by rw [Obj.data_mapFields hd]; simp [rawInt]⟩
  refine wpAny_bind (wpAny_holding ?_)
  refine wpAny_bind (wpAny_isOneOf_keyiter (s := { s with heap := s.heap.update it (Obj.mapFields (·.setIfInBounds 1 (rawInt ((i : Int) + 1)))) }) hit'.typeIs ?_)
  show wpAny _ _ (pure es[i].key) _ _ _
  rw [hen]
  exact wpAny_pure (wpAny_pure ⟨_, rfl, wpAny_pure (hQ _ hit' (Heap.SameBut.update ..))⟩)
theorem next_key_end {it d : Addr} {i n ep : Nat} {od : Obj} {es : Array DictEntry} {Q : Option Value → Shared → Prop} (hh : A.handled = none) (hit : s.heap.IsKeyIter it d i n ep) (hod : s.heap.get? d = some od) (hdd : od.data = .dict es ep)
    (hsz : es.size = n) (hge : n ≤ i) (hQ : ∀ h', Heap.ExtBut it s.heap h' → Q none { s with heap := h' }) : wpAny (model prog w) A (pyNext (.ref it)) Q E s := by
  obtain ⟨o, ho, hc, hd⟩ := id hit
  unfold pyNext
  refine wpAny_bind (wpAny_attempt (wpAny_callSpecial?_slot (name := Str.ofString "__next__") hit.typeIs F.slot_dict_keyiterator_next
    (wpAny_call_entry F.slot_dict_keyiterator_next hit.typeIs F.entry_dict_keyiterator_next ?_ (F.args_dict_keyiterator_next_1 _))))
  refine wpAny_bind (wpAny_pure ?_)
  refine wpAny_bind ?_
  refine wpAny_bind ?_
  first | refine wpAny_bind (wpAny_typeNameOfWhole_keyiter hit.typeIs (wpAny_pure ?_)) | refine wpAny_bind (wpAny_typeNameOf_keyiter hit.typeIs (wpAny_pure ?_))
  refine wpAny_bind (wpAny_fieldsOf ho hd ?_)
  have hown : Builtin.Dict_items.ownsTuple "dict_keyiterator" = false := by decide
  simp only [hown, Bool.false_eq_true, if_false]
  show wpAny _ _ (if (Value.ref d == Value.none) = true then _ else _) _ _ s
  rw [if_neg (show ¬ ((Value.ref d == Value.none) = true) from Bool.false_ne_true)]
  refine wpAny_bind (wpAny_pure ?_)
  refine wpAny_bind (wpAny_dictEntries hod hdd ?_)
  rw [if_neg (by rw [hsz]; simp)]
  refine wpAny_bind (wpAny_pure ?_)
  refine wpAny_bind (wpAny_dictEpoch hod hdd ?_)
  rw [if_neg (by simp)]
  refine wpAny_pure ?_
  have hge' : es.size ≤ i := by rw [hsz]; exact hge
  simp only [show ¬ ((i : Int) < 0) from by omega, if_false, Int.toNat_natCast, Array.getElem?_eq_none hge']
  refine wpAny_bind ?_
  first | refine wpAny_bind (wpAny_typeNameOfWhole_keyiter hit.typeIs (wpAny_pure ?_)) | refine wpAny_bind (wpAny_typeNameOf_keyiter hit.typeIs (wpAny_pure ?_))
  show wpAny _ _ (setField (.ref it) 0 .none >>= _) _ _ s
  refine wpAny_bind (wpAny_setField ho hd (by simp) ?_)
  show wpAny _ _ (newExc (.type "StopIteration") [] >>= _) _ _ _
  refine wpAny_bind ?_
  simp only [newExc, newTuple]
  refine wpAny_bind (wpAny_newObj_type ?_ (by size_fits))
  refine wpAny_bind (m := firstArgMember _ _) (wpAny_of_eq (a := Value.none) (by first | rfl | (simp only [firstArgMember]; rfl)) ?_)
  refine wpAny_newObj_type ?_ (by size_fits)
  simp only [raiseNew]
  refine wpAny_bind (wpAny_handled ?_)
  rw [show A.in1.handled = none from hh]
  refine wpAny_bind (wpAny_pure (wpAny_throw ?_))
  refine wpAny_bind (wpAny_isInstance (T := "StopIteration") (b := true) ⟨_, Heap.get?_push_size _ rfl, rfl⟩ isSubtype_stop ?_)
  exact wpAny_pure (hQ _ (((Heap.SameBut.update ..).extBut.push _).push _))
end
theorem kv_get {κ : Type} {kvs : List (κ × V)} {vs : List (κ × Value)} (h : KV kvs vs) : ∀ {i : Nat} {k : κ} {v : V}, kvs[i]? = some (k, v) → ∃ u, vs[i]? = some (k, u) ∧ RelV v u := by
  unfold KV at h
  induction h with
  | nil => intro i k v e; simp at e
  | @cons a b l₁ l₂ r t ih =>
    intro i k v e
    cases i with
    | zero =>
      simp only [List.getElem?_cons_zero, Option.some.injEq] at e
      subst e
      refine ⟨b.2, ?_, r.2⟩
      simp only [List.getElem?_cons_zero]
      exact congrArg some (Prod.ext r.1.symm rfl)
    | succ j =>
      simp only [List.getElem?_cons_succ] at e ⊢
      exact ih e
theorem paired_get {α β : Type} {G : α → β → Prop} {l₁ : List α} {l₂ : List β} (h : Paired G l₁ l₂) : ∀ {i : Nat} {a : α}, l₁[i]? = some a → ∃ b, l₂[i]? = some b ∧ G a b := by
  induction h with
  | nil => intro i a e; simp at e
  | @cons a b l₁ l₂ r t ih =>
    intro i a' e
    cases i with
    | zero =>
      simp only [List.getElem?_cons_zero, Option.some.injEq] at e
      subst e
      exact ⟨b, rfl, r⟩
    | succ j =>
      simp only [List.getElem?_cons_succ] at e ⊢
      exact ih e
theorem relV_key {k : Key} {u : Value} (h : keyIs k u = true) : RelV (kV k) u := by
  rcases keyIs_shape h with ⟨i, t, rfl, rfl⟩ | ⟨x, t, rfl, rfl⟩
  · exact ⟨t, rfl⟩
  · exact ⟨t, rfl⟩
section
variable {X : Cx} {pins : List (Addr × Obj)} {σ : St} {H : Hp} {s : Shared} {d : Addr} {o : Obj}
theorem Inv.frzK {kvs : List (Key × V)} (I : Inv X pins σ H s) (h : H d = some (.frz o (.dK kvs))) :
    (d == sysModules) = false ∧ s.heap.get? d = some o ∧ o.ExactDict ∧ ∃ (es : Array DictEntry) (ep : Nat) (vs : List (Key × Value)), o.data = .dict es ep ∧ es.size = kvs.length ∧ KV kvs vs ∧ s.heap.DictAt (mixKind X.prog X.w) d vs ep := by
  obtain ⟨hd, z, hs, vs, kv, o', es, ep, ho, hx, hdt, r⟩ := I.hok d _ h
  rw [hd] at ho
  cases ho
  refine ⟨hs, hd, hx, es, ep, vs, hdt, ?_, kv, o, es, hd, hx, hdt, r⟩
  have l1 := r.2.1.length
  have l2 : kvs.length = vs.length := Paired.length kv
  rw [Array.length_toList] at l1
  omega
theorem Inv.frzT {kvs : List (List Key × V)} (I : Inv X pins σ H s) (h : H d = some (.frz o (.dT kvs))) :
    (d == sysModules) = false ∧ s.heap.get? d = some o ∧ o.ExactDict ∧ ∃ (es : Array DictEntry) (ep : Nat), o.data = .dict es ep ∧ es.size = kvs.length ∧
      ∀ (i : Nat) (k : List Key) (v : V), kvs[i]? = some (k, v) → ∃ (en : DictEntry) (q : Addr), es[i]? = some en ∧ en.key = .ref q ∧ H q = some (.tup (k.map kV)) := by
  obtain ⟨hd, z, hs, xs, pr, o', es, ep, ho, hx, hdt, he, _⟩ := I.hok d _ h
  rw [hd] at ho
  cases ho
  refine ⟨hs, hd, hx, es, ep, hdt, ?_, fun i k v e => ?_⟩
  · have l1 : es.size = xs.length := size_of_entries he
    have l2 : kvs.length = xs.length := Paired.length pr
    omega
  · obtain ⟨b, hb, e1, e2, _⟩ := paired_get pr e
    have q := entry_at he i
    rw [hb] at q
    exact ⟨_, b.2.1, q, rfl, e2⟩
end
def Itk (d : Addr) (o : Obj) (kvs : List (Key × V)) : It :=
  ⟨fun i H => H d = some (.frz o (.dK kvs)) ∧ i < kvs.length, fun i H x H' => H' = H ∧ ∃ k v, kvs[i]? = some (k, v) ∧ x = kV k, fun i H => H d = some (.frz o (.dK kvs)) ∧ kvs.length ≤ i⟩
def Itkt (d : Addr) (o : Obj) (kvs : List (List Key × V)) : It :=
  ⟨fun i H => H d = some (.frz o (.dT kvs)) ∧ i < kvs.length, fun i H x H' => H' = H ∧ ∃ (k : List Key) (v : V) (q : Addr), kvs[i]? = some (k, v) ∧ x = .ref q ∧ H q = some (.tup (k.map kV)), fun i H => H d = some (.frz o (.dT kvs)) ∧ kvs.length ≤ i⟩
theorem dict_ep {o : Obj} {es es' : Array DictEntry} {ep ep' : Nat} (h : o.data = .dict es ep) (h' : o.data = .dict es' ep') : es' = es ∧ ep' = ep := by
  rw [h] at h'
  cases h'
  exact ⟨rfl, rfl⟩
section
variable {P : Program} {w : World} {K : PySem.W.Frag} {tg : Expr} {d : Addr} {o : Obj} {es : Array DictEntry} {ep : Nat}
theorem turn_keys {kvs : List (Key × V)} (it : Addr) (hod : o.data = .dict es ep) : Turn P w K tg (Itk d o kvs) [it] it (fun i h => h.IsKeyIter it d i kvs.length ep) where
  mem := by simp
  obj := fun i h st b hb => by
    have e : b = it := by simpa using hb
    subst e
    obtain ⟨oi, e, c, dd⟩ := st
    exact ⟨oi, e, fun v z => by rw [dd] at z; cases z⟩
  keep := fun i h h' st k => st.at fun oi e => k it (by simp) oi e
  item := by
    intro X hP hw hK hc i pins s σ H E I hf st hg
    subst hP hw hK
    obtain ⟨hd, hi⟩ := hg
    obtain ⟨f0, f1, f2, f3, f4, f5⟩ := hf it (by simp)
    obtain ⟨hs, hgd, hx, es', ep', vs, hdt, hsz, kv, hm⟩ := I.frzK hd
    obtain ⟨rfl, rfl⟩ := dict_ep hod hdt
    obtain ⟨⟨k, v⟩, hkv⟩ : ∃ p, kvs[i]? = some p := ⟨kvs[i], List.getElem?_eq_getElem hi⟩
    obtain ⟨u, hu, ru⟩ := kv_get kv hkv
    have hl : kvs.length = vs.length := Paired.length kv
    rw [hl] at st
    refine wpAny_pyNext_dict_item st hm hu fun key h' hkey st' sb => ?_
    have I1 : Inv X pins σ H { s with heap := h' } := I.turned (t' := s.toks) (fun b ob hb e => (sb.2 b hb).trans e) f0 f1 f3 f4 f5
    obtain ⟨oi, e, c, dd⟩ := id st'
    refine ⟨key, rfl, go_of (s := { s with heap := h' }) e c dd (by decide) ⟨kV k, H, I1, relV_key (show keyIs k key = true from hkey), ⟨rfl, k, v, hkv, rfl⟩, ?_, fun b hb => (hf b hb).1⟩⟩
    show h'.IsKeyIter it d (i + 1) kvs.length _
    rw [hl]
    exact st'
  done := by
    intro X hP hw hK hc i pins s σ H E I hf st hg
    subst hP hw hK
    obtain ⟨hd, hi⟩ := hg
    obtain ⟨f0, f1, f2, f3, f4, f5⟩ := hf it (by simp)
    obtain ⟨hs, hgd, hx, es', ep', vs, hdt, hsz, kv, hm⟩ := I.frzK hd
    obtain ⟨rfl, rfl⟩ := dict_ep hod hdt
    exact next_key_end (I.ok.hd hc) st hgd hdt hsz hi fun h' eb => ⟨rfl, I.turned (t' := s.toks) (fun b ob hb e => eb b ob hb e) f0 f1 f3 f4 f5⟩
  self := fun A i s Q E st h => wpAny_pyIter_keyiter st h
theorem turn_keysT {kvs : List (List Key × V)} (it : Addr) (hod : o.data = .dict es ep) : Turn P w K tg (Itkt d o kvs) [it] it (fun i h => h.IsKeyIter it d i kvs.length ep) where
  mem := by simp
  obj := fun i h st b hb => by
    have e : b = it := by simpa using hb
    subst e
    obtain ⟨oi, e, c, dd⟩ := st
    exact ⟨oi, e, fun v z => by rw [dd] at z; cases z⟩
  keep := fun i h h' st k => st.at fun oi e => k it (by simp) oi e
  item := by
    intro X hP hw hK hc i pins s σ H E I hf st hg
    subst hP hw hK
    obtain ⟨hd, hi⟩ := hg
    obtain ⟨f0, f1, f2, f3, f4, f5⟩ := hf it (by simp)
    obtain ⟨hs, hgd, hx, es', ep', hdt, hsz, ent⟩ := I.frzT hd
    obtain ⟨rfl, rfl⟩ := dict_ep hod hdt
    obtain ⟨⟨k, v⟩, hkv⟩ : ∃ p, kvs[i]? = some p := ⟨kvs[i], List.getElem?_eq_getElem hi⟩
    obtain ⟨en, q, hen, hkey, hq⟩ := ent i k v hkv
    refine next_key_item st hgd hdt hsz hen fun h' st' sb => ?_
    have I1 : Inv X pins σ H { s with heap := h' } := I.turned (t' := s.toks) (fun b ob hb e => (sb.2 b hb).trans e) f0 f1 f3 f4 f5
    obtain ⟨oi, e, c, dd⟩ := id st'
    exact ⟨en.key, rfl, go_of (s := { s with heap := h' }) e c dd (by decide) ⟨.ref q, H, I1, hkey, ⟨rfl, k, v, q, hkv, rfl, hq⟩, st', fun b hb => (hf b hb).1⟩⟩
  done := by
    intro X hP hw hK hc i pins s σ H E I hf st hg
    subst hP hw hK
    obtain ⟨hd, hi⟩ := hg
    obtain ⟨f0, f1, f2, f3, f4, f5⟩ := hf it (by simp)
    obtain ⟨hs, hgd, hx, es', ep', hdt, hsz, ent⟩ := I.frzT hd
    obtain ⟨rfl, rfl⟩ := dict_ep hod hdt
    exact next_key_end (I.ok.hd hc) st hgd hdt hsz hi fun h' eb => ⟨rfl, I.turned (t' := s.toks) (fun b ob hb e => eb b ob hb e) f0 f1 f3 f4 f5⟩
  self := fun A i s Q E st h => by
    refine wpAny_pyIter_slot st.typeIs F.slot_dict_keyiterator_iter (wpAny_call_entry F.slot_dict_keyiterator_iter st.typeIs F.entry_dict_keyiterator_iter ?_ (F.args_dict_keyiterator_iter_1 _))
    show wpAny _ _ (ret (.ref it)) _ _ s
    exact wpAny_pure ⟨_, rfl, "dict_keyiterator", _, st.typeIs, F.slot_dict_keyiterator_next.lookup, h⟩
end
def iKeys (td : TE) : TI := fun σ H R => td σ H fun x H1 => ∃ d o, x = .ref d ∧ ((∃ kvs, H1 d = some (.frz o (.dK kvs)) ∧ R (Itk d o kvs) H1) ∨ ∃ kvs, H1 d = some (.frz o (.dT kvs)) ∧ R (Itkt d o kvs) H1)
section
variable {X : Cx} {tg e : Expr} {td : TE} {apos cpos : Pos}
theorem pi_keys (he : PE X e td) : PI X tg e (iKeys td) := by
  intro pins s σ H R I h
  refine thn (he pins s σ H _ I h) fun u s1 ⟨x, H1, I1, rx, d, o, ex, q⟩ => ?_
  subst ex
  obtain rfl : u = Value.ref d := rx
  rcases q with ⟨kvs, hd, q⟩ | ⟨kvs, hd, q⟩
  · obtain ⟨hs, hgd, hx, es, ep, vs, hdt, hsz, kv, hm⟩ := I1.frzK hd
    refine iter_keys hs hgd hx hdt (pi_one (tk := s1.toks) I1 _ (turn_keys _ hdt) ⟨_, Heap.get?_push_size _ rfl, rfl, ?_⟩ q)
    rw [hsz] <;> rfl
  · obtain ⟨hs, hgd, hx, es, ep, hdt, hsz, ent⟩ := I1.frzT hd
    refine iter_keys hs hgd hx hdt (pi_one (tk := s1.toks) I1 _ (turn_keysT _ hdt) ⟨_, Heap.get?_push_size _ rfl, rfl, ?_⟩ q)
    rw [hsz] <;> rfl
end
theorem boot_zip5 : bootBuiltins "zip" = some (.type "zip") := by decide +kernel
def Itz (K : PySem.W.Frag) (a b : Addr) : It :=
  ⟨fun i H => ∃ (xs ys : List V) (x y : V), SqL K H a xs ∧ SqL K H b ys ∧ xs[i]? = some x ∧ ys[i]? = some y,
    fun i H v H' => ∃ T x y, v = .ref T ∧ H T = none ∧ H' = upd H T (.tup [x, y]) ∧ (∀ xs, SqL K H a xs → xs[i]? = some x) ∧ ∀ ys, SqL K H b ys → ys[i]? = some y,
    fun i H => ∃ xs ys : List V, SqL K H a xs ∧ SqL K H b ys ∧ (xs.length ≤ i ∨ ys.length ≤ i)⟩
theorem turn_zip {P : Program} {w : World} {K : PySem.W.Frag} {elts : List Expr} {kk : Nat} {tpos : Pos} {a b z TI TO i1 i2 : Addr} (D : ZipApart z TI TO i1 i2 a b) :
    Turn P w K (.Tuple elts kk tpos) (Itz K a b) [z, TI, TO, i1, i2] z (fun i h => IsZip h z TI TO .none ∧ IsPair h TI (.ref i1) (.ref i2) ∧ (∃ x y, IsPair h TO x y) ∧ h.IsListIter i1 a i ∧ h.IsListIter i2 b i) where
  mem := by simp
  obj := fun i h st c hc => by
    obtain ⟨hz, hTI, ⟨x, y, hTO⟩, ⟨o1, e1, _, d1⟩, ⟨o2, e2, _, d2⟩⟩ := st
    have e' : c = z ∨ c = TI ∨ c = TO ∨ c = i1 ∨ c = i2 := by simpa using hc
    rcases e' with q | q | q | q | q
    · rw [q]; exact ⟨_, hz, fun v q => nomatch q⟩
    · rw [q]; exact ⟨_, hTI, fun v q => nomatch q⟩
    · rw [q]; exact ⟨_, hTO, fun v q => nomatch q⟩
    · rw [q]; exact ⟨o1, e1, fun v q => by rw [d1] at q; cases q⟩
    · rw [q]; exact ⟨o2, e2, fun v q => by rw [d2] at q; cases q⟩
  keep := fun i h h' st k => by
    obtain ⟨hz, hTI, ⟨x, y, hTO⟩, h1, h2⟩ := st
    exact ⟨k z (by simp) _ hz, k TI (by simp) _ hTI, ⟨x, y, k TO (by simp) _ hTO⟩, h1.at fun o q => k i1 (by simp) o q, h2.at fun o q => k i2 (by simp) o q⟩
  item := by
    intro X hP hw hK hc i pins s σ H E I hf st hg
    subst hP hw hK
    obtain ⟨hz, hTI, ⟨x0, y0, hTO⟩, h1, h2⟩ := st
    obtain ⟨xs, ys, x, y, hqx, hqy, hx, hy⟩ := hg
    obtain ⟨its, rv, p, _⟩ := I.list hqx
    obtain ⟨its2, rv2, p2, _⟩ := I.list hqy
    obtain ⟨u, hu, ru⟩ := rv.get hx
    obtain ⟨u2, hu2, ru2⟩ := rv2.get hy
    have hzl : z < s.heap.objs.size := Heap.lt_size hz
    refine wpAny_pyNext_zip_item D hz hTI hTO h1 h2 p.isList p2.isList (x := u) (y := u2) (by simpa using hu) (by simpa using hu2) fun h' z' TO' h1' h2' hT hsz hk => ?_
    refine ⟨_, rfl, wpAny_letOwnedTupleGo_zip (s := { s with heap := h' }) z' fun h'' z'' sb => ?_⟩
    have hT2 : h''.get? s.heap.objs.size = some { cls := .type "tuple", data := .seq #[u, u2] } := (sb.2 _ (Nat.ne_of_gt hzl)).trans hT
    have new : ObjOk X.prog X.w (upd H s.heap.objs.size (.tup [x, y])) h'' s.heap.objs.size (.tup [x, y]) :=
      ⟨by show 2 ≤ sizeLine; decide, [u, u2], .cons ru (.cons ru2 .nil), ⟨_, hT2, rfl, _, rfl⟩⟩
    have I1 : Inv X pins σ (upd H s.heap.objs.size (.tup [x, y])) { s with heap := h'' } :=
      I.turnedNew (t' := s.toks) (ch := [z, TI, TO, i1, i2]) (fun c o hb q => (sb.2 c (fun q' => hb (by simp [q']))).trans (hk c o (fun q' => hb (by simp [q'])) (fun q' => hb (by simp [q'])) (fun q' => hb (by simp [q'])) (fun q' => hb (by simp [q'])) q)) hf (Nat.le_refl _) new
    refine ⟨.ref s.heap.objs.size, _, I1, rfl, ⟨_, x, y, rfl, I.hok.fresh (Nat.le_refl _), rfl, fun l hl => by rw [I.list_inj hl hqx]; exact hx, fun l hl => by rw [I.list_inj hl hqy]; exact hy⟩, ⟨z'', ?_, ⟨u, u2, ?_⟩, ?_, ?_⟩, fun c hcm => ?_⟩
    · exact (sb.2 _ D.TIz).trans (hk _ _ D.TIz D.TITO D.TIi1 D.TIi2 hTI)
    · exact (sb.2 _ D.TOz).trans TO'
    · exact h1'.at fun o q => (sb.2 _ D.i1z).trans q
    · exact h2'.at fun o q => (sb.2 _ D.i2z).trans q
    · have hlt : c < s.heap.objs.size := by
        have e' : c = z ∨ c = TI ∨ c = TO ∨ c = i1 ∨ c = i2 := by simpa using hcm
        rcases e' with q | q | q | q | q
        · rw [q]; exact hzl
        · rw [q]; exact Heap.lt_size hTI
        · rw [q]; exact Heap.lt_size hTO
        · rw [q]; obtain ⟨_, e1, _⟩ := h1; exact Heap.lt_size e1
        · rw [q]; obtain ⟨_, e2, _⟩ := h2; exact Heap.lt_size e2
      rw [upd_ne (Nat.ne_of_lt hlt)]
      exact (hf c hcm).1
  done := by
    intro X hP hw hK hc i pins s σ H E I hf st hg
    subst hP hw hK
    obtain ⟨hz, hTI, ⟨x0, y0, hTO⟩, h1, h2⟩ := st
    obtain ⟨xs, ys, hqx, hqy, hend⟩ := hg
    obtain ⟨its, rv, p, _⟩ := I.list hqx
    obtain ⟨its2, rv2, p2, _⟩ := I.list hqy
    have l1 := rv.length
    have l2 := rv2.length
    have he : its.toArray[i]? = none ∨ its2.toArray[i]? = none := by
      rcases hend with q | q
      · exact .inl (by simp; omega)
      · exact .inr (by simp; omega)
    exact wpAny_pyNext_zip_end (I.ok.hd hc) D hz hTI hTO h1 h2 p.isList p2.isList he fun h' hk => ⟨rfl, I.turnedL (t' := s.toks) (ch := [z, TI, TO, i1, i2]) (fun c o hb q =>
      hk c o (fun q' => hb (by simp [q'])) (fun q' => hb (by simp [q'])) (fun q' => hb (by simp [q'])) (fun q' => hb (by simp [q'])) q) hf⟩
  self := fun A i s Q E st h => wpAny_pyIter_zip st.1 h
def iZip (K : PySem.W.Frag) (ta : TA) : TI := fun σ H R => ta σ H fun vs H1 => ∃ a b xs ys, vs = [.ref a, .ref b] ∧ SqL K H1 a xs ∧ SqL K H1 b ys ∧ R (Itz K a b) H1
theorem pi_zip {X : Cx} {e e2 : Expr} {ta : TA} {p pos tpos : Pos} {elts : List Expr} {kk : Nat} (hg : Gl X "zip") (hm : X.mg "zip" = none) (ha : PA X [e, e2] ta)
    (hs : starEach [e, e2] X.env = (false, eval e X.env) :: starEach [e2] X.env := by rfl) (hpl : (backTo pos (starEach [e2] X.env)).any (·.1) = false := by rfl) :
    PI X (.Tuple elts kk tpos) (.Call (.Name "zip" p) [e, e2] [] pos) (iZip X.K ta) := by
  intro pins s σ H R I h
  refine Call_ (ld_blt I hg hm boot_zip5 (PyProof.Rows.callWith_type1 (thn (ha pos pins s σ H _ I h) fun us s1 ⟨vs, H1, I1, r1, q1⟩ => ?_) hs hpl))
  obtain ⟨a, b, xs, ys, ex, hqx, hqy, q⟩ := q1
  subst ex
  cases r1 with
  | cons r rr =>
    cases rr with
    | cons r' rr =>
      cases rr
      cases r
      cases r'
      obtain ⟨its, rv, p1, _⟩ := I1.list hqx
      obtain ⟨its2, rv2, p2, _⟩ := I1.list hqy
      have la : a < s1.heap.objs.size := p1.lt
      have lb : b < s1.heap.objs.size := p2.lt
      refine call_zip_2 p1.isList p2.isList fun h' hz hTI hTO h1 h2 hsz hk => wpAny_pyIter_zip hz ?_
      have I2 : Inv X pins σ H1 { s1 with heap := h' } := I1.kept (t' := s1.toks) hk
      refine ⟨s1.heap.objs.size + 4, [s1.heap.objs.size + 4, s1.heap.objs.size + 2, s1.heap.objs.size + 3, s1.heap.objs.size, s1.heap.objs.size + 1], _, _, H1, rfl, I2, turn_zip (PySem.W.ktu_apart s1.heap.objs.size a b la lb), ⟨hz, hTI, ⟨_, _, hTO⟩, h1, h2⟩, fun c hcm => ?_, q⟩
      have e' : c = s1.heap.objs.size + 4 ∨ c = s1.heap.objs.size + 2 ∨ c = s1.heap.objs.size + 3 ∨ c = s1.heap.objs.size ∨ c = s1.heap.objs.size + 1 := by simpa using hcm
      have hle : s1.heap.objs.size ≤ c := by
        rcases e' with z | z | z | z | z
        · rw [z]; exact Nat.le_add_right _ _
        · rw [z]; exact Nat.le_add_right _ _
        · rw [z]; exact Nat.le_add_right _ _
        · rw [z]; exact Nat.le_refl _
        · rw [z]; exact Nat.le_add_right _ _
      exact I1.fpOk hle (I1.hok.fresh hle)
end L2
section
namespace Bits
open PySem PyProof.Rows
end Bits
end
section
namespace TL
open PySem PySem.Builtin PySem.Builtin.Str PySem.StrLaws
abbrev tl (x : Str) : List Nat := x.cps.toList
end TL
end
namespace L2
open PySem PySem.Spec PyProof.Rows
section
variable {X : Cx} {pins : List (Addr × Obj)} {σ : St} {H : Hp} {s : Shared} {Q : VK}
end
section
variable {X : Cx}
end
section
variable {X : Cx} {o e : Expr} {to te : TE}
end
end L2
namespace L2
open PySem PySem.Spec PyProof.Rows
section
variable {X : Cx}
end
end L2
namespace Att
open PySem PySem.W PySem.Calls PyProof.Rows
section
variable {prog : Program} {w : World} {A : Around} {E : Value → Shared → Prop} {s : Shared} {K : Frag}
end
end Att
namespace L2
open PySem PySem.Spec PyProof.Rows
end L2
namespace L2
open PySem PySem.Spec PyProof.Rows
abbrev KOf {K : PySem.W.Frag} {h : Heap} (_ : K.In h) : PySem.W.Frag := K
end L2
namespace L2
open PySem PySem.Spec PyProof.Rows
def inClass (s : Stmt) (j : Nat) : Stmt := match s with
  | .ClassDef _ _ _ body _ _ _ _ _ _ _ => body.getD j (.Pass ⟨0, 0, 0, 0⟩)
  | _ => .Pass ⟨0, 0, 0, 0⟩
def defArgs (s : Stmt) : Arguments := match s with
  | .FunctionDef _ a _ _ _ _ _ _ _ _ => a
  | _ => { posonlyargs := [], args := [], vararg := none, kwonlyargs := [], kw_defaults := [], kwarg := none, defaults := [] }
def defBody (s : Stmt) : List Stmt := match s with
  | .FunctionDef _ _ b _ _ _ _ _ _ _ => b
  | _ => []
def defScope (s : Stmt) : Scope := match s with
  | .FunctionDef _ _ _ _ _ _ sc _ _ _ => sc
  | _ => { kind := .function, names := [], isGenerator := false, isCoroutine := false }
abbrev CX0 : CXT := fun _ _ _ _ _ _ => False
abbrev E0 : XK := fun _ _ _ => False
theorem pass0 {X : Cx} : Passes CX0 X E0 := fun _ _ _ _ _ _ _ h => h.elim
structure Fun (K : PySem.W.Frag) (x qual : Str) (st : Stmt) (f : Addr) (fd : FuncData) : Prop where
  ex : ∃ (oc : Value) (od : Option Addr) (kV doc pm : Value) (an : Option Addr) (cdv ct : Value) (osl : Array (Option Value)),
    fd = PySem.W.fnOf x qual (defArgs st) (defBody st) (defScope st) .none kV doc pm an cdv ct ∧ K.lookup f = some ⟨oc, od, .func fd, osl⟩ ∧ PySem.W.codeIn K cdv qual = true
  kp : PySem.W.keepIn K (.ref f) = true
section
variable {P : Program} {w : World} {K : PySem.W.Frag} {mg : Str → Option Value} {base : Heap}
theorem Fun.ok {x qual : Str} {st : Stmt} {f : Addr} {fd : FuncData} {N ps : List Str} {k : Nat} {sp : Sp} (F : Fun K x qual st f fd) (S : FnScope N ps (defScope st)) (len : ∀ vs H Q E, sp vs H Q E → vs.length = ps.length)
    (hbody : ∀ (cdv : Value) (A : Around) (outer : List Env) (s : Shared) (H : Hp) (vs : List V) (Q : VK) (E : XK), Room k (A.deeper (envOfC qual (defScope st) s.heap.objs.size f cdv)) → sp vs H Q E →
      ∃ t, PSs (cxOf CX0 P w K mg base N qual (defScope st) f cdv A outer s H E).nox (defBody st) t ∧ t { nx := fun _ H' => Q .non H', rt := Q } (start N vs) H) : FnOk P w K mg base CX0 (k + 1) f fd ps sp := by
  obtain ⟨oc, od, kV, doc, pm, an, cdv, ct, osl, rfl, lk, hcd⟩ := F.ex
  refine fn_of lk hcd S len fun A outer s H vs Q E hr hsp => ?_
  obtain ⟨t, h, q⟩ := hbody cdv A outer s H vs Q E hr hsp
  exact ⟨t, h.nox, q⟩
theorem Fun.binds {x qual : Str} {st : Stmt} {f : Addr} {fd : FuncData} {ps : List Str} (F : Fun K x qual st f fd)
    (h : ∀ (kV doc pm : Value) (an : Option Addr) (cdv ct : Value) (us : List Value), us.length = ps.length → bindArgs (PySem.W.fnOf x qual (defArgs st) (defBody st) (defScope st) .none kV doc pm an cdv ct) ⟨us, []⟩ = pure (ps.zip us)) : Binds K fd ps [] := by
  obtain ⟨oc, od, kV, doc, pm, an, cdv, ct, osl, rfl, lk, hcd⟩ := F.ex
  exact .all (h kV doc pm an cdv ct)
theorem fun_mk {x qual : Str} {st : Stmt} {f : Addr} {oc : Value} {od an : Option Addr} {osl : Array (Option Value)} {kV doc pm cdv ct : Value} (l : K.lookup f = some ⟨oc, od, .func (PySem.W.fnOf x qual (defArgs st) (defBody st) (defScope st) .none kV doc pm an cdv ct), osl⟩)
    (c : PySem.W.codeIn K cdv qual = true) (k : PySem.W.keepIn K (.ref f) = true) : Fun K x qual st f (PySem.W.fnOf x qual (defArgs st) (defBody st) (defScope st) .none kV doc pm an cdv ct) := ⟨⟨oc, od, kV, doc, pm, an, cdv, ct, osl, rfl, l, c⟩, k⟩
end
theorem hu_of {A : Around} {k : Nat} (hr : Room k A) : A.units + 1 < cLine := Nat.lt_of_le_of_lt (Nat.add_le_add_left (by decide : 1 ≤ 64) _) hr.units
section
variable {X : Cx}
theorem pv (i : Nat) {x : Str} {pos : Pos} (hN : X.N[i]? = some x := by rfl) (hv : Vis X.env.scope x := by first | exact Or.inl rfl | exact Or.inr (Or.inl rfl) | exact Or.inr (Or.inr rfl)) (hd : (x == ("__debug__" : Str)) = false := by decide)
    (hcd : (x == ("__classdict__" : Str)) = false := by decide) : PE X (.Name x pos) (tVar i) := pe_var hN hv hd hcd
end
theorem iteF {A B : Prop} (h : B) : if false = true then A else B := by
  rw [if_neg Bool.false_ne_true]
  exact h
theorem iteT {A B : Prop} (h : A) : if true = true then A else B := by
  rw [if_pos rfl]
  exact h
theorem ite2 {c A B : Prop} [Decidable c] (h1 : c → A) (h2 : ¬ c → B) : if c then A else B := by
  by_cases h : c
  · rw [if_pos h]
    exact h1 h
  · rw [if_neg h]
    exact h2 h
def Same (H H' : Hp) : Prop := ∀ b o, H b = some o → H' b = some o
theorem Same.refl (H : Hp) : Same H H := fun _ _ h => h
theorem Same.trans {H H1 H2 : Hp} (a : Same H H1) (b : Same H1 H2) : Same H H2 := fun c o h => b c o (a c o h)
theorem Same.free {H H' : Hp} (e : Same H H') {l : Addr} (h : H' l = Option.none) : H l = Option.none := by
  cases q : H l with
  | none => rfl
  | some o =>
    rw [e l o q] at h
    cases h
theorem Same.seq {K : PySem.W.Frag} {H H' : Hp} {a : Addr} {xs : List V} (e : Same H H') (h : SqL K H a xs) : SqL K H' a xs := by
  rcases h with (h | ⟨o, h⟩) | h
  · exact .inl (.inl (e _ _ h))
  · exact .inl (.inr ⟨o, e _ _ h⟩)
  · exact .inr h
section
variable {κ : Type} [DecidableEq κ]
theorem valV_not {kvs : List (κ × V)} {k : κ} (h : valV kvs k = none) : ¬ k ∈ kvs.map (·.1) := by
  intro m
  obtain ⟨p, hp, e⟩ := List.mem_map.mp m
  have q : (kvs.any fun kv => decide (kv.1 = k)) = true := List.any_eq_true.mpr ⟨p, hp, decide_eq_true e⟩
  rw [valV_any, h] at q
  exact absurd q (by simp)
theorem valV_in {kvs : List (κ × V)} {k : κ} {v : V} (h : valV kvs k = some v) : k ∈ kvs.map (·.1) := by
  have q : (kvs.any fun kv => decide (kv.1 = k)) = true := by
    rw [valV_any, h]
    all_goals rfl
  obtain ⟨p, hp, e⟩ := List.any_eq_true.mp q
  exact List.mem_map.mpr ⟨p, hp, of_decide_eq_true e⟩
end
theorem at_of {xs : List V} {z : Int} {j : Nat} {v : V} (e : z = (j : Int)) (h : xs[j]? = some v) : atI xs z = some v := by
  rw [e]
  exact atI_nat h
theorem nd_ix {α : Type} {l : List α} (hN : l.Nodup) {i j : Nat} {x : α} (a : l[i]? = some x) (b : l[j]? = some x) : i = j := by
  obtain ⟨h1, e1⟩ := List.getElem?_eq_some_iff.mp a
  obtain ⟨h2, e2⟩ := List.getElem?_eq_some_iff.mp b
  exact (List.getElem_inj hN).mp (e1.trans e2.symm)
end L2
section
set_option Elab.async false
set_option linter.all false
set_option maxRecDepth 100000
set_option maxHeartbeats 2000000
namespace L2
open PySem PySem.Spec PyProof.Rows
open PySem.W (WData Codec OpenSpec Well WellAll ReadsW ReadsAllW)
mutual
inductive Dw (K : PySem.W.Frag) (H : Hp) : V → WData → Prop
  | non : Dw K H .non .none
  | bl (b : Bool) : Dw K H (.bl b) (.bool b)
  | int (i : Int) : Dw K H (.int i) (.int i)
  | str (x : Str) : Dw K H (.str x) (.str x)
  | byt (b : Array UInt8) : Dw K H (.byt b) (.bytes b.toList)
  | lst {a : Addr} {xs : List V} {ds : List WData} : SqL K H a xs → DwAll K H xs ds → Dw K H (.ref a) (.list ds)
  | tup {a : Addr} {xs : List V} {ds : List WData} : SqT K H a xs → DwAll K H xs ds → Dw K H (.ref a) (.tuple ds)
inductive DwAll (K : PySem.W.Frag) (H : Hp) : List V → List WData → Prop
  | nil : DwAll K H [] []
  | cons {v : V} {vs : List V} {d : WData} {ds : List WData} : Dw K H v d → DwAll K H vs ds → DwAll K H (v :: vs) (d :: ds)
end
theorem dw_ints {K : PySem.W.Frag} {H : Hp} : ∀ ns : List Int, DwAll K H (ns.map V.int) (ns.map WData.int)
  | [] => .nil
  | n :: r => .cons (.int n) (dw_ints r)
theorem ints_dw {K : PySem.W.Frag} {H : Hp} : ∀ (ns : List Int) (xs : List V), DwAll K H xs (ns.map WData.int) → xs = ns.map V.int
  | [], xs, h => by
    cases h
    rfl
  | n :: r, xs, h => by
    cases h with
    | cons h1 h2 =>
      cases h1
      rw [ints_dw r _ h2] <;> rfl
section
variable {P : Program} {w : World} {K : PySem.W.Frag} {H : Hp} {h : Heap} {R : PySem.W.WRecords} {cl : Str → Option Addr}
theorem sqL_at {a : Addr} {xs : List V} (hok : HOk P w H h) (KX : K.In h) (q : SqL K H a xs) : ∃ (its : List Value) (o : Obj) (n : Nat), Vals xs its ∧ h.get? a = some o ∧ o.cls = .type "list" ∧ o.data = .seq its.toArray n := by
  rcases q with q | ⟨o, its, n, e, hc, _, hd, _, hv⟩
  · obtain ⟨_, its, n, hv, e⟩ := (show ObjOk P w H h a (.lst xs) from q.ok hok)
    exact ⟨its, _, n, hv, e, rfl, rfl⟩
  · exact ⟨its.toList, o, n, hv, KX _ _ e, hc, by simp [hd]⟩
theorem sqT_at {a : Addr} {xs : List V} (hok : HOk P w H h) (KX : K.In h) (q : SqT K H a xs) : ∃ (its : List Value) (o : Obj) (n : Nat), Vals xs its ∧ h.get? a = some o ∧ o.cls = .type "tuple" ∧ o.data = .seq its.toArray n := by
  rcases q with q | ⟨o, its, n, e, hc, hd, _, hv⟩
  · obtain ⟨_, its, hv, o, e, hc, n, hd⟩ := (show ObjOk P w H h a (.tup xs) from q.ok hok)
    exact ⟨its, o, n, hv, e, hc, hd⟩
  · exact ⟨its.toList, o, n, hv, KX _ _ e, hc, by simp [hd]⟩
mutual
theorem Dw.reads (hok : HOk P w H h) (KX : K.In h) : ∀ (d : WData) (v : V) (u : Value), Dw K H v d → RelV v u → ∃ as, ReadsW R cl h u d as
  | .none, _, _, x, r => by
    cases x
    cases r
    exact ⟨_, ReadsW.none⟩
  | .bool b, _, _, x, r => by
    cases x
    cases r
    exact ⟨_, ReadsW.bool b⟩
  | .int i, _, _, x, r => by
    cases x
    obtain ⟨t, rfl⟩ := r
    exact ⟨_, ReadsW.int i t⟩
  | .str s, _, _, x, r => by
    cases x
    obtain ⟨t, rfl⟩ := r
    exact ⟨_, ReadsW.str s t⟩
  | .bytes b, _, _, x, r => by
    cases x
    obtain ⟨t, rfl⟩ := r
    exact ⟨_, ReadsW.bytes _ t⟩
  | .list ds, _, _, x, r => by
    cases x with
    | lst hs ha =>
      cases r
      obtain ⟨its, o, n, rv, ho, hc, hd⟩ := sqL_at hok KX hs
      obtain ⟨as, hr⟩ := Dw.readsAll hok KX ds _ its ha rv
      exact ⟨_, ReadsW.list ho hc hd hr⟩
  | .tuple ds, _, _, x, r => by
    cases x with
    | tup hs ha =>
      cases r
      obtain ⟨its, o, n, rv, ho, hc, hd⟩ := sqT_at hok KX hs
      obtain ⟨as, hr⟩ := Dw.readsAll hok KX ds _ its ha rv
      exact ⟨_, ReadsW.tuple ho hc hd hr⟩
  | .float _, _, _, x, _ => by cases x
  | .dict _, _, _, x, _ => by cases x
  | .bytearray _, _, _, x, _ => by cases x
  | .set _, _, _, x, _ => by cases x
  | .frozenset _, _, _, x, _ => by cases x
  | .obj _ _, _, _, x, _ => by cases x
theorem Dw.readsAll (hok : HOk P w H h) (KX : K.In h) : ∀ (ds : List WData) (vs : List V) (us : List Value), DwAll K H vs ds → Vals vs us → ∃ as, ReadsAllW R cl h us ds as
  | [], _, _, x, r => by
    cases x
    cases r
    exact ⟨_, ReadsAllW.nil⟩
  | d :: ds, _, _, x, r => by
    cases x with
    | cons h1 h2 =>
      cases r with
      | cons r1 r2 =>
        obtain ⟨as, q1⟩ := Dw.reads hok KX d _ _ h1 r1
        obtain ⟨bs, q2⟩ := Dw.readsAll hok KX ds _ _ h2 r2
        exact ⟨_, ReadsAllW.cons q1 q2⟩
end
end
mutual
def plW : WData → Bool
  | .none => true
  | .bool _ => true
  | .int _ => true
  | .str _ => true
  | .bytes _ => true
  | .list xs => plWs xs
  | .tuple xs => plWs xs
  | _ => false
def plWs : List WData → Bool
  | [] => true
  | x :: r => plW x && plWs r
end
theorem plWs_map {α : Type} {f : α → WData} (h : ∀ a, plW (f a) = true) : ∀ l : List α, plWs (l.map f) = true
  | [] => rfl
  | x :: r => by
    show (plW (f x) && plWs (r.map f)) = true
    rw [h x, plWs_map h r] <;> rfl
theorem pl_enc : ∀ (c : Codec) (a : c.denote), plW (c.enc a) = true
  | .unit, _ => rfl
  | .bool, _ => rfl
  | .int _ _, _ => rfl
  | .nat _ _, _ => rfl
  | .u8, _ => rfl
  | .bytes _ _, _ => rfl
  | .text _ _ _ _, _ => rfl
  | .list _ _ c, a => plWs_map (fun x => pl_enc c x) a
  | .pair c d, a => by
    show (plW (c.enc a.1) && (plW (d.enc a.2) && true)) = true
    rw [pl_enc c a.1, pl_enc d a.2] <;> rfl
  | .triple c d e, a => by
    show (plW (c.enc a.1) && (plW (d.enc a.2.1) && (plW (e.enc a.2.2) && true))) = true
    rw [pl_enc c a.1, pl_enc d a.2.1, pl_enc e a.2.2] <;> rfl
  | .option c, none => rfl
  | .option c, some x => pl_enc c x
theorem pl_encAll : ∀ (cs : List Codec) (a : Codec.denoteAll cs), plWs (Codec.encAll cs a) = true
  | [], _ => rfl
  | c :: cs, a => by
    show (plW (c.enc a.1) && plWs (Codec.encAll cs a.2)) = true
    rw [pl_enc c a.1, pl_encAll cs a.2] <;> rfl
theorem weight_mem : ∀ {xs : List WData} {d : WData}, d ∈ xs → d.weight ≤ WData.weightAll xs
  | [], d, h => absurd h (by simp)
  | x :: r, d, h => by
    show d.weight ≤ x.weight + 1 + WData.weightAll r
    rcases List.mem_cons.mp h with e | m
    · rw [e]
      omega
    · have z := weight_mem m
      omega
def toV : Value → V
  | .none => .non
  | .bool b => .bl b
  | .int i _ => .int i
  | .str x _ => .str x
  | .bytes b _ => .byt b
  | .ref a => .ref a
  | _ => .non
def OkU (A : List Addr) : Value → Prop
  | .none => True
  | .bool _ => True
  | .int _ _ => True
  | .str _ _ => True
  | .bytes _ _ => True
  | .ref a => a ∈ A
  | _ => False
theorem OkU.mono {A B : List Addr} (h : ∀ a ∈ A, a ∈ B) : ∀ {u : Value}, OkU A u → OkU B u := fun {u} x => by
  cases u with
  | ref a => exact h a x
  | none => trivial
  | bool b => trivial
  | int i t => trivial
  | str s t => trivial
  | bytes b t => trivial
  | _ => exact False.elim x
theorem relV_toV {A : List Addr} {u : Value} (x : OkU A u) : RelV (toV u) u := by
  cases u with
  | ref a => rfl
  | none => rfl
  | bool b => rfl
  | int i t => exact ⟨t, rfl⟩
  | str s t => exact ⟨t, rfl⟩
  | bytes b t => exact ⟨t, rfl⟩
  | _ => exact False.elim x
theorem vals_toV {A : List Addr} : ∀ {vs : List Value}, (∀ u ∈ vs, OkU A u) → Vals (vs.map toV) vs
  | [], _ => .nil
  | u :: r, h => .cons (relV_toV (h u (List.mem_cons_self ..))) (vals_toV fun x hx => h x (List.mem_cons_of_mem _ hx))
def ArgOb (h : Heap) (A : List Addr) (a : Addr) : Prop := ∃ vs : List Value, vs.length ≤ sizeLine ∧ (∀ u ∈ vs, OkU A u) ∧
  (h.get? a = some { cls := .type "list", data := .seq vs.toArray } ∨ h.get? a = some { cls := .type "tuple", data := .seq vs.toArray })
theorem ArgOb.mono {h : Heap} {A B : List Addr} {a : Addr} (k : ∀ a ∈ A, a ∈ B) (x : ArgOb h A a) : ArgOb h B a := by
  obtain ⟨vs, h1, h2, h3⟩ := x
  exact ⟨vs, h1, fun u hu => (h2 u hu).mono k, h3⟩
theorem wellAll_len {P : Params} {h : Heap} : ∀ {vs : List Value} {ds : List WData}, WellAll P h vs ds → vs.length = ds.length
  | _, _, .nil => rfl
  | _, _, .cons _ b => by
    show _ + 1 = _ + 1
    rw [wellAll_len b]
theorem well_list {P : Params} {h : Heap} {v : Value} {ds : List WData} (x : Well P h v (.list ds)) : ∃ (a : Addr) (vs : List Value), v = .ref a ∧ h.get? a = some { cls := .type "list", data := .seq vs.toArray } ∧ WellAll P h vs ds := by
  cases x with
  | list ho hall => exact ⟨_, _, rfl, ho, hall⟩
theorem well_tuple {P : Params} {h : Heap} {v : Value} {ds : List WData} (x : Well P h v (.tuple ds)) : ∃ (a : Addr) (vs : List Value), v = .ref a ∧ h.get? a = some { cls := .type "tuple", data := .seq vs.toArray } ∧ WellAll P h vs ds := by
  cases x with
  | tuple ho hall => exact ⟨_, _, rfl, ho, hall⟩
theorem well_cons {P : Params} {h : Heap} {us : List Value} {d : WData} {ds : List WData} (x : WellAll P h us (d :: ds)) : ∃ (v : Value) (vs : List Value), us = v :: vs ∧ Well P h v d ∧ WellAll P h vs ds := by
  cases x with
  | cons a b => exact ⟨_, _, rfl, a, b⟩
theorem line_of {n : Nat} (h : n ≤ 1048576) : n ≤ sizeLine := Nat.le_trans h (by decide)
section
variable {P : Params} {h : Heap}
mutual
theorem area_one : ∀ (d : WData) (v : Value), Well P h v d → plW d = true → d.weight ≤ 1048576 → ∃ A : List Addr, OkU A v ∧ ∀ a ∈ A, ArgOb h A a
  | .none, _, x, _, _ => by
    cases x
    exact ⟨[], trivial, fun a m => absurd m (by simp)⟩
  | .bool b, _, x, _, _ => by
    cases x
    exact ⟨[], trivial, fun a m => absurd m (by simp)⟩
  | .int i, _, x, _, _ => by
    cases x
    exact ⟨[], trivial, fun a m => absurd m (by simp)⟩
  | .str s, _, x, _, _ => by
    cases x
    exact ⟨[], trivial, fun a m => absurd m (by simp)⟩
  | .bytes b, _, x, _, _ => by
    cases x
    exact ⟨[], trivial, fun a m => absurd m (by simp)⟩
  | .list ds, _, x, p, z => by
    obtain ⟨a, vs, rfl, ho, hall⟩ := well_list x
    have z2 : WData.weightAll ds ≤ 1048576 := z
    obtain ⟨A, h1, h2⟩ := area_all ds _ hall p fun d hd => Nat.le_trans (weight_mem hd) z2
    have k : ∀ b ∈ A, b ∈ a :: A := fun b hb => List.mem_cons_of_mem _ hb
    refine ⟨a :: A, List.mem_cons_self .., fun b hb => ?_⟩
    rcases List.mem_cons.mp hb with e | m
    · rw [e]
      exact ⟨vs, line_of (by rw [wellAll_len hall]; exact Nat.le_trans (PySem.W.length_le_weightAllW ds) z2), fun u hu => (h1 u hu).mono k, .inl ho⟩
    · exact (h2 b m).mono k
  | .tuple ds, _, x, p, z => by
    obtain ⟨a, vs, rfl, ho, hall⟩ := well_tuple x
    have z2 : WData.weightAll ds ≤ 1048576 := z
    obtain ⟨A, h1, h2⟩ := area_all ds _ hall p fun d hd => Nat.le_trans (weight_mem hd) z2
    have k : ∀ b ∈ A, b ∈ a :: A := fun b hb => List.mem_cons_of_mem _ hb
    refine ⟨a :: A, List.mem_cons_self .., fun b hb => ?_⟩
    rcases List.mem_cons.mp hb with e | m
    · rw [e]
      exact ⟨vs, line_of (by rw [wellAll_len hall]; exact Nat.le_trans (PySem.W.length_le_weightAllW ds) z2), fun u hu => (h1 u hu).mono k, .inr ho⟩
    · exact (h2 b m).mono k
  | .float _, _, _, p, _ => Bool.noConfusion (show false = true from p)
  | .dict _, _, _, p, _ => Bool.noConfusion (show false = true from p)
  | .bytearray _, _, _, p, _ => Bool.noConfusion (show false = true from p)
  | .set _, _, _, p, _ => Bool.noConfusion (show false = true from p)
  | .frozenset _, _, _, p, _ => Bool.noConfusion (show false = true from p)
  | .obj _ _, _, _, p, _ => Bool.noConfusion (show false = true from p)
theorem area_all : ∀ (ds : List WData) (vs : List Value), WellAll P h vs ds → plWs ds = true → (∀ d ∈ ds, d.weight ≤ 1048576) → ∃ A : List Addr, (∀ u ∈ vs, OkU A u) ∧ ∀ a ∈ A, ArgOb h A a
  | [], _, x, _, _ => by
    cases x
    exact ⟨[], fun u m => absurd m (by simp), fun a m => absurd m (by simp)⟩
  | d :: ds, _, x, p, z => by
    obtain ⟨v, vs, rfl, x1, x2⟩ := well_cons x
    have q : plW d = true ∧ plWs ds = true := Bool.and_eq_true_iff.mp p
    obtain ⟨A, a1, a2⟩ := area_one d v x1 q.1 (z d (List.mem_cons_self ..))
    obtain ⟨B, b1, b2⟩ := area_all ds vs x2 q.2 fun e he => z e (List.mem_cons_of_mem _ he)
    have kA : ∀ b ∈ A, b ∈ A ++ B := fun b hb => List.mem_append.mpr (.inl hb)
    have kB : ∀ b ∈ B, b ∈ A ++ B := fun b hb => List.mem_append.mpr (.inr hb)
    refine ⟨A ++ B, fun u hu => ?_, fun b hb => ?_⟩
    · rcases List.mem_cons.mp hu with e | m
      · rw [e]
        exact a1.mono kA
      · exact (b1 u m).mono kB
    · rcases List.mem_append.mp hb with m | m
      · exact (a2 b m).mono kA
      · exact (b2 b m).mono kB
end
end
def hoOf (o : Obj) : Option HO := match o.data with
  | .seq vs _ => if (o.cls == Value.type "list") = true then some (.frz o (.lst (vs.toList.map toV))) else some (.frz o (.tup (vs.toList.map toV)))
  | _ => none
def argH (K : PySem.W.Frag) (h : Heap) (A : List Addr) : Hp := fun b => if b ∈ A then (if (K.lookup b).isNone = true then (h.get? b).bind hoOf else none) else none
def OnlyF (H : Hp) : Prop := ∀ b, H b = none ∨ ∃ o u, H b = some (.frz o u)
theorem hoOf_lst (vs : List Value) : hoOf { cls := .type "list", data := .seq vs.toArray } = some (.frz { cls := .type "list", data := .seq vs.toArray } (.lst (vs.map toV))) := by
  show (if (Value.type "list" == Value.type "list") = true then some (HO.frz { cls := .type "list", data := .seq vs.toArray } (.lst (vs.toArray.toList.map toV))) else some (HO.frz { cls := .type "list", data := .seq vs.toArray } (.tup (vs.toArray.toList.map toV)))) = _
  rw [if_pos (beq_self_eq_true _)]
theorem hoOf_tup (vs : List Value) : hoOf { cls := .type "tuple", data := .seq vs.toArray } = some (.frz { cls := .type "tuple", data := .seq vs.toArray } (.tup (vs.map toV))) := by
  show (if (Value.type "tuple" == Value.type "list") = true then some (HO.frz { cls := .type "tuple", data := .seq vs.toArray } (.lst (vs.toArray.toList.map toV))) else some (HO.frz { cls := .type "tuple", data := .seq vs.toArray } (.tup (vs.toArray.toList.map toV)))) = _
  rw [if_neg (by decide)]
section
variable {P : Program} {w : World} {K : PySem.W.Frag} {h : Heap} {A : List Addr}
theorem argH_at {b : Addr} {o : Obj} (hb : b ∈ A) (hk : K.lookup b = none) (e : h.get? b = some o) : argH K h A b = hoOf o := by
  unfold argH
  rw [if_pos hb, hk, if_pos (show (none : Option Obj).isNone = true from rfl), e] <;> rfl
theorem of_argH {b : Addr} {u : HO} (q : argH K h A b = some u) : b ∈ A ∧ K.lookup b = none := by
  unfold argH at q
  by_cases hb : b ∈ A
  · rw [if_pos hb] at q
    cases hk : K.lookup b with
    | none => exact ⟨hb, rfl⟩
    | some o =>
      rw [hk, if_neg (by simp)] at q
      cases q
  · rw [if_neg hb] at q
    cases q
theorem argH_is (ar : ∀ a ∈ A, ArgOb h A a) {b : Addr} {u : HO} (q : argH K h A b = some u) : K.lookup b = none ∧ ∃ vs : List Value, vs.length ≤ sizeLine ∧ (∀ u ∈ vs, OkU A u) ∧
    ((h.get? b = some { cls := .type "list", data := .seq vs.toArray } ∧ u = .frz { cls := .type "list", data := .seq vs.toArray } (.lst (vs.map toV))) ∨
     (h.get? b = some { cls := .type "tuple", data := .seq vs.toArray } ∧ u = .frz { cls := .type "tuple", data := .seq vs.toArray } (.tup (vs.map toV)))) := by
  obtain ⟨hb, hk⟩ := of_argH q
  obtain ⟨vs, h1, h2, h3⟩ := ar b hb
  refine ⟨hk, vs, h1, h2, ?_⟩
  rcases h3 with e | e
  · rw [argH_at hb hk e, hoOf_lst] at q
    exact .inl ⟨e, (Option.some.inj q).symm⟩
  · rw [argH_at hb hk e, hoOf_tup] at q
    exact .inr ⟨e, (Option.some.inj q).symm⟩
theorem argH_only (ar : ∀ a ∈ A, ArgOb h A a) : OnlyF (argH K h A) := fun b => by
  cases q : argH K h A b with
  | none => exact .inl rfl
  | some u =>
    obtain ⟨_, vs, _, _, ⟨_, e⟩ | ⟨_, e⟩⟩ := argH_is ar q
    · exact .inr ⟨_, _, by rw [e]⟩
    · exact .inr ⟨_, _, by rw [e]⟩
theorem argH_ok (ar : ∀ a ∈ A, ArgOb h A a) : HOk P w (argH K h A) h := fun b u q => by
  obtain ⟨_, vs, h1, h2, ⟨e, rfl⟩ | ⟨e, rfl⟩⟩ := argH_is ar q
  · exact ⟨e, by rw [List.length_map]; exact h1, vs, _, vals_toV h2, e⟩
  · exact ⟨e, by rw [List.length_map]; exact h1, vs, vals_toV h2, _, e, rfl, _, rfl⟩
theorem seq_inj {c c' : Value} {vs us : List Value} (e : (some { cls := c, data := .seq vs.toArray } : Option Obj) = some { cls := c', data := .seq us.toArray }) : c = c' ∧ vs = us := by
  have e1 := Option.some.inj e
  have e2 : c = c' := congrArg Obj.cls e1
  have e3 : Data.seq vs.toArray = Data.seq us.toArray := congrArg Obj.data e1
  injection e3 with e4
  refine ⟨e2, ?_⟩
  have e5 := congrArg Array.toList e4
  simpa using e5
theorem argL (KX : K.In h) (ar : ∀ a ∈ A, ArgOb h A a) {a : Addr} {vs : List Value} (ha : a ∈ A) (e : h.get? a = some { cls := .type "list", data := .seq vs.toArray }) : (∀ u ∈ vs, OkU A u) ∧ SqL K (argH K h A) a (vs.map toV) := by
  obtain ⟨us, h1, h2, h3⟩ := ar a ha
  have hu : us = vs := by
    rcases h3 with q | q
    · rw [e] at q
      exact (seq_inj q).2.symm
    · rw [e] at q
      exact absurd (Value.type.inj (seq_inj q).1) (by decide)
  subst hu
  refine ⟨h2, ?_⟩
  cases hk : K.lookup a with
  | none => exact .inl (.inr ⟨_, by rw [argH_at ha hk e, hoOf_lst]⟩)
  | some o =>
    have e2 := KX a o hk
    rw [e] at e2
    obtain rfl := Option.some.inj e2
    exact .inr ⟨_, us.toArray, _, hk, rfl, rfl, rfl, by rw [List.size_toArray]; exact h1, by simpa using vals_toV h2⟩
theorem argT (KX : K.In h) (ar : ∀ a ∈ A, ArgOb h A a) {a : Addr} {vs : List Value} (ha : a ∈ A) (e : h.get? a = some { cls := .type "tuple", data := .seq vs.toArray }) : (∀ u ∈ vs, OkU A u) ∧ SqT K (argH K h A) a (vs.map toV) := by
  obtain ⟨us, h1, h2, h3⟩ := ar a ha
  have hu : us = vs := by
    rcases h3 with q | q
    · rw [e] at q
      exact absurd (Value.type.inj (seq_inj q).1) (by decide)
    · rw [e] at q
      exact (seq_inj q).2.symm
  subst hu
  refine ⟨h2, ?_⟩
  cases hk : K.lookup a with
  | none => exact .inl (.inr ⟨_, by rw [argH_at ha hk e, hoOf_tup]⟩)
  | some o =>
    have e2 := KX a o hk
    rw [e] at e2
    obtain rfl := Option.some.inj e2
    exact .inr ⟨_, us.toArray, _, hk, rfl, rfl, by rw [List.size_toArray]; exact h1, by simpa using vals_toV h2⟩
mutual
theorem dw_one {Pm : Params} (KX : K.In h) (ar : ∀ a ∈ A, ArgOb h A a) : ∀ (d : WData) (v : Value), Well Pm h v d → plW d = true → OkU A v → Dw K (argH K h A) (toV v) d
  | .none, _, x, _, _ => by
    cases x
    exact .non
  | .bool b, _, x, _, _ => by
    cases x
    exact .bl b
  | .int i, _, x, _, _ => by
    cases x
    exact .int i
  | .str s, _, x, _, _ => by
    cases x
    exact .str s
  | .bytes b, _, x, _, _ => by
    cases x
    have z := Dw.byt (K := K) (H := argH K h A) b.toArray
    exact z
  | .list ds, _, x, p, hu => by
    obtain ⟨a, vs, rfl, ho, hall⟩ := well_list x
    obtain ⟨h2, hs⟩ := argL KX ar hu ho
    exact .lst hs (dw_all KX ar ds _ hall p h2)
  | .tuple ds, _, x, p, hu => by
    obtain ⟨a, vs, rfl, ho, hall⟩ := well_tuple x
    obtain ⟨h2, hs⟩ := argT KX ar hu ho
    exact .tup hs (dw_all KX ar ds _ hall p h2)
  | .float _, _, _, p, _ => Bool.noConfusion (show false = true from p)
  | .dict _, _, _, p, _ => Bool.noConfusion (show false = true from p)
  | .bytearray _, _, _, p, _ => Bool.noConfusion (show false = true from p)
  | .set _, _, _, p, _ => Bool.noConfusion (show false = true from p)
  | .frozenset _, _, _, p, _ => Bool.noConfusion (show false = true from p)
  | .obj _ _, _, _, p, _ => Bool.noConfusion (show false = true from p)
theorem dw_all {Pm : Params} (KX : K.In h) (ar : ∀ a ∈ A, ArgOb h A a) : ∀ (ds : List WData) (vs : List Value), WellAll Pm h vs ds → plWs ds = true → (∀ u ∈ vs, OkU A u) → DwAll K (argH K h A) (vs.map toV) ds
  | [], _, x, _, _ => by
    cases x
    exact .nil
  | d :: ds, _, x, p, hu => by
    obtain ⟨v, vs, rfl, x1, x2⟩ := well_cons x
    have q : plW d = true ∧ plWs ds = true := Bool.and_eq_true_iff.mp p
    exact .cons (dw_one KX ar d v x1 q.1 (hu _ (List.mem_cons_self ..))) (dw_all KX ar ds vs x2 q.2 fun u m => hu u (List.mem_cons_of_mem _ m))
end
end
theorem spec_call {P : Program} {w : World} {K : PySem.W.Frag} {mg mb : Str → Option Value} {CX : CXT} {k : Nat} {fa : Addr} {fd : FuncData} {ps : List Str} {sp : Sp} {s₁ : Shared} {vals : List Value} {ds : List WData} {R : PySem.W.WRecords} {cl : Str → Option Addr} {d0 : WData}
    (KX : K.In s₁.heap) (hns : s₁.heap.Ns mainGlobals mg) (hb : s₁.heap.Ns builtinsNs mb) (hbb : ∀ x : Str, x ≠ "__name__" → mb x = bootBuiltins x) (hlim : s₁.heap.NoLimit) (hg : s₁.gens = #[])
    (hwl : WellAll w.params s₁.heap vals ds) (hpl : plWs ds = true) (hwt : ∀ d ∈ ds, d.weight ≤ 1048576) (hr : Room k callerA)
    (F : ∀ base : Heap, K.In base → base.Ns mainGlobals mg → FnOk P w K mg base CX k fa fd ps sp) (hbind : ∀ (s : Shared) (us : List Value), us.length = ps.length → BindsTo s fd ⟨us, []⟩ (ps.zip us)) (hlen : ds.length = ps.length)
    (hsp : ∀ (H : Hp) (xs : List V), OnlyF H → DwAll K H xs ds → sp xs H (fun v H' => Dw K H' v d0) fun _ _ _ => False)
    (hCX : ∀ H e s', CX [] H s₁ (fun _ _ _ => False) e s' → False) :
    codeAny (model P w) callerA (.call (.ref fa) ⟨vals, []⟩) (fun r s' => ∃ u as, r = .ok (.ret u) ∧ ReadsW R cl s'.heap u d0 as ∧ OldK s₁.heap s'.heap ∧ s'.os = s₁.os ∧ AllBare s'.gens) s₁ := by
  obtain ⟨A, ho, ar⟩ := area_all ds vals hwl hpl hwt
  have hO : OnlyF (argH K s₁.heap A) := argH_only ar
  have hok : HOk P w (argH K s₁.heap A) s₁.heap := argH_ok ar
  have hS := dw_all KX ar ds vals hwl hpl ho
  have hV := vals_toV ho
  have hK : ∀ b u, argH K s₁.heap A b = some u → K.lookup b = none := fun b u q => (argH_is ar q).1
  have noA : ∀ {b : Addr} {o : Obj} {es : Array DictEntry} {ep : Nat}, s₁.heap.get? b = some o → o.data = .dict es ep → argH K s₁.heap A b = none := fun {b o es ep} e d => by
    cases q : argH K s₁.heap A b with
    | none => rfl
    | some u =>
      obtain ⟨_, vs, _, _, ⟨e2, _⟩ | ⟨e2, _⟩⟩ := argH_is ar q
      · rw [e2] at e
        cases e
        have d' : Data.seq vs.toArray _ = Data.dict es ep := d
        cases d'
      · rw [e2] at e
        cases e
        have d' : Data.seq vs.toArray _ = Data.dict es ep := d
        cases d'
  generalize argH K s₁.heap A = H at hO hok hS hK noA
  have base_of : ∀ {b : Addr} {o : Obj}, s₁.heap.get? b = some o → H b = none → (hidT s₁.heap H).get? b = some o := fun e n => hidT_get e n
  have nsK : ∀ {b : Addr} {m : Str → Option Value}, s₁.heap.Ns b m → (hidT s₁.heap H).Ns b m := fun {b m} ⟨o, es, ep, e, d, r⟩ => ⟨o, es, ep, base_of e (noA e d), d, r⟩
  have nK : ∀ b o, K.lookup b = some o → H b = none := fun b o e => by
    cases q : H b with
    | none => rfl
    | some u =>
      rw [hK b u q] at e
      cases e
  have hKb : K.In (hidT s₁.heap H) := fun b o e => base_of (KX b o e) (nK b o e)
  have hM : Mod K mg (hidT s₁.heap H) := ⟨hKb, nsK hns, ⟨mb, nsK hb, hbb⟩, let ⟨mc, h1, h2⟩ := hlim; ⟨mc, nsK h1, h2⟩⟩
  have e0 : Env0 P w K mg (hidT s₁.heap H) callerA [] s₁ H := ⟨rfl, hM, fun b o e => of_hidT e, Nat.le_of_eq (hidT_size _ _), trivial, fun b hb => absurd (show b ∈ ([] : List Addr) from hb) (by simp), hok, .of_eq hg⟩
  have hl : vals.length = ps.length := by rw [wellAll_len hwl]; exact hlen
  refine codeAny_mono ((F _ hKb (nsK hns)).run callerA [] s₁ H ⟨vals, []⟩ vals (vals.map toV) _ _ hr e0 (hbind s₁ vals hl) hV (hsp H _ hO hS)) fun r s' x => ?_
  cases r with
  | error e => exact (hCX H e s' x).elim
  | ok fl =>
    cases fl with
    | next => exact False.elim x
    | brk => exact False.elim x
    | cont => exact False.elim x
    | ret u =>
      obtain ⟨v, H', os, bare, un, hok', r', q⟩ := x
      have kept : ∀ b o, s₁.heap.get? b = some o → s'.heap.get? b = some o := fun b o e => by
        cases q2 : H b with
        | none => exact un.keep b o e q2 (by intro z; exact absurd (show b ∈ ([] : List Addr) from z) (by simp)) (by simp)
        | some u2 =>
          rcases hO b with z | ⟨ob, u3, z⟩
          · rw [q2] at z
            cases z
          · have z2 := un.frzs b ob _ z
            obtain ⟨e1, _⟩ := hok b _ z
            obtain ⟨e2, _⟩ := hok' b _ z2
            rw [e] at e1
            cases e1
            exact e2
      have KX' : K.In s'.heap := fun b o e => kept b o (KX b o e)
      obtain ⟨as, hrd⟩ := Dw.reads (R := R) (cl := cl) hok' KX' d0 v u q r'
      exact ⟨u, as, rfl, hrd, OldK.of_keep kept, os, bare⟩
theorem layable_weight {ds : List WData} (h : WData.layableAll ds = true) : ∀ d ∈ ds, d.weight ≤ 1048576 := fun d hd =>
  (PySem.W.layableW_iff.mp (List.all_eq_true.mp h d hd)).2.2
theorem encAll_len : ∀ (cs : List Codec) (a : Codec.denoteAll cs), (Codec.encAll cs a).length = cs.length
  | [], _ => rfl
  | c :: cs, a => by
    show (Codec.encAll cs a.2).length + 1 = cs.length + 1
    rw [encAll_len cs a.2]
theorem walk_spec {r : OpenSpec} {k : Nat} {q : Program} {loose : List Str} {XP : (Str → Option Value) → Heap → Prop} {YP : World → Heap → Prop} {d : DefRec} {K : Params → PySem.W.Frag} {CX : World → CXT} {ps : List Str} {sp : World → Sp}
    (hwell : r.wellSaid = true) (hdf : d.params.defaults = []) (hlen : r.args.length = ps.length) (hr : Room k callerA)
    (hY : ∀ (w : World) (h : Heap), YP w h → (K w.params).In h)
    (F : ∀ (w : World) (mg : Str → Option Value) (fa : Addr) (h : Heap), YP w h → (K w.params).In h → h.Ns mainGlobals mg → mg d.name = some (.ref fa) →
      ∃ fd : FuncData, (∀ (s : Shared) (us : List Value), us.length = ps.length → BindsTo s fd ⟨us, []⟩ (ps.zip us)) ∧
        ∀ base : Heap, (K w.params).In base → base.Ns mainGlobals mg → FnOk r.prog w (K w.params) mg base (CX w) k fa fd ps (sp w))
    (hsp : ∀ (w : World) (H : Hp) (xs : List V) (a : Codec.denoteAll r.args), OnlyF H → Codec.withinAll r.args a = true → Codec.app r.args r.asked a = true → DwAll (K w.params) H xs (Codec.encAll r.args a) →
      sp w xs H (fun v H' => Dw (K w.params) H' v (r.ret.enc (Codec.app r.args r.f a))) fun _ _ _ => False)
    (hCX : ∀ (w : World) (H : Hp) (s : Shared) (e : Value) (s' : Shared), CX w [] H s (fun _ _ _ => False) e s' → False) :
    PySem.W.WalkOS q loose XP YP r d [] (fun f vs => PySem.call f vs) := by
  intro w s_0 s₁ mg mb G Y fa o pm cd doc dV kV ho hd hcd hD hmg hg args vals as hpre hlay hrd hwl hlo
  obtain ⟨a, e1, e2⟩ := PySem.W.os_pre_some hpre
  obtain ⟨e3, hwi⟩ := Codec.encAll_of_decAll r.args args a e1
  subst e3
  have KX := hY w _ Y
  obtain ⟨fd, hb, hF⟩ := F w mg fa _ Y KX G.T.g hmg
  refine PySem.W.enter_call (codeAny_mono (spec_call (R := []) (cl := classAt s_0.heap) (d0 := r.ret.enc (Codec.app r.args r.f a)) KX G.T.g G.T.b G.T.builtins G.T.nolimit hg hwl (pl_encAll _ _) (layable_weight hlay) hr hF hb (by rw [encAll_len]; exact hlen)
    (fun H xs hO hS => hsp w H xs a hO hwi e2 hS) fun H e s' => hCX w H s₁ e s') fun r' s' hq => ?_)
  obtain ⟨u, as', rfl, h1, h2, h3, h4⟩ := hq
  exact ⟨.inl ⟨u, _, as', rfl, fun _ => rfl, h1, (OpenSpec.post_iff hwell hwi _ _).mpr rfl, fun z => Bool.noConfusion (show false = true from z)⟩, h2, h3, h4⟩
theorem walk_specK {r : OpenSpec} {k : Nat} {q : Program} {loose : List Str} {XP : (Str → Option Value) → Heap → Prop} {YP : World → Heap → Prop} {d : DefRec} {K : Params → PySem.W.Frag} {CX : CXT} {ps : List Str} {sp : PySem.W.Frag → Sp}
    (hwell : r.wellSaid = true) (hdf : d.params.defaults = []) (hlen : r.args.length = ps.length) (hr : Room k callerA)
    (hY : ∀ (w : World) (h : Heap), YP w h → (K w.params).In h)
    (F : ∀ (w : World) (mg : Str → Option Value) (fa : Addr) (h : Heap), YP w h → (K w.params).In h → h.Ns mainGlobals mg → mg d.name = some (.ref fa) →
      ∃ fd : FuncData, (∀ (s : Shared) (us : List Value), us.length = ps.length → BindsTo s fd ⟨us, []⟩ (ps.zip us)) ∧
        ∀ base : Heap, (K w.params).In base → base.Ns mainGlobals mg → FnOk r.prog w (K w.params) mg base CX k fa fd ps (sp (K w.params)))
    (hsp : ∀ (K : PySem.W.Frag) (H : Hp) (xs : List V) (a : Codec.denoteAll r.args), OnlyF H → Codec.withinAll r.args a = true → Codec.app r.args r.asked a = true → DwAll K H xs (Codec.encAll r.args a) →
      sp K xs H (fun v H' => Dw K H' v (r.ret.enc (Codec.app r.args r.f a))) fun _ _ _ => False)
    (hCX : ∀ (H : Hp) (s : Shared) (e : Value) (s' : Shared), CX [] H s (fun _ _ _ => False) e s' → False) :
    PySem.W.WalkOS q loose XP YP r d [] (fun f vs => PySem.call f vs) :=
  walk_spec (K := K) (CX := fun _ => CX) (sp := fun w => sp (K w.params)) hwell hdf hlen hr hY F (fun w H xs a h1 h2 h3 h4 => hsp (K w.params) H xs a h1 h2 h3 h4) fun _ H s e s' => hCX H s e s'
end L2
end

end
section
set_option linter.all false
namespace Bm
open Kri5

/-! ### strictly sorted lists with the same members are one -/
theorem sorted_eq {α : Type} (lt : α → α → Prop) (irr : ∀ a, ¬ lt a a) (tr : ∀ a b c, lt a b → lt b c → lt a c) :
    ∀ {l m : List α}, l.Pairwise lt → m.Pairwise lt → (∀ x, x ∈ l ↔ x ∈ m) → l = m
  | [], [], _, _, _ => rfl
  | [], b :: m, _, _, h => absurd ((h b).mpr (List.mem_cons_self ..)) (by simp)
  | a :: l, [], _, _, h => absurd ((h a).mp (List.mem_cons_self ..)) (by simp)
  | a :: l, b :: m, h1, h2, h => by
    obtain ⟨p1, q1⟩ := List.pairwise_cons.mp h1
    obtain ⟨p2, q2⟩ := List.pairwise_cons.mp h2
    have e : a = b := by
      have ha : a ∈ b :: m := (h a).mp (List.mem_cons_self ..)
      have hb : b ∈ a :: l := (h b).mpr (List.mem_cons_self ..)
      rcases List.mem_cons.mp ha with e | ha
      · exact e
      · rcases List.mem_cons.mp hb with e | hb
        · exact e.symm
        · exact absurd (tr _ _ _ (p1 b hb) (p2 a ha)) (irr a)
    subst e
    have r : l = m := sorted_eq lt irr tr q1 q2 fun x => by
      constructor
      · intro hx
        rcases List.mem_cons.mp ((h x).mp (List.mem_cons_of_mem _ hx)) with e | hm
        · subst e; exact absurd (p1 x hx) (irr x)
        · exact hm
      · intro hx
        rcases List.mem_cons.mp ((h x).mpr (List.mem_cons_of_mem _ hx)) with e | hm
        · subst e; exact absurd (p2 x hx) (irr x)
        · exact hm
    rw [r]

def lexP (a b : Pair) : Prop := a.1 < b.1 ∨ (a.1 = b.1 ∧ a.2 < b.2)
instance (a b : Pair) : Decidable (lexP a b) := by unfold lexP; infer_instance
theorem lexP_irr (a : Pair) : ¬ lexP a a := by unfold lexP; omega
theorem lexP_tr (a b c : Pair) : lexP a b → lexP b c → lexP a c := by unfold lexP; omega
theorem lexP_eq {l m : List Pair} (h1 : l.Pairwise lexP) (h2 : m.Pairwise lexP) (h : ∀ x, x ∈ l ↔ x ∈ m) : l = m := sorted_eq lexP lexP_irr lexP_tr h1 h2 h

theorem mem_pairsOf {m : Nat} {x : Pair} : x ∈ pairsOf m ↔ x.1 ≤ 2 * m ∧ x.2 ≤ 2 := by
  obtain ⟨p, d⟩ := x
  unfold pairsOf
  simp only [List.mem_flatMap, List.mem_range, List.mem_map, Prod.mk.injEq]
  constructor
  · rintro ⟨a, ha, b, hb, rfl, rfl⟩; omega
  · rintro ⟨h1, h2⟩; exact ⟨p, by omega, d, by omega, rfl, rfl⟩
theorem pairsOf_sorted (m : Nat) : (pairsOf m).Pairwise lexP := by
  unfold pairsOf
  have key : ∀ (l : List Nat), l.Pairwise (· < ·) → (l.flatMap fun p => (List.range 3).map fun d => (p, d)).Pairwise lexP := by
    intro l
    induction l with
    | nil => intro _; exact List.Pairwise.nil
    | cons a l ih =>
      intro h
      obtain ⟨h1, h2⟩ := List.pairwise_cons.mp h
      rw [List.flatMap_cons, List.pairwise_append]
      refine ⟨?_, ih h2, ?_⟩
      · show ([(a, 0), (a, 1), (a, 2)] : List Pair).Pairwise lexP
        simp [lexP]
      · intro x hx y hy
        obtain ⟨d, _, rfl⟩ := List.mem_map.mp hx
        obtain ⟨b, hb, hy⟩ := List.mem_flatMap.mp hy
        obtain ⟨e, _, rfl⟩ := List.mem_map.mp hy
        exact Or.inl (h1 b hb)
  exact key _ List.pairwise_lt_range
theorem pairsOf_nodup (m : Nat) : (pairsOf m).Nodup := (pairsOf_sorted m).imp fun {a b} h e => by subst e; exact lexP_irr _ h
theorem pairsOf_length (m : Nat) : (pairsOf m).length = 3 * (2 * m + 1) := by
  unfold pairsOf
  rw [List.length_flatMap]
  simp [List.map_const', Nat.mul_comm]

/-! ### what follows -/
/-- Python's following_places -/
def fpl (m p d : Nat) : List Nat := if d = 1 then [p] else if p % 2 = 1 then [if d = 2 then p + 1 else p - 1] else
  if (d = 2 ∧ p = 2 * m) ∨ (d ≠ 2 ∧ p = 0) then [p] else [p, if d = 2 then p + 1 else p - 1]
def fdir (d : Nat) : List Nat := (List.range 3).filter fun e => near d e
theorem fpl_mem {m : Nat} {x : Pair} {q : Nat} (h2 : x.2 ≤ 2) : q ∈ fpl m x.1 x.2 ↔ q ∈ placesNext m x := by
  unfold fpl placesNext
  obtain ⟨p, d⟩ := x
  dsimp only at h2 ⊢
  by_cases e1 : d = 1
  · simp [e1]
  · by_cases e2 : d = 2
    · subst e2
      by_cases o : p % 2 = 1
      · simp [o]
      · by_cases l : p = 2 * m
        · simp [l]
        · simp [o, l]
    · have e0 : d = 0 := by omega
      subst e0
      by_cases o : p % 2 = 1
      · simp [o]
      · by_cases l : p = 0
        · simp [l]
        · simp [o, l, or_comm]
theorem fpl_le {m : Nat} {x : Pair} {q : Nat} (h1 : x.1 ≤ 2 * m) (h2 : x.2 ≤ 2) (h : q ∈ fpl m x.1 x.2) : q ≤ 2 * m := by
  obtain ⟨p, d⟩ := x
  unfold fpl at h
  dsimp only at h1 h2 h
  split at h
  · simp at h; omega
  · split at h
    · simp at h; split at h <;> omega
    · split at h
      · simp at h; omega
      · rename_i a b c
        simp at h
        rcases h with h | h
        · omega
        · split at h <;> omega
theorem fdir_mem {d e : Nat} : e ∈ fdir d ↔ e ≤ 2 ∧ near d e = true := by
  unfold fdir
  simp only [List.mem_filter, List.mem_range]
  constructor
  · rintro ⟨a, b⟩; exact ⟨by omega, b⟩
  · rintro ⟨a, b⟩; exact ⟨by omega, b⟩
theorem step_iff {m : Nat} {x y : Pair} (hx : x ∈ pairsOf m) : (y.1 ∈ fpl m x.1 x.2 ∧ y.2 ∈ fdir x.2) ↔ (y ∈ pairsOf m ∧ follows m x y = true) := by
  obtain ⟨h1, h2⟩ := mem_pairsOf.mp hx
  unfold follows
  rw [Bool.and_eq_true, List.contains_iff_mem, fdir_mem, mem_pairsOf, ← fpl_mem h2]
  constructor
  · rintro ⟨a, b, c⟩
    exact ⟨⟨fpl_le h1 h2 a, b⟩, a, c⟩
  · rintro ⟨⟨a, b⟩, c, d⟩
    exact ⟨c, b, d⟩
theorem nextAll_sorted (m : Nat) (l : List Pair) : (nextAll m l).Pairwise lexP := (pairsOf_sorted m).filter _
theorem mem_nextAll {m : Nat} {l : List Pair} (hl : ∀ x ∈ l, x ∈ pairsOf m) {y : Pair} : y ∈ nextAll m l ↔ ∃ x ∈ l, y.1 ∈ fpl m x.1 x.2 ∧ y.2 ∈ fdir x.2 := by
  unfold nextAll
  simp only [List.mem_filter, List.any_eq_true]
  constructor
  · rintro ⟨h, x, hx, hf⟩
    exact ⟨x, hx, (step_iff (hl x hx)).mpr ⟨h, hf⟩⟩
  · rintro ⟨x, hx, h⟩
    obtain ⟨a, b⟩ := (step_iff (hl x hx)).mp h
    exact ⟨a, x, hx, b⟩

/-! ### a quantity and a house as they always are -/
structure QOk (q : Quantity) : Prop where
  marks : q.marks ≤ 4
  sub : q.pairs.Sublist (pairsOf q.marks)
  ne : q.pairs ≠ []
structure HouseOk (h : House) : Prop where
  qs : ∀ q ∈ h.qs, QOk q
  n5 : h.qs.length ≤ 5
  now : h.now ≤ 40
  past : ∀ x ∈ h.past, (∀ q ∈ x.1, QOk q) ∧ x.1.length ≤ 5 ∧ x.2 ≤ 40
  p40 : h.past.length ≤ 40
theorem QOk.mem {q : Quantity} (h : QOk q) {x : Pair} (hx : x ∈ q.pairs) : x ∈ pairsOf q.marks := h.sub.subset hx
theorem QOk.len {q : Quantity} (h : QOk q) : q.pairs.length ≤ 27 := by
  have a := h.sub.length_le
  rw [pairsOf_length] at a
  have := h.marks
  omega
theorem QOk.sorted {q : Quantity} (h : QOk q) : q.pairs.Pairwise lexP := (pairsOf_sorted _).sublist h.sub
/-- something always follows -/
theorem next_ne {m : Nat} {l : List Pair} (hl : ∀ x ∈ l, x ∈ pairsOf m) (h : l ≠ []) : nextAll m l ≠ [] := by
  obtain ⟨x, r, rfl⟩ := List.exists_cons_of_ne_nil h
  have hx := hl x (List.mem_cons_self ..)
  obtain ⟨h1, h2⟩ := mem_pairsOf.mp hx
  obtain ⟨q, hq⟩ : ∃ q, q ∈ fpl m x.1 x.2 := by
    unfold fpl
    split
    · exact ⟨_, List.mem_cons_self ..⟩
    · split
      · exact ⟨_, List.mem_cons_self ..⟩
      · split
        · exact ⟨_, List.mem_cons_self ..⟩
        · exact ⟨_, List.mem_cons_self ..⟩
  have : (q, x.2) ∈ nextAll m (x :: r) := (mem_nextAll hl).mpr ⟨x, List.mem_cons_self .., hq, fdir_mem.mpr ⟨h2, by unfold near; simp⟩⟩
  intro e
  rw [e] at this
  simp at this

/-! ### the flat list -/
theorem whole_id (c : List (List Int)) : PyKri5.whole c = c := by
  rcases c with _ | ⟨r, cs⟩
  · rfl
  rcases r with _ | ⟨n, xs⟩
  · rcases cs with _ | ⟨r0, _ | ⟨r1, cs⟩⟩ <;> rfl
  rcases n with m | m
  · rcases m with _ | _ | _ | _ | _ | _ | _ | _ | _ | _ | _ | _ | _ | _ | _ | _ | _ | _ | _ | _ | _ | _ | m
    all_goals rcases xs with _ | ⟨x0, _ | ⟨x1, _ | ⟨x2, _ | ⟨x3, _ | ⟨x4, _ | ⟨x5, xs⟩⟩⟩⟩⟩⟩
    all_goals rcases cs with _ | ⟨r0, _ | ⟨r1, cs⟩⟩
    all_goals rfl
  · rcases xs with _ | ⟨x0, _ | ⟨x1, _ | ⟨x2, _ | ⟨x3, _ | ⟨x4, _ | ⟨x5, xs⟩⟩⟩⟩⟩⟩
    all_goals rcases cs with _ | ⟨r0, _ | ⟨r1, cs⟩⟩
    all_goals rfl
theorem map_whole (cs : List (List (List Int))) : cs.map PyKri5.whole = cs := by
  induction cs with
  | nil => rfl
  | cons c cs ih => rw [List.map_cons, ih, whole_id]
end Bm

end
section
set_option linter.all false
namespace Bm
open Kri5

/-! ### calls as numbers -/
def num : Call → Nat
  | .begin_ => 0 | .quantity .. => 1 | .place .. => 2 | .way .. => 3 | .notAt .. => 4 | .tick => 5 | .forget .. => 6 | .back => 7 | .may .. => 8 | .ways .. => 9 | .pairs .. => 10
  | .sure .. => 11 | .soonest .. => 12 | .path .. => 13 | .between .. => 14 | .next .. => 15 | .before .. => 16 | .run .. => 17 | .count .. => 18 | .later .. => 19 | .look .. => 20 | .state => 21
def args : Call → List Nat
  | .begin_ => [] | .quantity m => [m] | .place i p => [i, p] | .way i d => [i, d] | .notAt i p => [i, p] | .tick => [] | .forget i => [i] | .back => [] | .may i => [i] | .ways i => [i] | .pairs i => [i]
  | .sure i => [i] | .soonest i p => [i, p] | .path i p => [i, p] | .between i p d r e => [i, p, d, r, e] | .next i p d => [i, p, d] | .before i p d => [i, p, d] | .run i _ => [i] | .count i k => [i, k] | .later i k => [i, k] | .look i => [i] | .state => []
def rws : Call → List (List Nat)
  | .run _ l => [l]
  | _ => []
/-- the table of the calls' shapes: how many whole numbers, how many rows -/
def shapes : List (Nat × Nat) := [(0, 0), (1, 0), (2, 0), (2, 0), (2, 0), (0, 0), (1, 0), (0, 0), (1, 0), (1, 0), (1, 0), (1, 0), (2, 0), (2, 0), (5, 0), (3, 0), (3, 0), (1, 1), (2, 0), (2, 0), (1, 0), (0, 0)]
theorem shape_of (k : Call) : shapes[num k]? = some ((args k).length, (rws k).length) := by cases k <;> rfl
def zs (l : List Nat) : List Int := l.map fun (x : Nat) => (x : Int)
def rowFl (l : List Nat) : List Int := (l.length : Int) :: zs l
def fl (k : Call) : List Int := (num k : Int) :: (zs (args k) ++ (rws k).flatMap rowFl)
def enc (k : Call) : List (List Int) := ((num k : Int) :: zs (args k)) :: (rws k).map zs
structure Small (k : Call) : Prop where
  args : ∀ x ∈ args k, x < 4294967296
  rws : ∀ l ∈ rws k, l.length < 256 ∧ ∀ x ∈ l, x < 4294967296
theorem call_enc (k : Call) : Kri5Neutral.call (enc k) = k := by
  cases k with
  | run i l =>
    show Call.run ((i : Int)).toNat ((zs l).map Int.toNat) = Call.run i l
    have e : (zs l).map Int.toNat = l := by
      unfold zs
      rw [List.map_map]
      have : (Int.toNat ∘ fun (x : Nat) => (x : Int)) = id := by funext x; simp
      rw [this, List.map_id]
    rw [e, Int.toNat_natCast]
  | _ => rfl
theorem nat_of {z : Int} (h : Kri5Neutral.natural z 32 = true) : ∃ n : Nat, z = (n : Int) ∧ n < 4294967296 := by
  unfold Kri5Neutral.natural at h
  rw [Bool.and_eq_true] at h
  have h1 := of_decide_eq_true h.1
  have h2 := of_decide_eq_true h.2
  have h3 : (2 : Int) ^ 32 = 4294967296 := by decide
  rw [h3] at h2
  exact ⟨z.toNat, by omega, by omega⟩
theorem nats_of : ∀ {l : List Int}, l.all (fun z => Kri5Neutral.natural z 32) = true → ∃ r : List Nat, l = zs r ∧ ∀ x ∈ r, x < 4294967296
  | [], _ => ⟨[], rfl, by simp⟩
  | z :: l, h => by
    rw [List.all_cons, Bool.and_eq_true] at h
    obtain ⟨n, rfl, hn⟩ := nat_of h.1
    obtain ⟨r, rfl, hr⟩ := nats_of h.2
    refine ⟨n :: r, rfl, ?_⟩
    intro x hx
    rcases List.mem_cons.mp hx with e | hx
    · rw [e]; exact hn
    · exact hr x hx
theorem of_asked1 {c : List (List Int)} (h : Kri5Neutral.asked1 c = true) : ∃ k : Call, c = enc k ∧ Small k := by
  rcases c with _ | ⟨r, cs⟩
  · exact absurd (show false = true from h) Bool.false_ne_true
  rcases r with _ | ⟨n, xs⟩
  · rcases cs with _ | ⟨r0, _ | ⟨r1, cs⟩⟩ <;> exact absurd (show false = true from h) Bool.false_ne_true
  rcases n with m | m
  rotate_left
  · rcases xs with _ | ⟨x0, _ | ⟨x1, _ | ⟨x2, _ | ⟨x3, _ | ⟨x4, _ | ⟨x5, xs⟩⟩⟩⟩⟩⟩
    all_goals rcases cs with _ | ⟨r0, _ | ⟨r1, cs⟩⟩
    all_goals exact absurd (show false = true from h) Bool.false_ne_true
  rcases m with _ | _ | _ | _ | _ | _ | _ | _ | _ | _ | _ | _ | _ | _ | _ | _ | _ | _ | _ | _ | _ | _ | m
  all_goals rcases xs with _ | ⟨x0, _ | ⟨x1, _ | ⟨x2, _ | ⟨x3, _ | ⟨x4, _ | ⟨x5, xs⟩⟩⟩⟩⟩⟩
  all_goals rcases cs with _ | ⟨r0, _ | ⟨r1, cs⟩⟩
  all_goals first | exact absurd (show false = true from h) Bool.false_ne_true | skip
  · exact ⟨.begin_, rfl, ⟨by simp [args], by simp [rws]⟩⟩
  · obtain ⟨a, rfl, ha⟩ := nat_of h
    exact ⟨.quantity a, rfl, ⟨by simp [args]; omega, by simp [rws]⟩⟩
  · have h : (Kri5Neutral.natural x0 32 && Kri5Neutral.natural x1 32) = true := h
    simp only [Bool.and_eq_true] at h
    obtain ⟨a, rfl, ha⟩ := nat_of h.1
    obtain ⟨b, rfl, hb⟩ := nat_of h.2
    exact ⟨.place a b, rfl, ⟨by simp [args]; omega, by simp [rws]⟩⟩
  · have h : (Kri5Neutral.natural x0 32 && Kri5Neutral.natural x1 32) = true := h
    simp only [Bool.and_eq_true] at h
    obtain ⟨a, rfl, ha⟩ := nat_of h.1
    obtain ⟨b, rfl, hb⟩ := nat_of h.2
    exact ⟨.way a b, rfl, ⟨by simp [args]; omega, by simp [rws]⟩⟩
  · have h : (Kri5Neutral.natural x0 32 && Kri5Neutral.natural x1 32) = true := h
    simp only [Bool.and_eq_true] at h
    obtain ⟨a, rfl, ha⟩ := nat_of h.1
    obtain ⟨b, rfl, hb⟩ := nat_of h.2
    exact ⟨.notAt a b, rfl, ⟨by simp [args]; omega, by simp [rws]⟩⟩
  · exact ⟨.tick, rfl, ⟨by simp [args], by simp [rws]⟩⟩
  · obtain ⟨a, rfl, ha⟩ := nat_of h
    exact ⟨.forget a, rfl, ⟨by simp [args]; omega, by simp [rws]⟩⟩
  · exact ⟨.back, rfl, ⟨by simp [args], by simp [rws]⟩⟩
  · obtain ⟨a, rfl, ha⟩ := nat_of h
    exact ⟨.may a, rfl, ⟨by simp [args]; omega, by simp [rws]⟩⟩
  · obtain ⟨a, rfl, ha⟩ := nat_of h
    exact ⟨.ways a, rfl, ⟨by simp [args]; omega, by simp [rws]⟩⟩
  · obtain ⟨a, rfl, ha⟩ := nat_of h
    exact ⟨.pairs a, rfl, ⟨by simp [args]; omega, by simp [rws]⟩⟩
  · obtain ⟨a, rfl, ha⟩ := nat_of h
    exact ⟨.sure a, rfl, ⟨by simp [args]; omega, by simp [rws]⟩⟩
  · have h : (Kri5Neutral.natural x0 32 && Kri5Neutral.natural x1 32) = true := h
    simp only [Bool.and_eq_true] at h
    obtain ⟨a, rfl, ha⟩ := nat_of h.1
    obtain ⟨b, rfl, hb⟩ := nat_of h.2
    exact ⟨.soonest a b, rfl, ⟨by simp [args]; omega, by simp [rws]⟩⟩
  · have h : (Kri5Neutral.natural x0 32 && Kri5Neutral.natural x1 32) = true := h
    simp only [Bool.and_eq_true] at h
    obtain ⟨a, rfl, ha⟩ := nat_of h.1
    obtain ⟨b, rfl, hb⟩ := nat_of h.2
    exact ⟨.path a b, rfl, ⟨by simp [args]; omega, by simp [rws]⟩⟩
  · have h : (Kri5Neutral.natural x0 32 && Kri5Neutral.natural x1 32 && Kri5Neutral.natural x2 32 && Kri5Neutral.natural x3 32 && Kri5Neutral.natural x4 32) = true := h
    simp only [Bool.and_eq_true] at h
    obtain ⟨⟨⟨⟨h1, h2⟩, h3⟩, h4⟩, h5⟩ := h
    obtain ⟨a, rfl, ha⟩ := nat_of h1
    obtain ⟨b, rfl, hb⟩ := nat_of h2
    obtain ⟨c, rfl, hc⟩ := nat_of h3
    obtain ⟨d, rfl, hd⟩ := nat_of h4
    obtain ⟨e, rfl, he⟩ := nat_of h5
    exact ⟨.between a b c d e, rfl, ⟨by simp [args]; omega, by simp [rws]⟩⟩
  · have h : (Kri5Neutral.natural x0 32 && Kri5Neutral.natural x1 32 && Kri5Neutral.natural x2 32) = true := h
    simp only [Bool.and_eq_true] at h
    obtain ⟨⟨h1, h2⟩, h3⟩ := h
    obtain ⟨a, rfl, ha⟩ := nat_of h1
    obtain ⟨b, rfl, hb⟩ := nat_of h2
    obtain ⟨c, rfl, hc⟩ := nat_of h3
    exact ⟨.next a b c, rfl, ⟨by simp [args]; omega, by simp [rws]⟩⟩
  · have h : (Kri5Neutral.natural x0 32 && Kri5Neutral.natural x1 32 && Kri5Neutral.natural x2 32) = true := h
    simp only [Bool.and_eq_true] at h
    obtain ⟨⟨h1, h2⟩, h3⟩ := h
    obtain ⟨a, rfl, ha⟩ := nat_of h1
    obtain ⟨b, rfl, hb⟩ := nat_of h2
    obtain ⟨c, rfl, hc⟩ := nat_of h3
    exact ⟨.before a b c, rfl, ⟨by simp [args]; omega, by simp [rws]⟩⟩
  · have h : (Kri5Neutral.natural x0 32 && r0.all (fun z => Kri5Neutral.natural z 32) && decide (r0.length < 256)) = true := h
    simp only [Bool.and_eq_true] at h
    obtain ⟨⟨h1, h2⟩, h3⟩ := h
    obtain ⟨a, rfl, ha⟩ := nat_of h1
    obtain ⟨r, rfl, hr⟩ := nats_of h2
    have hl := of_decide_eq_true h3
    unfold zs at hl
    rw [List.length_map] at hl
    refine ⟨.run a r, rfl, ⟨by simp [args]; omega, fun l hm => ?_⟩⟩
    have e : l = r := by simpa [rws] using hm
    subst e
    exact ⟨hl, hr⟩
  · have h : (Kri5Neutral.natural x0 32 && Kri5Neutral.natural x1 32) = true := h
    simp only [Bool.and_eq_true] at h
    obtain ⟨a, rfl, ha⟩ := nat_of h.1
    obtain ⟨b, rfl, hb⟩ := nat_of h.2
    exact ⟨.count a b, rfl, ⟨by simp [args]; omega, by simp [rws]⟩⟩
  · have h : (Kri5Neutral.natural x0 32 && Kri5Neutral.natural x1 32) = true := h
    simp only [Bool.and_eq_true] at h
    obtain ⟨a, rfl, ha⟩ := nat_of h.1
    obtain ⟨b, rfl, hb⟩ := nat_of h.2
    exact ⟨.later a b, rfl, ⟨by simp [args]; omega, by simp [rws]⟩⟩
  · obtain ⟨a, rfl, ha⟩ := nat_of h
    exact ⟨.look a, rfl, ⟨by simp [args]; omega, by simp [rws]⟩⟩
  · exact ⟨.state, rfl, ⟨by simp [args], by simp [rws]⟩⟩
/-- what is told of an answer, with how many numbers ahead -/
def tell (a : Ans) : List Int := ((Kri5Neutral.told a).length : Int) :: Kri5Neutral.told a
/-- what is answered to these calls from that state on -/
def outs : Abs → List Call → List Int
  | _, [] => []
  | a, k :: ks => tell (act a k).2 ++ outs (act a k).1 ks
theorem put_encs : ∀ ks : List Call, PyFlat.put (ks.map enc) = ks.flatMap fl
  | [] => rfl
  | k :: ks => by
    have e : PyFlat.put1 (enc k) = fl k := by
      have r : ∀ l : List (List Nat), PyFlat.putRows (l.map zs) = l.flatMap rowFl := by
        intro l
        induction l with
        | nil => rfl
        | cons x l ih =>
          show PyFlat.putRow (zs x) ++ PyFlat.putRows (l.map zs) = rowFl x ++ l.flatMap rowFl
          rw [ih]
          unfold PyFlat.putRow rowFl zs
          rw [List.length_map]
      show ((num k : Int) :: zs (args k)) ++ PyFlat.putRows ((rws k).map zs) = _
      rw [r]
      rfl
    show PyFlat.put1 (enc k) ++ PyFlat.put (ks.map enc) = fl k ++ ks.flatMap fl
    rw [e, put_encs ks]
theorem outs_told : ∀ (a : Abs) (ks : List Call), PyFlat.told (PyFlat.played Kri5Neutral.step a (ks.map enc)) = outs a ks
  | _, [] => rfl
  | a, k :: ks => by
    show (((Kri5Neutral.step a (enc k)).2.length : Int) :: (Kri5Neutral.step a (enc k)).2) ++ PyFlat.told (PyFlat.played Kri5Neutral.step (Kri5Neutral.step a (enc k)).1 (ks.map enc)) = _
    have e : Kri5Neutral.step a (enc k) = ((act a k).1, Kri5Neutral.told (act a k).2) := by
      unfold Kri5Neutral.step
      rw [call_enc]
    rw [e, outs_told _ ks]
    rfl
theorem all_of_asked1 : ∀ (raw : List (List (List Int))), raw.all Kri5Neutral.asked1 = true → ∃ ks : List Call, raw = ks.map enc ∧ ∀ k ∈ ks, Small k
  | [], _ => ⟨[], rfl, by simp⟩
  | c :: raw, h => by
    rw [List.all_cons, Bool.and_eq_true] at h
    obtain ⟨k, rfl, hk⟩ := of_asked1 h.1
    obtain ⟨ks, rfl, hks⟩ := all_of_asked1 raw h.2
    refine ⟨k :: ks, rfl, fun x hx => ?_⟩
    rcases List.mem_cons.mp hx with e | hx
    · rw [e]; exact hk
    · exact hks x hx
/-- THE REQUEST: what may be handed in is the flat list of at most 60 calls; what is due is told call by call -/
theorem asked_view {ns : List Int} (h : PyKri5.answers_asked ns = true) : ∃ ks : List Call, ns = ks.flatMap fl ∧ ks.length ≤ 60 ∧ (∀ k ∈ ks, Small k) ∧ PyKri5.answers ns = outs none ks ∧ (outs none ks).length ≤ 10000000 := by
  unfold PyKri5.answers_asked at h
  cases e : PyFlat.calls PyKri5.shape ns.length ns with
  | none => rw [e] at h; exact absurd h (by simp)
  | some raw =>
    rw [e] at h
    simp only [Bool.and_eq_true] at h
    obtain ⟨⟨⟨_, _⟩, h1⟩, h2⟩ := h
    rw [map_whole] at h1
    unfold Kri5Neutral.asked at h1
    rw [Bool.and_eq_true] at h1
    obtain ⟨ks, rfl, hs⟩ := all_of_asked1 raw h1.1
    have hl := of_decide_eq_true h1.2
    rw [List.length_map] at hl
    have a := (PyFlat.put_calls _ _ _ e).1
    rw [put_encs] at a
    have b : PyKri5.answers ns = outs none ks := by
      unfold PyKri5.answers PyKri5.calls
      rw [e]
      show PyFlat.told (PyFlat.played Kri5Neutral.step Kri5Neutral.start ((ks.map enc).map PyKri5.whole)) = _
      rw [map_whole, outs_told]
      rfl
    refine ⟨ks, a, hl, hs, b, ?_⟩
    have c := of_decide_eq_true (show decide ((PyKri5.answers ns).length ≤ 10000000) = true from h2)
    rw [b] at c
    exact c
end Bm

end
section
set_option linter.all false
namespace Bm
open Kri5

theorem HouseOk.fresh : HouseOk ⟨[], 0, []⟩ := ⟨by simp, by simp, by simp, by simp, by simp⟩
theorem HouseOk.changed {h : House} (ok : HouseOk h) {l : List Quantity} {t : Nat} (hl : ∀ q ∈ l, QOk q) (h5 : l.length ≤ 5) (ht : t ≤ 40) : HouseOk (h.changed l t) := by
  refine ⟨hl, h5, ht, fun x hx => ?_, ?_⟩
  · have hx : x ∈ ((h.qs, h.now) :: h.past).take mostBack := hx
    rcases List.mem_cons.mp (List.mem_of_mem_take hx) with e | hm
    · rw [e]; exact ⟨ok.qs, ok.n5, ok.now⟩
    · exact ok.past x hm
  · show (((h.qs, h.now) :: h.past).take mostBack).length ≤ 40
    rw [List.length_take]
    exact Nat.min_le_left ..
theorem q_at {h : House} {i : Nat} (hi : i < h.qs.length) : h.qs[i]? = some (h.q i) := by
  unfold House.q
  rw [List.getD_eq_getElem?_getD, List.getElem?_eq_getElem hi]
  rfl
theorem HouseOk.q {h : House} (ok : HouseOk h) {i : Nat} (hi : i < h.qs.length) : QOk (h.q i) := ok.qs _ (List.mem_of_getElem? (q_at hi))
theorem HouseOk.set {h : House} (ok : HouseOk h) {i : Nat} {l : List Pair} (hi : i < h.qs.length) (hs : l.Sublist (pairsOf (h.q i).marks)) (hn : l ≠ []) : HouseOk (h.set i l) := by
  refine ok.changed (fun q hq => ?_) (by rw [List.length_set]; exact ok.n5) ok.now
  rcases List.mem_or_eq_of_mem_set hq with m | e
  · exact ok.qs q m
  · rw [e]; exact ⟨(ok.q hi).marks, hs, hn⟩
theorem pairsOf_ne (m : Nat) : pairsOf m ≠ [] := by
  intro e
  have := pairsOf_length m
  rw [e] at this
  simp at this
theorem tick_ok {q : Quantity} (h : QOk q) : QOk { q with pairs := nextAll q.marks q.pairs } :=
  ⟨h.marks, List.filter_sublist, next_ne (fun x hx => h.mem hx) h.ne⟩

/-! ### act, call by call, of an object that has begun -/
section
variable {h : House} {i : Nat}
theorem no_of (hi : i < h.qs.length) : ¬ (decide (h.qs.length ≤ i) = true) := by simp; omega
theorem no_if (hi : ¬ i < h.qs.length) : decide (h.qs.length ≤ i) = true := by simp; omega
end
/-- the calls whose first number is a quantity -/
def quant : Call → Option Nat
  | .begin_ => none | .quantity _ => none | .place i _ => some i | .way i _ => some i | .notAt i _ => some i | .tick => none | .forget i => some i | .back => none | .may i => some i | .ways i => some i | .pairs i => some i
  | .sure i => some i | .soonest i _ => some i | .path i _ => some i | .between i _ _ _ _ => some i | .next i _ _ => some i | .before i _ _ => some i | .run i _ => some i | .count i _ => some i | .later i _ => some i | .look i => some i | .state => none
theorem act_no {h : House} {k : Call} {i : Nat} (hq : quant k = some i) (hi : ¬ i < h.qs.length) : act (some h) k = (some h, say (-2)) := by
  have e := no_if hi
  cases k <;> simp only [quant, Option.some.injEq, reduceCtorEq] at hq <;> subst hq <;> first | exact if_pos e | exact congrArg (Prod.mk (some h)) (if_pos e)
theorem act_none (k : Call) (hk : k ≠ .begin_) : act none k = (none, say (-11)) := by
  cases k <;> first | exact absurd rfl hk | rfl
theorem act_begin (a : Abs) : act a .begin_ = (some ⟨[], 0, []⟩, say 0) := rfl
theorem act_quantity (h : House) (m : Nat) : act (some h) (.quantity m) = if 4 < m then (some h, say (-22)) else if 5 ≤ h.qs.length then (some h, say (-28)) else (some (h.changed (h.qs ++ [⟨m, pairsOf m⟩]) h.now), say h.qs.length) := rfl
/-- a narrowing by what is seen -/
def narrowed (h : House) (i : Nat) (f : Pair → Bool) : Abs × Ans := if (h.q i).pairs.filter f = [] then (some h, say (-33)) else (some (h.set i ((h.q i).pairs.filter f)), say ((h.q i).pairs.filter f).length)
theorem act_place {h : House} {i : Nat} (hi : i < h.qs.length) (p : Nat) : act (some h) (.place i p) = if 2 * (h.q i).marks < p then (some h, say (-22)) else narrowed h i fun x => x.1 == p := by
  show (if decide (h.qs.length ≤ i) = true then _ else if decide (2 * (h.q i).marks < p) = true then _ else _) = _
  rw [if_neg (no_of hi)]
  simp only [decide_eq_true_eq]
  rfl
theorem act_way {h : House} {i : Nat} (hi : i < h.qs.length) (d : Nat) : act (some h) (.way i d) = if 2 < d then (some h, say (-22)) else narrowed h i fun x => x.2 == d := by
  show (if decide (h.qs.length ≤ i) = true then _ else if 2 < d then _ else _) = _
  rw [if_neg (no_of hi)]
  rfl
theorem act_notAt {h : House} {i : Nat} (hi : i < h.qs.length) (p : Nat) : act (some h) (.notAt i p) = if 2 * (h.q i).marks < p then (some h, say (-22)) else narrowed h i fun x => x.1 != p := by
  show (if decide (h.qs.length ≤ i) = true then _ else if decide (2 * (h.q i).marks < p) = true then _ else _) = _
  rw [if_neg (no_of hi)]
  simp only [decide_eq_true_eq]
  rfl
theorem act_tick (h : House) : act (some h) .tick = if 40 ≤ h.now then (some h, say (-28)) else (some (h.changed (h.qs.map fun q => { q with pairs := nextAll q.marks q.pairs }) (h.now + 1)), say (h.now + 1)) := rfl
theorem act_forget {h : House} {i : Nat} (hi : i < h.qs.length) : act (some h) (.forget i) = (some (h.set i (pairsOf (h.q i).marks)), say (pairsOf (h.q i).marks).length) := by
  show (if decide (h.qs.length ≤ i) = true then _ else _) = _
  rw [if_neg (no_of hi)]
theorem act_back (h : House) : act (some h) .back = (match h.past with | [] => (some h, say (-6)) | x :: r => (some ⟨x.1, x.2, r⟩, say r.length)) := rfl
theorem act_ok {h : House} (ok : HouseOk h) (k : Call) (hk : k ≠ .begin_) : ∃ h', (act (some h) k).1 = some h' ∧ HouseOk h' := by
  have nar : ∀ (i : Nat) (f : Pair → Bool), i < h.qs.length → ∃ h', (narrowed h i f).1 = some h' ∧ HouseOk h' := by
    intro i f hi
    unfold narrowed
    split
    · exact ⟨h, rfl, ok⟩
    · rename_i ne
      exact ⟨_, rfl, ok.set hi (List.filter_sublist.trans (ok.q hi).sub) ne⟩
  cases k with
  | begin_ => exact absurd rfl hk
  | quantity m =>
    rw [act_quantity]
    split
    · exact ⟨h, rfl, ok⟩
    · split
      · exact ⟨h, rfl, ok⟩
      · refine ⟨_, rfl, ok.changed (fun q hq => ?_) (by rw [List.length_append]; simp; omega) ok.now⟩
        rcases List.mem_append.mp hq with m1 | m1
        · exact ok.qs q m1
        · rw [List.mem_singleton.mp m1]
          exact ⟨by show m ≤ 4; omega, List.Sublist.refl _, pairsOf_ne m⟩
  | place i p =>
    by_cases hi : i < h.qs.length
    · rw [act_place hi]
      split
      · exact ⟨h, rfl, ok⟩
      · exact nar i _ hi
    · rw [act_no rfl hi]; exact ⟨h, rfl, ok⟩
  | way i p =>
    by_cases hi : i < h.qs.length
    · rw [act_way hi]
      split
      · exact ⟨h, rfl, ok⟩
      · exact nar i _ hi
    · rw [act_no rfl hi]; exact ⟨h, rfl, ok⟩
  | notAt i p =>
    by_cases hi : i < h.qs.length
    · rw [act_notAt hi]
      split
      · exact ⟨h, rfl, ok⟩
      · exact nar i _ hi
    · rw [act_no rfl hi]; exact ⟨h, rfl, ok⟩
  | tick =>
    rw [act_tick]
    split
    · exact ⟨h, rfl, ok⟩
    · refine ⟨_, rfl, ok.changed (fun q hq => ?_) (by rw [List.length_map]; exact ok.n5) (by omega)⟩
      obtain ⟨q0, h0, rfl⟩ := List.mem_map.mp hq
      exact tick_ok (ok.qs q0 h0)
  | forget i =>
    by_cases hi : i < h.qs.length
    · rw [act_forget hi]
      exact ⟨_, rfl, ok.set hi (List.Sublist.refl _) (pairsOf_ne _)⟩
    · rw [act_no rfl hi]; exact ⟨h, rfl, ok⟩
  | back =>
    rw [act_back]
    cases e : h.past with
    | nil => exact ⟨h, rfl, ok⟩
    | cons x r =>
      have hx := ok.past x (by rw [e]; exact List.mem_cons_self ..)
      refine ⟨_, rfl, ⟨hx.1, hx.2.1, hx.2.2, fun y hy => ok.past y (by rw [e]; exact List.mem_cons_of_mem _ hy), ?_⟩⟩
      have := ok.p40
      rw [e] at this
      simp at this
      show r.length ≤ 40
      omega
  | state => exact ⟨h, rfl, ok⟩
  | _ => exact ⟨h, rfl, ok⟩
end Bm

end
section
set_option linter.all false
set_option maxRecDepth 100000
namespace Bm
open Kri5 (Pair Quantity House pairsOf nextAll)

/-! ### what the calls that change nothing answer, where the quantity is there -/
section
variable {h : House} {i : Nat} (hi : i < h.qs.length)
include hi
theorem act_sure : Kri5.act (some h) (.sure i) = (some h, match h.places i with | [p] => Kri5.say p | _ => Kri5.say (-33)) :=
  congrArg (Prod.mk (some h)) (if_neg (no_of hi))
theorem act_soonest (p : Nat) : Kri5.act (some h) (.soonest i p) = (some h, if decide (2 * (h.q i).marks < p) = true then Kri5.say (-22) else match Kri5.soonest (h.q i).marks (h.q i).pairs (fun x => x.1 == p) with | none => Kri5.say (-33) | some k => Kri5.say k) :=
  congrArg (Prod.mk (some h)) (if_neg (no_of hi))
theorem act_path (p : Nat) : Kri5.act (some h) (.path i p) = (some h, if decide (2 * (h.q i).marks < p) = true then Kri5.say (-22) else match Kri5.soonest (h.q i).marks (h.q i).pairs (fun x => x.1 == p) with | none => Kri5.say (-33) | some k => { num := k, nums := Kri5.flat (((h.q i).pairs.findSome? fun x => Kri5.wayTo (h.q i).marks (fun y => y.1 == p) k x).getD []) }) :=
  congrArg (Prod.mk (some h)) (if_neg (no_of hi))
theorem act_between (p d r e : Nat) : Kri5.act (some h) (.between i p d r e) = (some h, if (decide (2 * (h.q i).marks < p) || decide (2 < d) || (decide (2 * (h.q i).marks < r) || decide (2 < e))) = true then Kri5.say (-22) else match Kri5.soonest (h.q i).marks [(p, d)] (fun x => x == (r, e)) with | none => Kri5.say (-33) | some k => Kri5.say k) :=
  congrArg (Prod.mk (some h)) (if_neg (no_of hi))
theorem act_next (p d : Nat) : Kri5.act (some h) (.next i p d) = (some h, if (decide (2 * (h.q i).marks < p) || decide (2 < d)) = true then Kri5.say (-22) else { num := (Kri5.next (h.q i).marks (p, d)).length, nums := Kri5.flat (Kri5.next (h.q i).marks (p, d)) }) :=
  congrArg (Prod.mk (some h)) (if_neg (no_of hi))
theorem act_before (p d : Nat) : Kri5.act (some h) (.before i p d) = (some h, if (decide (2 * (h.q i).marks < p) || decide (2 < d)) = true then Kri5.say (-22) else { num := (Kri5.before (h.q i).marks (p, d)).length, nums := Kri5.flat (Kri5.before (h.q i).marks (p, d)) }) :=
  congrArg (Prod.mk (some h)) (if_neg (no_of hi))
theorem act_run (l : List Nat) : Kri5.act (some h) (.run i l) = (some h, match Kri5.twos l with | none => Kri5.say (-22) | some r => if r = [] ∨ (r.all fun x => (pairsOf (h.q i).marks).contains x) = false then Kri5.say (-22) else Kri5.say (if (h.q i).pairs.contains (r.headD (0, 0)) && Kri5.isRun (h.q i).marks r then 1 else 0)) :=
  congrArg (Prod.mk (some h)) (if_neg (no_of hi))
theorem act_count (k : Nat) : Kri5.act (some h) (.count i k) = (some h, if 6 < k then Kri5.say (-22) else Kri5.say ((((h.q i).pairs.map fun x => Kri5.runs (h.q i).marks k x).foldl (fun a b => a + b) 0 : Nat))) :=
  congrArg (Prod.mk (some h)) (if_neg (no_of hi))
theorem act_later (k : Nat) : Kri5.act (some h) (.later i k) = (some h, if 40 < k then Kri5.say (-22) else Kri5.list ((List.range (2 * (h.q i).marks + 1)).filter fun p => (Kri5.after (h.q i).marks k (h.q i).pairs).any fun x => x.1 == p)) :=
  congrArg (Prod.mk (some h)) (if_neg (no_of hi))
theorem act_look : Kri5.act (some h) (.look i) = (some h, { num := (h.q i).marks, nums := Kri5.ints [(h.q i).pairs.length, (h.places i).length, h.ways i] }) :=
  congrArg (Prod.mk (some h)) (if_neg (no_of hi))
end
theorem act_state (h : House) : Kri5.act (some h) .state = (some h, { num := h.now, nums := Kri5.ints [h.qs.length, h.past.length] }) := rfl

/-! ### behind k moments -/
theorem after_end (m : Nat) : ∀ (k : Nat) (l : List Pair), Kri5.after m (k + 1) l = nextAll m (Kri5.after m k l)
  | 0, l => rfl
  | k + 1, l => after_end m k (nextAll m l)
theorem mem_nx {m : Nat} {l : List Pair} {y : Pair} : y ∈ nextAll m l ↔ y ∈ pairsOf m ∧ ∃ x ∈ l, Kri5.follows m x y = true := by
  unfold nextAll
  rw [List.mem_filter, List.any_eq_true]
theorem next_one (m : Nat) (x : Pair) : Kri5.next m x = nextAll m [x] := by
  unfold Kri5.next nextAll
  refine List.filter_congr fun y _ => ?_
  rw [List.any_cons, List.any_nil, Bool.or_false]
theorem mem_after {m : Nat} {y : Pair} : ∀ (k : Nat) {l : List Pair}, y ∈ Kri5.after m k l ↔ ∃ x ∈ l, y ∈ Kri5.after m k [x]
  | 0, l => by
    unfold Kri5.after
    constructor
    · intro h
      exact ⟨y, h, List.mem_singleton.mpr rfl⟩
    · rintro ⟨x, hx, h⟩
      rw [List.mem_singleton.mp h]
      exact hx
  | k + 1, l => by
    rw [after_end, mem_nx]
    constructor
    · rintro ⟨h1, z, h2, h3⟩
      obtain ⟨x, hx, h4⟩ := (mem_after k).mp h2
      refine ⟨x, hx, ?_⟩
      rw [after_end, mem_nx]
      exact ⟨h1, z, h4, h3⟩
    · rintro ⟨x, hx, h⟩
      rw [after_end, mem_nx] at h
      obtain ⟨h1, z, h2, h3⟩ := h
      exact ⟨h1, z, (mem_after k).mpr ⟨x, hx, h2⟩, h3⟩
theorem after_sub (m : Nat) : ∀ (k : Nat) (l : List Pair), l.Sublist (pairsOf m) → (Kri5.after m k l).Sublist (pairsOf m)
  | 0, l, h => h
  | k + 1, l, h => by
    rw [after_end]
    exact List.filter_sublist
theorem after_succ_sub (m k : Nat) (l : List Pair) : (Kri5.after m (k + 1) l).Sublist (pairsOf m) := by
  rw [after_end]
  exact List.filter_sublist
theorem soonest_some {m : Nat} {l : List Pair} {f : Pair → Bool} {k : Nat} (hk : k < 28) (h1 : (Kri5.after m k l).any f = true) (h2 : ∀ j, j < k → (Kri5.after m j l).any f = false) : Kri5.soonest m l f = some k := by
  unfold Kri5.soonest
  rw [List.find?_range_eq_some]
  refine ⟨h1, List.mem_range.mpr hk, fun j hj => ?_⟩
  rw [h2 j hj]
  rfl
theorem soonest_none {m : Nat} {l : List Pair} {f : Pair → Bool} (h : ∀ j, j < 28 → (Kri5.after m j l).any f = false) : Kri5.soonest m l f = none := by
  unfold Kri5.soonest
  rw [List.find?_eq_none]
  intro j hj
  rw [h j (List.mem_range.mp hj)]
  exact Bool.false_ne_true
end Bm

end
section
set_option linter.all false
set_option maxRecDepth 100000
namespace Bm
open Kri5 (Pair Quantity House pairsOf nextAll)
/-- what is reached from U behind k moments or fewer -/
def cov (m : Nat) : Nat → List Pair → List Pair
  | 0, U => U
  | k + 1, U => cov m k ((pairsOf m).filter fun y => U.contains y || U.any fun x => Kri5.follows m x y)
theorem cov_after {m : Nat} {x y : Pair} : ∀ (k n : Nat) {U : List Pair}, (∀ z ∈ U, ∃ j, j ≤ n ∧ z ∈ Kri5.after m j [x]) → y ∈ cov m k U → ∃ j, j ≤ n + k ∧ y ∈ Kri5.after m j [x]
  | 0, n, U, h, hy => h y hy
  | k + 1, n, U, h, hy => by
    have st : ∀ z ∈ (pairsOf m).filter (fun y => U.contains y || U.any fun x => Kri5.follows m x y), ∃ j, j ≤ n + 1 ∧ z ∈ Kri5.after m j [x] := fun z hz => by
      obtain ⟨h1, h2⟩ := List.mem_filter.mp hz
      rw [Bool.or_eq_true] at h2
      rcases h2 with h2 | h2
      · obtain ⟨j, hj, q⟩ := h z (List.contains_iff_mem.mp h2)
        exact ⟨j, by omega, q⟩
      · obtain ⟨v, hv, f⟩ := List.any_eq_true.mp h2
        obtain ⟨j, hj, q⟩ := h v hv
        exact ⟨j + 1, by omega, by rw [after_end, mem_nx]; exact ⟨h1, v, q, f⟩⟩
    obtain ⟨j, hj, q⟩ := cov_after k (n + 1) st hy
    exact ⟨j, by omega, q⟩
/-- behind so many moments every pair is reached from every pair -/
def far (m : Nat) : Nat := if m = 0 then 2 else 2 * m + 3
set_option maxHeartbeats 0 in
theorem cov_all : (List.range 5).all (fun m => (pairsOf m).all fun x => (cov m (far m) [x]).length == (pairsOf m).length) = true := by decide +kernel
theorem cov_sub (m : Nat) : ∀ (k : Nat) (U : List Pair), U.Sublist (pairsOf m) → (cov m k U).Sublist (pairsOf m)
  | 0, U, h => h
  | k + 1, U, h => cov_sub m k _ List.filter_sublist
theorem reach {m : Nat} (hm : m ≤ 4) {x y : Pair} (hx : x ∈ pairsOf m) (hy : y ∈ pairsOf m) : ∃ j, j ≤ far m ∧ y ∈ Kri5.after m j [x] := by
  have c := List.all_eq_true.mp (List.all_eq_true.mp cov_all m (List.mem_range.mpr (by omega))) x hx
  have s := cov_sub m (far m) [x] (List.singleton_sublist.mpr hx)
  have e := s.eq_of_length (eq_of_beq c)
  obtain ⟨j, hj, q⟩ := cov_after (x := x) (far m) 0 (U := [x]) (fun z hz => ⟨0, Nat.le_refl _, hz⟩) (by rw [e]; exact hy)
  exact ⟨j, by omega, q⟩
/-- the first moment at which one of those asked is reached: there is always one -/
theorem soonest_is {m : Nat} (hm : m ≤ 4) {l : List Pair} (hl : ∀ x ∈ l, x ∈ pairsOf m) (hne : l ≠ []) {f : Pair → Bool} (hf : ∃ y ∈ pairsOf m, f y = true) :
    ∃ k, Kri5.soonest m l f = some k ∧ k ≤ far m ∧ (Kri5.after m k l).any f = true ∧ ∀ j, j < k → (Kri5.after m j l).any f = false := by
  obtain ⟨x, r, rfl⟩ := List.exists_cons_of_ne_nil hne
  obtain ⟨y, hy, fy⟩ := hf
  obtain ⟨j, hj, q⟩ := reach hm (hl x List.mem_cons_self) hy
  have hj2 : (Kri5.after m j (x :: r)).any f = true := List.any_eq_true.mpr ⟨y, (mem_after j).mpr ⟨x, List.mem_cons_self, q⟩, fy⟩
  have fm : far m ≤ 11 := by unfold far; split <;> omega
  have least : ∀ n, (∃ k, k ≤ n ∧ (Kri5.after m k (x :: r)).any f = true) → ∃ k, k ≤ n ∧ (Kri5.after m k (x :: r)).any f = true ∧ ∀ i, i < k → (Kri5.after m i (x :: r)).any f = false := by
    intro n
    induction n with
    | zero =>
      rintro ⟨k, hk, h⟩
      exact ⟨k, hk, h, fun i hi => absurd hi (by omega)⟩
    | succ n ih =>
      rintro ⟨k, hk, h⟩
      by_cases c : ∃ k, k ≤ n ∧ (Kri5.after m k (x :: r)).any f = true
      · obtain ⟨k', h1, h2, h3⟩ := ih c
        exact ⟨k', by omega, h2, h3⟩
      · refine ⟨k, hk, h, fun i hi => ?_⟩
        cases hi2 : (Kri5.after m i (x :: r)).any f with
        | false => rfl
        | true => exact absurd ⟨i, by omega, hi2⟩ c
  obtain ⟨k, hk, h1, h2⟩ := least j ⟨j, Nat.le_refl _, hj2⟩
  exact ⟨k, soonest_some (by omega) h1 h2, by omega, h1, h2⟩

/-! ### the first way -/
theorem any_after {m k : Nat} {f : Pair → Bool} {l : List Pair} : (Kri5.after m k l).any f = l.any fun x => (Kri5.after m k [x]).any f := by
  rw [Bool.eq_iff_iff, List.any_eq_true, List.any_eq_true]
  constructor
  · rintro ⟨y, hy, fy⟩
    obtain ⟨x, hx, q⟩ := (mem_after k).mp hy
    exact ⟨x, hx, List.any_eq_true.mpr ⟨y, q, fy⟩⟩
  · rintro ⟨x, hx, q⟩
    obtain ⟨y, hy, fy⟩ := List.any_eq_true.mp q
    exact ⟨y, (mem_after k).mpr ⟨x, hx, hy⟩, fy⟩
theorem any_step {m k : Nat} {f : Pair → Bool} {x : Pair} : (Kri5.after m (k + 1) [x]).any f = (Kri5.next m x).any fun y => (Kri5.after m k [y]).any f := by
  show (Kri5.after m k (nextAll m [x])).any f = _
  rw [any_after, next_one]
theorem find_first {α β : Type} (g : α → Option β) (t : α → Bool) (h : ∀ a, (g a).isSome = t a) : ∀ l : List α, l.findSome? g = (l.find? t).bind g
  | [] => rfl
  | a :: l => by
    rw [List.findSome?_cons, List.find?_cons]
    cases e : g a with
    | none =>
      have z : t a = false := by rw [← h a, e]; rfl
      rw [z]
      exact find_first g t h l
    | some b =>
      have z : t a = true := by rw [← h a, e]; rfl
      rw [z]
      exact e.symm
theorem way_some (m : Nat) (f : Pair → Bool) : ∀ (k : Nat) (x : Pair), (Kri5.wayTo m f k x).isSome = (Kri5.after m k [x]).any f
  | 0, x => by
    show (if f x = true then some [x] else none).isSome = ([x].any f)
    rw [List.any_cons, List.any_nil, Bool.or_false]
    cases f x <;> rfl
  | k + 1, x => by
    show (if (Kri5.after m (k + 1) [x]).any f = false then none else ((Kri5.next m x).findSome? fun y => Kri5.wayTo m f k y).map fun r => x :: r).isSome = _
    cases c : (Kri5.after m (k + 1) [x]).any f with
    | false => rfl
    | true =>
      rw [if_neg (by intro z; cases z)]
      rw [any_step] at c
      rw [Option.isSome_map]
      obtain ⟨y, hy, q⟩ := List.any_eq_true.mp c
      rw [← way_some m f k y] at q
      rw [List.findSome?_isSome_iff]
      exact ⟨y, hy, q⟩
/-- from x on: x, and from the first that can still come there in time -/
theorem way_step {m : Nat} {f : Pair → Bool} {k : Nat} {x : Pair} (h : (Kri5.after m (k + 1) [x]).any f = true) :
    ∃ y, (Kri5.next m x).find? (fun y => (Kri5.after m k [y]).any f) = some y ∧ ∃ r, Kri5.wayTo m f k y = some r ∧ Kri5.wayTo m f (k + 1) x = some (x :: r) := by
  have c := h
  rw [any_step] at c
  obtain ⟨z, hz, q⟩ := List.any_eq_true.mp c
  cases e : (Kri5.next m x).find? (fun y => (Kri5.after m k [y]).any f) with
  | none => exact absurd q (List.find?_eq_none.mp e z hz)
  | some y =>
    have qy := List.find?_some e
    rw [← way_some m f k y] at qy
    obtain ⟨r, hr⟩ := Option.isSome_iff_exists.mp qy
    refine ⟨y, rfl, r, hr, ?_⟩
    show (if (Kri5.after m (k + 1) [x]).any f = false then none else ((Kri5.next m x).findSome? fun y => Kri5.wayTo m f k y).map fun r => x :: r) = _
    rw [if_neg (by rw [h]; intro z; cases z), find_first _ _ (way_some m f k), e]
    show (Kri5.wayTo m f k y).map _ = _
    rw [hr]
    rfl
theorem way_zero {m : Nat} {f : Pair → Bool} {x : Pair} (h : f x = true) : Kri5.wayTo m f 0 x = some [x] := if_pos h
theorem first_way {m : Nat} {f : Pair → Bool} {k : Nat} {l : List Pair} (h : (Kri5.after m k l).any f = true) :
    ∃ x, l.find? (fun x => (Kri5.after m k [x]).any f) = some x ∧ ∃ r, Kri5.wayTo m f k x = some r ∧ (l.findSome? fun x => Kri5.wayTo m f k x) = some r := by
  rw [any_after] at h
  obtain ⟨z, hz, q⟩ := List.any_eq_true.mp h
  cases e : l.find? (fun x => (Kri5.after m k [x]).any f) with
  | none => exact absurd q (List.find?_eq_none.mp e z hz)
  | some x =>
    have qx := List.find?_some e
    rw [← way_some m f k x] at qx
    obtain ⟨r, hr⟩ := Option.isSome_iff_exists.mp qx
    refine ⟨x, rfl, r, hr, ?_⟩
    rw [find_first _ _ (way_some m f k), e]
    exact hr
theorem way_len {m : Nat} {f : Pair → Bool} : ∀ (k : Nat) {x : Pair} {r : List Pair}, Kri5.wayTo m f k x = some r → r.length = k + 1
  | 0, x, r, h => by
    have h : (if f x = true then some [x] else none) = some r := h
    split at h
    · cases h; rfl
    · cases h
  | k + 1, x, r, h => by
    have s : (Kri5.after m (k + 1) [x]).any f = true := by rw [← way_some, h]; rfl
    obtain ⟨y, _, r', h1, h2⟩ := way_step s
    rw [h] at h2
    cases h2
    rw [List.length_cons, way_len k h1]
end Bm

end
section
set_option linter.all false
set_option maxRecDepth 100000
namespace Bm
open Kri5 (Pair Quantity House pairsOf nextAll)

/-! ### how far a pair is from those asked -/
def dist (m : Nat) (f : Pair → Bool) (x : Pair) : Nat := (Kri5.soonest m [x] f).getD 0
structure Goal (m : Nat) (f : Pair → Bool) : Prop where
  m4 : m ≤ 4
  ex : ∃ y ∈ pairsOf m, f y = true
theorem far_le (m : Nat) (h : m ≤ 4) : far m ≤ 11 := by unfold far; split <;> omega
section
variable {m : Nat} {f : Pair → Bool} {x y : Pair}
theorem dist_is (g : Goal m f) (hx : x ∈ pairsOf m) : (Kri5.after m (dist m f x) [x]).any f = true ∧ (∀ j, j < dist m f x → (Kri5.after m j [x]).any f = false) ∧ dist m f x ≤ far m := by
  obtain ⟨k, h1, h2, h3, h4⟩ := soonest_is g.m4 (l := [x]) (fun z hz => by rw [List.mem_singleton.mp hz]; exact hx) (by simp) g.ex
  unfold dist
  rw [h1]
  exact ⟨h3, h4, h2⟩
theorem dist_le (g : Goal m f) (hx : x ∈ pairsOf m) {k : Nat} (h : (Kri5.after m k [x]).any f = true) : dist m f x ≤ k := by
  rcases Nat.lt_or_ge k (dist m f x) with z | z
  · rw [(dist_is g hx).2.1 k z] at h
    cases h
  · exact z
theorem any_one : (Kri5.after m 0 [x]).any f = f x := by
  show [x].any f = _
  rw [List.any_cons, List.any_nil, Bool.or_false]
theorem dist_zero (g : Goal m f) (hx : x ∈ pairsOf m) : dist m f x = 0 ↔ f x = true := by
  constructor
  · intro e
    have := (dist_is g hx).1
    rw [e, any_one] at this
    exact this
  · intro h
    have := dist_le g hx (k := 0) (by rw [any_one]; exact h)
    omega
theorem next_in (h : y ∈ Kri5.next m x) : y ∈ pairsOf m := (List.mem_filter.mp h).1
theorem dist_step_le (g : Goal m f) (hx : x ∈ pairsOf m) (hy : y ∈ Kri5.next m x) : dist m f x ≤ dist m f y + 1 := by
  refine dist_le g hx ?_
  rw [any_step]
  exact List.any_eq_true.mpr ⟨y, hy, (dist_is g (next_in hy)).1⟩
theorem dist_step_ex (g : Goal m f) (hx : x ∈ pairsOf m) {k : Nat} (h : dist m f x = k + 1) : ∃ y ∈ Kri5.next m x, dist m f y = k := by
  have q := (dist_is g hx).1
  rw [h, any_step] at q
  obtain ⟨y, hy, fy⟩ := List.any_eq_true.mp q
  have a := dist_le g (next_in hy) fy
  have b := dist_step_le g hx hy
  exact ⟨y, hy, by omega⟩
theorem dist_level (g : Goal m f) : ∀ (n : Nat) {x : Pair}, x ∈ pairsOf m → dist m f x = n → ∀ t, t ≤ n → ∃ y ∈ pairsOf m, dist m f y = t
  | 0, x, hx, e, t, ht => ⟨x, hx, by omega⟩
  | n + 1, x, hx, e, t, ht => by
    rcases Nat.lt_or_ge n t with z | z
    · exact ⟨x, hx, by omega⟩
    · obtain ⟨y, hy, ey⟩ := dist_step_ex g hx e
      exact dist_level g n (next_in hy) ey t z
/-- what leads to one of these -/
def leads (m : Nat) (x : Pair) (rs : List Pair) : Bool := (nextAll m [x]).any fun y => rs.contains y
theorem lead_iff (g : Goal m f) (hx : x ∈ pairsOf m) {t : Nat} {rs : List Pair} (hr : ∀ z, z ∈ rs ↔ z ∈ pairsOf m ∧ dist m f z = t) (hn : ¬ dist m f x ≤ t) : leads m x rs = true ↔ dist m f x = t + 1 := by
  unfold leads
  rw [List.any_eq_true, ← next_one]
  constructor
  · rintro ⟨y, hy, hc⟩
    have := ((hr y).mp (List.contains_iff_mem.mp hc)).2
    have := dist_step_le g hx hy
    omega
  · intro e
    obtain ⟨y, hy, ey⟩ := dist_step_ex g hx e
    exact ⟨y, hy, List.contains_iff_mem.mpr ((hr y).mpr ⟨next_in hy, ey⟩)⟩
/-- where nothing lies so far away, nothing lies further -/
theorem dist_all (g : Goal m f) {t : Nat} (h : ∀ z, z ∈ pairsOf m → dist m f z ≠ t) (hx : x ∈ pairsOf m) : dist m f x < t := by
  rcases Nat.lt_or_ge (dist m f x) t with z | z
  · exact z
  · obtain ⟨y, hy, e⟩ := dist_level g _ hx rfl t z
    exact absurd e (h y hy)
theorem dist_any (g : Goal m f) (hx : x ∈ pairsOf m) {k : Nat} (h : k ≤ dist m f x) : (Kri5.after m k [x]).any f = true ↔ dist m f x = k := by
  constructor
  · intro q
    have := dist_le g hx q
    omega
  · intro e
    rw [← e]
    exact (dist_is g hx).1
/-- the soonest of a list -/
theorem soonest_min (g : Goal m f) {l : List Pair} (hl : ∀ z ∈ l, z ∈ pairsOf m) {k : Nat} (h1 : ∃ z ∈ l, dist m f z = k) (h2 : ∀ z ∈ l, k ≤ dist m f z) : Kri5.soonest m l f = some k ∧ (Kri5.after m k l).any f = true ∧ ∀ j, j < k → (Kri5.after m j l).any f = false := by
  obtain ⟨z, hz, e⟩ := h1
  have a1 : (Kri5.after m k l).any f = true := by
    rw [any_after]
    exact List.any_eq_true.mpr ⟨z, hz, by rw [← e]; exact (dist_is g (hl z hz)).1⟩
  have a2 : ∀ j, j < k → (Kri5.after m j l).any f = false := fun j hj => by
    rw [any_after, List.any_eq_false]
    intro x hx
    rw [(dist_is g (hl x hx)).2.1 j (Nat.lt_of_lt_of_le hj (h2 x hx))]
    exact Bool.false_ne_true
  refine ⟨soonest_some ?_ a1 a2, a1, a2⟩
  have := (dist_is g (hl z hz)).2.2
  have := far_le m g.m4
  omega
end
/-- in a sorted list the least with a mark is the first with it -/
theorem first_least {p : Pair → Bool} {x z : Pair} : ∀ {l : List Pair}, l.Pairwise lexP → l.find? p = some x → z ∈ l.filter p → (∀ y ∈ l.filter p, ¬ lexP y z) → z = x
  | [], _, h, _, _ => by cases h
  | a :: l, s, h, hz, least => by
    obtain ⟨s1, s2⟩ := List.pairwise_cons.mp s
    rw [List.find?_cons] at h
    cases pa : p a with
    | true =>
      rw [pa] at h
      cases h
      rw [List.filter_cons, if_pos pa] at hz least
      rcases List.mem_cons.mp hz with e | e
      · exact e
      · exact absurd (s1 z (List.mem_filter.mp e).1) (least x List.mem_cons_self)
    | false =>
      rw [pa] at h
      rw [List.filter_cons, if_neg (by rw [pa]; exact Bool.false_ne_true)] at hz least
      exact first_least s2 h hz least

/-! ### a way, step by step: what is left of it from a list of choices -/
structure Left (m : Nat) (f : Pair → Bool) (k : Nat) (l rest : List Pair) : Prop where
  sub : ∀ z ∈ l, z ∈ pairsOf m
  srt : l.Pairwise lexP
  has : ∃ z ∈ l, dist m f z = k
  low : ∀ z ∈ l, k ≤ dist m f z
  way : (l.findSome? fun x => Kri5.wayTo m f k x) = some rest
theorem left_first {m : Nat} {f : Pair → Bool} {k : Nat} {l rest : List Pair} (g : Goal m f) (L : Left m f k l rest) : ∃ x ∈ l, dist m f x = k ∧ l.find? (fun y => dist m f y == k) = some x ∧ Kri5.wayTo m f k x = some rest := by
  obtain ⟨_, a, _⟩ := soonest_min g L.sub L.has L.low
  obtain ⟨x, h1, r, h2, h3⟩ := first_way a
  have hx := List.mem_of_find?_eq_some h1
  rw [L.way] at h3
  cases h3
  have e : ∀ l' : List Pair, (∀ z ∈ l', z ∈ l) → l'.find? (fun y => dist m f y == k) = l'.find? (fun x => (Kri5.after m k [x]).any f) := by
    intro l'
    induction l' with
    | nil => intro _; rfl
    | cons a l' ih =>
      intro h
      have ha := h a List.mem_cons_self
      have q : (dist m f a == k) = (Kri5.after m k [a]).any f := by
        rw [Bool.eq_iff_iff, beq_iff_eq]
        exact (dist_any g (L.sub a ha) (L.low a ha)).symm
      rw [List.find?_cons, List.find?_cons, q, ih fun z hz => h z (List.mem_cons_of_mem _ hz)]
  refine ⟨x, hx, ?_, by rw [e l fun z hz => hz]; exact h1, h2⟩
  have q := List.find?_some h1
  exact (dist_any g (L.sub x hx) (L.low x hx)).mp q
theorem left_end {m : Nat} {f : Pair → Bool} {x : Pair} {rest : List Pair} (g : Goal m f) (hx : x ∈ pairsOf m) (d : dist m f x = 0) (h : Kri5.wayTo m f 0 x = some rest) : rest = [x] := by
  rw [way_zero ((dist_zero g hx).mp d)] at h
  cases h
  rfl
theorem nextAll_one_mem {m : Nat} {x y : Pair} : y ∈ nextAll m [x] ↔ y ∈ Kri5.next m x := by rw [next_one]
theorem left_step {m : Nat} {f : Pair → Bool} {k : Nat} {x : Pair} {rest : List Pair} (g : Goal m f) (hx : x ∈ pairsOf m) (d : dist m f x = k + 1) (h : Kri5.wayTo m f (k + 1) x = some rest) : ∃ r, rest = x :: r ∧ Left m f k (nextAll m [x]) r := by
  have a := (dist_is g hx).1
  rw [d] at a
  obtain ⟨y, h1, r, h2, h3⟩ := way_step a
  rw [h] at h3
  cases h3
  refine ⟨r, rfl, fun z hz => (mem_nx.mp hz).1, nextAll_sorted m [x], ?_, fun z hz => ?_, ?_⟩
  · obtain ⟨z, hz, e⟩ := dist_step_ex g hx d
    exact ⟨z, nextAll_one_mem.mpr hz, e⟩
  · have := dist_step_le g hx (nextAll_one_mem.mp hz)
    omega
  · rw [← next_one, find_first _ _ (way_some m f k), h1]
    exact h2

/-! ### runs counted -/
theorem fold_add : ∀ (l : List Nat) (a : Nat), l.foldl (fun a b => a + b) a = a + l.sum
  | [], a => by simp
  | b :: l, a => by
    rw [List.foldl_cons, fold_add l (a + b), List.sum_cons]
    omega
theorem runs_step (m k : Nat) (x : Pair) : Kri5.runs m (k + 1) x = ((nextAll m [x]).map (Kri5.runs m k)).sum := by
  show ((Kri5.next m x).map fun y => Kri5.runs m k y).foldl (fun a b => a + b) 0 = _
  rw [fold_add, Nat.zero_add, next_one]
def wsum (W : Pair → Nat) (qs : List (Pair × Nat)) : Nat := (qs.map fun q => q.2 * W q.1).sum
def valN (qs : List (Pair × Nat)) (x : Pair) : Nat := ((qs.find? fun q => decide (q.1 = x)).map (·.2)).getD 0
def putN (qs : List (Pair × Nat)) (x : Pair) (n : Nat) : List (Pair × Nat) := if (qs.any fun q => decide (q.1 = x)) = true then qs.map (fun q => if q.1 = x then (q.1, n) else q) else qs ++ [(x, n)]
theorem wsum_snoc (W : Pair → Nat) (qs : List (Pair × Nat)) (x : Pair) (n : Nat) : wsum W (qs ++ [(x, n)]) = wsum W qs + n * W x := by
  unfold wsum
  rw [List.map_append, List.sum_append]
  simp
theorem map_other {x : Pair} {n : Nat} : ∀ {qs : List (Pair × Nat)}, x ∉ qs.map (·.1) → qs.map (fun q => if q.1 = x then (q.1, n) else q) = qs
  | [], _ => rfl
  | q :: qs, h => by
    rw [List.map_cons, List.mem_cons, not_or] at h
    rw [List.map_cons, map_other h.2, if_neg fun e => h.1 e.symm]
theorem wsum_put (W : Pair → Nat) {x : Pair} {c : Nat} : ∀ {qs : List (Pair × Nat)}, (qs.map (·.1)).Nodup → wsum W (putN qs x (valN qs x + c)) = wsum W qs + c * W x
  | [], _ => by
    show wsum W ([] ++ [(x, 0 + c)]) = _
    rw [wsum_snoc, Nat.zero_add]
  | q :: qs, nd => by
    rw [List.map_cons, List.nodup_cons] at nd
    by_cases e : q.1 = x
    · have v : valN (q :: qs) x = q.2 := by
        unfold valN
        rw [List.find?_cons, decide_eq_true e]
        rfl
      unfold putN
      rw [List.any_cons, decide_eq_true e, Bool.true_or, if_pos rfl, List.map_cons, if_pos e, map_other (by rw [← e]; exact nd.1), v]
      unfold wsum
      rw [List.map_cons, List.map_cons, List.sum_cons, List.sum_cons]
      dsimp only
      rw [e, Nat.add_mul]
      omega
    · have v : valN (q :: qs) x = valN qs x := by
        unfold valN
        rw [List.find?_cons, decide_eq_false e]
      have ih := wsum_put W (x := x) (c := c) nd.2
      have p : putN (q :: qs) x (valN qs x + c) = q :: putN qs x (valN qs x + c) := by
        unfold putN
        rw [List.any_cons, decide_eq_false e, Bool.false_or]
        split
        · rw [List.map_cons, if_neg e]
        · rfl
      rw [v, p]
      unfold wsum at ih ⊢
      rw [List.map_cons, List.map_cons, List.sum_cons, List.sum_cons, ih]
      omega
theorem put_mem {qs : List (Pair × Nat)} {x y : Pair} {n : Nat} (h : y ∈ (putN qs x n).map (·.1)) : y ∈ qs.map (·.1) ∨ y = x := by
  unfold putN at h
  split at h
  · rw [List.map_map] at h
    obtain ⟨q, hq, e⟩ := List.mem_map.mp h
    refine .inl (List.mem_map.mpr ⟨q, hq, ?_⟩)
    rw [← e]
    dsimp only [Function.comp]
    split <;> rfl
  · rw [List.map_append, List.mem_append] at h
    rcases h with h | h
    · exact .inl h
    · exact .inr (by simpa using h)
theorem put_nd {qs : List (Pair × Nat)} {x : Pair} {n : Nat} (h : (qs.map (·.1)).Nodup) : ((putN qs x n).map (·.1)).Nodup := by
  unfold putN
  split
  · have e : (qs.map fun q => if q.1 = x then (q.1, n) else q).map (·.1) = qs.map (·.1) := by
      rw [List.map_map]
      refine List.map_congr_left fun q _ => ?_
      dsimp only [Function.comp]
      split <;> rfl
    rw [e]
    exact h
  · rename_i c
    rw [List.map_append, List.nodup_append]
    refine ⟨h, by simp, fun a ha b hb e => c ?_⟩
    obtain ⟨q, hq, e2⟩ := List.mem_map.mp ha
    rw [List.any_eq_true]
    refine ⟨q, hq, decide_eq_true ?_⟩
    rw [e2, e]
    simpa using hb
theorem nodup_len {α : Type} [DecidableEq α] : ∀ {l L : List α}, l.Nodup → (∀ x ∈ l, x ∈ L) → l.length ≤ L.length
  | [], _, _, _ => Nat.zero_le _
  | a :: l, L, nd, h => by
    obtain ⟨h1, h2⟩ := List.nodup_cons.mp nd
    have ha := h a List.mem_cons_self
    have := nodup_len (L := L.erase a) h2 fun x hx => (List.mem_erase_of_ne (fun e => h1 (by rw [← e]; exact hx))).mpr (h x (List.mem_cons_of_mem _ hx))
    rw [List.length_erase_of_mem ha] at this
    have : 0 < L.length := List.length_pos_of_mem ha
    rw [List.length_cons]
    omega
theorem pairs_nodup_len {m : Nat} (hm : m ≤ 4) {l : List Pair} (nd : l.Nodup) (h : ∀ x ∈ l, x ∈ pairsOf m) : l.length ≤ 27 := by
  have := nodup_len nd h
  rw [pairsOf_length] at this
  omega

/-! ### a run told -/
theorem isRun_steps {m : Nat} : ∀ {ps : List Pair}, (∀ x ∈ ps, x ∈ pairsOf m) → Kri5.isRun m ps = (ps.zip ps.tail).all fun q => (nextAll m [q.1]).contains q.2
  | [], _ => rfl
  | [x], h => by
    show (pairsOf m).contains x = true
    exact List.contains_iff_mem.mpr (h x List.mem_cons_self)
  | x :: y :: r, h => by
    show ((pairsOf m).contains x && (Kri5.follows m x y && Kri5.isRun m (y :: r))) = _
    have ih := isRun_steps (ps := y :: r) fun z hz => h z (List.mem_cons_of_mem _ hz)
    have hx := List.contains_iff_mem.mpr (h x List.mem_cons_self)
    have hy := h y (List.mem_cons_of_mem _ List.mem_cons_self)
    rw [hx, Bool.true_and, ih]
    show _ = ((x, y) :: (y :: r).zip r).all _
    rw [List.all_cons]
    have e : (nextAll m [x]).contains y = Kri5.follows m x y := by
      rw [Bool.eq_iff_iff, List.contains_iff_mem, mem_nx]
      constructor
      · rintro ⟨_, z, hz, q⟩
        rw [List.mem_singleton.mp hz] at q
        exact q
      · intro q
        exact ⟨hy, x, List.mem_singleton.mpr rfl, q⟩
    dsimp only
    rw [e]
    rfl
theorem twos_odd : ∀ (n : Nat) {l : List Nat}, l.length = 2 * n + 1 → Kri5.twos l = none
  | 0, l, h => by
    match l, h with
    | [a], _ => rfl
  | n + 1, l, h => by
    match l, h with
    | a :: b :: r, h =>
      have := twos_odd n (l := r) (by simp at h; omega)
      show (Kri5.twos r).map _ = none
      rw [this]
      rfl
theorem twos_even : ∀ (n : Nat) {l : List Nat}, l.length = 2 * n → ∃ r, Kri5.twos l = some r ∧ r.length = n ∧ ∀ j, j < n → ∃ a b, l[2 * j]? = some a ∧ l[2 * j + 1]? = some b ∧ r[j]? = some (a, b)
  | 0, l, h => by
    match l, h with
    | [], _ => exact ⟨[], rfl, rfl, fun j hj => absurd hj (by omega)⟩
  | n + 1, l, h => by
    match l, h with
    | a :: b :: r, h =>
      obtain ⟨q, h1, h2, h3⟩ := twos_even n (l := r) (by simp at h; omega)
      refine ⟨(a, b) :: q, ?_, by rw [List.length_cons, h2], fun j hj => ?_⟩
      · show (Kri5.twos r).map _ = _
        rw [h1]
        rfl
      · cases j with
        | zero => exact ⟨a, b, rfl, rfl, rfl⟩
        | succ j =>
          obtain ⟨c, d, e1, e2, e3⟩ := h3 j (by omega)
          refine ⟨c, d, ?_, ?_, ?_⟩
          · rw [show 2 * (j + 1) = 2 * j + 1 + 1 by omega, List.getElem?_cons_succ, List.getElem?_cons_succ]
            exact e1
          · rw [show 2 * (j + 1) + 1 = (2 * j + 1) + 1 + 1 by omega, List.getElem?_cons_succ, List.getElem?_cons_succ]
            exact e2
          · rw [List.getElem?_cons_succ]
            exact e3
/-- the places among pairs -/
def plc (m : Nat) (ps : List Pair) : List Nat := (List.range (2 * m + 1)).filter fun p => ps.any fun x => x.1 == p
theorem plc_len (m : Nat) (hm : m ≤ 4) (ps : List Pair) : (plc m ps).length ≤ 9 := by
  unfold plc
  refine Nat.le_trans (List.length_filter_le _ _) ?_
  rw [List.length_range]
  omega
end Bm

end
section
set_option Elab.async false
set_option linter.all false
set_option maxRecDepth 100000
set_option maxHeartbeats 2000000
namespace Bm
open PySem PySem.Spec PyProof.Rows L2
open Kri5 (Pair Quantity House pairsOf nextAll)

/-! ### rows beside rows -/
section
variable {α β : Type} {F : α → β → Prop}
theorem pr_getR : ∀ {l : List α} {m : List β} {i : Nat} {b : β}, Paired F l m → m[i]? = some b → ∃ a, l[i]? = some a ∧ F a b
  | _, _, _, _, .nil, e => by simp at e
  | _, _, 0, _, .cons r _, e => by simp at e; subst e; exact ⟨_, rfl, r⟩
  | _, _, i + 1, b, .cons _ t, e => by
    obtain ⟨u, h1, h2⟩ := pr_getR (i := i) (b := b) t (by simpa using e)
    exact ⟨u, by simpa using h1, h2⟩
theorem pr_getL : ∀ {l : List α} {m : List β} {i : Nat} {a : α}, Paired F l m → l[i]? = some a → ∃ b, m[i]? = some b ∧ F a b
  | _, _, _, _, .nil, e => by simp at e
  | _, _, 0, _, .cons r _, e => by simp at e; subst e; exact ⟨_, rfl, r⟩
  | _, _, i + 1, b, .cons _ t, e => by
    obtain ⟨u, h1, h2⟩ := pr_getL (i := i) (a := b) t (by simpa using e)
    exact ⟨u, by simpa using h1, h2⟩
theorem pr_set {a : α} {b : β} (r : F a b) : ∀ {l : List α} {m : List β} (i : Nat), Paired F l m → Paired F (l.set i a) (m.set i b)
  | _, _, _, .nil => .nil
  | _, _, 0, .cons _ t => .cons r t
  | _, _, i + 1, .cons q t => .cons q (pr_set r i t)
theorem pr_app : ∀ {l l' : List α} {m m' : List β}, Paired F l m → Paired F l' m' → Paired F (l ++ l') (m ++ m')
  | _, _, _, _, .nil, s => s
  | _, _, _, _, .cons r t, s => .cons r (pr_app t s)
theorem pr_take : ∀ {l : List α} {m : List β} (n : Nat), Paired F l m → Paired F (l.take n) (m.take n)
  | _, _, 0, _ => .nil
  | _, _, _ + 1, .nil => .nil
  | _, _, n + 1, .cons r t => .cons r (pr_take n t)
theorem pr_drop : ∀ {l : List α} {m : List β} (n : Nat), Paired F l m → Paired F (l.drop n) (m.drop n)
  | _, _, 0, h => h
  | _, _, _ + 1, .nil => .nil
  | _, _, n + 1, .cons _ t => pr_drop n t
theorem pr_mono {G : α → β → Prop} (h : ∀ a b, F a b → G a b) {l : List α} {m : List β} (p : Paired F l m) : Paired G l m := Paired.mapP p h
theorem take_one {l : List α} {i : Nat} {x : α} (h : l[i]? = some x) : l.take (i + 1) = l.take i ++ [x] := by
  rw [List.take_add_one, h]
  rfl
theorem map_get {γ : Type} {f : α → γ} {l : List α} {i : Nat} {y : γ} (h : (l.map f)[i]? = some y) : ∃ x, l[i]? = some x ∧ y = f x := by
  rw [List.getElem?_map] at h
  cases e : l[i]? with
  | none => rw [e] at h; cases h
  | some x => rw [e] at h; exact ⟨x, rfl, (Option.some.inj h).symm⟩
end

/-! ### heaps: what is new, what is kept for good -/
def isTup : Option HO → Bool
  | some (.tup _) => true
  | _ => false
/-- what is new in H', and all tuples -/
def Nw (H H' : Hp) : Hp := fun b => if (H b).isNone = true ∨ isTup (H' b) = true then H' b else none
/-- G, and what is new in H', and all tuples -/
def Fz (G H H' : Hp) : Hp := fun b => if (H b).isNone = true ∨ isTup (H' b) = true then H' b else G b
theorem same_new {H : Hp} {a : Addr} {o : HO} (h : H a = none) : Same H (upd H a o) := fun b u e => by rw [upd_ne (ne_of_none e h)]; exact e
theorem Nw_at {H H' : Hp} {b : Addr} {o : HO} (n : H b = none) (e : H' b = some o) : Nw H H' b = some o := by
  unfold Nw
  rw [if_pos (.inl (by rw [n]; rfl)), e]
theorem Nw_tup {H H' : Hp} {b : Addr} {xs : List V} (e : H' b = some (.tup xs)) : Nw H H' b = some (.tup xs) := by
  unfold Nw
  rw [if_pos (.inr (by rw [e]; rfl)), e]
theorem Nw_is {H H' : Hp} {b : Addr} {o : HO} (e : Nw H H' b = some o) : H' b = some o ∧ (H b = none ∨ ∃ xs, o = .tup xs) := by
  unfold Nw at e
  split at e
  · rename_i c
    refine ⟨e, ?_⟩
    rcases c with c | c
    · left
      cases q : H b with
      | none => rfl
      | some u => rw [q] at c; cases c
    · right
      rw [e] at c
      cases o with
      | tup xs => exact ⟨xs, rfl⟩
      | _ => cases c
  · cases e
theorem Nw_sub {H H' : Hp} : Same (Nw H H') H' := fun b o e => (Nw_is e).1
/-- what was new stays new -/
theorem Nw_mono {H H1 H2 : Hp} (s : Same H1 H2) : Same (Nw H H1) (Nw H H2) := fun b o e => by
  obtain ⟨e1, c⟩ := Nw_is e
  rcases c with n | ⟨xs, rfl⟩
  · exact Nw_at n (s b o e1)
  · exact Nw_tup (s b _ e1)
theorem Nw_left {H H1 H2 : Hp} (s : Same H H1) : Same (Nw H1 H2) (Nw H H2) := fun b o e => by
  obtain ⟨e1, c⟩ := Nw_is e
  rcases c with n | ⟨xs, rfl⟩
  · exact Nw_at (s.free n) e1
  · exact Nw_tup e1
theorem Fz_new {G H H' : Hp} : Same (Nw H H') (Fz G H H') := fun b o e => by
  obtain ⟨e1, c⟩ := Nw_is e
  unfold Fz
  rcases c with n | ⟨xs, rfl⟩
  · rw [if_pos (.inl (by rw [n]; rfl))]; exact e1
  · rw [if_pos (.inr (by rw [e1]; rfl))]; exact e1
theorem Fz_old {G H H' : Hp} (g : Same G H') : Same G (Fz G H H') := fun b o e => by
  unfold Fz
  split
  · exact g b o e
  · exact e
theorem Fz_sub {G H H' : Hp} (g : Same G H') : Same (Fz G H H') H' := fun b o e => by
  unfold Fz at e
  split at e
  · exact e
  · exact g b o e
theorem Fz_none {G H H' : Hp} {b : Addr} {o : HO} (e : H b = some o) (t : isTup (H' b) = false) : Fz G H H' b = G b := by
  unfold Fz
  rw [if_neg]
  rintro (c | c)
  · rw [e] at c; cases c
  · rw [t] at c; cases c

/-! ### data -/
def TupAt (G : Hp) (r : Addr) (x : Pair) : Prop := G r = some (.tup [.int x.1, .int x.2])
/-- the list at a holds these pairs -/
def PairsAt (G : Hp) (a : Addr) (ps : List Pair) : Prop := ∃ rs : List Addr, G a = some (.lst (rs.map V.ref)) ∧ Paired (TupAt G) rs ps
theorem PairsAt.mono {G G' : Hp} {a : Addr} {ps : List Pair} (s : Same G G') (h : PairsAt G a ps) : PairsAt G' a ps := by
  obtain ⟨rs, h1, h2⟩ := h
  exact ⟨rs, s _ _ h1, pr_mono (fun r x e => s _ _ e) h2⟩
def vi (l : List Nat) : List V := l.map fun (x : Nat) => V.int (x : Int)
/-- the list at a holds these numbers -/
def NatsAt (G : Hp) (a : Addr) (ns : List Nat) : Prop := G a = some (.lst (vi ns))
def IntsAt (G : Hp) (a : Addr) (ns : List Int) : Prop := G a = some (.lst (ns.map V.int))
/-- tuples stay -/
def KeepT (H H' : Hp) : Prop := ∀ b xs, H b = some (.tup xs) → H' b = some (.tup xs)
theorem KeepT.of {H H' : Hp} (s : Same H H') : KeepT H H' := fun b xs e => s b _ e
theorem KeepT.upd {H : Hp} {a : Addr} {o u : HO} (h : H a = some u) (n : isTup (some u) = false) : KeepT H (upd H a o) := fun b xs e => by
  rw [upd_ne (ne_of e h (by rintro rfl; cases n))]
  exact e
theorem KeepT.trans {H H1 H2 : Hp} (a : KeepT H H1) (b : KeepT H1 H2) : KeepT H H2 := fun c xs e => b c xs (a c xs e)
theorem tups_keep {H H' : Hp} (k : KeepT H H') {rs : List Addr} {ps : List Pair} (p : Paired (TupAt H) rs ps) : Paired (TupAt H') rs ps := pr_mono (fun r x e => k _ _ e) p
/-- an item of a tuple of two ints -/
theorem tup0 {K : PySem.W.Frag} {H : Hp} {r : Addr} {x : Pair} (h : TupAt H r x) : SqT K H r [.int x.1, .int x.2] := SqT.of h
end Bm

end
section
set_option Elab.async false
set_option linter.all false
set_option maxRecDepth 100000
set_option maxHeartbeats 2000000
namespace Bm
open PySem PySem.Spec PyProof.Rows L2
open Kri5 (Pair Quantity House pairsOf nextAll)

/-! ### the text by places -/
def top (i : Nat) : Stmt := PySem.Challenge.pw_betweenmarks_s01_answers.main.body.getD i (.Pass ⟨0, 0, 0, 0⟩)
abbrev sLast : Stmt := top 8
abbrev sHpl : Stmt := top 9
abbrev sHpr : Stmt := top 10
abbrev sMark : Stmt := top 11
abbrev sAll : Stmt := top 12
abbrev sFpl : Stmt := top 13
abbrev sFdir : Stmt := top 14
abbrev sFol : Stmt := top 15

/-- a def of the text, under its name -/
structure Def (K : PySem.W.Frag) (mg : Str → Option Value) (x : Str) (st : Stmt) (ps : List Str) (f : Addr) (fd : FuncData) : Prop where
  fn : Fun K x x st f fd
  at_ : mg x = some (.ref f)
  bd : Binds K fd ps []
/-- names of the top that the text of follow.py reads -/
structure Dirs (K : PySem.W.Frag) (mg : Str → Option Value) (aD : Addr) : Prop where
  range : mg "range" = none
  len : mg "len" = none
  abs : mg "abs" = none
  srt : mg "sorted" = none
  dirs : mg "DIRECTIONS" = some (.ref aD)
  dirT : ∀ H, SqT K H aD [.int 0, .int 1, .int 2]
  steady : ∃ t, mg "STEADY" = some (.int 1 t)
  rising : ∃ t, mg "RISING" = some (.int 2 t)

def spLast : Sp := fun vs H Q _ => ∃ m : Nat, vs = [.int m] ∧ Q (.int ((2 * m : Nat) : Int)) H
def spHpl : Sp := fun vs H Q _ => ∃ (m : Nat) (p : Int), vs = [.int m, .int p] ∧ Q (.bl (decide (p ≤ ((2 * m : Nat) : Int)))) H
def spHpr : Sp := fun vs H Q _ => ∃ m p d : Nat, vs = [.int m, .int p, .int d] ∧ Q (.bl (decide (p ≤ 2 * m) && decide (d ≤ 2))) H
def spMark : Sp := fun vs H Q _ => ∃ p : Nat, vs = [.int p] ∧ Q (.bl (decide (p % 2 = 1))) H
def spAll : Sp := fun vs H Q _ => ∃ m : Nat, vs = [.int m] ∧ m ≤ 4 ∧ ∀ (H' : Hp) (r : Addr), Same H H' → PairsAt (Nw H H') r (pairsOf m) → Q (.ref r) H'
def spFpl : Sp := fun vs H Q _ => ∃ m p d : Nat, vs = [.int m, .int p, .int d] ∧ m ≤ 4 ∧ p ≤ 2 * m ∧ d ≤ 2 ∧ ∀ r, H r = none → Q (.ref r) (upd H r (.lst (vi (fpl m p d))))

section
variable {P : Program} {w : World} {K : PySem.W.Frag} {mg : Str → Option Value} {base : Heap} {aD : Addr}
theorem scLast : FnScope ["marks"] ["marks"] (defScope sLast) := ⟨rfl, rfl, rfl, by decide +kernel, rfl, by decide +kernel, by decide +kernel⟩
theorem ok_last {f : Addr} {fd : FuncData} (D : Def K mg "last_place" sLast ["marks"] f fd) : FnOk P w K mg base CX0 1 f fd ["marks"] spLast := by
  refine D.fn.ok scLast (fun vs H Q E h => ?_) (fun cdv A outer s H vs Q E hr h => ?_)
  · obtain ⟨m, rfl, _⟩ := h
    rfl
  · obtain ⟨m, rfl, k⟩ := h
    refine ⟨_, pss_one (ps_ret (pe_op op_mul pe_int (pv 0))), ?_⟩
    refine ⟨_, rfl, _, _, rfl, rfl, .inl ⟨by decide, by decide⟩, ?_⟩
    have e : ((2 * m : Nat) : Int) = 2 * (m : Int) := by omega
    rw [e] at k
    exact k
theorem scHpl : FnScope ["marks", "place"] ["marks", "place"] (defScope sHpl) := ⟨rfl, rfl, rfl, by decide +kernel, rfl, by decide +kernel, by decide +kernel⟩
theorem ok_hpl {f fL : Addr} {fd fdL : FuncData} (D : Def K mg "has_place" sHpl ["marks", "place"] f fd) (DL : Def K mg "last_place" sLast ["marks"] fL fdL) : FnOk P w K mg base CX0 2 f fd ["marks", "place"] spHpl := by
  have GL : FnOk P w K mg base CX0 1 fL fdL ["marks"] spLast := ok_last DL
  refine D.fn.ok scHpl (fun vs H Q E h => ?_) (fun cdv A outer s H vs Q E hr h => ?_)
  · obtain ⟨m, p, rfl, _⟩ := h
    rfl
  · obtain ⟨m, p, rfl, k⟩ := h
    refine ⟨_, pss_one (ps_ret (pe_cmpR op_le (pv 1) (pe_call GL hr rfl DL.at_ DL.fn.kp DL.bd .nil pass0 (pa_cons (pv 0) pa_nil)) (nomark _))), ?_⟩
    exact ⟨_, rfl, _, rfl, m, rfl, _, _, rfl, rfl, k⟩
theorem inV_dirs (q : Nat) : inV (.int (q : Int)) [.int 0, .int 1, .int 2] = decide (q ≤ 2) := by
  unfold inV
  simp only [List.any_cons, List.any_nil, eqV]
  rw [Bool.eq_iff_iff]
  simp
  omega
theorem scHpr : FnScope ["marks", "place", "direction"] ["marks", "place", "direction"] (defScope sHpr) := ⟨rfl, rfl, rfl, by decide +kernel, rfl, by decide +kernel, by decide +kernel⟩
theorem ok_hpr {f fH fL : Addr} {fd fdH fdL : FuncData} (D : Def K mg "has_pair" sHpr ["marks", "place", "direction"] f fd) (T : Dirs K mg aD) (DH : Def K mg "has_place" sHpl ["marks", "place"] fH fdH) (DL : Def K mg "last_place" sLast ["marks"] fL fdL) :
    FnOk P w K mg base CX0 3 f fd ["marks", "place", "direction"] spHpr := by
  have GH : FnOk P w K mg base CX0 2 fH fdH ["marks", "place"] spHpl := ok_hpl DH DL
  refine D.fn.ok scHpr (fun vs H Q E h => ?_) (fun cdv A outer s H vs Q E hr h => ?_)
  · obtain ⟨m, p, d, rfl, _⟩ := h
    rfl
  · obtain ⟨m, p, d, rfl, k⟩ := h
    refine ⟨_, pss_one (ps_ret (pe_and (pe_call GH hr rfl DH.at_ DH.fn.kp DH.bd .nil pass0 (pa_cons (pv 0) (pa_cons (pv 1) pa_nil))) (pe_one (pe_cmpR op_in_seq (pv 2) (pe_glob (v := .ref aD) rfl T.dirs rfl) (by with_unfolding_all rfl))))), ?_⟩
    refine ⟨_, rfl, _, rfl, m, (p : Int), rfl, _, rfl, ?_⟩
    have e : decide ((p : Int) ≤ ((2 * m : Nat) : Int)) = decide (p ≤ 2 * m) := by
      rw [Bool.eq_iff_iff, decide_eq_true_eq, decide_eq_true_eq]
      omega
    show if decide ((p : Int) ≤ ((2 * m : Nat) : Int)) = true then _ else _
    rw [e]
    refine ite2 (fun c => ?_) (fun c => ?_)
    · rw [c, Bool.true_and] at k
      refine ⟨_, rfl, aD, _, rfl, .inr (T.dirT _), rfl, rfl, ?_⟩
      show Q (.bl (inV (.int (d : Int)) [.int 0, .int 1, .int 2])) H
      rw [inV_dirs]
      exact k
    · rw [Bool.eq_false_iff.mpr c, Bool.false_and] at k
      exact k
theorem scMark : FnScope ["place"] ["place"] (defScope sMark) := ⟨rfl, rfl, rfl, by decide +kernel, rfl, by decide +kernel, by decide +kernel⟩
theorem ok_mark {f : Addr} {fd : FuncData} (D : Def K mg "is_mark" sMark ["place"] f fd) : FnOk P w K mg base CX0 1 f fd ["place"] spMark := by
  refine D.fn.ok scMark (fun vs H Q E h => ?_) (fun cdv A outer s H vs Q E hr h => ?_)
  · obtain ⟨m, rfl, _⟩ := h
    rfl
  · obtain ⟨p, rfl, k⟩ := h
    refine ⟨_, pss_one (ps_ret (pe_cmpR op_eq (pe_op op_mod (pv 0) pe_int) pe_int (nomark _))), ?_⟩
    refine ⟨_, rfl, _, _, rfl, rfl, (by show (0 : Int) < 2; decide), rfl, ?_⟩
    have e : decide (V.int ((p : Int) % 2) = V.int 1) = decide (p % 2 = 1) := by
      rw [dec_int, Bool.eq_iff_iff]
      simp
      omega
    show Q (V.bl (decide (V.int ((p : Int) % 2) = V.int 1))) H
    rw [e]
    exact k
theorem scAll : FnScope ["marks", "found", "place", "direction"] ["marks"] (defScope sAll) := ⟨rfl, rfl, rfl, by decide +kernel, rfl, by decide +kernel, by decide +kernel⟩
/-- the pairs of the first i places -/
def upTo (i : Nat) : List Pair := (List.range i).flatMap fun p => (List.range 3).map fun d => (p, d)
theorem upTo_succ (i : Nat) : upTo (i + 1) = upTo i ++ (List.range 3).map fun d => (i, d) := by
  unfold upTo
  rw [List.range_succ (n := i), List.flatMap_append]
  simp
theorem upTo_len (i : Nat) : (upTo i).length = 3 * i := by
  unfold upTo
  rw [List.length_flatMap]
  simp [List.map_const', Nat.mul_comm]
theorem range_one (j : Nat) (i : Nat) : (List.range (j + 1)).map (fun d => (i, d)) = (List.range j).map (fun d => (i, d)) ++ [(i, j)] := by
  rw [List.range_succ, List.map_append]
  rfl
theorem line_small {n : Nat} (h : n < 1000) : n < sizeLine := Nat.lt_of_lt_of_le h (by rw [sizeLine_eq]; decide)
theorem ok_all {f fL : Addr} {fd fdL : FuncData} (D : Def K mg "all_pairs" sAll ["marks"] f fd) (T : Dirs K mg aD) (DL : Def K mg "last_place" sLast ["marks"] fL fdL) : FnOk P w K mg base CX0 2 f fd ["marks"] spAll := by
  have GL : FnOk P w K mg base CX0 1 fL fdL ["marks"] spLast := ok_last DL
  refine D.fn.ok scAll (fun vs H Q E h => ?_) (fun cdv A outer s H vs Q E hr h => ?_)
  · obtain ⟨m, rfl, _⟩ := h
    rfl
  · obtain ⟨m, rfl, hm, k⟩ := h
    refine ⟨_, pss_cons (ps_set (i := 1) scAll.nd rfl (Or.inl rfl) (pe_lst pa_nil))
      (pss_cons (ps_for PassesOwn.never rfl (pi_range1 rfl T.range (pa_cons (pe_op op_add (pe_call GL hr rfl DL.at_ DL.fn.kp DL.bd .nil pass0 (pa_cons (pv 0) pa_nil)) pe_int) pa_nil)) (pg_name (i := 2) scAll.nd rfl (Or.inl rfl))
        (pss_one (ps_for PassesOwn.never rfl (pi_tup (pe_glob (v := .ref aD) rfl T.dirs rfl)) (pg_name (i := 3) scAll.nd rfl (Or.inl rfl))
          (pss_one (ps_expr (pe_bm PySem.F.plainAttrs_list PySem.F.slot_list_append PySem.F.type_list_append mt_append (pv 1) (pa_cons (pe_tup (pa_cons (pv 2) (pa_cons (pv 3) pa_nil))) pa_nil)))))))
      (pss_one (ps_ret (pv 1)))), ?_⟩
    refine ⟨Nat.zero_le _, fun l hl => ?_⟩
    refine ⟨_, rfl, m, rfl, _, _, rfl, rfl, _, rfl, by omega, by omega, ?_⟩
    have en : (((2 * m : Nat) : Int) + 1).toNat = 2 * m + 1 := by omega
    rw [en]
    refine for_range (lo := 0) (n := 2 * m + 1) (fun i σ H' => ∃ (v2 v3 : Option V) (rs : List Addr), σ = [some (.int m), some (.ref l), v2, v3] ∧ Same H H' ∧ H' l = some (.lst (rs.map V.ref)) ∧ Paired (TupAt H') rs (upTo i))
      ⟨none, none, [], rfl, same_new hl, upd_same, .nil⟩ ?_ ?_
    · rintro i σ H1 hi ⟨v2, v3, rs, rfl, s1, h1, p1⟩
      refine ⟨aD, rfl, ⟨_, T.dirT _⟩, for_tup (K := K) (a := aD) (xs := [.int 0, .int 1, .int 2]) (fun j σ H' => ∃ (v3 : Option V) (rs : List Addr), σ = [some (.int m), some (.ref l), some (.int (0 + (i : Int))), v3] ∧ Same H H' ∧ H' l = some (.lst (rs.map V.ref)) ∧ Paired (TupAt H') rs (upTo i ++ (List.range j).map fun d => (i, d)))
        ⟨v3, rs, rfl, s1, h1, by simpa using p1⟩ (fun j σ H' _ _ => T.dirT _) ?_ ?_⟩
      · rintro j x σ H2 hx ⟨v3, rs, rfl, s2, h2, p2⟩
        have hj : j < 3 := (List.getElem?_eq_some_iff.mp hx).1
        have ex : x = .int (j : Int) := by
          match j, hj, hx with
          | 0, _, hx => exact (Option.some.inj hx).symm
          | 1, _, hx => exact (Option.some.inj hx).symm
          | 2, _, hx => exact (Option.some.inj hx).symm
        subst ex
        refine ⟨_, rfl, .inl ⟨rfl, _, SqL.of h2⟩, _, rfl, _, rfl, (by show 2 ≤ sizeLine; rw [sizeLine_eq]; decide), fun t ht => ?_⟩
        have nlt : l ≠ t := ne_of_none h2 ht
        have hlen : rs.length < sizeLine := by
          refine line_small ?_
          rw [p2.length, List.length_append, upTo_len, List.length_map, List.length_range]
          omega
        refine ⟨l, _, _, rfl, rfl, (by rw [upd_ne nlt]; exact h2), (by rw [List.length_map]; exact hlen), ?_⟩
        refine ⟨_, rs ++ [t], rfl, ?_, ?_, ?_⟩
        · intro b o e
          have e2 := s2 b o e
          have nb : b ≠ l := by rintro rfl; rw [hl] at e; cases e
          rw [upd_ne nb, upd_ne (ne_of_none e2 ht)]
          exact e2
        · rw [upd_same, List.map_append]
          rfl
        · rw [range_one, ← List.append_assoc]
          have kt : KeepT H2 (upd (upd H2 t (.tup [.int (0 + (i : Int)), .int (j : Int)])) l (.lst (rs.map V.ref ++ [.ref t]))) :=
            (KeepT.of (same_new ht)).trans (KeepT.upd (u := .lst (rs.map V.ref)) (by rw [upd_ne nlt]; exact h2) rfl)
          refine (tups_keep kt p2).snoc ?_
          show (upd (upd H2 t _) l _) t = _
          rw [upd_ne nlt.symm, upd_same]
          show some (HO.tup [V.int (0 + (i : Int)), V.int (j : Int)]) = some (HO.tup [V.int ((i : Nat) : Int), V.int ((j : Nat) : Int)])
          rw [Int.zero_add]
      · rintro σ H2 ⟨v3, rs, rfl, s2, h2, p2⟩
        exact ⟨_, _, rs, rfl, s2, h2, by rw [upTo_succ]; exact p2⟩
    · rintro σ H1 ⟨v2, v3, rs, rfl, s1, h1, p1⟩
      refine ⟨_, rfl, k H1 l s1 ⟨rs, Nw_at hl h1, pr_mono (fun r x e => Nw_tup e) p1⟩⟩
theorem scFpl : FnScope ["marks", "place", "direction", "beyond"] ["marks", "place", "direction"] (defScope sFpl) := ⟨rfl, rfl, rfl, by decide +kernel, rfl, by decide +kernel, by decide +kernel⟩
theorem ok_fpl {f fH fL fM : Addr} {fd fdH fdL fdM : FuncData} (D : Def K mg "following_places" sFpl ["marks", "place", "direction"] f fd) (T : Dirs K mg aD) (DH : Def K mg "has_place" sHpl ["marks", "place"] fH fdH) (DL : Def K mg "last_place" sLast ["marks"] fL fdL) (DM : Def K mg "is_mark" sMark ["place"] fM fdM) :
    FnOk P w K mg base CX0 3 f fd ["marks", "place", "direction"] spFpl := by
  have GH : FnOk P w K mg base CX0 2 fH fdH ["marks", "place"] spHpl := ok_hpl DH DL
  have GM : FnOk P w K mg base CX0 1 fM fdM ["place"] spMark := ok_mark DM
  obtain ⟨tS, hS⟩ := T.steady
  obtain ⟨tR, hR⟩ := T.rising
  refine D.fn.ok scFpl (fun vs H Q E h => ?_) (fun cdv A outer s H vs Q E hr h => ?_)
  · obtain ⟨m, p, d, rfl, _⟩ := h
    rfl
  · obtain ⟨m, p, d, rfl, hm, hp, hd, k⟩ := h
    refine ⟨_, pss_cons (ps_if (pt_cmpR op_eq (pv 2) (pe_glob (v := .int 1) rfl hS ⟨_, rfl⟩) (nomark _)) (pss_one (ps_ret (pe_lst (pa_cons (pv 1) pa_nil)))) pss_nil)
      (pss_cons (ps_set (i := 3) scFpl.nd rfl (Or.inl rfl) (pe_ifExp (pt_cmpR op_eq (pv 2) (pe_glob (v := .int 2) rfl hR ⟨_, rfl⟩) (nomark _)) (pe_op op_add (pv 1) pe_int) (pe_op op_sub (pv 1) pe_int)))
      (pss_cons (ps_if (pt_val (pe_call GM (hr.mono (by decide)) rfl DM.at_ DM.fn.kp DM.bd .nil pass0 (pa_cons (pv 1) pa_nil))) (pss_one (ps_ret (pe_lst (pa_cons (pv 3) pa_nil)))) pss_nil)
      (pss_cons (ps_if (PW.pt (pw_or (pt_cmpR op_lt (pv 3) pe_int (nomark _)) (pw_or1 (pt_not (pt_val (pe_call GH hr rfl DH.at_ DH.fn.kp DH.bd .nil pass0 (pa_cons (pv 0) (pa_cons (pv 3) pa_nil)))))))) (pss_one (ps_ret (pe_lst (pa_cons (pv 1) pa_nil)))) pss_nil)
      (pss_one (ps_ret (pe_lst (pa_cons (pv 1) (pa_cons (pv 3) pa_nil)))))))), ?_⟩
    have one : ∀ (x : Nat), fpl m p d = [x] → ∀ r, H r = none → Q (.ref r) (upd H r (.lst [.int (x : Int)])) := fun x e r hr' => by
      have := k r hr'
      rw [e] at this
      exact this
    refine ⟨_, rfl, rfl, _, rfl, ite2 (fun c => ?_) (fun c => ?_)⟩
    · have e1 : d = 1 := by
        have := of_decide_eq_true c
        have := V.int.inj this
        omega
      refine ⟨_, rfl, (by show 1 ≤ sizeLine; rw [sizeLine_eq]; decide), fun r hr' => one p (by unfold fpl; rw [if_pos e1]) r hr'⟩
    · have e1 : ¬ d = 1 := fun e => c (by subst e; exact decide_eq_true rfl)
      refine ⟨_, rfl, rfl, _, rfl, ite2 (fun c2 => ?_) (fun c2 => ?_)⟩
      · have e2 : d = 2 := by
          have := V.int.inj (of_decide_eq_true c2)
          omega
        refine ⟨_, rfl, _, _, rfl, rfl, ?_⟩
        refine ⟨_, rfl, p, rfl, _, rfl, ite2 (fun c3 => ?_) (fun c3 => ?_)⟩
        · have o := of_decide_eq_true c3
          refine ⟨_, rfl, (by show 1 ≤ sizeLine; rw [sizeLine_eq]; decide), fun r hr' => one (p + 1) (by unfold fpl; rw [if_neg e1, if_pos o, if_pos e2]) r hr'⟩
        · have o : ¬ p % 2 = 1 := fun q => c3 (decide_eq_true q)
          refine ⟨_, rfl, _, _, rfl, rfl, _, rfl, ite2 (fun c4 => ?_) (fun c4 => ?_)⟩
          · have := of_decide_eq_true c4
            omega
          · refine ⟨_, rfl, _, rfl, m, (p : Int) + 1, rfl, _, rfl, ite2 (fun c5 => ?_) (fun c5 => ?_)⟩
            · rw [Bool.not_eq_true', decide_eq_false_iff_not] at c5
              have l : p = 2 * m := by omega
              refine ⟨_, rfl, (by show 1 ≤ sizeLine; rw [sizeLine_eq]; decide), fun r hr' => one p (by unfold fpl; rw [if_neg e1, if_neg o, if_pos (.inl ⟨e2, l⟩)]) r hr'⟩
            · rw [Bool.not_eq_true', decide_eq_false_iff_not, Decidable.not_not] at c5
              have l : ¬ p = 2 * m := by omega
              refine ⟨_, rfl, _, rfl, (by show 2 ≤ sizeLine; rw [sizeLine_eq]; decide), fun r hr' => ?_⟩
              have := k r hr'
              have e : fpl m p d = [p, p + 1] := by unfold fpl; rw [if_neg e1, if_neg o, if_neg (by omega), if_pos e2]
              rw [e] at this
              exact this
      · have e2 : ¬ d = 2 := fun e => c2 (by subst e; exact decide_eq_true rfl)
        have e0 : d = 0 := by omega
        refine ⟨_, rfl, _, _, rfl, rfl, ?_⟩
        refine ⟨_, rfl, p, rfl, _, rfl, ite2 (fun c3 => ?_) (fun c3 => ?_)⟩
        · have o := of_decide_eq_true c3
          have ez : (p : Int) - 1 = ((p - 1 : Nat) : Int) := by omega
          refine ⟨_, rfl, (by show 1 ≤ sizeLine; rw [sizeLine_eq]; decide), fun r hr' => ?_⟩
          have := one (p - 1) (by unfold fpl; rw [if_neg e1, if_pos o, if_neg e2]) r hr'
          rw [← ez] at this
          exact this
        · have o : ¬ p % 2 = 1 := fun q => c3 (decide_eq_true q)
          refine ⟨_, rfl, _, _, rfl, rfl, _, rfl, ite2 (fun c4 => ?_) (fun c4 => ?_)⟩
          · have q := of_decide_eq_true c4
            have l : p = 0 := by omega
            refine ⟨_, rfl, (by show 1 ≤ sizeLine; rw [sizeLine_eq]; decide), fun r hr' => one p (by unfold fpl; rw [if_neg e1, if_neg o, if_pos (.inr ⟨e2, l⟩)]) r hr'⟩
          · have l : ¬ p = 0 := fun q => c4 (decide_eq_true (by subst q; show ((0 : Nat) : Int) - 1 < 0; omega))
            refine ⟨_, rfl, _, rfl, m, (p : Int) - 1, rfl, _, rfl, ite2 (fun c5 => ?_) (fun c5 => ?_)⟩
            · rw [Bool.not_eq_true', decide_eq_false_iff_not] at c5
              omega
            · refine ⟨_, rfl, _, rfl, (by show 2 ≤ sizeLine; rw [sizeLine_eq]; decide), fun r hr' => ?_⟩
              have := k r hr'
              have e : fpl m p d = [p, p - 1] := by unfold fpl; rw [if_neg e1, if_neg o, if_neg (by omega), if_neg e2]
              rw [e] at this
              have ez : (p : Int) - 1 = ((p - 1 : Nat) : Int) := by omega
              show Q (.ref r) (upd H r (.lst [.int (p : Int), .int ((p : Int) - 1)]))
              rw [ez]
              exact this
end
end Bm

end
section
set_option Elab.async false
set_option linter.all false
set_option maxRecDepth 100000
set_option maxHeartbeats 2000000
namespace Bm
open PySem PySem.Spec PyProof.Rows L2
open Kri5 (Pair)

/-! ### a call of what stands in a local name -/
section
variable {X : Cx} {i : Nat} {x : Str} {p pos : Pos} {e : Expr} {es : List Expr} {t : TA}
def tCallV (X : Cx) (i : Nat) (t : TA) : TE := fun σ H Q => ∃ (f : Addr) (k : Nat) (fd : FuncData) (ps : List Str) (sp : Sp), σ[i]? = some (some (.ref f)) ∧ FnOk X.prog X.w X.K X.mg X.base CX0 k f fd ps sp ∧ Room k X.A ∧ PySem.W.keepIn X.K (.ref f) = true ∧ Binds X.K fd ps [] ∧ t σ H fun vs H1 => sp vs H1 Q E0
theorem pe_callV (hN : X.N[i]? = some x) (hv : Vis X.env.scope x) (ha : PA X (e :: es) t) (hdb : (x == ("__debug__" : Str)) = false := by decide) (hcd : (x == ("__classdict__" : Str)) = false := by decide)
    (he : starEach (e :: es) X.env = (false, eval e X.env) :: starEach es X.env := by rfl) (hpl : (backTo pos (starEach es X.env)).any (·.1) = false := by rfl) : PE X (.Call (.Name x p) (e :: es) [] pos) (tCallV X i t) := by
  intro pins s σ H Q I ⟨f, k, fd, ps, sp, hi, F, hr, hk, hb, h⟩
  refine wpAny_Call_Name_kw (thn (pe_var (pos := p) hN hv hdb hcd pins s σ H (fun v H1 => v = V.ref f ∧ H1 = H) I ⟨_, hi, rfl, rfl⟩) fun u s1 ⟨v, H1, I1, rv, ev, eH⟩ => ?_)
  subst ev eH
  cases rv
  refine PySem.W.callWith_K (h₀ := X.base) I1.ok.mod.kin hk (thn (ha pos pins s1 σ H1 _ I1 h) fun us s2 ⟨vs, H2, I2, r, q⟩ => ⟨I2.kIn, ?_⟩) he hpl
  exact run_fn (dvs := []) (ds := []) (E := E0) F hr hb .nil pass0 I2 r (by rw [List.append_nil]; exact q)
end

/-! ### a dict of the top whose keys are texts and whose values are defs -/
/-- the dict at a, as the top has written it -/
def KTab (K : PySem.W.Frag) (a : Addr) (D : List (Str × Addr)) : Prop :=
  (a == sysModules) = false ∧ ∃ o es ep, K.lookup a = some o ∧ o.ExactDict ∧ o.data = .dict es ep ∧ KTD.Rows (fun f v => v = Value.ref f) es.toList D
section
variable {X : Cx} {pins : List (Addr × Obj)} {σ : L2.St} {H : Hp} {s : Shared} {a f : Addr} {D : List (Str × Addr)} {k : Str} {tq : Tok} {A : Around} {E : Value → Shared → Prop}
theorem ktab_get {Q : Option Value → Shared → Prop} (I : Inv X pins σ H s) (T : KTab X.K a D) (h1 : ∀ f, KTD.datumAt k D = some f → Q (some (.ref f)) { s with toks := s.toks + 1 }) (h2 : KTD.datumAt k D = none → Q none { s with toks := s.toks + 1 }) :
    wpAny (model X.prog X.w) A (dictGet a (.str k tq)) Q E s := by
  obtain ⟨_, o, en, ep, hk, hx, hd, hr⟩ := T
  have ho := I.kIn a o hk
  unfold dictGet
  try with_reducible refine wpAny_holding ?_
  refine wpAny_bind (wpAny_pyHash_str ?_)
  refine wpAny_bind (KTD.kt_dictFind_strs (s := { s with toks := s.toks + 1 }) ho hd (by rw [← Array.all_toList]; exact hr.exact) ?_)
  have hf0 : findBy (fun k v => v.isStr k) en k = (en.toList.find? fun e => e.key.isStr k).map (·.val) := by
    cases en with
    | mk l => simp [findBy]
  have hq0 : Q (findBy (fun k v => v.isStr k) en k) { s with toks := s.toks + 1 } := by
    rw [hf0]
    cases hat : KTD.datumAt k D with
    | some g =>
      obtain ⟨v, hv, rfl⟩ := hr.find_some hat
      rw [hv]
      exact h1 g hat
    | none =>
      rw [hr.find_none hat]
      exact h2 hat
  rw [findBy_of_findIdx?] at hq0
  cases hi : en.findIdx? fun e => e.key.isStr k with
  | none =>
    rw [hi] at hq0
    exact wpAny_pure hq0
  | some j =>
    rw [hi] at hq0
    exact wpAny_bind (wpAny_dictEntries (s := { s with toks := s.toks + 1 }) ho hd (wpAny_pure hq0))
theorem ktab_type (I : Inv X pins σ H s) (T : KTab X.K a D) : s.TypeIs (.ref a) "dict" := by
  obtain ⟨_, o, en, ep, hk, hx, _⟩ := T
  exact ⟨o, I.kIn a o hk, hx.1⟩
theorem ktab_item {Q : Value → Shared → Prop} (I : Inv X pins σ H s) (T : KTab X.K a D) (hf0 : KTD.datumAt k D = some f) (hin : Q (.ref f) { s with toks := s.toks + 1 }) : wpAny (model X.prog X.w) A (getItem (.ref a) (.str k tq)) Q E s := by
  have hty := ktab_type I T
  unfold getItem
  try with_reducible refine wpAny_holding ?_
  refine wpAny_bind (wpAny_sequenceKey hty (by decide) ?_)
  refine wpAny_bind (wpAny_callSpecial?_slot (name := Str.ofString "__getitem__") hty slot_dict_getitem (wpAny_call_entry slot_dict_getitem hty entry_dict_getitem ?_ (args_dict_getitem _ _)))
  show wpAny _ _ (dictGet a (.str k tq) >>= _) _ _ s
  refine wpAny_bind (ktab_get I T (fun g hg => ?_) fun hn => ?_)
  · rw [hf0] at hg
    cases hg
    exact wpAny_pure ⟨_, rfl, wpAny_pure hin⟩
  · rw [hf0] at hn
    cases hn
theorem ktab_in {Q : Value → Shared → Prop} (I : Inv X pins σ H s) (T : KTab X.K a D) (hin : Q (.bool (KTD.datumAt k D).isSome) { s with toks := s.toks + 1 }) : wpAny (model X.prog X.w) A (compareOp .In (.str k tq) (.ref a)) Q E s := by
  have hty := ktab_type I T
  show wpAny _ _ (do return .bool (← contains (.ref a) (.str k tq))) Q E s
  refine wpAny_bind ?_
  unfold contains
  try with_reducible refine wpAny_holding ?_
  refine wpAny_bind (wpAny_specialOf hty slot_dict_contains.lookup ?_)
  show wpAny _ _ (if (some (Value.builtin "dict.__contains__") == some Value.none) = true then _ else _) _ E s
  rw [if_neg (by rw [beq_builtin_none]; exact Bool.false_ne_true)]
  refine wpAny_bind (wpAny_callSpecialUnlessNone?_slot (name := Str.ofString "__contains__") hty slot_dict_contains (wpAny_call_entry slot_dict_contains hty entry_dict_contains ?_ (args_dict_contains _ _)))
  show wpAny _ _ (dictGet a (.str k tq) >>= _) _ _ s
  refine wpAny_bind (ktab_get I T (fun g hg => ?_) fun hn => ?_)
  · rw [hg] at hin
    show wpAny _ _ (ret (.bool true)) _ _ _
    exact wpAny_pure ⟨_, rfl, wpAny_truthy_bool (wpAny_pure hin)⟩
  · rw [hn] at hin
    show wpAny _ _ (Builtin.Dict.pendingKey? a (.str k tq) >>= _) _ _ _
    exact wpAny_bind (wpAny_pendingKey_other T.1 (wpAny_pure ⟨_, rfl, wpAny_truthy_bool (wpAny_pure hin)⟩))
end
section
variable {X : Cx} {o i : Expr} {pos : Pos} {td ty : TE}
/-- d[name], d a dict of the top -/
def tKGet (K : PySem.W.Frag) (td ty : TE) : TE := fun σ H Q => td σ H fun x H1 => ty σ H1 fun y H2 => ∃ a D k f, x = .ref a ∧ y = .str k ∧ KTab K a D ∧ KTD.datumAt k D = some f ∧ Q (.ref f) H2
theorem pe_kget (ho : PE X o td) (hi : PE X i ty) (hs : NoSl i) : PE X (.Subscript o i pos) (tKGet X.K td ty) := by
  intro pins s σ H Q I h
  refine subD_of PySem.F.slot_dict_getitem.lookup hs (thn (ho pins s σ H _ I h) fun u s1 ⟨x, H1, I1, rx, q1⟩ => thn (hi pins s1 σ H1 _ I1 q1) fun iv s2 ⟨y, H2, I2, ry, a, D, k, f, ex, ey, T, hf, q2⟩ => ?_)
  subst ex ey
  cases rx
  obtain ⟨t, rfl⟩ := ry
  exact ⟨ktab_type I2 T, ktab_item I2 T hf ⟨.ref f, H2, I2.tok _, rfl, q2⟩⟩
/-- name in d -/
def tKIn (K : PySem.W.Frag) (ty td : TE) : TE := fun σ H Q => ty σ H fun y H1 => td σ H1 fun x H2 => ∃ a D k, x = .ref a ∧ y = .str k ∧ KTab K a D ∧ Q (.bl (KTD.datumAt k D).isSome) H2
theorem pc_kin (hi : PE X i ty) (ho : PE X o td) : PC X .In i o (tKIn X.K ty td) := by
  intro pins s σ H Q I h
  refine thn (hi pins s σ H _ I h) fun iv s1 ⟨y, H1, I1, ry, q1⟩ => thn (ho pins s1 σ H1 _ I1 q1) fun u s2 ⟨x, H2, I2, rx, a, D, k, ex, ey, T, q2⟩ => ?_
  subst ex ey
  cases rx
  obtain ⟨t, rfl⟩ := ry
  exact ktab_in I2 T ⟨.bl _, H2, I2.tok _, rfl, q2⟩
end

/-! ### xs.extend(t), t a tuple -/
section
variable {X : Cx}
theorem ext_tup (l b : Addr) (items items2 : Array Value) (n n2 : Nat) (dd : Option Addr) (sl : Array (Option Value)) (hs0 : ¬ (!items.isEmpty && Builtin.List.listTooLong (items.size + items2.size)) = true) (hs1 : items.size ≤ sizeLine)
    (hs2 : items.size + items2.size ≤ sizeLine + 1) : Meets (Builtin.«list.extend» ⟨[.ref l, .ref b], []⟩)
      (fun _ R s => s.heap.get? l = some { cls := .type "list", dict := none, data := .seq items n, slots := #[] } ∧ s.heap.get? b = some { cls := .type "tuple", dict := dd, data := .seq items2 n2, slots := sl } ∧
        R (.ok (.ret Value.none)) { s with heap := s.heap.update l (Obj.mapSeq fun x => x ++ items2), toks := s.toks }) :=
  .of_wp fun prog w A R s h => by
    obtain ⟨hp, g, d, tk, os⟩ := s
    obtain ⟨hl, hb, h⟩ := h
    have f2 := AutoSeq1.sub_tuple_tuple
    have f3 := AutoSeq1.sub_list_list
    have f4 := AutoSeq1.sub_tuple_list
    have f5 := AutoSeq1.sub_list_tuple
    have hz2 : (items ++ items2).size ≤ sizeLine + 1 := by rw [Array.size_append]; exact hs2
    wp_walk using (wpAny_updateSeq hl rfl (hz := hs1) (_hz' := hz2)), AutoSeq1.wpAny_loadPart' hl, AutoSeq1.wpAny_loadPart' hb
    exact ⟨_, rfl, h⟩
def rExtendT (K : PySem.W.Frag) : V → List V → Hp → VK → Prop := fun x vs H Q => ∃ l b xs zs, x = .ref l ∧ vs = [.ref b] ∧ H l = some (.lst xs) ∧ SqT K H b zs ∧ xs.length + zs.length ≤ sizeLine ∧ Q .non (upd H l (.lst (xs ++ zs)))
theorem mt_extendT : MtM X "list.extend" (rExtendT X.K) := by
  intro pins s σ H x vs v us Q I rx rv ⟨l, b, xs, zs, ex, ev, hH, hB, hz, q⟩
  subst ex ev
  cases rx
  obtain ⟨u, rfl, ru⟩ := rv.one
  cases ru
  obtain ⟨z, its, n, r, hl, e⟩ := I.lstM hH
  obtain ⟨its2, r2, ⟨ob, e2, hc, n2, hd⟩, z2⟩ := I.tuple hB
  have hl2 := r2.length
  have hsz : its.toArray.size + its2.toArray.size ≤ sizeLine := by rw [List.size_toArray, List.size_toArray]; omega
  have hlong : ¬ (!its.toArray.isEmpty && Builtin.List.listTooLong (its.toArray.size + its2.toArray.size)) = true := by rw [notLongL hsz, Bool.and_false]; exact Bool.false_ne_true
  obtain ⟨ocls, odict, odata, oslots⟩ := ob
  have hc' : ocls = Value.type "tuple" := hc
  have hd' : odata = Data.seq its2.toArray n2 := hd
  subst hc' hd'
  refine call_meets F.slot_list_extend ⟨_, e, rfl⟩ F.entry_list_extend (F.args_list_extend_2 _ _)
    (ext_tup l b its.toArray its2.toArray n n2 odict oslots hlong (by rw [List.size_toArray]; omega) (by omega)) ⟨e, e2, ?_⟩
  refine ⟨.non, _, I.lset (its' := its ++ its2) hH e (by simp) (r.append r2) ?_, rfl, q⟩
  rw [List.length_append]
  omega
end

/-! ### sorted(d), d a dict whose keys are pairs of ints -/
def kp (x : Pair) : List Key := [Sum.inl (x.1 : Int), Sum.inl (x.2 : Int)]
section
variable {prog : Program} {w : World} {d : Addr} {o : Obj} {es : Array DictEntry} {ep : Nat}
theorem walks_raw {A : Around} (hh : A.handled = none) (it d : Addr) (hne : d ≠ it) (o : Obj) (hd : o.data = .dict es ep) :
    Walks prog w A it [it, d] [it] es.size (fun i v => ∃ en, es[i]? = some en ∧ v = en.key) (fun i h => h.IsKeyIter it d i es.size ep ∧ h.get? d = some o) where
  sub := fun b hb => by
    rw [List.mem_singleton] at hb
    rw [hb]
    exact List.mem_cons_self ..
  frame := fun i h h' st k => ⟨st.1.at fun oi e => k it (List.mem_cons_self ..) oi e, k d (by simp) o st.2⟩
  item := fun i s Q E hi st hQ => by
    obtain ⟨en, hen⟩ : ∃ en, es[i]? = some en := ⟨es[i], Array.getElem?_eq_getElem hi⟩
    refine next_key_item st.1 st.2 hd rfl hen fun h' st' sb => ?_
    exact hQ en.key h' s.toks ⟨en, hen, rfl⟩ ⟨st', (sb.2 d hne).trans st.2⟩ fun b ob hb e => (sb.2 b (by simpa using hb)).trans e
  done := fun s Q E st hQ => next_key_end hh st.1 st.2 hd rfl (Nat.le_refl _) fun h' eb => hQ h' s.toks fun b ob hb e => eb b ob (by simpa using hb) e
  self := fun i s Q E st hQ => wpAny_pyIter_keyiter st.1 hQ
theorem src_raw (lo : (d == sysModules) = false) (hx : o.ExactDict) (hd : o.data = .dict es ep) :
    PySem.W.KdlSrc prog w "dict" d d es.size (fun i v => ∃ en, es[i]? = some en ∧ v = en.key) (fun h => h.get? d = some o) where
  type := fun s ok => ⟨o, ok, hx.1⟩
  there := fun h ok => ⟨Heap.lt_size ok, Heap.lt_size ok⟩
  keep := fun h h' ok k => k d (.inl rfl) o ok
  notList := by decide
  notTuple := by decide
  hint := fun A E s Q ok hq => PySem.W.kdl_hint_dict ⟨o, ok, hx.1⟩ hq
  iter := fun A s hh ok => ⟨_, _, fun E Q hq => iter_keys lo ok hx hd hq, walks_raw hh _ d (Nat.ne_of_lt (Heap.lt_size ok)) o hd, ⟨⟨_, Heap.get?_push_size _ rfl, rfl, rfl⟩, Heap.get?_push_of_some _ ok⟩⟩
end
end Bm

end
section
set_option Elab.async false
set_option linter.all false
set_option maxRecDepth 100000
set_option maxHeartbeats 2000000
namespace Bm
open PySem PySem.Spec PyProof.Rows L2
open Kri5 (Pair)

/-! ### the sorting of tuples of two ints -/
/-- the pair that a tuple of two ints holds -/
def decP (H : Hp) (r : Addr) : Pair := match H r with
  | some (.tup [.int a, .int b]) => (a.toNat, b.toNat)
  | _ => (0, 0)
theorem decP_of {H : Hp} {r : Addr} {x : Pair} (h : TupAt H r x) : decP H r = x := by
  unfold decP
  rw [show H r = some (.tup [.int x.1, .int x.2]) from h]
  rfl
theorem decP_map {H : Hp} : ∀ {rs : List Addr} {ps : List Pair}, Paired (TupAt H) rs ps → rs.map (decP H) = ps
  | _, _, .nil => rfl
  | _, _, .cons r t => by rw [List.map_cons, decP_of r, decP_map t]
theorem pr_dec {H : Hp} : ∀ {rs : List Addr}, (∀ r ∈ rs, ∃ x, TupAt H r x) → Paired (TupAt H) rs (rs.map (decP H))
  | [], _ => .nil
  | r :: rs, h => by
    obtain ⟨x, hx⟩ := h r (List.mem_cons_self ..)
    refine .cons ?_ (pr_dec fun q hq => h q (List.mem_cons_of_mem _ hq))
    rw [decP_of hx]
    exact hx
def adr : Value → Addr
  | .ref a => a
  | _ => 0
theorem adr_map (rs : List Addr) : (rs.map Value.ref).map adr = rs := by
  rw [List.map_map]
  exact (List.map_congr_left fun a _ => rfl).trans (List.map_id rs)
theorem ref_adr : ∀ {l : List Value}, (∀ v ∈ l, ∃ a, v = Value.ref a) → (l.map adr).map Value.ref = l
  | [], _ => rfl
  | v :: l, h => by
    obtain ⟨a, rfl⟩ := h v (List.mem_cons_self ..)
    show Value.ref a :: (l.map adr).map Value.ref = _
    rw [ref_adr fun v hv => h v (List.mem_cons_of_mem _ hv)]
theorem vals_refs : ∀ rs : List Addr, Vals (rs.map V.ref) (rs.map Value.ref)
  | [] => .nil
  | r :: rs => .cons rfl (vals_refs rs)

section
variable {X : Cx} {pins : List (Addr × Obj)} {σ : L2.St} {H : Hp} {s : Shared}
def noText : Nat → Bool := fun _ => false
/-- a tracked tuple of two ints, as the sort reads it -/
theorem tup_raw (I : Inv X pins σ H s) {r : Addr} {x : Pair} (h : TupAt H r x) : ∃ (o : Obj) (t u : Tok) (n : Nat), s.heap.get? r = some o ∧ o.cls = .type "tuple" ∧ o.data = .seq #[.int x.1 t, .int x.2 u] n := by
  obtain ⟨_, its, rv, o, e, hc, n, hd⟩ := I.hok r _ h
  cases rv with
  | cons r1 rr =>
    cases rr with
    | cons r2 rr =>
      cases rr
      obtain ⟨t, rfl⟩ := r1
      obtain ⟨u, rfl⟩ := r2
      exact ⟨o, t, u, n, e, hc, hd⟩
theorem key_raw (I : Inv X pins σ H s) {r : Addr} {x : Pair} (h : TupAt H r x) : G.tupKeyC s.heap noText (.ref r) = some [Sum.inl (x.1 : Int), Sum.inl (x.2 : Int)] := by
  obtain ⟨o, t, u, n, e, hc, hd⟩ := tup_raw I h
  unfold G.tupKeyC
  rw [if_pos (by unfold G.isTupObj; dsimp only; rw [e]; dsimp only; rw [hc]; rfl)]
  unfold tupKey
  dsimp only
  rw [e]
  dsimp only
  rw [hd]
  rfl
theorem tups_raw (I : Inv X pins σ H s) : ∀ {rs : List Addr} {ps : List Pair}, Paired (TupAt H) rs ps → ∃ fs, TupsOf s.heap noText (rs.map Value.ref) fs
  | _, _, .nil => ⟨[], .nil⟩
  | _, _, .cons r t => by
    obtain ⟨o, t1, t2, n, e, hc, hd⟩ := tup_raw I r
    obtain ⟨fs, h⟩ := tups_raw I t
    exact ⟨_, .cons ⟨_, o, _, n, rfl, e, hc, hd, rfl, fun _ => ⟨_, _, rfl⟩, fun z => Bool.noConfusion z⟩ h⟩
theorem lex_not {x y : Pair} (h : lexLt itemOrd [Sum.inl (y.1 : Int), Sum.inl (y.2 : Int)] [Sum.inl (x.1 : Int), Sum.inl (x.2 : Int)] = false) : ¬ lexP y x := by
  intro q
  have e : lexLt itemOrd [Sum.inl (y.1 : Int), Sum.inl (y.2 : Int)] [Sum.inl (x.1 : Int), Sum.inl (x.2 : Int)] = (decide ((y.1 : Int) < x.1) || (!decide ((x.1 : Int) < y.1) && (decide ((y.2 : Int) < x.2) || (!decide ((x.2 : Int) < y.2) && false)))) := rfl
  rw [e] at h
  unfold lexP at q
  rcases q with q | ⟨q1, q2⟩
  · rw [decide_eq_true (show (y.1 : Int) < x.1 by omega)] at h
    exact Bool.noConfusion h
  · rw [decide_eq_false (show ¬ (x.1 : Int) < y.1 by omega), decide_eq_true (show (y.2 : Int) < x.2 by omega), Bool.true_or, Bool.not_false, Bool.true_and, Bool.or_true] at h
    exact Bool.noConfusion h
/-- what the sort has made of the list, read back -/
theorem sort_out (I : Inv X pins σ H s) {rs0 : List Addr} {ps : List Pair} (hp : Paired (TupAt H) rs0 ps) {arr : Array Keyed} (h1 : arr.Perm (PyProof.Rows.pairsOf (rs0.map Value.ref)))
    (h2 : SortedToK (G.tupKindC s.heap noText) arr (PyProof.Rows.pairsOf (rs0.map Value.ref)).size) :
    ∃ (rs : List Addr) (qs : List Pair), (arr.map (·.2)).toList = rs.map Value.ref ∧ qs.Perm ps ∧ qs.Pairwise (fun a b => ¬ lexP b a) ∧ Paired (TupAt H) rs qs ∧ rs.length = rs0.length := by
  have hL : arr.toList.Perm ((rs0.map Value.ref).zip (rs0.map Value.ref)) := by
    rw [← PyProof.Rows.pairsOf_toList]
    exact h1.toList
  have both : ∀ p ∈ arr.toList, p.1 = p.2 ∧ ∃ r ∈ rs0, p.1 = Value.ref r := fun p hp' => by
    obtain ⟨e, m⟩ := mem_zip_self (hL.mem_iff.mp hp')
    obtain ⟨r, hr, e2⟩ := List.mem_map.mp m
    exact ⟨e, r, hr, e2.symm⟩
  have hm : (arr.toList.map (·.2)).Perm (rs0.map Value.ref) := by
    have q := hL.map (·.2)
    have z : ((rs0.map Value.ref).zip (rs0.map Value.ref)).map (·.2) = rs0.map Value.ref := by
      generalize rs0.map Value.ref = l
      induction l with
      | nil => rfl
      | cons a l ih => rw [List.zip_cons_cons, List.map_cons, ih]
    rw [z] at q
    exact q
  have hr : ((arr.toList.map (·.2)).map adr).Perm rs0 := by
    have q := hm.map adr
    rw [adr_map] at q
    exact q
  have inr : ∀ r ∈ (arr.toList.map (·.2)).map adr, ∃ x, TupAt H r x := fun r hr' => by
    obtain ⟨i, hi⟩ := List.getElem?_of_mem (hr.mem_iff.mp hr')
    obtain ⟨x, _, hx⟩ := pr_getL hp hi
    exact ⟨x, hx⟩
  refine ⟨(arr.toList.map (·.2)).map adr, ((arr.toList.map (·.2)).map adr).map (decP H), ?_, ?_, ?_, pr_dec inr, hr.length_eq⟩
  · rw [Array.toList_map]
    refine (ref_adr fun v hv => ?_).symm
    obtain ⟨r, _, e⟩ := List.mem_map.mp (hm.mem_iff.mp hv)
    exact ⟨r, e.symm⟩
  · have q := hr.map (decP H)
    rw [decP_map hp] at q
    exact q
  · rw [List.pairwise_iff_getElem]
    intro i j hi hj hij
    simp only [List.length_map, Array.length_toList] at hi hj
    have key : ∀ (k : Nat) (hk : k < arr.size), ∃ (r : Addr) (x : Pair), TupAt H r x ∧ arr[k].2 = Value.ref r ∧ KK (G.tupKindC s.heap noText) arr k = [Sum.inl (x.1 : Int), Sum.inl (x.2 : Int)] := fun k hk => by
      obtain ⟨e, r, hr', e2⟩ := both arr[k] (Array.getElem_mem_toList hk)
      obtain ⟨i', hi'⟩ := List.getElem?_of_mem hr'
      obtain ⟨x, _, hx⟩ := pr_getL hp hi'
      refine ⟨r, x, hx, by rw [← e]; exact e2, ?_⟩
      unfold KK
      rw [Array.getElem?_eq_getElem hk]
      dsimp only
      rw [e2, key_raw I hx]
      rfl
    obtain ⟨r1, x1, t1, e1, k1⟩ := key i hi
    obtain ⟨r2, x2, t2, e2, k2⟩ := key j hj
    have hsz : (PyProof.Rows.pairsOf (rs0.map Value.ref)).size = arr.size := (h1.size_eq).symm
    have q := h2 i j (Nat.le_of_lt hij) (by rw [hsz]; exact hj)
    rw [k1, k2] at q
    simp only [List.getElem_map, Array.getElem_toList]
    rw [e1, e2]
    show ¬ lexP (decP H r2) (decP H r1)
    rw [decP_of t1, decP_of t2]
    exact lex_not q
end

/-! ### sorted(d) -/
def rSortedP : List V → Hp → VK → Prop := fun vs H Q => ∃ (a : Addr) (kvs : List (List Key × V)) (ps : List Pair), vs = [.ref a] ∧ H a = some (.dT kvs) ∧ kvs.map (·.1) = ps.map kp ∧
  ∀ (rs : List Addr) (qs : List Pair) (p : Addr), qs.Perm ps → qs.Pairwise (fun a b => ¬ lexP b a) → Paired (TupAt H) rs qs → H p = none → Q (.ref p) (upd H p (.lst (rs.map V.ref)))
theorem keys_at {H : Hp} : ∀ {kvs : List (List Key × V)} {xs : List (List Key × Addr × Value)} {ps : List Pair}, KT H kvs xs → kvs.map (·.1) = ps.map kp → Paired (TupAt H) (xs.map (·.2.1)) ps
  | _, _, ps, .nil, e => by
    cases ps with
    | nil => exact .nil
    | cons _ _ => cases e
  | _, _, ps, .cons r t, e => by
    cases ps with
    | nil => cases e
    | cons x ps =>
      obtain ⟨e1, e2⟩ := List.cons.inj e
      obtain ⟨_, h2, _⟩ := r
      refine .cons ?_ (keys_at t e2)
      dsimp only at e1
      rw [e1] at h2
      exact h2
section
variable {X : Cx}
theorem cr_sortedP (hc : X.calm = true) : CallR X (.builtin "sorted") rSortedP := by
  intro pins s σ H vs us Q I r ⟨a, kvs, ps, ev, hH, hk, q⟩
  subst ev
  obtain ⟨u, rfl, ru⟩ := Vals.one r
  cases ru
  obtain ⟨z, lo, xs, pr, o, es, ep, ho, hx, hd, he, hn⟩ := I.hok a _ hH
  have hes : es.size = xs.length := by rw [← Array.length_toList, he, List.length_map]
  have hkx : kvs.length = xs.length := Paired.length pr
  have hp := keys_at pr hk
  refine Calls.call_function_entry kind_sorted plain_sorted entry_sorted (args_sorted1 _) ?_
  unfold Builtin.«sorted»
  refine wpAny_bind (m := checkCount "sorted" 1 1 [Value.ref a].length) (wpAny_pure (wpAny_bind (PySem.W.kdu_collect (A := X.A.in1) (src_raw lo hx hd) (I.ok.hd hc) ho (by omega) fun h' tk acc hold hacc => ?_)))
  have hacc2 : acc.toList = (xs.map (·.2.1)).map Value.ref := by
    refine List.ext_getElem? fun j => ?_
    rw [Array.getElem?_toList]
    by_cases hj : j < xs.length
    · have hj' : j < acc.size := by rw [hacc.1, hes]; exact hj
      rw [Array.getElem?_eq_getElem hj']
      obtain ⟨en, h1, h2⟩ := hacc.2 j acc[j] (Array.getElem?_eq_getElem hj')
      rw [← Array.getElem?_toList, he, List.getElem?_map, List.getElem?_eq_getElem hj] at h1
      have h3 := Option.some.inj h1
      rw [h2, ← h3, List.getElem?_map, List.getElem?_map, List.getElem?_eq_getElem hj]
      rfl
    · have hj' : ¬ j < acc.size := by rw [hacc.1, hes]; exact hj
      rw [Array.getElem?_eq_none (by omega), List.getElem?_eq_none (by rw [List.length_map, List.length_map]; omega)]
  rw [hacc2]
  generalize hrs : xs.map (·.2.1) = rs0 at hp
  have hlen : rs0.length ≤ sizeLine := by rw [← hrs, List.length_map, ← hkx]; exact z
  have I1 : Inv X pins σ H { s with heap := h', toks := tk } := I.kept hold
  refine wpAny_bind (wpAny_newList ?_ (by rw [List.length_map]; exact hlen))
  have I2 : Inv X pins σ H { s with heap := h'.push (seqObj "list" (rs0.map Value.ref).toArray 0), toks := tk } := I.kept fun b ob e => Heap.get?_push_of_some _ (hold b ob e)
  have hoL : (h'.push (seqObj "list" (rs0.map Value.ref).toArray 0)).get? h'.objs.size = some (seqObj "list" (rs0.map Value.ref).toArray 0) := Heap.get?_push_size _ rfl
  obtain ⟨fs, ht⟩ := tups_raw I2 hp
  refine wpAny_bind (wpAny_holding (wpAny_call_entry slot_list_sort ⟨_, hoL, rfl⟩ entry_list_sort (G.list_sort_tups (shape := noText) (fs := fs) hoL ht (fun v hv => ?_) (by rw [List.length_map]; exact hlen) fun st' a1 a2 a3 => ⟨_, rfl, wpAny_pure ⟨_, rfl, ?_⟩⟩) (args_list_sort _)))
  · obtain ⟨r, hr, rfl⟩ := List.mem_map.mp hv
    obtain ⟨i, hi⟩ := List.getElem?_of_mem hr
    obtain ⟨x, _, hx'⟩ := pr_getL hp hi
    exact ⟨_, key_raw I2 hx'⟩
  · obtain ⟨rs, qs, e1, e2, e3, e4, e5⟩ := sort_out I2 hp a1 a2
    have fr : H h'.objs.size = none := I1.hok.fresh (Nat.le_refl _)
    obtain ⟨n', hat⟩ := sortedHeap_at (out := (arrOf st').map (·.2)) hoL
    refine ⟨.ref h'.objs.size, upd H h'.objs.size (.lst (rs.map V.ref)), ?_, rfl, q rs qs _ e2 e3 e4 fr⟩
    refine I1.laid (t' := tk) (a := h'.objs.size) (o := .lst (rs.map V.ref)) (fun b ob e => ?_) (Nat.le_refl _) ⟨?_, rs.map Value.ref, n', vals_refs rs, ?_⟩
    · have hb : b < h'.objs.size := Heap.lt_size e
      rw [sortedHeap_old (Nat.ne_of_lt hb) (by rw [size_push']; exact Nat.lt_succ_of_lt hb)]
      exact Heap.get?_push_of_some _ e
    · rw [List.length_map, e5]
      exact hlen
    · rw [← e1]
      exact hat
end
end Bm

end
section
set_option Elab.async false
set_option linter.all false
set_option maxRecDepth 100000
set_option maxHeartbeats 2000000
namespace Bm
open PySem PySem.Spec PyProof.Rows L2
open Kri5 (Pair Quantity House pairsOf nextAll near)

/-! ### following_directions, following_pairs -/
def spFdir : Sp := fun vs H Q _ => ∃ d : Nat, vs = [.int d] ∧ d ≤ 2 ∧ ∀ (H' : Hp) (r : Addr), H r = none → Same H H' → H' r = some (.lst (vi (fdir d))) → Q (.ref r) H'
def spFol : Sp := fun vs H Q _ => ∃ (m : Nat) (a : Addr) (ps : List Pair), vs = [.int m, .ref a] ∧ m ≤ 4 ∧ PairsAt H a ps ∧ (∀ x ∈ ps, x ∈ pairsOf m) ∧ ps.length ≤ 27 ∧ ∀ (H' : Hp) (r : Addr), Same H H' → PairsAt (Nw H H') r (nextAll m ps) → Q (.ref r) H'
/-- the directions of the first j -/
def fdirTo (d j : Nat) : List Nat := (List.range j).filter fun e => near d e
theorem fdirTo_succ (d j : Nat) : fdirTo d (j + 1) = fdirTo d j ++ (if near d j = true then [j] else []) := by
  unfold fdirTo
  rw [List.range_succ, List.filter_append, List.filter_cons, List.filter_nil]
theorem dirs_get {j : Nat} {x : V} (hx : ([.int 0, .int 1, .int 2] : List V)[j]? = some x) : j < 3 ∧ x = .int (j : Int) := by
  have hj : j < 3 := (List.getElem?_eq_some_iff.mp hx).1
  refine ⟨hj, ?_⟩
  match j, hj, hx with
  | 0, _, hx => exact (Option.some.inj hx).symm
  | 1, _, hx => exact (Option.some.inj hx).symm
  | 2, _, hx => exact (Option.some.inj hx).symm
theorem near_abs (d j : Nat) : decide ((if ((j : Int) - (d : Int)) < 0 then -((j : Int) - (d : Int)) else ((j : Int) - (d : Int))) ≤ 1) = near d j := by
  unfold near
  rw [Bool.eq_iff_iff, Bool.and_eq_true, decide_eq_true_eq, decide_eq_true_eq, decide_eq_true_eq]
  split <;> omega
theorem vi_snoc (l : List Nat) (j : Nat) : vi l ++ [V.int (j : Int)] = vi (l ++ [j]) := by
  unfold vi
  rw [List.map_append]
  rfl
theorem vi_len (l : List Nat) : (vi l).length = l.length := by unfold vi; exact List.length_map _
section
variable {P : Program} {w : World} {K : PySem.W.Frag} {mg : Str → Option Value} {base : Heap} {aD : Addr}
theorem scFdir : FnScope ["direction", "later"] ["direction"] (defScope sFdir) := ⟨rfl, rfl, rfl, by decide +kernel, rfl, by decide +kernel, by decide +kernel⟩
theorem ok_fdir {f : Addr} {fd : FuncData} (D : Def K mg "following_directions" sFdir ["direction"] f fd) (T : Dirs K mg aD) : FnOk P w K mg base CX0 1 f fd ["direction"] spFdir := by
  refine D.fn.ok scFdir (fun vs H Q E h => ?_) (fun cdv A outer s H vs Q E hr h => ?_)
  · obtain ⟨d, rfl, _⟩ := h
    rfl
  · obtain ⟨d, rfl, hd, k⟩ := h
    refine ⟨_, pss_one (ps_ret (pe_lc (own := [("later", 1)]) rfl scFdir.nd (pi_tup (pe_glob (v := .ref aD) rfl T.dirs rfl)) (blkOk_by (by show blkC ["direction", "later"] (defScope sFdir) _ _ = true; decide +kernel))
      (fun _ _ _ _ _ => pg_name (i := 1) scFdir.nd rfl (Or.inl rfl))
      (fun _ _ _ _ _ => pts_one (pt_cmpR op_le (pe_callB call_abs (by rfl) T.abs boot_abs (pa_cons (pe_op op_sub (pv 1) (pv 0)) pa_nil)) pe_int (nomark _)))
      (fun _ _ _ _ _ => pv 1))), ?_⟩
    refine ⟨aD, rfl, ⟨_, T.dirT _⟩, fun L hL => ?_⟩
    refine lc_tup (K := K) (a := aD) (xs := [.int 0, .int 1, .int 2]) (fun j H' => Same H H' ∧ H' L = some (.lst (vi (fdirTo d j)))) ⟨same_new hL, upd_same⟩ (fun j H' _ _ => T.dirT _) ?_ ?_
    · rintro j x H1 hx ⟨s1, h1⟩
      obtain ⟨hj, rfl⟩ := dirs_get hx
      refine ⟨rfl, ?_⟩
      refine ⟨_, rfl, _, rfl, _, _, rfl, rfl, _, rfl, _, _, rfl, rfl, _, rfl, ?_⟩
      have e := near_abs d j
      show if decide ((if ((j : Int) - (d : Int)) < 0 then -((j : Int) - (d : Int)) else ((j : Int) - (d : Int))) ≤ 1) = true then _ else _
      rw [e]
      refine ite2 (fun c => ?_) (fun c => ?_)
      · refine ⟨_, rfl, _, h1, ?_, ?_, ?_⟩
        · rw [vi_len]
          refine line_small (Nat.lt_of_le_of_lt (List.length_filter_le _ _) ?_)
          rw [List.length_range]
          omega
        · intro b o eb
          rw [upd_ne (ne_of_none eb hL)]
          exact s1 b o eb
        · rw [upd_same, fdirTo_succ, if_pos c, ← vi_snoc]
      · refine ⟨s1, ?_⟩
        rw [fdirTo_succ, if_neg c, List.append_nil]
        exact h1
    · rintro H1 ⟨s1, h1⟩
      exact k H1 L hL s1 h1
theorem scFol : FnScope ["marks", "pairs", "reached", "pair", "place", "direction"] ["marks", "pairs"] (defScope sFol) := ⟨rfl, rfl, rfl, by decide +kernel, rfl, by decide +kernel, by decide +kernel⟩
/-- the pairs in a list without two alike, put to it one by one -/
def addP (l : List Pair) (x : Pair) : List Pair := if x ∈ l then l else l ++ [x]
theorem addP_mem {l : List Pair} {x y : Pair} : y ∈ addP l x ↔ y ∈ l ∨ y = x := by
  unfold addP
  split
  · rename_i h
    constructor
    · exact .inl
    · rintro (q | q)
      · exact q
      · rw [q]; exact h
  · simp
theorem addP_nd {l : List Pair} {x : Pair} (h : l.Nodup) : (addP l x).Nodup := by
  unfold addP
  split
  · exact h
  · rename_i hn
    rw [List.nodup_append]
    exact ⟨h, by simp, fun a ha b hb e => hn (by rw [List.mem_singleton.mp hb] at e; rw [← e]; exact ha)⟩
theorem kp_inj {x y : Pair} (h : kp x = kp y) : x = y := by
  unfold kp at h
  obtain ⟨e1, h⟩ := List.cons.inj h
  obtain ⟨e2, _⟩ := List.cons.inj h
  have a1 := Sum.inl.inj e1
  have a2 := Sum.inl.inj e2
  exact Prod.ext (by omega) (by omega)
theorem putK_keys_old {kvs : List (List Key × V)} {k : List Key} {v w : V} (h : valV kvs k = some w) : (putK kvs k v).map (·.1) = kvs.map (·.1) := by
  unfold putK
  rw [valV_any, h, if_pos (show (some w).isSome = true from rfl), List.map_map]
  refine List.map_congr_left fun kv _ => ?_
  show (if kv.1 = k then (kv.1, v) else kv).1 = kv.1
  split <;> rfl
theorem put_keys {kvs : List (List Key × V)} {ps : List Pair} {x : Pair} {v : V} (h : kvs.map (·.1) = ps.map kp) : (putK kvs (kp x) v).map (·.1) = (addP ps x).map kp := by
  unfold addP
  split
  · rename_i hm
    have : valV kvs (kp x) ≠ none := fun e => (valV_not e) (by rw [h]; exact List.mem_map.mpr ⟨x, hm, rfl⟩)
    obtain ⟨w, hw⟩ := Option.ne_none_iff_exists'.mp this
    rw [putK_keys_old hw, h]
  · rename_i hm
    have : valV kvs (kp x) = none := by
      cases e : valV kvs (kp x) with
      | none => rfl
      | some w =>
        have := valV_in e
        rw [h] at this
        obtain ⟨y, hy, e2⟩ := List.mem_map.mp this
        exact absurd (by rw [← kp_inj e2]; exact hy) hm
    rw [putK_new v this, List.map_append, h, List.map_append]
    rfl

/-- all that follows one pair, as the program goes through it -/
def combos (m : Nat) (x : Pair) : List Pair := (fpl m x.1 x.2).flatMap fun p => (fdir x.2).map fun e => (p, e)
theorem mem_combos {m : Nat} {x y : Pair} : y ∈ combos m x ↔ y.1 ∈ fpl m x.1 x.2 ∧ y.2 ∈ fdir x.2 := by
  unfold combos
  simp only [List.mem_flatMap, List.mem_map]
  constructor
  · rintro ⟨p, hp, e, he, rfl⟩
    exact ⟨hp, he⟩
  · rintro ⟨h1, h2⟩
    exact ⟨y.1, h1, y.2, h2, rfl⟩
theorem fpl_len (m p d : Nat) : (fpl m p d).length ≤ 2 := by
  unfold fpl
  split
  · simp
  · split
    · simp
    · split <;> simp
theorem fdir_len (d : Nat) : (fdir d).length ≤ 3 := by
  unfold fdir
  refine Nat.le_trans (List.length_filter_le _ _) ?_
  rw [List.length_range]
  omega
theorem addP_len (l : List Pair) (x : Pair) : (addP l x).length ≤ l.length + 1 := by
  unfold addP
  split
  · omega
  · simp
theorem fl_one {α : Type} {f : α → List Pair} {l : List α} {i : Nat} {x : α} (h : l[i]? = some x) : (l.take (i + 1)).flatMap f = (l.take i).flatMap f ++ f x := by
  rw [take_one h, List.flatMap_append]
  simp
theorem map_one {l : List Nat} {p : Nat} {i x : Nat} (h : l[i]? = some x) : (l.take (i + 1)).map (fun e => (p, e)) = (l.take i).map (fun e => (p, e)) ++ [(p, x)] := by
  rw [take_one h, List.map_append]
  rfl
/-- the dict at d holds these pairs, no two alike, at most so many -/
structure Reach (H : Hp) (d : Addr) (seen : List Pair) (n : Nat) : Prop where
  ex : ∃ (kvs : List (List Key × V)) (qs : List Pair), H d = some (.dT kvs) ∧ kvs.map (·.1) = qs.map kp ∧ qs.Nodup ∧ (∀ y, y ∈ qs ↔ y ∈ seen) ∧ qs.length ≤ n
theorem Reach.same {H H' : Hp} {d : Addr} {seen seen' : List Pair} {n n' : Nat} (h : Reach H d seen n) (s : Same H H') (e : seen = seen') (hn : n ≤ n') : Reach H' d seen' n' := by
  subst e
  obtain ⟨kvs, qs, h1, h2, h3, h4, h5⟩ := h.ex
  exact ⟨kvs, qs, s _ _ h1, h2, h3, h4, Nat.le_trans h5 hn⟩
theorem sorted_strict {qs ps : List Pair} (h1 : qs.Perm ps) (h2 : ps.Nodup) (h3 : qs.Pairwise (fun a b => ¬ lexP b a)) : qs.Pairwise lexP := by
  have n1 : qs.Nodup := h1.nodup_iff.mpr h2
  refine (h3.and n1).imp fun {a b} ⟨q1, q2⟩ => ?_
  unfold lexP at *
  have : ¬ (a.1 = b.1 ∧ a.2 = b.2) := fun ⟨e1, e2⟩ => q2 (Prod.ext e1 e2)
  omega
theorem ok_fol {f fP fD fH fL fM : Addr} {fd fdP fdD fdH fdL fdM : FuncData} (D : Def K mg "following_pairs" sFol ["marks", "pairs"] f fd) (T : Dirs K mg aD) (DP : Def K mg "following_places" sFpl ["marks", "place", "direction"] fP fdP) (DD : Def K mg "following_directions" sFdir ["direction"] fD fdD)
    (DH : Def K mg "has_place" sHpl ["marks", "place"] fH fdH) (DL : Def K mg "last_place" sLast ["marks"] fL fdL) (DM : Def K mg "is_mark" sMark ["place"] fM fdM) : FnOk P w K mg base CX0 4 f fd ["marks", "pairs"] spFol := by
  have GP : FnOk P w K mg base CX0 3 fP fdP ["marks", "place", "direction"] spFpl := ok_fpl DP T DH DL DM
  have GD : FnOk P w K mg base CX0 1 fD fdD ["direction"] spFdir := ok_fdir DD T
  refine D.fn.ok scFol (fun vs H Q E h => ?_) (fun cdv A outer s H vs Q E hr h => ?_)
  · obtain ⟨m, a, ps, rfl, _⟩ := h
    rfl
  · obtain ⟨m, a, ps, rfl, hm, ⟨rs, hA, hP⟩, hps, h27, k⟩ := h
    refine ⟨_, pss_cons (ps_set (i := 2) scFol.nd rfl (Or.inl rfl) pe_dnewT)
      (pss_cons (ps_for PassesOwn.never rfl (pi_list (pv 1)) (pg_name (i := 3) scFol.nd rfl (Or.inl rfl))
        (pss_one (ps_for PassesOwn.never rfl (pi_list (pe_call GP hr rfl DP.at_ DP.fn.kp DP.bd .nil pass0 (pa_cons (pv 0) (pa_cons (pe_ix ix_tup (pv 3) pe_int (fun _ _ => rfl)) (pa_cons (pe_ix ix_tup (pv 3) pe_int (fun _ _ => rfl)) pa_nil))))) (pg_name (i := 4) scFol.nd rfl (Or.inl rfl))
          (pss_one (ps_for PassesOwn.never rfl (pi_list (pe_call GD (hr.mono (by decide)) rfl DD.at_ DD.fn.kp DD.bd .nil pass0 (pa_cons (pe_ix ix_tup (pv 3) pe_int (fun _ _ => rfl)) pa_nil))) (pg_name (i := 5) scFol.nd rfl (Or.inl rfl))
            (pss_one (ps_dput (hu_of hr) (pv 2) (pe_tup (pa_cons (pv 4) (pa_cons (pv 5) pa_nil))) pe_bl rfl)))))))
      (pss_one (ps_ret (pe_callB (cr_sortedP rfl) (by rfl) T.srt boot_sorted (pa_cons (pv 2) pa_nil))))), ?_⟩
    intro d hd
    refine ⟨_, rfl, a, rfl, ⟨_, SqL.of (same_new hd _ _ hA)⟩, for_list (K := K) (a := a) (xs := rs.map V.ref) (fun i σ H' => ∃ v3 v4 v5 : Option V, σ = [some (.int m), some (.ref a), some (.ref d), v3, v4, v5] ∧ Same H H' ∧ Reach H' d ((ps.take i).flatMap (combos m)) (6 * i))
      ⟨none, none, none, rfl, same_new hd, [], [], upd_same, rfl, List.nodup_nil, fun y => by simp, Nat.le_refl _⟩ (fun i σ H' _ ⟨_, _, _, _, s1, _⟩ => SqL.of (s1 _ _ hA)) ?_ ?_⟩
    · -- a pair
      rintro i y σ H1 hy ⟨v3, v4, v5, rfl, s1, R1⟩
      obtain ⟨r, hr1, rfl⟩ := map_get hy
      obtain ⟨x, hx, hxr⟩ := pr_getL hP hr1
      have hi : i < 27 := Nat.lt_of_lt_of_le (List.getElem?_eq_some_iff.mp hx).1 h27
      obtain ⟨b1, b2⟩ := mem_pairsOf.mp (hps x (List.mem_of_getElem? hx))
      have hxr1 : TupAt H1 r x := s1 _ _ hxr
      refine ⟨_, rfl, _, rfl, r, _, _, _, rfl, rfl, tup0 hxr1, at_of (j := 0) rfl rfl, _, rfl, r, _, _, _, rfl, rfl, tup0 hxr1, at_of (j := 1) rfl rfl, m, x.1, x.2, rfl, hm, b1, b2, fun l1 hl1 => ?_⟩
      have s1' : Same H (upd H1 l1 (.lst (vi (fpl m x.1 x.2)))) := s1.trans (same_new hl1)
      refine ⟨l1, rfl, ⟨_, SqL.of upd_same⟩, for_list (K := K) (a := l1) (xs := vi (fpl m x.1 x.2)) (fun j σ H' => ∃ v4 v5 : Option V, σ = [some (.int m), some (.ref a), some (.ref d), some (.ref r), v4, v5] ∧ Same H H' ∧ H' l1 = some (.lst (vi (fpl m x.1 x.2))) ∧
          Reach H' d ((ps.take i).flatMap (combos m) ++ ((fpl m x.1 x.2).take j).flatMap fun p => (fdir x.2).map fun e => (p, e)) (6 * i + 3 * j))
        ⟨v4, v5, rfl, s1', upd_same, R1.same (same_new hl1) (by simp) (by omega)⟩ (fun j σ H' _ ⟨_, _, _, _, h2, _⟩ => SqL.of h2) ?_ ?_⟩
      · -- a place
        rintro j y σ H2 hy2 ⟨v4, v5, rfl, s2, h2, R2⟩
        obtain ⟨p, hp, rfl⟩ := map_get hy2
        have hj : j < 2 := Nat.lt_of_lt_of_le (List.getElem?_eq_some_iff.mp hp).1 (fpl_len _ _ _)
        have hxr2 : TupAt H2 r x := s2 _ _ hxr
        refine ⟨_, rfl, r, _, _, _, rfl, rfl, tup0 hxr2, at_of (j := 1) rfl rfl, x.2, rfl, b2, fun H3 l2 hl2 s3 h3 => ?_⟩
        refine ⟨l2, rfl, ⟨_, SqL.of h3⟩, for_list (K := K) (a := l2) (xs := vi (fdir x.2)) (fun l σ H' => ∃ v5 : Option V, σ = [some (.int m), some (.ref a), some (.ref d), some (.ref r), some (.int (p : Int)), v5] ∧ Same H H' ∧ H' l1 = some (.lst (vi (fpl m x.1 x.2))) ∧ H' l2 = some (.lst (vi (fdir x.2))) ∧
            Reach H' d (((ps.take i).flatMap (combos m) ++ ((fpl m x.1 x.2).take j).flatMap fun p => (fdir x.2).map fun e => (p, e)) ++ ((fdir x.2).take l).map fun e => (p, e)) (6 * i + 3 * j + l))
          ⟨v5, rfl, s2.trans s3, s3 _ _ h2, h3, R2.same s3 (by simp) (by omega)⟩ (fun l σ H' _ ⟨_, _, _, _, h4, _⟩ => SqL.of h4) ?_ ?_⟩
        · -- a direction
          rintro l y σ H4 hy4 ⟨v5, rfl, s4, g4, h4, R4⟩
          obtain ⟨e, he, rfl⟩ := map_get hy4
          have hl3 : l < 3 := Nat.lt_of_lt_of_le (List.getElem?_eq_some_iff.mp he).1 (fdir_len _)
          obtain ⟨kvs, qs, c1, c2, c3, c4, c5⟩ := R4.ex
          refine ⟨_, rfl, _, rfl, _, rfl, (by show 2 ≤ sizeLine; rw [sizeLine_eq]; decide), fun t ht => ?_⟩
          have ndt : d ≠ t := ne_of_none c1 ht
          have hkl : kvs.length < sizeLine := by
            have : kvs.length = qs.length := by rw [← List.length_map (f := (·.1)), c2, List.length_map]
            exact line_small (by omega)
          refine ⟨d, _, rfl, DPut.t (k := kp (p, e)) (by rw [upd_ne ndt]; exact c1) upd_same hkl, ?_⟩
          have kT : Same H4 (upd H4 t (.tup [.int (p : Int), .int (e : Int)])) := same_new ht
          have out : ∀ b o, H4 b = some o → b ≠ d → (upd (upd H4 t (.tup [.int (p : Int), .int (e : Int)])) d (.dT (putK kvs (kp (p, e)) (.bl true)))) b = some o := fun b o eb nb => by
            rw [upd_ne nb]
            exact kT b o eb
          refine ⟨_, rfl, fun b o eb => out b o (s4 b o eb) (by rintro rfl; rw [hd] at eb; cases eb), out _ _ g4 (ne_of g4 c1 (by intro z; cases z)), out _ _ h4 (ne_of h4 c1 (by intro z; cases z)), ?_⟩
          refine ⟨_, addP qs (p, e), upd_same, put_keys c2, addP_nd c3, fun y => ?_, Nat.le_trans (addP_len _ _) (by omega)⟩
          rw [addP_mem, c4, map_one he, ← List.append_assoc, List.mem_append (t := [(p, e)]), List.mem_singleton]
        · rintro σ H4 ⟨v5, rfl, s4, g4, h4, R4⟩
          refine ⟨_, _, rfl, s4, g4, R4.same (Same.refl _) ?_ ?_⟩
          · rw [vi_len, List.take_length, fl_one hp, List.append_assoc]
          · rw [vi_len]
            have := fdir_len x.2
            omega
      · rintro σ H2 ⟨v4, v5, rfl, s2, h2, R2⟩
        refine ⟨_, _, _, rfl, s2, R2.same (Same.refl _) ?_ ?_⟩
        · rw [vi_len, List.take_length, fl_one hx]
          rfl
        · rw [vi_len]
          have := fpl_len m x.1 x.2
          omega
    · rintro σ H1 ⟨v3, v4, v5, rfl, s1, R1⟩
      have hlen : rs.length = ps.length := hP.length
      rw [List.length_map, hlen, List.take_length] at R1
      obtain ⟨kvs, qs, c1, c2, c3, c4, c5⟩ := R1.ex
      refine ⟨_, rfl, d, kvs, qs, rfl, c1, c2, fun rs' qs' p pe1 pe2 pe3 hp => ?_⟩
      have e : qs' = nextAll m ps := by
        refine lexP_eq (sorted_strict pe1 c3 pe2) (nextAll_sorted m ps) fun y => ?_
        rw [pe1.mem_iff, c4, mem_nextAll hps]
        simp only [List.mem_flatMap, mem_combos]
      subst e
      have s2 : Same H1 (upd H1 p (.lst (rs'.map V.ref))) := same_new hp
      refine k _ p (s1.trans s2) ⟨rs', Nw_at (s1.free hp) upd_same, pr_mono (fun r x e => Nw_tup (s2 _ _ e)) pe3⟩
end
end Bm

end
section
set_option Elab.async false
set_option linter.all false
set_option maxRecDepth 100000
set_option maxHeartbeats 2000000
namespace Bm
open PySem PySem.Spec PyProof.Rows L2
open Kri5 (Pair Quantity House pairsOf nextAll)

/-! ### a def that can be called by its name -/
structure Fn (P : Program) (w : World) (K : PySem.W.Frag) (mg : Str → Option Value) (base : Heap) (x : Str) (ps : List Str) (k : Nat) (sp : Sp) : Prop where
  ex : ∃ f fd, mg x = some (.ref f) ∧ PySem.W.keepIn K (.ref f) = true ∧ Binds K fd ps [] ∧ FnOk P w K mg base CX0 k f fd ps sp
theorem Fn.of {P : Program} {w : World} {K : PySem.W.Frag} {mg : Str → Option Value} {base : Heap} {x : Str} {st : Stmt} {ps : List Str} {k : Nat} {sp : Sp} {f : Addr} {fd : FuncData} (D : Def K mg x st ps f fd) (G : FnOk P w K mg base CX0 k f fd ps sp) : Fn P w K mg base x ps k sp :=
  ⟨f, fd, D.at_, D.fn.kp, D.bd, G⟩
theorem pe_fn {X : Cx} {x : Str} {ps : List Str} {k : Nat} {sp : Sp} {p pos : Pos} {e : Expr} {es : List Expr} {t : TA} (F : Fn X.prog X.w X.K X.mg X.base x ps k sp) (hr : Room k X.A) (hg : Gl X x) (ha : PA X (e :: es) t) (hdb : (x == ("__debug__" : Str)) = false := by decide)
    (he : starEach (e :: es) X.env = (false, eval e X.env) :: starEach es X.env := by rfl) (hpl : (backTo pos (starEach es X.env)).any (·.1) = false := by rfl) : PE X (.Call (.Name x p) (e :: es) [] pos) (tCall sp [] E0 t) := by
  obtain ⟨f, fd, h1, h2, h3, h4⟩ := F.ex
  exact pe_call h4 hr hg h1 h2 h3 .nil pass0 ha hdb he hpl

theorem room66 {k : Nat} {A : Around} (r : Room k A) : A.units + 66 < cLine := by have := r.un; omega

/-! ### a pair in a list of pairs -/
theorem refs_of : ∀ {rs : List Addr} {us : List Value}, Vals (rs.map V.ref) us → us = rs.map Value.ref
  | [], _, h => by cases h; rfl
  | r :: rs, _, h => by
    cases h with
    | cons a b =>
      cases a
      rw [refs_of b]
      rfl
def eqP (H : Hp) (z : Pair) : Value → Bool
  | .ref b => decide (decP H b = z)
  | _ => false
theorem any_eqP {H : Hp} {z : Pair} : ∀ {rs : List Addr} {ps : List Pair}, Paired (TupAt H) rs ps → (rs.map Value.ref).any (eqP H z) = ps.contains z
  | _, _, .nil => rfl
  | r :: rs, x :: ps, .cons a t => by
    rw [List.map_cons, List.any_cons, any_eqP t, List.contains_cons]
    congr 1
    show decide (decP H r = z) = _
    rw [decP_of a, Bool.eq_iff_iff, decide_eq_true_eq, beq_iff_eq]
    exact eq_comm
theorem eqv_pair (x z : Pair) : PyData.eqv (.tuple [.int x.1, .int x.2]) (.tuple [.int z.1, .int z.2]) = decide (x = z) := by
  have e : PyData.eqv (.tuple [.int x.1, .int x.2]) (.tuple [.int z.1, .int z.2]) = (((x.1 : Int) == (z.1 : Int)) && (((x.2 : Int) == (z.2 : Int)) && true)) := by
    simp only [PyData.eqv, PyData.eqvAll]
  rw [e, Bool.eq_iff_iff, Bool.and_true, Bool.and_eq_true, beq_iff_eq, beq_iff_eq, decide_eq_true_eq]
  constructor
  · rintro ⟨a, b⟩
    exact Prod.ext (by omega) (by omega)
  · rintro rfl
    exact ⟨rfl, rfl⟩
section
variable {X : Cx} {pins : List (Addr × Obj)} {σ : L2.St} {H : Hp} {s : Shared}
theorem dp_pair {K : PySem.W.Frag} {r : Addr} {x : Pair} (h : TupAt H r x) : Dp K H (.ref r) (.tuple [.int x.1, .int x.2]) := .tup (SqT.of h) (.cons (.int _) (.cons (.int _) .nil))
theorem eqAt_pair {A : Around} (I : Inv X pins σ H s) (hu : A.units + 64 < cLine) {r b : Addr} {x z : Pair} (hx : TupAt H b x) (hz : TupAt H r z) : SeqAt.EqAt A s (.ref b) (.ref r) (decide (x = z)) := by
  obtain ⟨as, r1⟩ := Dp.reads I _ _ (.ref b) (dp_pair hx) rfl
  obtain ⟨bs, r2⟩ := Dp.reads I _ _ (.ref r) (dp_pair hz) rfl
  have q := SeqAt.eqAt_reads _ _ A s _ _ _ _ r1 r2 (SeqAt.canLay_of_shaped (by rfl)) (SeqAt.canLay_of_shaped (by rfl)) (SeqAt.room_of_shaped (by rfl) hu)
  rw [eqv_pair] at q
  exact q
def rInP (neg : Bool) : R2 := fun x y H Q => ∃ (r a : Addr) (z : Pair) (ps : List Pair), x = .ref r ∧ y = .ref a ∧ TupAt H r z ∧ PairsAt H a ps ∧ Q (.bl (if neg = true then !ps.contains z else ps.contains z)) H
theorem items_eqP {A : Around} (I : Inv X pins σ H s) (hu : A.units + 64 < cLine) {r : Addr} {z : Pair} {rs : List Addr} {ps : List Pair} (hz : TupAt H r z) (hp : Paired (TupAt H) rs ps) : ∀ v ∈ (rs.map Value.ref).toArray, SeqAt.EqAt A s v (.ref r) (eqP H z v) := fun v hv => by
  obtain ⟨b, hb, rfl⟩ := List.mem_map.mp (by simpa using hv : v ∈ rs.map Value.ref)
  obtain ⟨i, hi⟩ := List.getElem?_of_mem hb
  obtain ⟨x, _, hx⟩ := pr_getL hp hi
  show SeqAt.EqAt A s (.ref b) (.ref r) (decide (decP H b = z))
  rw [decP_of hx]
  exact eqAt_pair I hu hx hz
theorem op_inP (hu : X.A.units + 66 < cLine) : OpR X (compareOp .In) (rInP false) := by
  intro pins s σ H x y v u Q I rx ry ⟨r, a, z, ps, ex, ey, hz, ⟨rs, ha, hp⟩, q⟩
  subst ex ey
  cases rx
  cases ry
  obtain ⟨its, rv, pl, _⟩ := I.list (SqL.of (K := X.K) ha)
  obtain rfl := refs_of rv
  refine SeqAt.in_listAt (eqP H z) pl.isList (items_eqP I (by rw [Around.in1_units]; omega) hz hp) ⟨.bl _, H, I, rfl, ?_⟩
  rw [show (rs.map Value.ref).toArray.any (eqP H z) = (rs.map Value.ref).any (eqP H z) by simp, any_eqP hp]
  exact q
theorem op_notInP (hu : X.A.units + 66 < cLine) : OpR X (compareOp .NotIn) (rInP true) := by
  intro pins s σ H x y v u Q I rx ry ⟨r, a, z, ps, ex, ey, hz, ⟨rs, ha, hp⟩, q⟩
  subst ex ey
  cases rx
  cases ry
  obtain ⟨its, rv, pl, _⟩ := I.list (SqL.of (K := X.K) ha)
  obtain rfl := refs_of rv
  refine SeqAt.notIn_listAt (eqP H z) pl.isList (items_eqP I (by rw [Around.in1_units]; omega) hz hp) ⟨.bl _, H, I, rfl, ?_⟩
  rw [show (rs.map Value.ref).toArray.any (eqP H z) = (rs.map Value.ref).any (eqP H z) by simp, any_eqP hp]
  exact q
end

/-! ### turns -/
theorem for_zip {K : PySem.W.Frag} {a b : Addr} {xs ys : List V} {g : TG} {tb : TS} {D : Ends} {σ : L2.St} {H : Hp} (hlen : ys.length ≤ xs.length) (Pv : Nat → L2.St → Hp → Prop) (h0 : Pv 0 σ H) (hl : ∀ i σ H, i ≤ ys.length → Pv i σ H → SqL K H a xs ∧ SqL K H b ys)
    (hs : ∀ i x y σ H T, xs[i]? = some x → ys[i]? = some y → Pv i σ H → H T = none → g (.ref T) σ (upd H T (.tup [x, y])) fun σ2 H2 => tb { D with nx := Pv (i + 1), ct := Pv (i + 1), bk := D.nx } σ2 H2) (hd : ∀ σ H, Pv ys.length σ H → D.nx σ H) :
    ∃ W : Nat → Nat → L2.St → Hp → Prop, (∃ m, W 0 m σ H) ∧ ∀ i m σ H, W i m σ H →
      ((Itz K a b).stop i H ∧ D.nx σ H) ∨ ((Itz K a b).go i H ∧ ∃ N : L2.St → Hp → Prop, (∀ σ' H', N σ' H' → ∃ m', m' < m ∧ W (i + 1) m' σ' H') ∧ ∀ x H', (Itz K a b).yld i H x H' → g x σ H' fun σ2 H2 => tb { D with nx := N, ct := N, bk := D.nx } σ2 H2) := by
  refine ⟨fun i m σ H => m = ys.length - i ∧ i ≤ ys.length ∧ Pv i σ H, ⟨ys.length, by simp, Nat.zero_le _, h0⟩, ?_⟩
  rintro i m σ H ⟨rfl, hi, p⟩
  obtain ⟨q1, q2⟩ := hl i σ H hi p
  by_cases hlt : i < ys.length
  · refine .inr ⟨⟨xs, ys, xs[i], ys[i], q1, q2, List.getElem?_eq_getElem (by omega), List.getElem?_eq_getElem hlt⟩, Pv (i + 1), fun σ' H' p' => ⟨ys.length - (i + 1), by omega, rfl, hlt, p'⟩, ?_⟩
    rintro v H' ⟨T, x, y, rfl, hT, rfl, e1, e2⟩
    exact hs i x y σ H T (e1 xs q1) (e2 ys q2) p hT
  · obtain rfl : i = ys.length := by omega
    exact .inl ⟨⟨xs, ys, q1, q2, .inr (Nat.le_refl _)⟩, hd σ H p⟩
theorem for_keysT {d : Addr} {o : Obj} {kvs : List (List Key × V)} {g : TG} {tb : TS} {D : Ends} {σ : L2.St} {H : Hp} (Pv : Nat → L2.St → Hp → Prop) (h0 : Pv 0 σ H) (hl : ∀ i σ H, Pv i σ H → H d = some (.frz o (.dT kvs)))
    (hs : ∀ i k v q σ H, kvs[i]? = some (k, v) → H q = some (.tup (k.map kV)) → Pv i σ H → g (.ref q) σ H fun σ2 H2 => tb { D with nx := Pv (i + 1), ct := Pv (i + 1), bk := D.nx } σ2 H2) (hd : ∀ σ H, Pv kvs.length σ H → D.nx σ H) :
    ∃ W : Nat → Nat → L2.St → Hp → Prop, (∃ m, W 0 m σ H) ∧ ∀ i m σ H, W i m σ H →
      ((Itkt d o kvs).stop i H ∧ D.nx σ H) ∨ ((Itkt d o kvs).go i H ∧ ∃ N : L2.St → Hp → Prop, (∀ σ' H', N σ' H' → ∃ m', m' < m ∧ W (i + 1) m' σ' H') ∧ ∀ x H', (Itkt d o kvs).yld i H x H' → g x σ H' fun σ2 H2 => tb { D with nx := N, ct := N, bk := D.nx } σ2 H2) := by
  refine ⟨fun i m σ H => m = kvs.length - i ∧ i ≤ kvs.length ∧ Pv i σ H, ⟨kvs.length, by simp, Nat.zero_le _, h0⟩, ?_⟩
  rintro i m σ H ⟨rfl, hi, p⟩
  have q := hl i σ H p
  by_cases hlt : i < kvs.length
  · refine .inr ⟨⟨q, hlt⟩, Pv (i + 1), fun σ' H' p' => ⟨kvs.length - (i + 1), by omega, rfl, hlt, p'⟩, ?_⟩
    rintro v H' ⟨rfl, k, u, b, e1, rfl, e2⟩
    exact hs i k u b σ _ e1 e2 p
  · obtain rfl : i = kvs.length := by omega
    exact .inl ⟨⟨q, Nat.le_refl _⟩, hd σ H p⟩
theorem lc_rangeC {lo c : Int} {n : Nat} {g : TG} {tt : TT} {te : TE} {vs : List Nat} {σ : L2.St} {H1 : Hp} {D : Addr} {Qd : Hp → Prop} (Pv : Nat → Hp → Prop) (h0 : Pv 0 (upd H1 D (.lst [])))
    (hs : ∀ i H, i < n → Pv i H → g (.int (lo + (i : Nat) * c)) (wipe σ vs) H fun σ2 H2 => wipe σ2 vs = wipe σ vs ∧ tt σ2 H2 fun b H3 => if b = true then te σ2 H3 fun y H4 => ∃ acc, H4 D = some (.lst acc) ∧ acc.length < sizeLine ∧ Pv (i + 1) (upd H4 D (.lst (acc ++ [y]))) else Pv (i + 1) H3) (hd : ∀ H, Pv n H → Qd H) :
    ∃ W : Nat → Nat → Hp → Prop, (∃ m, W 0 m (upd H1 D (.lst []))) ∧ ∀ i m H, W i m H →
      ((Itc lo c n).stop i H ∧ Qd H) ∨ ((Itc lo c n).go i H ∧ ∃ Nx : Hp → Prop, (∀ H', Nx H' → ∃ m', m' < m ∧ W (i + 1) m' H') ∧ ∀ x H', (Itc lo c n).yld i H x H' → g x (wipe σ vs) H' fun σ2 H2 => wipe σ2 vs = wipe σ vs ∧ tt σ2 H2 fun b H3 =>
        if b = true then te σ2 H3 fun y H4 => ∃ acc, H4 D = some (.lst acc) ∧ acc.length < sizeLine ∧ Nx (upd H4 D (.lst (acc ++ [y]))) else Nx H3) := by
  refine ⟨fun i m H => m = n - i ∧ i ≤ n ∧ Pv i H, ⟨n, by simp, Nat.zero_le _, h0⟩, ?_⟩
  rintro i m H ⟨rfl, hi, p⟩
  by_cases hlt : i < n
  · refine .inr ⟨hlt, Pv (i + 1), fun H' p' => ⟨n - (i + 1), by omega, rfl, hlt, p'⟩, ?_⟩
    rintro x H' ⟨rfl, rfl⟩
    exact hs i _ hlt p
  · obtain rfl : i = n := by omega
    exact .inl ⟨Nat.le_refl _, hd H p⟩
end Bm

end
section
set_option Elab.async false
set_option linter.all false
set_option maxRecDepth 100000
set_option maxHeartbeats 400000
namespace Bm
open PySem PySem.Spec PyProof.Rows L2
open Kri5 (Pair)

/-! ### min of a list of pairs -/
theorem best_least (p : Nat → Pair) : ∀ k, argBest (fun i j => decide (lexP (p i) (p j))) k ≤ k ∧ ∀ j, j ≤ k → ¬ lexP (p j) (p (argBest (fun i j => decide (lexP (p i) (p j))) k))
  | 0 => ⟨Nat.le_refl _, fun j hj => by
    obtain rfl : j = 0 := by omega
    exact lexP_irr _⟩
  | k + 1 => by
    obtain ⟨h1, h2⟩ := best_least p k
    by_cases c : lexP (p (k + 1)) (p (argBest (fun i j => decide (lexP (p i) (p j))) k))
    · have e : argBest (fun i j => decide (lexP (p i) (p j))) (k + 1) = k + 1 := if_pos (decide_eq_true c)
      rw [e]
      refine ⟨Nat.le_refl _, fun j hj => ?_⟩
      rcases Nat.lt_or_ge j (k + 1) with z | z
      · exact fun q => h2 j (by omega) (lexP_tr _ _ _ q c)
      · obtain rfl : j = k + 1 := by omega
        exact lexP_irr _
    · have e : argBest (fun i j => decide (lexP (p i) (p j))) (k + 1) = argBest (fun i j => decide (lexP (p i) (p j))) k := if_neg fun q => c (of_decide_eq_true q)
      rw [e]
      refine ⟨by omega, fun j hj => ?_⟩
      rcases Nat.lt_or_ge j (k + 1) with z | z
      · exact h2 j (by omega)
      · obtain rfl : j = k + 1 := by omega
        exact c
/-- two items are compared so, while Ok holds of the heap -/
def LtIn (prog : Program) (w : World) (A : Around) (P : Nat → Value → Prop) (bt : Nat → Nat → Bool) (Ok : Heap → Prop) : Prop :=
  ∀ (i j : Nat) (a b : Value) (s : Shared) (Q : Value → Shared → Prop) (E : Value → Shared → Prop), Ok s.heap → P i a → P j b → Q (.bool (bt i j)) s → wpAny (model prog w) A (richCompare .Lt a b) Q E s
section
variable {prog : Program} {w : World} {A : Around} {R : Result → Shared → Prop} {it B : Addr} {fp wr : List Addr} {n : Nat} {P : Nat → Value → Prop} {St : Nat → Heap → Prop} {bt : Nat → Nat → Bool} {Ok : Heap → Prop}
theorem loop_nm : (toString "min" ++ toString ".loop" : String) = "min.loop" := by decide
theorem min_turns (W : Walks prog w A.in1 it fp wr n P St) (cmp : LtIn prog w A.in1 P bt Ok) (okm : ∀ h h', Ok h → (∀ b o, b ∉ wr → b ≠ B → h.get? b = some o → h'.get? b = some o) → Ok h') (hB : B ∉ fp) :
    ∀ (k j : Nat) (s : Shared) (vb : Value) (c : Nat), n = j + 1 + k → St (j + 1) s.heap → Ok s.heap → P (argBest bt j) vb → s.heap.get? B = some { cls := .type "list", dict := none, data := .seq #[vb, vb] c, slots := #[] } →
    (∀ v h' tk, P (argBest bt (n - 1)) v → (∀ b o, b ∉ wr → b ≠ B → s.heap.get? b = some o → h'.get? b = some o) → R (.ok (.ret v)) { s with heap := h', toks := tk }) → codeAny (model prog w) A (.builtin "min.loop" ⟨[.ref it, .none, .ref B], []⟩) R s := by
  have hw : B ∉ wr := fun z => hB (W.sub _ z)
  intro k
  induction k with
  | zero =>
    intro j s vb c hk st _ hb gB hR
    obtain rfl : n = j + 1 := hk
    refine codeAny_builtin F.entry_min_loop ?_; rw [Around.under_plainId F.plain_min_loop]
    show wpAny _ A.in1 (seqItems? (.ref B) >>= _) _ _ s
    refine wpAny_bind (wpAny_seqItems gB rfl ?_)
    show wpAny _ A.in1 (tryCatch (pyNext (.ref it)) _ >>= _) _ _ s
    refine wpAny_bind (wpAny_tryCatch (W.done s _ _ st fun h' tk old => ?_))
    show wpAny _ A.in1 (updateSeq B (fun _ => #[]) >>= _) _ _ _
    refine wpAny_bind (wpAny_updateSeq (old B _ hw gB) rfl (wpAny_bind (wpAny_letGo (wpAny_pure ?_))))
    exact hR vb _ tk hb fun b o n1 n2 e => (Heap.get?_update_other _ _ (Ne.symm n2)).trans (old b o n1 e)
  | succ k ih =>
    intro j s vb c hk st ok hb gB hR
    refine codeAny_builtin F.entry_min_loop ?_; rw [Around.under_plainId F.plain_min_loop]
    show wpAny _ A.in1 (seqItems? (.ref B) >>= _) _ _ s
    refine wpAny_bind (wpAny_seqItems gB rfl ?_)
    show wpAny _ A.in1 (tryCatch (pyNext (.ref it)) _ >>= _) _ _ s
    refine wpAny_bind (wpAny_tryCatch (W.item (j + 1) s _ _ (by omega) st fun v h' tk hv st' old => ?_))
    have gB' := old B _ hw gB
    have ok' : Ok h' := okm _ _ ok fun b o n1 _ e => old b o n1 e
    show wpAny _ A.in1 (tryCatch (holding [v, v] (richCompare .Lt v vb >>= _)) _ >>= _) _ _ _
    refine wpAny_bind (wpAny_tryCatch (wpAny_holding (wpAny_bind (cmp (j + 1) (argBest bt j) v vb _ _ _ ok' hv hb (wpAny_bind (wpAny_holding (wpAny_truthy_bool (wpAny_bind (wpAny_letGo (wpAny_pure ?_))))))))))
    cases cb : bt (j + 1) (argBest bt j) with
    | true =>
      have e : argBest bt (j + 1) = j + 1 := if_pos cb
      simp only [if_true]
      refine wpAny_bind (wpAny_updateSeq gB' rfl (wpAny_bind (wpAny_letGo ?_))); rw [loop_nm]
      refine wpAny_pure ⟨plainId_quiet F.plain_min_loop _, ih (j + 1) _ v _ (by omega) (W.frame _ _ _ st' fun b hf o z => ?_) (okm _ _ ok' fun b o _ n2 z => ?_) (by rw [e]; exact hv) (Heap.get?_update_self _ gB' rfl) fun v' h2 tk2 hv' old2 => ?_⟩
      · exact (Heap.get?_update_other _ _ (fun q : B = b => hB (q ▸ hf))).trans z
      · exact (Heap.get?_update_other _ _ (Ne.symm n2)).trans z
      · exact hR v' h2 tk2 hv' fun b o n1 n2 z => old2 b o n1 n2 ((Heap.get?_update_other _ _ (Ne.symm n2)).trans (old b o n1 z))
    | false =>
      have e : argBest bt (j + 1) = argBest bt j := if_neg (by rw [cb]; exact Bool.false_ne_true)
      simp only [Bool.false_eq_true, if_false]
      refine wpAny_bind (wpAny_letGo ?_); rw [loop_nm]
      refine wpAny_pure ⟨plainId_quiet F.plain_min_loop _, ih (j + 1) _ vb c (by omega) st' ok' (by rw [e]; exact hb) gB' fun v' h2 tk2 hv' old2 => ?_⟩
      exact hR v' h2 tk2 hv' fun b o n1 n2 z => old2 b o n1 n2 (old b o n1 z)
end
section
variable {prog : Program} {w : World} {A : Around} {E : Value → Shared → Prop} {s : Shared} {l : Addr} {items : Array Value} {bt : Nat → Nat → Bool}
theorem min_heap {Q : Value → Shared → Prop} (hh : A.handled = none) (hl : s.heap.IsList l items) (hne : 0 < items.size) (cmp : LtIn prog w A.in1 (fun i v => items[i]? = some v) bt (fun h => ∀ b o, s.heap.get? b = some o → h.get? b = some o))
    (h : ∀ v h' tk, items[argBest bt (items.size - 1)]? = some v → (∀ b o, s.heap.get? b = some o → h'.get? b = some o) → Q v { s with heap := h', toks := tk }) : wpAny (model prog w) A (call (.builtin "min") [.ref l]) Q E s := by
  have hlt : l < s.heap.objs.size := by
    obtain ⟨_, e, _⟩ := hl
    exact Heap.lt_size e
  refine call_function_tree F.kind_min F.plain_min F.entry_min (F.args_min1 _) ?_
  show wpAny _ A.in1 (Builtin.Builtins.bindParams "min" ["key", "default"] 0 ⟨[], []⟩ >>= _) _ _ s
  refine wpAny_bind (wpAny_of_eq (a := [none, none]) rfl (wpAny_bind (wpAny_pure (wpAny_bind (wpAny_pyIter_list hl (wpAny_bind (wpAny_newObj_type ?_)))))))
  rw [loop_nm]
  have z1 : ∀ b o, s.heap.get? b = some o → b ≠ s.heap.objs.size := fun b o e => Nat.ne_of_lt (Heap.lt_size e)
  have big : (s.heap.push { cls := .type "list_iterator", data := .fields #[.ref l, .int 0 0] }).objs.size = s.heap.objs.size + 1 := Heap.size_push ..
  have z2 : ∀ b o, s.heap.get? b = some o → b ≠ (s.heap.push { cls := .type "list_iterator", data := .fields #[.ref l, .int 0 0] }).objs.size := fun b o e => by
    have := Heap.lt_size e
    rw [big]
    exact Nat.ne_of_lt (Nat.lt_succ_of_lt this)
  have W := Walks.list (prog := prog) (w := w) (A := A.in1) hh s.heap.objs.size l (Nat.ne_of_lt hlt) items
  have gB : ((s.heap.push { cls := .type "list_iterator", data := .fields #[.ref l, .int 0 0] }).push { cls := .type "list", data := .seq (([] : List Value).toArray) }).get? (s.heap.push { cls := .type "list_iterator", data := .fields #[.ref l, .int 0 0] }).objs.size = some { cls := .type "list", dict := none, data := .seq #[] 0, slots := #[] } := Heap.get?_push_size _ rfl
  have hw : (s.heap.push { cls := .type "list_iterator", data := .fields #[.ref l, .int 0 0] }).objs.size ∉ [s.heap.objs.size, l] := by
    rw [big]
    simp only [List.mem_cons, List.not_mem_nil, or_false, not_or]
    exact ⟨Nat.ne_of_gt (Nat.lt_succ_self _), Nat.ne_of_gt (Nat.lt_succ_of_lt hlt)⟩
  have hw1 : (s.heap.push { cls := .type "list_iterator", data := .fields #[.ref l, .int 0 0] }).objs.size ∉ [s.heap.objs.size] := fun q => hw (W.sub _ q)
  refine wpAny_pure ⟨plainId_quiet F.plain_min_loop _, ?_⟩
  refine codeAny_builtin F.entry_min_loop ?_; rw [Around.under_plainId F.plain_min_loop]
  refine wpAny_bind (wpAny_seqItems gB rfl ?_)
  show wpAny _ A.in1 (tryCatch (pyNext (.ref s.heap.objs.size)) _ >>= _) _ _ _
  refine wpAny_bind (wpAny_tryCatch (W.item 0 _ _ _ hne ⟨⟨_, Heap.get?_push_of_some _ (Heap.get?_push_size _ rfl), rfl, rfl⟩, (hl.push _).push _⟩ fun v h' tk hv st' old => ?_))
  have gB' := old _ _ hw1 gB
  show wpAny _ A.in1 (updateSeq (s.heap.push { cls := .type "list_iterator", data := .fields #[.ref l, .int 0 0] }).objs.size (fun _ => #[v, v]) >>= _) _ _ _
  refine wpAny_bind ?_; refine wpAny_updateSeq gB' rfl ?_; rw [loop_nm]
  have keep : ∀ b o, s.heap.get? b = some o → h'.get? b = some o := fun b o e => old b o (by rw [List.mem_singleton]; exact z1 b o e) (Heap.get?_push_of_some _ (Heap.get?_push_of_some _ e))
  refine wpAny_pure ⟨plainId_quiet F.plain_min_loop _, min_turns W cmp (fun h1 h2 q1 q2 b o e => q2 b o (by rw [List.mem_singleton]; exact z1 b o e) (z2 b o e) (q1 b o e)) hw (items.size - 1) 0 _ v _ (by omega) (W.frame _ _ _ st' fun b hf o z => ?_) (fun b o e => ?_) hv (Heap.get?_update_self _ gB' rfl) fun v' h2 tk2 hv' old2 => ?_⟩
  · exact (Heap.get?_update_other _ _ (fun q => hw (by rw [q]; exact hf))).trans z
  · exact (Heap.get?_update_other _ _ (Ne.symm (z2 b o e))).trans (keep b o e)
  · exact h v' h2 tk2 hv' fun b o e => old2 b o (by rw [List.mem_singleton]; exact z1 b o e) (z2 b o e) ((Heap.get?_update_other _ _ (Ne.symm (z2 b o e))).trans (keep b o e))
end
theorem lex_pair (y x : Pair) : HT.lexLt [(y.1 : Int), (y.2 : Int)] [(x.1 : Int), (x.2 : Int)] = decide (lexP y x) := by
  show (if (y.1 : Int) = x.1 then (if (y.2 : Int) = x.2 then false else decide ((y.2 : Int) < x.2)) else decide ((y.1 : Int) < x.1)) = _
  rw [Bool.eq_iff_iff, decide_eq_true_eq]
  unfold lexP
  split
  · split
    · constructor
      · intro z; cases z
      · omega
    · rw [decide_eq_true_eq]
      omega
  · rw [decide_eq_true_eq]
    omega
def rMinP : List V → Hp → VK → Prop := fun vs H Q => ∃ (a : Addr) (ps : List Pair), vs = [.ref a] ∧ PairsAt H a ps ∧ ps ≠ [] ∧ ∀ (r : Addr) (z : Pair), TupAt H r z → z ∈ ps → (∀ y ∈ ps, ¬ lexP y z) → Q (.ref r) H
theorem cr_minP {X : Cx} (hc : X.calm = true) (hu : X.A.units + 66 < cLine) : CallR X (.builtin "min") rMinP := by
  intro pins s σ H vs us Q I r ⟨a, ps, ev, ⟨rs, ha, hp⟩, hne, q⟩
  subst ev
  rw [Vals.ref1 r]
  obtain ⟨its, rv, pl, _⟩ := I.list (SqL.of (K := X.K) ha)
  obtain rfl := refs_of rv
  have hlen : rs.length = ps.length := hp.length
  have pos : 0 < ps.length := List.length_pos_iff.mpr hne
  refine min_heap (bt := fun i j => decide (lexP (ps.getD i (0, 0)) (ps.getD j (0, 0)))) (I.ok.hd hc) pl.isList (by rw [List.size_toArray, List.length_map, hlen]; exact pos) ?_ fun v h' tk hv old => ?_
  · intro i j u v s' Q' E' ok hu' hv' hq
    have at_ : ∀ (i : Nat) (v : Value), (rs.map Value.ref).toArray[i]? = some v → ∃ r, v = .ref r ∧ TupAt H r (ps.getD i (0, 0)) := fun i v h => by
      rw [List.getElem?_toArray] at h
      obtain ⟨r, h1, h2⟩ := map_get h
      obtain ⟨x, h3, h4⟩ := pr_getL hp h1
      refine ⟨r, h2, ?_⟩
      rw [List.getD_eq_getElem?_getD, h3]
      exact h4
    obtain ⟨r1, rfl, t1⟩ := at_ i u hu'
    obtain ⟨r2, rfl, t2⟩ := at_ j v hv'
    obtain ⟨o1, a1, b1, n1, g1, c1, d1⟩ := tup_raw I t1
    obtain ⟨o2, a2, b2, n2, g2, c2, d2⟩ := tup_raw I t2
    refine HT.lt_tupInts (l := r1) (b := r2) ⟨o1, ok _ _ g1, c1, n1, d1⟩ ⟨o2, ok _ _ g2, c2, n2, d2⟩ (.cons _ _ (.cons _ _ .nil)) (.cons _ _ (.cons _ _ .nil)) ?_ ?_
    · show X.A.in1.units < cLine
      rw [Around.in1_units]
      omega
    · rw [lex_pair]
      exact hq
  · obtain ⟨b1, b2⟩ := best_least (fun i => ps.getD i (0, 0)) ((rs.map Value.ref).toArray.size - 1)
    rw [List.getElem?_toArray] at hv
    obtain ⟨r', h1, rfl⟩ := map_get hv
    obtain ⟨x, h3, h4⟩ := pr_getL hp h1
    refine ⟨.ref r', H, I.kept old, rfl, q r' x h4 (List.mem_of_getElem? h3) fun y hy z => ?_⟩
    obtain ⟨j, hj⟩ := List.getElem?_of_mem hy
    have hjl : j < ps.length := (List.getElem?_eq_some_iff.mp hj).1
    refine b2 j (by rw [List.size_toArray, List.length_map]; omega) ?_
    rw [List.getD_eq_getElem?_getD, hj, List.getD_eq_getElem?_getD, h3]
    exact z
end Bm

end
section
set_option Elab.async false
set_option linter.all false
set_option maxRecDepth 100000
set_option maxHeartbeats 2000000
namespace Bm
open PySem PySem.Spec PyProof.Rows L2
open Kri5 (Pair)

/-! ### sum(d.values()), d a dict whose keys are tuples -/
section
variable {prog : Program} {w : World} {A : Around} {E : Value → Shared → Prop} {s : Shared} {d : Addr} {o : Obj} {es : Array DictEntry} {ep : Nat}
theorem vals_raw (hd : (d == sysModules) = false) : MeetsIn prog w (Builtin.«dict.values» ⟨[.ref d], []⟩) (fun _ R s => s.TypeIs (.ref d) "dict" ∧ R (.ok (.ret (.ref s.heap.objs.size))) { s with heap := s.heap.push { cls := .type "dict_values", data := .fields #[.ref d] } }) :=
  .of_wp fun A R s ⟨hT, h⟩ => by
    refine wpAny_bind ?_
    unfold Builtin.Dict.noArgs
    refine wpAny_bind (wpAny_notOrdered_dict hT (wpAny_pure ?_))
    show wpAny _ _ (Builtin.Dict.showsAll d >>= _) _ _ s
    unfold Builtin.Dict.showsAll
    rw [if_neg (by rw [hd]; exact Bool.false_ne_true)]
    exact wpAny_bind (wpAny_pure (wpAny_bind (wpAny_newObj_type (wpAny_pure ⟨_, rfl, h⟩))))
theorem iter_vals {v : Addr} {Q : Value → Shared → Prop} (hv : s.heap.IsValuesView v d) (ho : s.heap.get? d = some o) (hdat : o.data = .dict es ep)
    (hQ : Q (.ref s.heap.objs.size) { s with heap := s.heap.push { cls := .type "dict_valueiterator", data := .fields #[.ref d, .int 0 0, .int es.size 0, .int ep 0] } }) : wpAny (model prog w) A (pyIter (.ref v)) Q E s := by
  obtain ⟨ov, hov, hcv, hdv⟩ := id hv
  refine wpAny_pyIter_slot hv.typeIs F.slot_dict_values_iter (wpAny_call_entry F.slot_dict_values_iter hv.typeIs F.entry_dict_values_iter ?_ (F.args_dict_values_iter_1 _))
  unfold Builtin.«dict_values.__iter__»
  refine wpAny_bind (wpAny_pure (wpAny_bind ?_))
  unfold Builtin.Dict_items.dictOf
  refine wpAny_bind (wpAny_field hov hdv (x := .ref d) rfl (wpAny_pure (wpAny_bind ?_)))
  unfold Builtin.Dict_items.newIterator
  refine wpAny_bind (wpAny_dictEntries ho hdat (wpAny_bind (wpAny_dictEpoch ho hdat ?_)))
  simp only [show Builtin.Dict_items.ownsTuple "dict_valueiterator" = false by decide, Bool.false_eq_true, if_false]
  refine wpAny_newObj_type (wpAny_pure ⟨_, rfl, "dict_valueiterator", _, ⟨_, Heap.get?_push_size _ rfl, rfl⟩, F.slot_dict_valueiterator_next.lookup, ?_⟩)
  simpa [rawInt] using hQ
theorem next_val_item {it : Addr} {i n : Nat} {en : DictEntry} {Q : Option Value → Shared → Prop} (hit : s.heap.IsValIter it d i n ep) (hod : s.heap.get? d = some o) (hdd : o.data = .dict es ep)
    (hsz : es.size = n) (hx : es[i]? = some en) (hQ : ∀ h', h'.IsValIter it d (i + 1) n ep → Heap.SameBut it s.heap h' → Q (some en.val) { s with heap := h' }) : wpAny (model prog w) A (pyNext (.ref it)) Q E s := by
  obtain ⟨oi, ho, hc, hd⟩ := id hit
  unfold pyNext
  refine wpAny_bind (wpAny_attempt (wpAny_callSpecial?_slot (name := Str.ofString "__next__") hit.typeIs F.slot_dict_valueiterator_next (wpAny_call_entry F.slot_dict_valueiterator_next hit.typeIs F.entry_dict_valueiterator_next ?_ (F.args_dict_valueiterator_next_1 _))))
  refine wpAny_bind (wpAny_pure (wpAny_bind (wpAny_bind ?_)))
  first | refine wpAny_bind (wpAny_typeNameOfWhole_valiter hit.typeIs (wpAny_pure (wpAny_bind (wpAny_fieldsOf ho hd ?_)))) | refine wpAny_bind (wpAny_typeNameOf_valiter hit.typeIs (wpAny_pure (wpAny_bind (wpAny_fieldsOf ho hd ?_))))
  simp only [show Builtin.Dict_items.ownsTuple "dict_valueiterator" = false by decide, Bool.false_eq_true, if_false]
  show wpAny _ _ (if (Value.ref d == Value.none) = true then _ else _) _ _ s
  rw [if_neg (show ¬ ((Value.ref d == Value.none) = true) from Bool.false_ne_true)]
  refine wpAny_bind (wpAny_pure (wpAny_bind (wpAny_dictEntries hod hdd ?_)))
  rw [if_neg (by rw [hsz]; simp)]
  refine wpAny_bind (wpAny_pure (wpAny_bind (wpAny_dictEpoch hod hdd ?_)))
  rw [if_neg (by simp)]
  refine wpAny_pure ?_
  obtain ⟨hlt', hen⟩ := Array.getElem?_eq_some_iff.mp hx
  simp only [show ¬ ((i : Int) < 0) from by omega, if_false, Int.toNat_natCast, Array.getElem?_eq_getElem hlt']
  refine wpAny_bind ?_
  first | refine wpAny_bind (wpAny_typeNameOfWhole_valiter hit.typeIs (wpAny_pure (wpAny_bind (wpAny_isOneOf_valiter hit.typeIs ?_)))) | refine wpAny_bind (wpAny_typeNameOf_valiter hit.typeIs (wpAny_pure (wpAny_bind (wpAny_isOneOf_valiter hit.typeIs ?_))))
  show wpAny _ _ (setField (.ref it) 1 (rawInt ((i : Int) + 1)) >>= _) _ _ s
  refine wpAny_bind (wpAny_setField ho hd (by simp) ?_)
  have hit' : (s.heap.update it (Obj.mapFields (·.setIfInBounds 1 (rawInt ((i : Int) + 1))))).IsValIter it d (i + 1) n ep :=
    ⟨_, Heap.get?_update_self _ ho (Obj.isFreed_of_fields (Obj.data_mapFields hd _)), (Obj.cls_mapFields ..).trans hc, by rw [Obj.data_mapFields hd]; simp [rawInt]⟩
  refine wpAny_bind (wpAny_holding (wpAny_bind (wpAny_isOneOf_valiter (s := { s with heap := s.heap.update it (Obj.mapFields (·.setIfInBounds 1 (rawInt ((i : Int) + 1)))) }) hit'.typeIs ?_)))
  refine wpAny_bind (wpAny_isOneOf_valiter (s := { s with heap := s.heap.update it (Obj.mapFields (·.setIfInBounds 1 (rawInt ((i : Int) + 1)))) }) hit'.typeIs ?_)
  show wpAny _ _ (pure es[i].val) _ _ _; rw [hen]
  exact wpAny_pure (wpAny_pure ⟨_, rfl, wpAny_pure (hQ _ hit' (Heap.SameBut.update ..))⟩)
theorem next_val_end {it : Addr} {i n : Nat} {Q : Option Value → Shared → Prop} (hh : A.handled = none) (hit : s.heap.IsValIter it d i n ep) (hod : s.heap.get? d = some o) (hdd : o.data = .dict es ep)
    (hsz : es.size = n) (hge : n ≤ i) (hQ : ∀ h', Heap.ExtBut it s.heap h' → Q none { s with heap := h' }) : wpAny (model prog w) A (pyNext (.ref it)) Q E s := by
  obtain ⟨oi, ho, hc, hd⟩ := id hit
  unfold pyNext
  refine wpAny_bind (wpAny_attempt (wpAny_callSpecial?_slot (name := Str.ofString "__next__") hit.typeIs F.slot_dict_valueiterator_next (wpAny_call_entry F.slot_dict_valueiterator_next hit.typeIs F.entry_dict_valueiterator_next ?_ (F.args_dict_valueiterator_next_1 _))))
  refine wpAny_bind (wpAny_pure (wpAny_bind (wpAny_bind ?_)))
  first | refine wpAny_bind (wpAny_typeNameOfWhole_valiter hit.typeIs (wpAny_pure (wpAny_bind (wpAny_fieldsOf ho hd ?_)))) | refine wpAny_bind (wpAny_typeNameOf_valiter hit.typeIs (wpAny_pure (wpAny_bind (wpAny_fieldsOf ho hd ?_))))
  simp only [show Builtin.Dict_items.ownsTuple "dict_valueiterator" = false by decide, Bool.false_eq_true, if_false]
  show wpAny _ _ (if (Value.ref d == Value.none) = true then _ else _) _ _ s
  rw [if_neg (show ¬ ((Value.ref d == Value.none) = true) from Bool.false_ne_true)]
  refine wpAny_bind (wpAny_pure (wpAny_bind (wpAny_dictEntries hod hdd ?_)))
  rw [if_neg (by rw [hsz]; simp)]
  refine wpAny_bind (wpAny_pure (wpAny_bind (wpAny_dictEpoch hod hdd ?_)))
  rw [if_neg (by simp)]
  refine wpAny_pure ?_
  have hge' : es.size ≤ i := by rw [hsz]; exact hge
  simp only [show ¬ ((i : Int) < 0) from by omega, if_false, Int.toNat_natCast, Array.getElem?_eq_none hge']
  refine wpAny_bind ?_
  first | refine wpAny_bind (wpAny_typeNameOfWhole_valiter hit.typeIs (wpAny_pure ?_)) | refine wpAny_bind (wpAny_typeNameOf_valiter hit.typeIs (wpAny_pure ?_))
  show wpAny _ _ (setField (.ref it) 0 .none >>= _) _ _ s
  refine wpAny_bind (wpAny_setField ho hd (by simp) ?_)
  show wpAny _ _ (newExc (.type "StopIteration") [] >>= _) _ _ _
  refine wpAny_bind ?_
  simp only [newExc, newTuple]
  refine wpAny_bind (wpAny_newObj_type ?_ (by size_fits))
  refine wpAny_bind (m := firstArgMember _ _) (wpAny_of_eq (a := Value.none) (by first | rfl | (simp only [firstArgMember]; rfl)) ?_)
  refine wpAny_newObj_type ?_ (by size_fits)
  simp only [raiseNew]
  refine wpAny_bind (wpAny_handled ?_)
  rw [show A.in1.handled = none from hh]
  refine wpAny_bind (wpAny_pure (wpAny_throw ?_))
  refine wpAny_bind (wpAny_isInstance (T := "StopIteration") (b := true) ⟨_, Heap.get?_push_size _ rfl, rfl⟩ isSubtype_stop ?_)
  exact wpAny_pure (hQ _ (((Heap.SameBut.update ..).extBut.push _).push _))
theorem walks_vals {A : Around} (hh : A.handled = none) (it d : Addr) (hne : d ≠ it) (o : Obj) (hd : o.data = .dict es ep) :
    Walks prog w A it [it, d] [it] es.size (fun i v => ∃ en, es[i]? = some en ∧ v = en.val) (fun i h => h.IsValIter it d i es.size ep ∧ h.get? d = some o) where
  sub := fun b hb => by
    rw [List.mem_singleton] at hb
    rw [hb]
    exact List.mem_cons_self ..
  frame := fun i h h' st k => ⟨st.1.at fun oi e => k it (List.mem_cons_self ..) oi e, k d (by simp) o st.2⟩
  item := fun i s Q E hi st hQ => by
    obtain ⟨en, hen⟩ : ∃ en, es[i]? = some en := ⟨es[i], Array.getElem?_eq_getElem hi⟩
    refine next_val_item st.1 st.2 hd rfl hen fun h' st' sb => ?_
    exact hQ en.val h' s.toks ⟨en, hen, rfl⟩ ⟨st', (sb.2 d hne).trans st.2⟩ fun b ob hb e => (sb.2 b (by simpa using hb)).trans e
  done := fun s Q E st hQ => next_val_end hh st.1 st.2 hd rfl (Nat.le_refl _) fun h' eb => hQ h' s.toks fun b ob hb e => eb b ob (by simpa using hb) e
  self := fun i s Q E st hQ => wpAny_pyIter_valiter st.1 hQ
end
theorem pre_take (ns : List Int) : ∀ k, k ≤ ns.length → preSum (fun i => ns.getD i 0) k = (ns.take k).sum
  | 0, _ => by simp [preSum]
  | k + 1, h => by
    show preSum (fun i => ns.getD i 0) k + ns.getD k 0 = _
    have e : ns[k]? = some ns[k] := List.getElem?_eq_getElem (by omega)
    rw [pre_take ns k (by omega), take_one e, List.sum_append, List.getD_eq_getElem?_getD, e]
    simp
theorem val_at {H : Hp} : ∀ {kvs : List (List Key × V)} {xs : List (List Key × Addr × Value)} {ns : List Int}, KT H kvs xs → kvs.map (·.2) = ns.map V.int → ∀ (i : Nat) (x : List Key × Addr × Value), xs[i]? = some x → ∃ t, x.2.2 = Value.int (ns.getD i 0) t
  | _, _, ns, .nil, _, i, x, h => by simp at h
  | _, _, ns, .cons r t, e, i, x, h => by
    cases ns with
    | nil => cases e
    | cons n ns =>
      obtain ⟨e1, e2⟩ := List.cons.inj e
      cases i with
      | zero =>
        simp at h
        subst h
        obtain ⟨_, _, h3⟩ := r
        dsimp only at e1
        rw [e1] at h3
        obtain ⟨t, h3⟩ := h3
        exact ⟨t, h3⟩
      | succ i => exact val_at t e2 i x (by simpa using h)
def tSumV (td : TE) : TE := fun σ H Q => td σ H fun x H1 => ∃ (d : Addr) (kvs : List (List Key × V)) (ns : List Int), x = .ref d ∧ H1 d = some (.dT kvs) ∧ kvs.map (·.2) = ns.map V.int ∧ Q (.int ns.sum) H1
theorem pe_sumVals {X : Cx} {e : Expr} {td : TE} {p pos apos cpos : Pos} (hc : X.calm = true) (hg : Gl X "sum") (hm : X.mg "sum" = none) (he : PE X e td) (hbase : attributeBase e "values" X.env (eval e X.env) = eval e X.env := by rfl) (hline : (apos.endLine == cpos.line) = true := by rfl) :
    PE X (.Call (.Name "sum" p) [.Call (.Attribute e "values" apos) [] [] cpos] [] pos) (tSumV td) := by
  intro pins s σ H Q I h
  refine wpAny_Call_Name_kw (ld_blt I hg hm rfl ?_ (by decide) (by decide))
  refine PyProof.Rows.callWith_builtin1 ?_ rfl rfl
  show wpAny _ _ (spliced ((false, eval (.Call (.Attribute e "values" apos) [] [] cpos) X.env) :: backTo pos (starEach [] X.env))) _ _ s
  refine Calls.spliced_cons ?_
  refine wpAny_Call_method (T := "dict") (id := "dict.values") hbase rfl hline F.plainAttrs_dict F.slot_dict_values F.type_dict_values (thn (he pins s σ H _ I h) fun u s1 ⟨x, H1, I1, rx, d, kvs, ns, ex, hd, hns, q⟩ => ?_)
  subst ex
  obtain rfl : u = Value.ref d := rx
  obtain ⟨z, lo, xs, pr, o, es, ep, ho, hx, hdt, hes, hnd⟩ := I1.hok d _ hd
  have hT : s1.TypeIs (.ref d) "dict" := ⟨o, ho, hx.1⟩
  refine ⟨hT, fun b eb => by cases eb; exact ⟨o, ho, hx.2.1⟩, ?_⟩
  show wpAny _ _ (callWith cpos (.builtin "dict.values") [.ref d] [] []) _ X.xe s1
  refine method_meetsIn F.slot_dict_values F.entry_dict_values rfl (PySem.evalArgs_none ⟨rfl, hT, F.args_dict_values_1 _, _, vals_raw lo, hT, ?_⟩)
  refine Calls.spliced_nil ?_
  have hsz : es.size = xs.length := by rw [← Array.length_toList, hes, List.length_map]
  have hkx : kvs.length = xs.length := Paired.length pr
  have hnl : kvs.length = ns.length := by
    have := congrArg List.length hns
    rw [List.length_map, List.length_map] at this
    exact this
  have ho2 : (s1.heap.push { cls := .type "dict_values", data := .fields #[.ref d] }).get? d = some o := Heap.get?_push_of_some _ ho
  have hlt : d < s1.heap.objs.size := Heap.lt_size ho
  have big : (s1.heap.push { cls := .type "dict_values", data := .fields #[.ref d] }).objs.size = s1.heap.objs.size + 1 := Heap.size_push ..
  have hne : d ≠ (s1.heap.push { cls := .type "dict_values", data := .fields #[.ref d] }).objs.size := by
    rw [big]
    exact Nat.ne_of_lt (Nat.lt_succ_of_lt hlt)
  refine call_sum_walkAnyS (iter_vals (s := { s1 with heap := s1.heap.push { cls := .type "dict_values", data := .fields #[.ref d] } }) ⟨_, Heap.get?_push_size _ rfl, rfl, rfl⟩ ho2 hdt ⟨_, _, _, _, es.size, _, _, fun i => ns.getD i 0, rfl, (walks_vals (prog := X.prog) (w := X.w) (A := X.A.in1) (I1.ok.hd hc) _ d hne o hdt).toS, ⟨⟨_, Heap.get?_push_size _ rfl, rfl, rfl⟩, Heap.get?_push_of_some _ ho2⟩, fun b hb => ?_, fun i v hv => ?_, fun s' t' mv => ?_⟩)
  · show b < ((s1.heap.push _).push _).objs.size
    rw [Heap.size_push]
    rcases List.mem_cons.mp hb with z1 | z1
    · rw [z1]; exact Nat.lt_succ_self _
    · rw [List.mem_singleton.mp z1, big]; exact Nat.lt_succ_of_lt (Nat.lt_succ_of_lt hlt)
  · obtain ⟨en, h1, rfl⟩ := hv
    rw [← Array.getElem?_toList, hes] at h1
    obtain ⟨x, h2, h3⟩ := map_get h1
    obtain ⟨t, h4⟩ := val_at pr hns i x h2
    exact ⟨t, by rw [h3]; exact h4⟩
  · have old : ∀ b ob, s1.heap.get? b = some ob → s'.heap.get? b = some ob := fun b ob eb => by
      refine mv.heap b ob (fun hI => ?_) (Heap.get?_push_of_some _ (Heap.get?_push_of_some _ eb))
      have := Heap.lt_size eb
      rw [List.mem_singleton.mp hI, big] at this
      exact absurd this (Nat.not_lt.mpr (Nat.le_succ _))
    rw [Moved.eq_with mv]
    refine ⟨.int ns.sum, H1, I1.kept old, ⟨t', ?_⟩, q⟩
    rw [hsz, ← hkx, hnl, pre_take ns _ (Nat.le_refl _), List.take_length]
end Bm

end
section
set_option Elab.async false
set_option linter.all false
set_option maxRecDepth 100000
set_option maxHeartbeats 2000000
namespace Bm
open PySem PySem.Spec PyProof.Rows L2
open Kri5 (Pair Quantity House pairsOf nextAll)

/-! ### the calls as the program holds them -/
/-- the program's table -/
def tab : List (Str × Nat × Nat) := [("begin", 0, 0), ("quantity", 1, 0), ("place", 2, 0), ("way", 2, 0), ("notat", 2, 0), ("tick", 0, 0), ("forget", 1, 0), ("back", 0, 0), ("may", 1, 0), ("ways", 1, 0), ("pairs", 1, 0), ("sure", 1, 0), ("soonest", 2, 0),
  ("path", 2, 0), ("between", 5, 0), ("next", 3, 0), ("before", 3, 0), ("run", 1, 1), ("count", 2, 0), ("later", 2, 0), ("look", 1, 0), ("state", 0, 0)]
def nm (k : Kri5.Call) : Str := match k with
  | .begin_ => "begin" | .quantity _ => "quantity" | .place _ _ => "place" | .way _ _ => "way" | .notAt _ _ => "notat" | .tick => "tick" | .forget _ => "forget" | .back => "back" | .may _ => "may" | .ways _ => "ways" | .pairs _ => "pairs"
  | .sure _ => "sure" | .soonest _ _ => "soonest" | .path _ _ => "path" | .between _ _ _ _ _ => "between" | .next _ _ _ => "next" | .before _ _ _ => "before" | .run _ _ => "run" | .count _ _ => "count" | .later _ _ => "later" | .look _ => "look" | .state => "state"
theorem tab_of (k : Kri5.Call) : tab[num k]? = some (nm k, (args k).length, (rws k).length) := by cases k <;> rfl
structure CallsTab (K : PySem.W.Frag) (mg : Str → Option Value) (aC : Addr) : Prop where
  at_ : mg "CALLS" = some (.ref aC)
  ex : ∃ rs : List Addr, (∀ H, SqT K H aC (rs.map V.ref)) ∧ Paired (fun r (x : Str × Nat × Nat) => ∀ H, SqT K H r [.str x.1, .int x.2.1, .int x.2.2]) rs tab
/-- what is given with the call k stands in the list at g -/
def GivenAt (G : Hp) (g : Addr) (k : Kri5.Call) : Prop := ∃ rs : List Addr, G g = some (.lst (vi (args k) ++ rs.map V.ref)) ∧ Paired (fun r (l : List Nat) => NatsAt G r l ∧ l.length < 256) rs (rws k)
def CallAt (G : Hp) (t : Addr) (k : Kri5.Call) : Prop := ∃ g, G t = some (.tup [.str (nm k), .ref g]) ∧ GivenAt G g k
def CallsAt (G : Hp) (r : Addr) (ks : List Kri5.Call) : Prop := ∃ ts : List Addr, G r = some (.lst (ts.map V.ref)) ∧ Paired (CallAt G) ts ks
theorem pr_inR {α β : Type} {F : α → β → Prop} : ∀ {l : List α} {m : List β}, Paired F l m → Paired (fun a b => F a b ∧ b ∈ m) l m
  | _, _, .nil => .nil
  | _, _, .cons r t => .cons ⟨r, List.mem_cons_self ..⟩ (pr_mono (fun a b e => ⟨e.1, List.mem_cons_of_mem _ e.2⟩) (pr_inR t))
theorem GivenAt.mono {G G' : Hp} {g : Addr} {k : Kri5.Call} (s : Same G G') (h : GivenAt G g k) : GivenAt G' g k := by
  obtain ⟨rs, h1, h2⟩ := h
  exact ⟨rs, s _ _ h1, pr_mono (fun r l e => ⟨s _ _ e.1, e.2⟩) h2⟩
theorem CallAt.mono {G G' : Hp} {t : Addr} {k : Kri5.Call} (s : Same G G') (h : CallAt G t k) : CallAt G' t k := by
  obtain ⟨g, h1, h2⟩ := h
  exact ⟨g, s _ _ h1, h2.mono s⟩
theorem CallsAt.mono {G G' : Hp} {t : Addr} {ks : List Kri5.Call} (s : Same G G') (h : CallsAt G t ks) : CallsAt G' t ks := by
  obtain ⟨g, h1, h2⟩ := h
  exact ⟨g, s _ _ h1, pr_mono (fun r l e => e.mono s) h2⟩
theorem Fz_Nw {G H H1 H2 : Hp} (g : Same G (Nw H H1)) (f : ∀ b, H1 b = none → H b = none) (g2 : Same G H2) : Same (Fz G H1 H2) (Nw H H2) := fun b o e => by
  have e2 := Fz_sub g2 b o e
  unfold Fz at e
  split at e
  · rename_i c
    rcases c with c | c
    · refine Nw_at (f b ?_) e2
      cases q : H1 b with
      | none => rfl
      | some u => rw [q] at c; cases c
    · rw [e2] at c
      cases o with
      | tup xs => exact Nw_tup e2
      | _ => cases c
  · rcases (Nw_is (g b o e)).2 with n | ⟨xs, rfl⟩
    · exact Nw_at n e2
    · exact Nw_tup e2

/-! ### the flat list, read on -/
theorem vi_eq (l : List Nat) : (zs l).map V.int = vi l := by
  unfold zs vi
  rw [List.map_map]
  rfl
/-- a slice of a list that is known in three parts -/
theorem cut_mid (a b c : List V) (lo hi : Int) (hl : lo = a.length) (hh : hi = (a.length + b.length : Nat)) : cutV (a ++ (b ++ c)) (some lo) (some hi) = b := by
  subst hl hh
  unfold cutV
  have n1 : HT.sIx (a ++ (b ++ c)).length 0 (some ((a.length : Nat) : Int)) = a.length := by
    rw [HT.sIx_nat, List.length_append]
    omega
  have n2 : HT.sIx (a ++ (b ++ c)).length (a ++ (b ++ c)).length (some ((a.length + b.length : Nat) : Int)) = a.length + b.length := by
    rw [HT.sIx_nat, List.length_append, List.length_append]
    omega
  rw [n1, n2, List.drop_left]
  have e : a.length + b.length - a.length = b.length := by omega
  rw [e, List.take_left]
theorem rws_le (k : Kri5.Call) : (rws k).length ≤ 1 := by cases k <;> simp [rws]
theorem args_le (k : Kri5.Call) : (args k).length ≤ 5 := by cases k <;> simp [args]
/-! ### split_calls -/
abbrev sSplit : Stmt := top 2
def spSplit (K : PySem.W.Frag) : Sp := fun vs H Q _ => ∃ (a : Addr) (ks : List Kri5.Call), vs = [.ref a] ∧ SqL K H a ((ks.flatMap fl).map V.int) ∧ ks.length ≤ 60 ∧ (ks.flatMap fl).length ≤ 16000 ∧ (∀ k ∈ ks, Small k) ∧
  ∀ (H' : Hp) (r : Addr), Same H H' → CallsAt (Nw H H') r ks → Q (.ref r) H'
/-- the rows that come behind a call's numbers -/
def rowsFl (l : List (List Nat)) : List Int := l.flatMap rowFl
theorem rowsFl_cons (x : List Nat) (l : List (List Nat)) : rowsFl (x :: l) = (x.length : Int) :: (zs x ++ rowsFl l) := rfl
theorem zs_len (l : List Nat) : (zs l).length = l.length := by unfold zs; exact List.length_map _
theorem fl_cons (k : Kri5.Call) : fl k = (num k : Int) :: (zs (args k) ++ rowsFl (rws k)) := rfl
theorem rows_split {l : List (List Nat)} {j : Nat} {x : List Nat} (h : l[j]? = some x) : rowsFl l = rowsFl (l.take j) ++ ((x.length : Int) :: (zs x ++ rowsFl (l.drop (j + 1)))) := by
  have e : l = l.take j ++ x :: l.drop (j + 1) := by
    obtain ⟨hj, rfl⟩ := List.getElem?_eq_some_iff.mp h
    rw [List.getElem_cons_drop, List.take_append_drop]
  have e2 : rowsFl l = rowsFl (l.take j ++ x :: l.drop (j + 1)) := congrArg rowsFl e
  rw [e2]
  unfold rowsFl
  rw [List.flatMap_append]
  rfl
theorem take_rows {l : List (List Nat)} {j : Nat} {x : List Nat} (h : l[j]? = some x) : (rowsFl (l.take (j + 1))).length = (rowsFl (l.take j)).length + (1 + x.length) := by
  rw [take_one h]
  unfold rowsFl
  rw [List.flatMap_append, List.length_append]
  show _ + (rowFl x ++ []).length = _
  rw [List.append_nil]
  unfold rowFl
  rw [List.length_cons, zs_len]
  omega
section
variable {P : Program} {w : World} {K : PySem.W.Frag} {mg : Str → Option Value} {base : Heap} {aD aC : Addr}
theorem scSplit : FnScope ["numbers", "found", "at", "shape", "given", "row", "size"] ["numbers"] (defScope sSplit) := ⟨rfl, rfl, rfl, by decide +kernel, rfl, by decide +kernel, by decide +kernel⟩
theorem ok_split {f : Addr} {fd : FuncData} (D : Def K mg "split_calls" sSplit ["numbers"] f fd) (T : Dirs K mg aD) (TC : CallsTab K mg aC) : FnOk P w K mg base CX0 1 f fd ["numbers"] (spSplit K) := by
  obtain ⟨ra, hC, hR⟩ := TC.ex
  refine D.fn.ok scSplit (fun vs H Q E h => ?_) (fun cdv A outer s H vs Q E hr h => ?_)
  · obtain ⟨a, ks, rfl, _⟩ := h
    rfl
  · obtain ⟨a, ks, rfl, hS, h60, h16, hsm, kk⟩ := h
    refine ⟨_, (pss_cons (ps_set (i := 1) scSplit.nd rfl (Or.inl rfl) (pe_lst pa_nil))
        (pss_cons (ps_set (i := 2) scSplit.nd rfl (Or.inl rfl) pe_int)
        (pss_cons (ps_while PassesOwn.never (pt_cmpR op_lt (pv 2) (pe_callB call_len_seq (by rfl) T.len PySem.boot_len (pa_cons (pv 0) pa_nil)) (nomark _))
        (pss_cons (ps_set (i := 3) scSplit.nd rfl (Or.inl rfl) (pe_ix ix_tup (pe_glob (v := .ref aC) rfl TC.at_ rfl) (pe_ix ix_list (pv 0) (pv 2) (fun _ _ => rfl)) (fun _ _ => rfl)))
        (pss_cons (ps_set (i := 2) scSplit.nd rfl (Or.inl rfl) (pe_op op_add (pv 2) pe_int))
        (pss_cons (ps_set (i := 4) scSplit.nd rfl (Or.inl rfl) (pe_slice sl_list (pv 0) (po_some (pv 2)) (po_some (pe_op op_add (pv 2) (pe_ix ix_tup (pv 3) pe_int (fun _ _ => rfl))))))
        (pss_cons (ps_set (i := 2) scSplit.nd rfl (Or.inl rfl) (pe_op op_add (pv 2) (pe_ix ix_tup (pv 3) pe_int (fun _ _ => rfl))))
        (pss_cons (ps_for PassesOwn.never rfl (pi_range1 rfl T.range (pa_cons (pe_ix ix_tup (pv 3) pe_int (fun _ _ => rfl)) pa_nil)) (pg_name (i := 5) scSplit.nd rfl (Or.inl rfl))
          (pss_cons (ps_set (i := 6) scSplit.nd rfl (Or.inl rfl) (pe_ix ix_list (pv 0) (pv 2) (fun _ _ => rfl)))
        (pss_cons (ps_expr (pe_bm PySem.F.plainAttrs_list PySem.F.slot_list_append PySem.F.type_list_append mt_append (pv 4) (pa_cons (pe_slice sl_list (pv 0) (po_some (pe_op op_add (pv 2) pe_int)) (po_some (pe_op op_add (pe_op op_add (pv 2) pe_int) (pv 6)))) pa_nil)))
        (pss_one (ps_set (i := 2) scSplit.nd rfl (Or.inl rfl) (pe_op op_add (pe_op op_add (pv 2) pe_int) (pv 6)))))))
        (pss_one (ps_expr (pe_bm PySem.F.plainAttrs_list PySem.F.slot_list_append PySem.F.type_list_append mt_append (pv 1) (pa_cons (pe_tup (pa_cons (pe_ix ix_tup (pv 3) pe_int (fun _ _ => rfl)) (pa_cons (pv 4) pa_nil))) pa_nil))))))))))
        (pss_one (ps_ret (pv 1)))))), ?_⟩
    refine ⟨Nat.zero_le _, fun l hl => ?_⟩
    -- the loop
    let Wd : Nat → L2.St → Hp → Prop := fun m σ H' => ∃ (dn rest : List Kri5.Call) (v3 v4 v5 v6 : Option V) (ts : List Addr) (G : Hp), ks = dn ++ rest ∧ m = rest.length ∧
      σ = [some (.ref a), some (.ref l), some (.int (((dn.flatMap fl).length : Nat) : Int)), v3, v4, v5, v6] ∧ Same H H' ∧ H' l = some (.lst (ts.map V.ref)) ∧ Same G (Nw H H') ∧ G l = none ∧ Paired (CallAt G) ts dn
    refine ⟨Wd, ⟨ks.length, [], ks, none, none, none, none, [], fun _ => none, rfl, rfl, rfl, same_new hl, upd_same, (fun b o e => by cases e), rfl, .nil⟩, ?_⟩
    rintro m σ H1 ⟨dn, rest, v3, v4, v5, v6, ts, G, hks, hm, rfl, s1, h1, g1, gl, p1⟩
    have q1 : SqL K H1 a ((ks.flatMap fl).map V.int) := s1.seq hS
    refine ⟨_, rfl, _, rfl, a, _, rfl, .inl q1, _, _, rfl, rfl, _, rfl, ite2 (fun c => ?_) (fun c => ?_)⟩
    · -- one call more
      have c := of_decide_eq_true c
      obtain ⟨k, rest', rfl⟩ : ∃ k rest', rest = k :: rest' := by
        cases rest with
        | nil =>
          rw [List.append_nil] at hks
          subst hks
          rw [List.length_map] at c
          omega
        | cons k r => exact ⟨k, r, rfl⟩
      have hm' : m - 1 = rest'.length := by rw [hm]; rfl
      refine ⟨fun σ' H' => Wd (m - 1) σ' H', fun σ' H' w => ⟨m - 1, by rw [hm, List.length_cons]; omega, w⟩, ?_⟩
      -- the list, in parts
      have eL : (ks.flatMap fl).map V.int = (dn.flatMap fl).map V.int ++ (V.int (num k : Int) :: (vi (args k) ++ ((rowsFl (rws k)).map V.int ++ (rest'.flatMap fl).map V.int))) := by
        rw [hks, List.flatMap_append, List.flatMap_cons, fl_cons, List.map_append, List.map_append, List.map_cons, List.map_append, vi_eq]
        simp
      have at0 : atI ((ks.flatMap fl).map V.int) (((dn.flatMap fl).length : Nat) : Int) = some (V.int (num k : Int)) := by
        refine atI_nat ?_
        rw [eL, List.getElem?_append_right (by rw [List.length_map] <;> omega), List.length_map, Nat.sub_self]
        rfl
      obtain ⟨rk, hrk, hk⟩ := pr_getR hR (tab_of k)
      have at1 : atI (ra.map V.ref) (num k : Int) = some (V.ref rk) := atI_nat (by rw [List.getElem?_map, hrk]; rfl)
      refine ⟨_, rfl, _, rfl, a, _, _, _, rfl, rfl, q1, at0, aC, _, _, _, rfl, rfl, hC _, at1, ?_⟩
      refine ⟨_, rfl, _, _, rfl, rfl, ?_⟩
      refine ⟨_, rfl, _, rfl, _, rfl, _, rfl, _, rfl, rk, _, _, _, rfl, rfl, hk _, at_of (j := 1) rfl rfl, _, _, rfl, rfl, _, rfl, a, _, rfl, q1, fun g hg => ?_⟩
      -- given
      have eL2 : (ks.flatMap fl).map V.int = ((dn.flatMap fl).map V.int ++ [V.int (num k : Int)]) ++ (vi (args k) ++ ((rowsFl (rws k)).map V.int ++ (rest'.flatMap fl).map V.int)) := by
        rw [eL, List.append_assoc]
        rfl
      have eg : cutV ((ks.flatMap fl).map V.int) (some ((((dn.flatMap fl).length : Nat) : Int) + 1)) (some ((((dn.flatMap fl).length : Nat) : Int) + 1 + ((args k).length : Int))) = vi (args k) := by
        rw [eL2]
        refine cut_mid _ _ _ _ _ ?_ ?_
        · rw [List.length_append, List.length_map]
          simp
        · rw [List.length_append, List.length_map]
          unfold vi
          rw [List.length_map]
          simp
      have q2 : ∀ {H' : Hp}, Same H1 H' → SqL K H' a ((ks.flatMap fl).map V.int) := fun z => z.seq q1
      refine ⟨_, rfl, _, rfl, rk, _, _, _, rfl, rfl, hk _, at_of (j := 1) rfl rfl, _, _, rfl, rfl, ?_⟩
      refine ⟨_, rfl, rk, _, _, _, rfl, rfl, hk _, at_of (j := 2) rfl rfl, _, rfl, by omega, ?_, ?_⟩
      · have z1 := rws_le k
        show (((rws k).length : Nat) : Int) < 2 ^ 62
        omega
      have en : (((rws k).length : Nat) : Int).toNat = (rws k).length := Int.toNat_natCast _
      show ∃ W : Nat → Nat → L2.St → Hp → Prop, _
      rw [en]
      refine for_range (lo := 0) (n := (rws k).length) (fun j σ H' => ∃ (z : Int) (v5 v6 : Option V) (rs : List Addr), σ = [some (.ref a), some (.ref l), some (.int z), some (.ref rk), some (.ref g), v5, v6] ∧
          z = ((dn.flatMap fl).length : Int) + 1 + ((args k).length : Int) + ((rowsFl ((rws k).take j)).length : Int) ∧ Same H1 H' ∧ H' g = some (.lst (vi (args k) ++ rs.map V.ref)) ∧
          Paired (fun r (x : List Nat) => H' r = some (.lst (vi x)) ∧ H1 r = none ∧ r ≠ g) rs ((rws k).take j))
        ⟨_, v5, v6, [], rfl, by simp [rowsFl], same_new hg, by rw [upd_same, eg]; simp, .nil⟩ ?_ ?_
      · -- a row
        rintro j σ H3 hj ⟨z, v5, v6, rs, rfl, hz, s3, h3, p3⟩
        obtain ⟨x, hx⟩ : ∃ x, (rws k)[j]? = some x := ⟨_, List.getElem?_eq_getElem hj⟩
        have hxl : x.length < 256 := ((hsm k (by rw [hks]; simp)).rws x (List.mem_of_getElem? hx)).1
        have eR := rows_split hx
        have eL3 : (ks.flatMap fl).map V.int = ((dn.flatMap fl).map V.int ++ (V.int (num k : Int) :: (vi (args k) ++ (rowsFl ((rws k).take j)).map V.int))) ++ (V.int (x.length : Int) :: (vi x ++ ((rowsFl ((rws k).drop (j + 1))).map V.int ++ (rest'.flatMap fl).map V.int))) := by
          rw [eL, eR, List.map_append, List.map_cons, List.map_append, vi_eq]
          simp
        have hpre : ((dn.flatMap fl).map V.int ++ (V.int (num k : Int) :: (vi (args k) ++ (rowsFl ((rws k).take j)).map V.int))).length = (dn.flatMap fl).length + 1 + (args k).length + (rowsFl ((rws k).take j)).length := by
          unfold vi
          simp
          omega
        have at3 : atI ((ks.flatMap fl).map V.int) z = some (V.int (x.length : Int)) := by
          refine at_of (j := (dn.flatMap fl).length + 1 + (args k).length + (rowsFl ((rws k).take j)).length) (by rw [hz]; omega) ?_
          rw [eL3, List.getElem?_append_right (by rw [hpre] <;> omega), hpre, Nat.sub_self]
          rfl
        have cut3 : cutV ((ks.flatMap fl).map V.int) (some (z + 1)) (some (z + 1 + (x.length : Int))) = vi x := by
          have eL4 : (ks.flatMap fl).map V.int = (((dn.flatMap fl).map V.int ++ (V.int (num k : Int) :: (vi (args k) ++ (rowsFl ((rws k).take j)).map V.int))) ++ [V.int (x.length : Int)]) ++ (vi x ++ ((rowsFl ((rws k).drop (j + 1))).map V.int ++ (rest'.flatMap fl).map V.int)) := by
            rw [eL3, List.append_assoc _ [V.int (x.length : Int)]]
            rfl
          rw [eL4]
          refine cut_mid _ _ _ _ _ ?_ ?_
          · rw [List.length_append, hpre, hz]
            simp
          · rw [List.length_append, hpre, hz]
            unfold vi
            rw [List.length_map]
            simp
        refine ⟨_, rfl, _, rfl, a, _, _, _, rfl, rfl, q2 s3, at3, ?_⟩
        refine ⟨_, rfl, .inl ⟨rfl, _, SqL.of h3⟩, _, rfl, _, rfl, _, _, rfl, rfl, _, rfl, _, rfl, _, _, rfl, rfl, _, rfl, _, _, rfl, rfl, _, rfl, a, _, rfl, q2 s3, fun r hr' => ?_⟩
        have ngr : g ≠ r := ne_of_none h3 hr'
        have hlen : (vi (args k) ++ rs.map V.ref).length < sizeLine := by
          refine line_small ?_
          have l1 := p3.length
          have z1 := rws_le k
          have z2 := args_le k
          rw [List.length_take] at l1
          unfold vi
          rw [List.length_append, List.length_map, List.length_map]
          omega
        refine ⟨g, _, _, rfl, rfl, (by rw [upd_ne ngr]; exact h3), hlen, ?_⟩
        refine ⟨_, rfl, _, _, rfl, rfl, _, rfl, _, _, rfl, rfl, ?_⟩
        refine ⟨_, _, _, rs ++ [r], rfl, ?_, ?_, ?_, ?_⟩
        · rw [take_rows hx, hz]
          omega
        · intro b o e
          have e3 := s3 b o e
          rw [upd_ne (ne_of_none e hg), upd_ne (ne_of_none e3 hr')]
          exact e3
        · rw [upd_same, List.map_append, List.append_assoc]
          rfl
        · rw [take_one hx]
          refine Paired.snoc (pr_mono (fun q y e => ⟨by rw [upd_ne e.2.2, upd_ne (ne_of_none e.1 hr')]; exact e.1, e.2.1, e.2.2⟩) p3) ⟨?_, s3.free hr', ngr.symm⟩
          rw [upd_ne ngr.symm, upd_same, cut3]
      · -- the call is told
        rintro σ H4 ⟨z, w5, w6, rs, rfl, hz, s4, h4, p4⟩
        rw [List.take_length] at hz p4
        have hl4 : H4 l = some (.lst (ts.map V.ref)) := s4 _ _ h1
        have ngl : g ≠ l := (ne_of_none h1 hg).symm
        refine ⟨_, rfl, .inl ⟨rfl, _, SqL.of hl4⟩, _, rfl, rk, _, _, _, rfl, rfl, hk _, at_of (j := 0) rfl rfl, _, rfl, (by show 2 ≤ sizeLine; rw [sizeLine_eq]; decide), fun t ht => ?_⟩
        have ntl : t ≠ l := (ne_of_none hl4 ht).symm
        have ntg : t ≠ g := (ne_of_none h4 ht).symm
        have hlen : (ts.map V.ref).length < sizeLine := by
          refine line_small ?_
          have l1 := p1.length
          have l2 : dn.length ≤ ks.length := by rw [hks, List.length_append]; omega
          rw [List.length_map]
          omega
        refine ⟨l, _, _, rfl, rfl, (by rw [upd_ne ntl.symm]; exact hl4), hlen, ?_⟩
        have t1 : H1 t = none := s4.free ht
        -- the heap at the turn's end
        have k5 : ∀ b o, H4 b = some o → b ≠ l → (upd (upd H4 t (.tup [.str (nm k), .ref g])) l (.lst (ts.map V.ref ++ [.ref t]))) b = some o := fun b o e hb => by
          rw [upd_ne hb, upd_ne (ne_of_none e ht)]
          exact e
        have g5 : Same G (upd (upd H4 t (.tup [.str (nm k), .ref g])) l (.lst (ts.map V.ref ++ [.ref t]))) := fun b o e =>
          k5 b o (s4 b o (Nw_sub b o (g1 b o e))) (by rintro rfl; rw [gl] at e; cases e)
        refine ⟨dn ++ [k], rest', some (.ref rk), some (.ref g), w5, w6, ts ++ [t], Fz G H1 (upd (upd H4 t (.tup [.str (nm k), .ref g])) l (.lst (ts.map V.ref ++ [.ref t]))), ?_, hm', ?_, ?_, ?_, ?_, ?_, ?_⟩
        · rw [hks, List.append_assoc]
          rfl
        · have ez : z = ((((dn ++ [k]).flatMap fl).length : Nat) : Int) := by
            rw [hz, List.flatMap_append, List.length_append]
            show _ = (((dn.flatMap fl).length + (fl k ++ []).length : Nat) : Int)
            rw [List.append_nil, fl_cons, List.length_cons, List.length_append, zs_len]
            omega
          rw [ez]
        · intro b o e
          have nb : b ≠ l := by rintro rfl; rw [hl] at e; cases e
          exact k5 b o (s4 b o (s1 b o e)) nb
        · rw [upd_same, List.map_append]
          rfl
        · exact Fz_Nw g1 (fun b e => s1.free e) g5
        · rw [Fz_none h1 (by rw [upd_same]; rfl)]
          exact gl
        · refine Paired.snoc (pr_mono (fun q y e => e.mono (Fz_old g5)) p1) ⟨g, ?_, rs, ?_, ?_⟩
          · refine Fz_new _ _ (Nw_at t1 ?_)
            rw [upd_ne ntl, upd_same]
          · exact Fz_new _ _ (Nw_at hg (k5 g _ h4 ngl))
          · refine pr_mono (fun q y ⟨e, hy⟩ => ⟨?_, ((hsm k (by rw [hks]; simp)).rws y hy).1⟩) (pr_inR p4)
            refine Fz_new _ _ (Nw_at e.2.1 (k5 q _ e.1 ?_))
            rintro rfl
            rw [e.2.1] at h1
            cases h1
    · -- the end
      have c : ¬ (((dn.flatMap fl).length : Nat) : Int) < (((ks.flatMap fl).map V.int).length : Int) := fun q => c (decide_eq_true q)
      have : rest = [] := by
        cases rest with
        | nil => rfl
        | cons k r =>
          exfalso
          apply c
          rw [hks, List.flatMap_append, List.flatMap_cons, fl_cons, List.length_map, List.length_append]
          simp
          omega
      subst this
      rw [List.append_nil] at hks
      subst hks
      refine ⟨_, rfl, kk H1 l s1 ?_⟩
      exact ⟨ts, Nw_at hl h1, pr_mono (fun t k e => e.mono g1) p1⟩
end
end Bm

end
section
set_option Elab.async false
set_option linter.all false
set_option maxRecDepth 100000
set_option maxHeartbeats 2000000
namespace Bm
open PySem PySem.Spec PyProof.Rows L2
open Kri5 (Pair Quantity House pairsOf nextAll)

/-! ### a plant's attributes -/
theorem n1 : ¬ (("moment" : Str) = "marks") := by decide +kernel
theorem n2 : ¬ (("moment" : Str) = "possible") := by decide +kernel
theorem n3 : ¬ (("moment" : Str) = "earlier") := by decide +kernel
theorem n4 : ¬ (("marks" : Str) = "possible") := by decide +kernel
theorem n5 : ¬ (("marks" : Str) = "earlier") := by decide +kernel
theorem n6 : ¬ (("possible" : Str) = "earlier") := by decide +kernel
def pf (t : Int) (a b c : Addr) : List (Str × V) := putF "earlier" (.ref c) (putF "possible" (.ref b) (putF "marks" (.ref a) (putF "moment" (.int t) [])))
theorem pf_eq (t : Int) (a b c : Addr) : pf t a b c = ([("moment", V.int t), ("marks", V.ref a), ("possible", V.ref b), ("earlier", V.ref c)] : List (Str × V)) := by
  unfold pf
  simp only [putF, if_neg n1, if_neg n2, if_neg n3, if_neg n4, if_neg n5, if_neg n6]
theorem pf_moment (t : Int) (a b c : Addr) : (pf t a b c).lookup ("moment" : Str) = some (.int t) := by
  unfold pf
  rw [lookup_putF, if_neg n3, lookup_putF, if_neg n2, lookup_putF, if_neg n1, lookup_putF, if_pos rfl]
theorem pf_marks (t : Int) (a b c : Addr) : (pf t a b c).lookup ("marks" : Str) = some (.ref a) := by
  unfold pf
  rw [lookup_putF, if_neg n5, lookup_putF, if_neg n4, lookup_putF, if_pos rfl]
theorem pf_possible (t : Int) (a b c : Addr) : (pf t a b c).lookup ("possible" : Str) = some (.ref b) := by
  unfold pf
  rw [lookup_putF, if_neg n6, lookup_putF, if_pos rfl]
theorem pf_earlier (t : Int) (a b c : Addr) : (pf t a b c).lookup ("earlier" : Str) = some (.ref c) := by
  unfold pf
  rw [lookup_putF, if_pos rfl]
theorem pf_no (t : Int) (a b c : Addr) {m : Str} (h1 : ¬ m = "moment") (h2 : ¬ m = "marks") (h3 : ¬ m = "possible") (h4 : ¬ m = "earlier") : (pf t a b c).lookup m = none := by
  unfold pf
  rw [lookup_putF, if_neg h4, lookup_putF, if_neg h3, lookup_putF, if_neg h2, lookup_putF, if_neg h1]
  rfl
theorem put_moment (t u : Int) (a b c : Addr) : putF "moment" (.int u) (pf t a b c) = pf u a b c := by
  rw [pf_eq, pf_eq]
  simp only [putF, if_true]
theorem put_marks (t : Int) (a b c a' : Addr) : putF "marks" (.ref a') (pf t a b c) = pf t a' b c := by
  rw [pf_eq, pf_eq]
  simp only [putF, if_neg n1, if_true, if_false]
theorem put_possible (t : Int) (a b c b' : Addr) : putF "possible" (.ref b') (pf t a b c) = pf t a b' c := by
  rw [pf_eq, pf_eq]
  simp only [putF, if_neg n2, if_neg n4, if_true, if_false]
theorem pf_len (t : Int) (a b c : Addr) : (pf t a b c).length < 1000 := by
  rw [pf_eq]
  show 4 < 1000
  decide

/-! ### a plant in the heap -/
/-- the outer lists: marks, and the lists of pairs that may be -/
def OutAt (G H : Hp) (am ap : Addr) (qs : List Quantity) : Prop := H am = some (.lst (vi (qs.map (·.marks)))) ∧ ∃ as : List Addr, H ap = some (.lst (as.map V.ref)) ∧ Paired (fun a (q : Quantity) => PairsAt G a q.pairs) as qs
abbrev Snap := Addr × Addr × Addr
def SnapAt (G H : Hp) (s : Snap) (x : List Quantity × Nat) : Prop := H s.1 = some (.tup [.int (x.2 : Int), .ref s.2.1, .ref s.2.2]) ∧ OutAt G H s.2.1 s.2.2 x.1
def snOwn (sn : List Snap) : List Addr := sn.flatMap fun s => [s.2.1, s.2.2]
def ownOf (p lm lp le : Addr) (sn : List Snap) : List Addr := p :: le :: lm :: lp :: snOwn sn
/-- what stands at p is a plant that keeps the house h; G: what is never written; own: what is the plant's own -/
structure PlantAt (C : Addr) (G H : Hp) (p : Addr) (own : List Addr) (h : House) : Prop where
  sub : Same G H
  free : ∀ b ∈ own, G b = none
  ex : ∃ (dx lm lp le : Addr) (sn : List Snap), own = ownOf p lm lp le sn ∧ own.Nodup ∧ H p = some (.ins C dx (pf (h.now : Int) lm lp le)) ∧ OutAt G H lm lp h.qs ∧ H le = some (.lst (sn.map fun s => V.ref s.1)) ∧ Paired (SnapAt G H) sn h.past.reverse
/-- a step of the program: what is not the plant's own stays; what becomes its own was, or is new -/
structure Stp (G H : Hp) (ow : List Addr) (G' H' : Hp) (ow' : List Addr) : Prop where
  sub : Same G G'
  keep : ∀ b o, H b = some o → b ∉ ow → H' b = some o
  own : ∀ b ∈ ow', b ∈ ow ∨ H b = none
  new : ∀ b o, H b = some o → b ∉ ow → isTup (some o) = false → G b = none → G' b = none
theorem Stp.trans {G H G1 H1 G2 H2 : Hp} {o o1 o2 : List Addr} (a : Stp G H o G1 H1 o1) (b : Stp G1 H1 o1 G2 H2 o2) : Stp G H o G2 H2 o2 where
  sub := a.sub.trans b.sub
  keep := fun c u e hc => by
    have e1 := a.keep c u e hc
    refine b.keep c u e1 fun m => ?_
    rcases a.own c m with z | z
    · exact hc z
    · rw [e] at z; cases z
  own := fun c hc => by
    rcases b.own c hc with z | z
    · exact a.own c z
    · by_cases q : c ∈ o
      · exact .inl q
      · right
        cases e : H c with
        | none => rfl
        | some u => rw [a.keep c u e q] at z; cases z
  new := fun c u e hc t g => by
    refine b.new c u (a.keep c u e hc) (fun m => ?_) t (a.new c u e hc t g)
    rcases a.own c m with z | z
    · exact hc z
    · rw [e] at z; cases z
theorem Stp.refl (G H : Hp) (o : List Addr) : Stp G H o G H o := ⟨Same.refl G, fun _ _ e _ => e, fun _ h => .inl h, fun _ _ _ _ _ g => g⟩
theorem OutAt.move {G H G' H' : Hp} {am ap : Addr} {qs : List Quantity} (s : Same G G') (e1 : H' am = H am) (e2 : H' ap = H ap) (h : OutAt G H am ap qs) : OutAt G' H' am ap qs := by
  obtain ⟨h1, as, h2, h3⟩ := h
  exact ⟨by rw [e1]; exact h1, as, by rw [e2]; exact h2, pr_mono (fun a q e => e.mono s) h3⟩
theorem snOwn_mem {sn : List Snap} {s : Snap} (h : s ∈ sn) : s.2.1 ∈ snOwn sn ∧ s.2.2 ∈ snOwn sn :=
  ⟨List.mem_flatMap.mpr ⟨s, h, List.mem_cons_self ..⟩, List.mem_flatMap.mpr ⟨s, h, List.mem_cons_of_mem _ (List.mem_cons_self ..)⟩⟩
theorem pr_memL {α β : Type} {F G : α → β → Prop} : ∀ {l : List α} {m : List β}, Paired F l m → (∀ a b, a ∈ l → F a b → G a b) → Paired G l m
  | _, _, .nil, _ => .nil
  | _, _, .cons r t, f => .cons (f _ _ (List.mem_cons_self ..) r) (pr_memL t fun a b ha => f a b (List.mem_cons_of_mem _ ha))
/-- snapshots stay where their lists do -/
theorem snaps_move {G H G' H' : Hp} {sn : List Snap} {l : List (List Quantity × Nat)} (s : Same G G') (k : KeepT H H') (e : ∀ b ∈ snOwn sn, H' b = H b) (h : Paired (SnapAt G H) sn l) : Paired (SnapAt G' H') sn l :=
  pr_memL h fun a x ha ⟨h1, h2⟩ => ⟨k _ _ h1, h2.move s (e _ (snOwn_mem ha).1) (e _ (snOwn_mem ha).2)⟩
end Bm

end
section
set_option Elab.async false
set_option linter.all false
set_option maxRecDepth 100000
set_option maxHeartbeats 2000000
namespace Bm
open PySem PySem.Spec PyProof.Rows L2
open Kri5 (Pair Quantity House pairsOf nextAll)

/-! ### the class Plant -/
abbrev sPlant : Stmt := top 41
abbrev sInit : Stmt := inClass sPlant 0
abbrev sHas : Stmt := inClass sPlant 1
abbrev sRem : Stmt := inClass sPlant 2
abbrev sAddQ : Stmt := inClass sPlant 3
abbrev sSetP : Stmt := inClass sPlant 4
abbrev sPass : Stmt := inClass sPlant 5
abbrev sBackM : Stmt := inClass sPlant 6
structure PCls (K : PySem.W.Frag) (mg : Str → Option Value) (C : Addr) : Prop where
  cl : Cls K C
  nMo : NoAttr K C "moment"
  nMa : NoAttr K C "marks"
  nPo : NoAttr K C "possible"
  nEa : NoAttr K C "earlier"
  mgC : mg "Plant" = some (.ref C)
  list_ : mg "list" = none
  zip_ : mg "zip" = none
  most : ∃ t, mg "MOST_CHANGES" = some (.int 40 t)
/-- a method -/
structure MDef (K : PySem.W.Frag) (C : Addr) (x qual : Str) (st : Stmt) (ps : List Str) (f : Addr) (fd : FuncData) : Prop where
  fn : Fun K x qual st f fd
  me : Meth K C x f
  bd : Binds K fd ps []

/-! ### facts of a plant -/
section
variable {C : Addr} {G H : Hp} {p : Addr} {own : List Addr} {h : House}
theorem pr_memR {α β : Type} {F : α → β → Prop} : ∀ {l : List α} {m : List β} {a : α}, Paired F l m → a ∈ l → ∃ b, b ∈ m ∧ F a b
  | _, _, _, .nil, h => by simp at h
  | _, _, _, .cons r t, h => by
    rcases List.mem_cons.mp h with e | h
    · subst e
      exact ⟨_, List.mem_cons_self .., r⟩
    · obtain ⟨b, h1, h2⟩ := pr_memR t h
      exact ⟨b, List.mem_cons_of_mem _ h1, h2⟩
theorem sn_some {sn : List Snap} {l : List (List Quantity × Nat)} (h : Paired (SnapAt G H) sn l) {b : Addr} (hb : b ∈ snOwn sn) : ∃ xs, H b = some (.lst xs) := by
  obtain ⟨s, hs, hb⟩ := List.mem_flatMap.mp hb
  obtain ⟨x, _, _, h1, as, h2, _⟩ := pr_memR h hs
  rcases List.mem_cons.mp hb with e | hb
  · exact ⟨_, by rw [e]; exact h1⟩
  · exact ⟨_, by rw [List.mem_singleton.mp hb]; exact h2⟩
theorem PlantAt.there (P : PlantAt C G H p own h) {b : Addr} (hb : b ∈ own) : ∃ o, H b = some o ∧ isTup (some o) = false := by
  obtain ⟨dx, lm, lp, le, sn, rfl, nd, h1, ⟨h2, as, h3, h4⟩, h5, h6⟩ := P.ex
  unfold ownOf at hb
  simp only [List.mem_cons] at hb
  rcases hb with e | e | e | e | hb
  · exact ⟨_, by rw [e]; exact h1, rfl⟩
  · exact ⟨_, by rw [e]; exact h5, rfl⟩
  · exact ⟨_, by rw [e]; exact h2, rfl⟩
  · exact ⟨_, by rw [e]; exact h3, rfl⟩
  · obtain ⟨xs, e⟩ := sn_some h6 hb
    exact ⟨_, e, rfl⟩
/-- what is not written stays where a step has gone -/
theorem Stp.sames {G H G' H' : Hp} {own own' : List Addr} (s : Stp G H own G' H' own') {F : Hp} (hF : Same F H) (hf : ∀ b ∈ own, F b = none) : Same F H' ∧ ∀ b ∈ own', F b = none :=
  ⟨fun b o e => s.keep b o (hF b o e) (fun hb => by rw [hf b hb] at e; cases e), fun b hb => by
    rcases s.own b hb with z | z
    · exact hf b z
    · exact hF.free z⟩
end
theorem snOwn_app (a b : List Snap) : snOwn (a ++ b) = snOwn a ++ snOwn b := by unfold snOwn; rw [List.flatMap_append]
theorem ownOf_snoc (p lm lp le : Addr) (sn : List Snap) (s : Snap) : ownOf p lm lp le (sn ++ [s]) = ownOf p lm lp le sn ++ [s.2.1, s.2.2] := by
  unfold ownOf
  rw [snOwn_app]
  rfl

def spInit (C : Addr) : Sp := fun vs H Q _ => ∃ (p dx : Addr) (G : Hp), vs = [.ref p] ∧ H p = some (.ins C dx []) ∧ Same G H ∧ G p = none ∧
  ∀ (H' : Hp) (own : List Addr), PlantAt C G H' p own ⟨[], 0, []⟩ → (∀ b o, H b = some o → b ≠ p → H' b = some o) → (∀ b ∈ own, b = p ∨ H b = none) → Q .non H'
def spHas (C : Addr) : Sp := fun vs H Q _ => ∃ (p : Addr) (G : Hp) (own : List Addr) (h : House) (i : Nat), vs = [.ref p, .int i] ∧ PlantAt C G H p own h ∧ Q (.bl (decide (i < h.qs.length))) H
def spRem (C : Addr) : Sp := fun vs H Q _ => ∃ (p : Addr) (G : Hp) (own : List Addr) (h : House), vs = [.ref p] ∧ PlantAt C G H p own h ∧ HouseOk h ∧
  ∀ (H' : Hp) (own' : List Addr), PlantAt C G H' p own' (h.changed h.qs h.now) → Stp G H own G H' own' → Q .non H'
def spAddQ (C : Addr) : Sp := fun vs H Q _ => ∃ (p : Addr) (G : Hp) (own : List Addr) (h : House) (m : Nat), vs = [.ref p, .int m] ∧ PlantAt C G H p own h ∧ HouseOk h ∧ m ≤ 4 ∧ h.qs.length < 5 ∧
  ∀ (G' H' : Hp) (own' : List Addr), PlantAt C G' H' p own' (h.changed (h.qs ++ [⟨m, pairsOf m⟩]) h.now) → Stp G H own G' H' own' → Q .non H'
def spSetP (C : Addr) : Sp := fun vs H Q _ => ∃ (p : Addr) (G : Hp) (own : List Addr) (h : House) (i : Nat) (r : Addr) (ps : List Pair), vs = [.ref p, .int i, .ref r] ∧ PlantAt C G H p own h ∧ HouseOk h ∧ i < h.qs.length ∧ PairsAt G r ps ∧
  ∀ (H' : Hp) (own' : List Addr), PlantAt C G H' p own' (h.set i ps) → Stp G H own G H' own' → Q .non H'

section
variable {P : Program} {w : World} {K : PySem.W.Frag} {mg : Str → Option Value} {base : Heap} {aD C : Addr}
theorem scInit : FnScope ["self"] ["self"] (defScope sInit) := ⟨rfl, rfl, rfl, by decide +kernel, rfl, by decide +kernel, by decide +kernel⟩
theorem ok_init {f : Addr} {fd : FuncData} (F : Fun K "__init__" "Plant.__init__" sInit f fd) (T : PCls K mg C) : FnOk P w K mg base CX0 1 f fd ["self"] (spInit C) := by
  refine F.ok scInit (fun vs H Q E h => ?_) (fun cdv A outer s H vs Q E hr h => ?_)
  · obtain ⟨p, dx, G, rfl, _⟩ := h
    rfl
  · obtain ⟨p, dx, G, rfl, hp, sG, gp, k⟩ := h
    refine ⟨_, pss_cons (ps_fld (pv 0) pe_int rfl) (pss_cons (ps_fld (pv 0) (pe_lst pa_nil) rfl) (pss_cons (ps_fld (pv 0) (pe_lst pa_nil) rfl) (pss_one (ps_fld (pv 0) (pe_lst pa_nil) rfl)))), ?_⟩
    refine ⟨_, rfl, p, C, dx, [], rfl, hp, T.cl, T.nMo, (by show 0 < 1000; decide), ?_⟩
    refine ⟨Nat.zero_le _, fun lm hlm => ?_⟩
    have plm : p ≠ lm := by rintro rfl; rw [upd_same] at hlm; cases hlm
    refine ⟨_, rfl, p, C, dx, _, rfl, (by rw [upd_ne plm]; exact upd_same), T.cl, T.nMa, (by show 1 < 1000; decide), ?_⟩
    refine ⟨Nat.zero_le _, fun lp hlp => ?_⟩
    have plp : p ≠ lp := by rintro rfl; rw [upd_same] at hlp; cases hlp
    rw [upd_ne plp.symm] at hlp
    have mlp : lm ≠ lp := by rintro rfl; rw [upd_same] at hlp; cases hlp
    rw [upd_ne mlp.symm] at hlp
    refine ⟨_, rfl, p, C, dx, _, rfl, (by rw [upd_ne plp]; exact upd_same), T.cl, T.nPo, (Nat.lt_of_le_of_lt (length_putF _ _ _) (by show 2 < 1000; decide)), ?_⟩
    refine ⟨Nat.zero_le _, fun le hle => ?_⟩
    have ple : p ≠ le := by rintro rfl; rw [upd_same] at hle; cases hle
    rw [upd_ne ple.symm] at hle
    have lple : lp ≠ le := by rintro rfl; rw [upd_same] at hle; cases hle
    rw [upd_ne lple.symm, upd_ne ple.symm] at hle
    have lmle : lm ≠ le := by rintro rfl; rw [upd_same] at hle; cases hle
    rw [upd_ne lmle.symm] at hle
    refine ⟨_, rfl, p, C, dx, _, rfl, (by rw [upd_ne ple]; exact upd_same), T.cl, T.nEa, (Nat.lt_of_le_of_lt (length_putF _ _ _) (Nat.lt_of_le_of_lt (Nat.succ_le_succ (length_putF _ _ _)) (by show 3 < 1000; decide))), ?_⟩
    have nlm : H lm = none := by rw [upd_ne plm.symm] at hlm; exact hlm
    have nlp : H lp = none := by rw [upd_ne plp.symm] at hlp; exact hlp
    have nle : H le = none := by rw [upd_ne ple.symm] at hle; exact hle
    refine k _ (ownOf p lm lp le []) ⟨?_, ?_, dx, lm, lp, le, [], rfl, ?_, upd_same, ⟨?_, [], ?_, .nil⟩, ?_, .nil⟩ ?_ ?_
    · intro b o e
      have nb : b ≠ p := by rintro rfl; rw [gp] at e; cases e
      have e1 := sG b o e
      rw [upd_ne nb, upd_ne (ne_of_none e1 nle), upd_ne nb, upd_ne (ne_of_none e1 nlp), upd_ne nb, upd_ne (ne_of_none e1 nlm), upd_ne nb]
      exact e1
    · intro b hb
      unfold ownOf at hb
      simp only [List.mem_cons, snOwn, List.flatMap_nil, List.not_mem_nil, or_false] at hb
      rcases hb with e | e | e | e
      · rw [e]; exact gp
      · rw [e]; exact sG.free nle
      · rw [e]; exact sG.free nlm
      · rw [e]; exact sG.free nlp
    · unfold ownOf snOwn
      simp [plm, plp, ple, mlp, lmle.symm, lple.symm]
    · rw [upd_ne plm.symm, upd_ne lmle, upd_ne plm.symm, upd_ne mlp, upd_ne plm.symm, upd_same]
      rfl
    · rw [upd_ne plp.symm, upd_ne lple, upd_ne plp.symm, upd_same]
      rfl
    · rw [upd_ne ple.symm, upd_same]
      rfl
    · intro b o e nb
      rw [upd_ne nb, upd_ne (ne_of_none e nle), upd_ne nb, upd_ne (ne_of_none e nlp), upd_ne nb, upd_ne (ne_of_none e nlm), upd_ne nb]
      exact e
    · intro b hb
      unfold ownOf at hb
      simp only [List.mem_cons, snOwn, List.flatMap_nil, List.not_mem_nil, or_false] at hb
      rcases hb with e | e | e | e
      · exact .inl e
      · rw [e]; exact .inr nle
      · rw [e]; exact .inr nlm
      · rw [e]; exact .inr nlp
theorem scHas : FnScope ["self", "i"] ["self", "i"] (defScope sHas) := ⟨rfl, rfl, rfl, by decide +kernel, rfl, by decide +kernel, by decide +kernel⟩
theorem ok_has {f : Addr} {fd : FuncData} (D : MDef K C "has_quantity" "Plant.has_quantity" sHas ["self", "i"] f fd) (T : PCls K mg C) (TD : Dirs K mg aD) : FnOk P w K mg base CX0 1 f fd ["self", "i"] (spHas C) := by
  refine D.fn.ok scHas (fun vs H Q E h => ?_) (fun cdv A outer s H vs Q E hr h => ?_)
  · obtain ⟨p, G, own, h, i, rfl, _⟩ := h
    rfl
  · obtain ⟨p, G, own, h, i, rfl, PA, k⟩ := h
    obtain ⟨dx, lm, lp, le, sn, _, nd, h1, ⟨h2, as, h3, h4⟩, h5, h6⟩ := PA.ex
    refine ⟨_, pss_one (ps_ret (pe_cmpR op_lt (pv 1) (pe_callB call_len_seq (by rfl) TD.len PySem.boot_len (pa_cons (pe_fld (pv 0) rfl) pa_nil)) (nomark _))), ?_⟩
    refine ⟨_, rfl, _, rfl, p, C, dx, _, _, rfl, h1, T.cl, T.nMa, pf_marks _ _ _ _, lm, _, rfl, .inl (SqL.of h2), _, _, rfl, rfl, ?_⟩
    have e : decide ((i : Int) < (((vi (h.qs.map (·.marks))).length : Nat) : Int)) = decide (i < h.qs.length) := by
      rw [vi_len, List.length_map, Bool.eq_iff_iff]
      simp
    show Q (.bl (decide ((i : Int) < (((vi (h.qs.map (·.marks))).length : Nat) : Int)))) H
    rw [e]
    exact k
/-! ### remember -/
theorem past_rev (x : List Quantity × Nat) (l : List (List Quantity × Nat)) (h : l.length ≤ 40) : ((x :: l).take 40).reverse = if 40 < l.length + 1 then (l.reverse ++ [x]).drop 1 else l.reverse ++ [x] := by
  split
  · rename_i c
    have e : l.length = 40 := by omega
    have e2 : (x :: l).take 40 = x :: l.take 39 := rfl
    rw [e2, List.reverse_cons]
    have e3 : (l.take 39).reverse = l.reverse.drop 1 := by
      rw [List.reverse_take, e]
    rw [e3, List.drop_append_of_le_length (by rw [List.length_reverse]; omega)]
  · rw [List.take_of_length_le (by rw [List.length_cons]; omega), List.reverse_cons]
theorem snOwn_drop (sn : List Snap) : (snOwn (sn.drop 1)).Sublist (snOwn sn) := by
  cases sn with
  | nil => exact List.Sublist.refl _
  | cons s sn =>
    show (snOwn sn).Sublist ([s.2.1, s.2.2] ++ snOwn sn)
    exact List.sublist_append_right _ _
theorem ownOf_drop (p lm lp le : Addr) (sn : List Snap) : (ownOf p lm lp le (sn.drop 1)).Sublist (ownOf p lm lp le sn) := by
  unfold ownOf
  exact (((snOwn_drop sn).cons₂ _).cons₂ _).cons₂ _ |>.cons₂ _
theorem scRem : FnScope ["self"] ["self"] (defScope sRem) := ⟨rfl, rfl, rfl, by decide +kernel, rfl, by decide +kernel, by decide +kernel⟩
theorem ok_rem {f : Addr} {fd : FuncData} (D : MDef K C "remember" "Plant.remember" sRem ["self"] f fd) (T : PCls K mg C) (TD : Dirs K mg aD) : FnOk P w K mg base CX0 1 f fd ["self"] (spRem C) := by
  obtain ⟨tM, hMC⟩ := T.most
  refine D.fn.ok scRem (fun vs H Q E h => ?_) (fun cdv A outer s H vs Q E hr h => ?_)
  · obtain ⟨p, G, own, h, rfl, _⟩ := h
    rfl
  · obtain ⟨p, G, own, h, rfl, PA, ok, k⟩ := h
    have there := @PlantAt.there C G H p own h PA
    have free := PA.free
    have sub := PA.sub
    obtain ⟨dx, lm, lp, le, sn, eo, nd, h1, ⟨h2, as, h3, h4⟩, h5, h6⟩ := PA.ex
    have hsn : sn.length = h.past.length := by rw [h6.length, List.length_reverse]
    refine ⟨_, pss_cons (ps_expr (pe_bm PySem.F.plainAttrs_list PySem.F.slot_list_append PySem.F.type_list_append mt_append (pe_fld (pv 0) rfl)
        (pa_cons (pe_tup (pa_cons (pe_fld (pv 0) rfl) (pa_cons (pe_callTy call_list_of (by rfl) T.list_ PyProof.Rows.boot_list (pa_cons (pe_fld (pv 0) rfl) pa_nil)) (pa_cons (pe_callTy call_list_of (by rfl) T.list_ PyProof.Rows.boot_list (pa_cons (pe_fld (pv 0) rfl) pa_nil)) pa_nil)))) pa_nil)))
      (pss_one (ps_if (pt_cmpR op_gt (pe_callB call_len_seq (by rfl) TD.len PySem.boot_len (pa_cons (pe_fld (pv 0) rfl) pa_nil)) (pe_glob (v := .int 40) rfl hMC ⟨_, rfl⟩) (nomark _))
        (pss_one (ps_expr (pe_bm PySem.F.plainAttrs_list PySem.F.slot_list_pop PySem.F.type_list_pop mt_popAt (pe_fld (pv 0) rfl) (pa_cons pe_int pa_nil)))) pss_nil)), ?_⟩
    refine ⟨_, rfl, p, C, dx, _, _, rfl, h1, T.cl, T.nEa, pf_earlier _ _ _ _, .inl ⟨rfl, _, SqL.of h5⟩, _, rfl, p, C, dx, _, _, rfl, h1, T.cl, T.nMo, pf_moment _ _ _ _,
      _, rfl, p, C, dx, _, _, rfl, h1, T.cl, T.nMa, pf_marks _ _ _ _, lm, _, rfl, .inl (SqL.of h2), fun sm hsm => ?_⟩
    have s1 : Same H (upd H sm (.lst (vi (h.qs.map (·.marks))))) := same_new hsm
    refine ⟨_, rfl, p, C, dx, _, _, rfl, s1 _ _ h1, T.cl, T.nPo, pf_possible _ _ _ _, lp, _, rfl, .inl (SqL.of (s1 _ _ h3)), fun sp hsp => ?_⟩
    have s2 := same_new (o := .lst (as.map V.ref)) hsp
    refine ⟨(by show 3 ≤ sizeLine; rw [sizeLine_eq]; decide), fun t ht => ?_⟩
    have s3 := same_new (o := .tup [.int (h.now : Int), .ref sm, .ref sp]) ht
    have s13 := (s1.trans s2).trans s3
    have nsp : H sp = none := s1.free hsp
    have nt : H t = none := (s1.trans s2).free ht
    have msp : sm ≠ sp := by rintro rfl; rw [upd_same] at hsp; cases hsp
    have mt : sm ≠ t := by rintro rfl; rw [upd_ne msp, upd_same] at ht; cases ht
    have spt : sp ≠ t := by rintro rfl; rw [upd_same] at ht; cases ht
    have hlen : (sn.map fun s => V.ref s.1).length < sizeLine := by
      rw [List.length_map, hsn]
      exact line_small (Nat.lt_of_le_of_lt ok.p40 (by decide))
    refine ⟨le, _, _, rfl, rfl, s13 _ _ h5, hlen, ?_⟩
    generalize hH3 : upd (upd (upd H sm (.lst (vi (h.qs.map (·.marks))))) sp (.lst (as.map V.ref))) t (.tup [.int (h.now : Int), .ref sm, .ref sp]) = H3 at s13
    have a1 : H3 sm = some (.lst (vi (h.qs.map (·.marks)))) := by rw [← hH3, upd_ne mt, upd_ne msp, upd_same]
    have a2 : H3 sp = some (.lst (as.map V.ref)) := by rw [← hH3, upd_ne spt, upd_same]
    have a3 : H3 t = some (.tup [.int (h.now : Int), .ref sm, .ref sp]) := by rw [← hH3, upd_same]
    -- the end, whatever the list of what was is
    have fin : ∀ (sn' : List Snap) (H' : Hp), sn'.Sublist (sn ++ [(t, sm, sp)]) → (ownOf p lm lp le sn').Sublist (ownOf p lm lp le (sn ++ [(t, sm, sp)])) → H' le = some (.lst (sn'.map fun s => V.ref s.1)) → (∀ b, b ≠ le → H' b = H3 b) →
        (∀ G', Paired (SnapAt G G') (sn ++ [(t, sm, sp)]) (h.past.reverse ++ [(h.qs, h.now)]) → Paired (SnapAt G G') sn' (((h.qs, h.now) :: h.past).take 40).reverse) → Q .non H' := by
      intro sn' H' hsub hso hle' hoth hpast
      have ndall : (ownOf p lm lp le (sn ++ [(t, sm, sp)])).Nodup := by
        rw [ownOf_snoc, List.nodup_append]
        refine ⟨by rw [← eo]; exact nd, by simp [msp], fun a ha b hb => ?_⟩
        obtain ⟨o, e, _⟩ := there (by rw [eo]; exact ha)
        simp only [List.mem_cons, List.not_mem_nil, or_false] at hb
        rcases hb with e2 | e2
        · rw [e2]; exact ne_of_none e hsm
        · rw [e2]; exact ne_of_none e nsp
      have nle : ∀ b ∈ [p, lm, lp] ++ snOwn (sn ++ [(t, sm, sp)]), b ≠ le := by
        intro b hb e
        subst e
        have q := ndall
        unfold ownOf at q
        rw [List.nodup_cons, List.nodup_cons] at q
        simp only [List.cons_append, List.nil_append, List.mem_cons] at hb
        rcases hb with e | e | e | hb
        · exact q.1 (by rw [e]; exact List.mem_cons_self ..)
        · exact q.2.1 (by rw [e]; exact List.mem_cons_self ..)
        · exact q.2.1 (by rw [e]; exact List.mem_cons_of_mem _ (List.mem_cons_self ..))
        · exact q.2.1 (List.mem_cons_of_mem _ (List.mem_cons_of_mem _ hb))
      have gle : G le = none := free le (by rw [eo]; exact List.mem_cons_of_mem _ (List.mem_cons_self ..))
      have kT : KeepT H3 H' := fun b xs e => by
        rw [hoth b (by rintro rfl; rw [s13 _ _ h5] at e; cases e)]
        exact e
      have keep : ∀ b o, H b = some o → b ≠ le → H' b = some o := fun b o e nb => by rw [hoth b nb]; exact s13 b o e
      have e1 : H' lm = H lm := by rw [keep lm _ h2 (nle lm (by simp))]; exact h2.symm
      have e2 : H' lp = H lp := by rw [keep lp _ h3 (nle lp (by simp))]; exact h3.symm
      have old : Paired (SnapAt G H') (sn ++ [(t, sm, sp)]) (h.past.reverse ++ [(h.qs, h.now)]) := by
        refine pr_app (snaps_move (Same.refl G) ((KeepT.of s13).trans kT) (fun b hb => ?_) h6) (.cons ⟨kT _ _ a3, ?_, as, ?_, h4⟩ .nil)
        · obtain ⟨xs, e⟩ := sn_some h6 hb
          rw [e]
          exact keep b _ e (nle b (by rw [snOwn_app]; simp [hb]))
        · rw [hoth sm (nle sm (by rw [snOwn_app]; simp [snOwn]))]
          exact a1
        · rw [hoth sp (nle sp (by rw [snOwn_app]; simp [snOwn]))]
          exact a2
      refine k H' (ownOf p lm lp le sn') ⟨fun b o e => keep b o (sub b o e) (by rintro rfl; rw [gle] at e; cases e), fun b hb => ?_, dx, lm, lp, le, sn', rfl, ndall.sublist hso, keep p _ h1 (nle p (by simp)), ⟨by rw [e1]; exact h2, as, by rw [e2]; exact h3, h4⟩, hle', hpast H' old⟩
        ⟨Same.refl G, fun b o e hb => keep b o e (by rintro rfl; exact hb (by rw [eo]; exact List.mem_cons_of_mem _ (List.mem_cons_self ..))), fun b hb => ?_, fun _ _ _ _ _ g => g⟩
      · have hb2 := hso.subset hb
        rw [ownOf_snoc, List.mem_append] at hb2
        rcases hb2 with z | z
        · exact free b (by rw [eo]; exact z)
        · simp only [List.mem_cons, List.not_mem_nil, or_false] at z
          rcases z with z | z
          · rw [z]; exact sub.free hsm
          · rw [z]; exact sub.free nsp
      · have hb2 := hso.subset hb
        rw [ownOf_snoc, List.mem_append] at hb2
        rcases hb2 with z | z
        · exact .inl (by rw [eo]; exact z)
        · simp only [List.mem_cons, List.not_mem_nil, or_false] at z
          rcases z with z | z
          · rw [z]; exact .inr hsm
          · rw [z]; exact .inr nsp
    have pr := past_rev (h.qs, h.now) h.past ok.p40
    have nple : p ≠ le := by
      have q := nd
      rw [eo] at q
      unfold ownOf at q
      rw [List.nodup_cons] at q
      rintro rfl
      exact q.1 (List.mem_cons_self ..)
    refine ⟨_, rfl, p, C, dx, _, _, rfl, (by rw [upd_ne nple]; exact s13 _ _ h1), T.cl, T.nEa, pf_earlier _ _ _ _, le, _, rfl, .inl (SqL.of upd_same), _, _, rfl, rfl, _, rfl, ite2 (fun c => ?_) (fun c => ?_)⟩
    · -- the oldest goes
      have c2 : 40 < h.past.length + 1 := by
        have := of_decide_eq_true c
        rw [List.length_append, List.length_map, hsn] at this
        simp at this
        omega
      rw [if_pos c2] at pr
      have pos : 0 < ((sn.map fun s => V.ref s.1) ++ [V.ref t]).length := by rw [List.length_append]; simp
      refine ⟨_, rfl, p, C, dx, _, _, rfl, (by rw [upd_ne nple]; exact s13 _ _ h1), T.cl, T.nEa, pf_earlier _ _ _ _, .inl ⟨rfl, _, SqL.of upd_same⟩, le, _, _, 0, _, rfl, rfl, upd_same, by decide, by decide, ?_, List.getElem?_eq_getElem pos, ?_⟩
      · rw [seqIndex_of (by decide) (by omega)]
        rfl
      · refine fin ((sn ++ [(t, sm, sp)]).drop 1) _ (List.drop_sublist _ _) (ownOf_drop _ _ _ _ _) ?_ (fun b nb => by rw [upd_ne nb, upd_ne nb]) (fun G' q => ?_)
        · rw [upd_same, List.eraseIdx_zero, List.drop_one, List.map_tail, List.map_append]
          rfl
        · rw [pr]
          exact pr_drop 1 q
    · have c2 : ¬ 40 < h.past.length + 1 := fun q => c (decide_eq_true (by rw [List.length_append, List.length_map, hsn]; simp; omega))
      rw [if_neg c2] at pr
      refine fin (sn ++ [(t, sm, sp)]) _ (List.Sublist.refl _) (List.Sublist.refl _) ?_ (fun b nb => by rw [upd_ne nb]) (fun G' q => ?_)
      · rw [upd_same, List.map_append]
        rfl
      · rw [pr]
        exact q
end
end Bm

end
section
set_option Elab.async false
set_option linter.all false
set_option maxRecDepth 100000
set_option maxHeartbeats 2000000
namespace Bm
open PySem PySem.Spec PyProof.Rows L2
open Kri5 (Pair Quantity House pairsOf nextAll)

structure OwnNd (p lm lp le : Addr) (sn : List Snap) : Prop where
  ple : p ≠ le
  plm : p ≠ lm
  plp : p ≠ lp
  elm : le ≠ lm
  elp : le ≠ lp
  mlp : lm ≠ lp
  sn : ∀ b ∈ snOwn sn, b ≠ p ∧ b ≠ le ∧ b ≠ lm ∧ b ≠ lp
theorem own_nd {p lm lp le : Addr} {sn : List Snap} (h : (ownOf p lm lp le sn).Nodup) : OwnNd p lm lp le sn := by
  unfold ownOf at h
  simp only [List.nodup_cons, List.mem_cons, not_or] at h
  obtain ⟨⟨a1, a2, a3, a4⟩, ⟨b1, b2, b3⟩, ⟨c1, c2⟩, d1, _⟩ := h
  exact ⟨a1, a2, a3, b1, b2, c1, fun b hb => ⟨fun e => a4 (e ▸ hb), fun e => b3 (e ▸ hb), fun e => c2 (e ▸ hb), fun e => d1 (e ▸ hb)⟩⟩
/-- the plant behind a write of its own -/
theorem PlantAt.mk' {C : Addr} {G H G' H' : Hp} {p dx le lm' lp' : Addr} {sn : List Snap} {h : House} (sub : Same G' H') (free : ∀ b ∈ ownOf p lm' lp' le sn, G' b = none) (nd : (ownOf p lm' lp' le sn).Nodup)
    (h1 : H' p = some (.ins C dx (pf (h.now : Int) lm' lp' le))) (h2 : OutAt G' H' lm' lp' h.qs) (h3 : H' le = some (.lst (sn.map fun s => V.ref s.1))) (sG : Same G G') (kT : KeepT H H') (e : ∀ b ∈ snOwn sn, H' b = H b) (h6 : Paired (SnapAt G H) sn h.past.reverse) :
    PlantAt C G' H' p (ownOf p lm' lp' le sn) h := ⟨sub, free, dx, lm', lp', le, sn, rfl, nd, h1, h2, h3, snaps_move sG kT e h6⟩
section
variable {P : Program} {w : World} {K : PySem.W.Frag} {mg : Str → Option Value} {base : Heap} {aD C : Addr}
theorem scAddQ : FnScope ["self", "marks"] ["self", "marks"] (defScope sAddQ) := ⟨rfl, rfl, rfl, by decide +kernel, rfl, by decide +kernel, by decide +kernel⟩
theorem mName (m : Str) (t : Int) (a b c : Addr) (h : ¬ m = "moment" ∧ ¬ m = "marks" ∧ ¬ m = "possible" ∧ ¬ m = "earlier") : (pf t a b c).lookup m = none := pf_no t a b c h.1 h.2.1 h.2.2.1 h.2.2.2
theorem nRem : ¬ (("remember" : Str) = "moment") ∧ ¬ (("remember" : Str) = "marks") ∧ ¬ (("remember" : Str) = "possible") ∧ ¬ (("remember" : Str) = "earlier") := by decide +kernel
theorem ok_addQ {f fR fA fL : Addr} {fd fdR fdA fdL : FuncData} (D : MDef K C "add_quantity" "Plant.add_quantity" sAddQ ["self", "marks"] f fd) (T : PCls K mg C) (TD : Dirs K mg aD) (DR : MDef K C "remember" "Plant.remember" sRem ["self"] fR fdR)
    (DA : Def K mg "all_pairs" sAll ["marks"] fA fdA) (DL : Def K mg "last_place" sLast ["marks"] fL fdL) : FnOk P w K mg base CX0 3 f fd ["self", "marks"] (spAddQ C) := by
  have GR : FnOk P w K mg base CX0 1 fR fdR ["self"] (spRem C) := ok_rem DR T TD
  have GA : FnOk P w K mg base CX0 2 fA fdA ["marks"] spAll := ok_all DA TD DL
  refine D.fn.ok scAddQ (fun vs H Q E h => ?_) (fun cdv A outer s H vs Q E hr h => ?_)
  · obtain ⟨p, G, own, h, m, rfl, _⟩ := h
    rfl
  · obtain ⟨p, G, own, h, m, rfl, PA, ok, hm, h5q, k⟩ := h
    refine ⟨_, pss_cons (ps_expr (pe_meth0 (pv 0) T.cl DR.me GR (hr.mono (by decide)) DR.bd .nil pass0))
      (pss_cons (ps_expr (pe_bm PySem.F.plainAttrs_list PySem.F.slot_list_append PySem.F.type_list_append mt_append (pe_fld (pv 0) rfl) (pa_cons (pv 1) pa_nil)))
      (pss_one (ps_expr (pe_bm PySem.F.plainAttrs_list PySem.F.slot_list_append PySem.F.type_list_append mt_append (pe_fld (pv 0) rfl) (pa_cons (pe_call GA hr rfl DA.at_ DA.fn.kp DA.bd .nil pass0 (pa_cons (pv 1) pa_nil)) pa_nil))))), ?_⟩
    obtain ⟨dx0, lm0, lp0, le0, sn0, _, _, z1, _⟩ := PA.ex
    refine ⟨_, rfl, p, dx0, _, rfl, z1, mName _ _ _ _ _ nRem, p, G, own, h, rfl, PA, ok, fun H1 own1 P1 S1 => ?_⟩
    have there := @PlantAt.there C G H1 p own1 _ P1
    obtain ⟨dx, lm, lp, le, sn, rfl, nd, h1, ⟨h2, as, h3, h4⟩, h5, h6⟩ := P1.ex
    have N := own_nd nd
    have lq : h.qs.length < 5 := h5q
    have hasl : as.length = h.qs.length := h4.length
    refine ⟨_, rfl, p, C, dx, _, _, rfl, h1, T.cl, T.nMa, pf_marks _ _ _ _, .inl ⟨rfl, _, SqL.of h2⟩, _, rfl, lm, _, _, rfl, rfl, h2, line_small (by rw [vi_len, List.length_map]; exact Nat.lt_trans lq (by decide)), ?_⟩
    generalize hH2 : upd H1 lm (.lst (vi ((h.changed h.qs h.now).qs.map (·.marks)) ++ [.int (m : Int)])) = H2
    have k2 : ∀ b, b ≠ lm → H2 b = H1 b := fun b hb => by rw [← hH2, upd_ne hb]
    have a2 : H2 lm = some (.lst (vi ((h.changed h.qs h.now).qs.map (·.marks)) ++ [.int (m : Int)])) := by rw [← hH2, upd_same]
    have h1' : H2 p = _ := (k2 p N.plm).trans h1
    have h3' : H2 lp = _ := (k2 lp N.mlp.symm).trans h3
    refine ⟨_, rfl, p, C, dx, _, _, rfl, h1', T.cl, T.nPo, pf_possible _ _ _ _, .inl ⟨rfl, _, SqL.of h3'⟩, _, rfl, m, rfl, hm, fun H3 r S3 R3 => ?_⟩
    refine ⟨lp, _, _, rfl, rfl, S3 _ _ h3', line_small (by rw [List.length_map, hasl]; exact Nat.lt_trans lq (by decide)), ?_⟩
    have free := P1.free
    have sub := P1.sub
    have g2 : Same G H2 := fun b o e => by
      rw [k2 b (by rintro rfl; rw [free _ (by unfold ownOf; simp)] at e; cases e)]
      exact sub b o e
    have g3 : Same G H3 := g2.trans S3
    have frz : ∀ b ∈ ownOf p lm lp le sn, Fz G H2 H3 b = none := fun b hb => by
      by_cases e : b = lm
      · rw [e, Fz_none a2 (by rw [S3 _ _ a2]; rfl)]
        exact free lm (by unfold ownOf; simp)
      · obtain ⟨o, e1, e2⟩ := there hb
        have e3 : H2 b = some o := by rw [k2 b e]; exact e1
        rw [Fz_none e3 (by rw [S3 _ _ e3]; exact e2)]
        exact free b hb
    have k4 : ∀ b o, H2 b = some o → b ≠ lp → (upd H3 lp (.lst (as.map V.ref ++ [.ref r]))) b = some o := fun b o e hb => by rw [upd_ne hb]; exact S3 b o e
    refine k (Fz G H2 H3) _ (ownOf p lm lp le sn) (PlantAt.mk' (G := G) (H := H1) (dx := dx) ?_ frz nd (k4 p _ h1' N.plp) ⟨?_, as ++ [r], ?_, ?_⟩ (k4 le _ ((k2 le N.elm).trans h5) N.elp) (Fz_old g3) ?_ ?_ h6)
      (S1.trans ⟨Fz_old g3, fun b o e hb => ?_, fun b hb => .inl hb, fun b o e hb t g => ?_⟩)
    · intro b o e
      rw [upd_ne (by rintro rfl; rw [frz _ (by unfold ownOf; simp)] at e; cases e)]
      exact Fz_sub g3 b o e
    · rw [k4 lm _ a2 N.mlp]
      show some (HO.lst (vi (h.qs.map (·.marks)) ++ [V.int (m : Int)])) = some (HO.lst (vi ((h.qs ++ [(⟨m, pairsOf m⟩ : Quantity)]).map fun q => q.marks)))
      rw [List.map_append, vi_snoc]
      rfl
    · rw [upd_same, List.map_append]
      rfl
    · exact Paired.snoc (pr_mono (fun a q e => e.mono (Fz_old g3)) h4) (R3.mono Fz_new)
    · intro b xs e
      have nb : b ≠ lm := ne_of e h2 (by intro z; cases z)
      refine k4 b _ (by rw [k2 b nb]; exact e) (ne_of e h3 (by intro z; cases z))
    · intro b hb
      obtain ⟨n1, n2, n3, n4⟩ := N.sn b hb
      obtain ⟨xs, e⟩ := sn_some h6 hb
      rw [e]
      exact k4 b _ (by rw [k2 b n3]; exact e) n4
    · refine k4 b o ?_ (by rintro rfl; exact hb (by unfold ownOf; simp))
      rw [k2 b (by rintro rfl; exact hb (by unfold ownOf; simp))]
      exact e
    · have e2 : H2 b = some o := by rw [k2 b (by rintro rfl; exact hb (by unfold ownOf; simp))]; exact e
      rw [Fz_none e2 (by rw [S3 _ _ e2]; exact t)]
      exact g
theorem scSetP : FnScope ["self", "i", "pairs"] ["self", "i", "pairs"] (defScope sSetP) := ⟨rfl, rfl, rfl, by decide +kernel, rfl, by decide +kernel, by decide +kernel⟩
theorem ok_setP {f fR : Addr} {fd fdR : FuncData} (D : MDef K C "set_possible" "Plant.set_possible" sSetP ["self", "i", "pairs"] f fd) (T : PCls K mg C) (TD : Dirs K mg aD) (DR : MDef K C "remember" "Plant.remember" sRem ["self"] fR fdR) :
    FnOk P w K mg base CX0 2 f fd ["self", "i", "pairs"] (spSetP C) := by
  have GR : FnOk P w K mg base CX0 1 fR fdR ["self"] (spRem C) := ok_rem DR T TD
  refine D.fn.ok scSetP (fun vs H Q E h => ?_) (fun cdv A outer s H vs Q E hr h => ?_)
  · obtain ⟨p, G, own, h, i, r, ps, rfl, _⟩ := h
    rfl
  · obtain ⟨p, G, own, h, i, r, ps, rfl, PA, ok, hi, hr1, k⟩ := h
    refine ⟨_, pss_cons (ps_expr (pe_meth0 (pv 0) T.cl DR.me GR hr DR.bd .nil pass0)) (pss_one (ps_asg (pv 2) (pg_sub (pe_fld (pv 0) rfl) (pv 1) set_list))), ?_⟩
    obtain ⟨dx0, lm0, lp0, le0, sn0, _, _, z1, _⟩ := PA.ex
    refine ⟨_, rfl, p, dx0, _, rfl, z1, mName _ _ _ _ _ nRem, p, G, own, h, rfl, PA, ok, fun H1 own1 P1 S1 => ?_⟩
    obtain ⟨dx, lm, lp, le, sn, rfl, nd, h1, ⟨h2, as, h3, h4⟩, h5, h6⟩ := P1.ex
    have N := own_nd nd
    have free := P1.free
    have sub := P1.sub
    have hasl : as.length = h.qs.length := h4.length
    refine ⟨_, rfl, _, rfl, p, C, dx, _, _, rfl, h1, T.cl, T.nPo, pf_possible _ _ _ _, _, rfl, lp, _, _, i, rfl, rfl, h3, ?_, ?_⟩
    · unfold ixN
      rw [if_pos (by omega), if_pos (by rw [List.length_map]; omega)]
      simp
    · have k2 : ∀ b, b ≠ lp → (upd H1 lp (.lst ((as.map V.ref).set i (.ref r)))) b = H1 b := fun b hb => upd_ne hb
      refine k _ (ownOf p lm lp le sn) (PlantAt.mk' (G := G) (H := H1) (dx := dx) ?_ free nd ((k2 p N.plp).trans h1) ⟨?_, as.set i r, ?_, ?_⟩ ((k2 le N.elp).trans h5) (Same.refl G) ?_ ?_ h6) (S1.trans ⟨Same.refl G, fun b o e hb => ?_, fun b hb => .inl hb, fun _ _ _ _ _ g => g⟩)
      · intro b o e
        rw [k2 b (by rintro rfl; rw [free _ (by unfold ownOf; simp)] at e; cases e)]
        exact sub b o e
      · rw [k2 lm N.mlp, h2]
        show some (HO.lst (vi (h.qs.map (·.marks)))) = some (HO.lst (vi ((h.qs.set i { h.q i with pairs := ps }).map (·.marks))))
        rw [List.map_set]
        have e : (h.qs.map (·.marks)).set i (h.q i).marks = h.qs.map (·.marks) := by
          refine List.ext_getElem? fun j => ?_
          rw [List.getElem?_set]
          split
          · rename_i e
            subst e
            rw [List.length_map, if_pos hi, List.getElem?_map, q_at hi]
            rfl
          · rfl
        rw [e]
      · rw [upd_same, List.map_set]
      · exact pr_set (F := fun a (q : Quantity) => PairsAt G a q.pairs) (a := r) (b := { h.q i with pairs := ps }) hr1 i h4
      · intro b xs e
        rw [k2 b (ne_of e h3 (by intro z; cases z))]
        exact e
      · intro b hb
        exact k2 b (N.sn b hb).2.2.2
      · rw [k2 b (by rintro rfl; exact hb (by unfold ownOf; simp))]
        exact e

/-! ### a comprehension over zip of two lists -/
theorem pg_two {X : Cx} (K : PySem.W.Frag) (hK : X.K = K) {i j : Nat} {x y : Str} {px py pos : Pos} {kk : Nat} (hc : X.calm = true) (hN : X.N.Nodup) (hi : X.N[i]? = some x) (hj : X.N[j]? = some y) (hx : Loc X.env.scope x) (hy : Loc X.env.scope y) (fx : X.fn x = true ∨ X.env.scope.names.lookup x = some .local) (fy : X.fn y = true ∨ X.env.scope.names.lookup y = some .local) :
    PG X (.Tuple [.Name x px, .Name y py] kk pos) (gTup K 2 (gCons (gName i) (gCons (gName j) gNil))) := by
  subst hK
  exact pg_tup hc (pgs_cons (pg_name hN hi hx fx) (pgs_cons (pg_name hN hj hy fy) pgs_nil))
theorem lc_zip {K : PySem.W.Frag} {a b : Addr} {xs ys : List V} {g : TG} {tt : TT} {te : TE} {vs : List Nat} {σ : L2.St} {H1 : Hp} {D : Addr} {Qd : Hp → Prop} (hlen : xs.length = ys.length) (Pv : Nat → Hp → Prop) (h0 : Pv 0 (upd H1 D (.lst [])))
    (hl : ∀ i H, i ≤ xs.length → Pv i H → SqL K H a xs ∧ SqL K H b ys)
    (hs : ∀ i x y H T, xs[i]? = some x → ys[i]? = some y → Pv i H → H T = none → g (.ref T) (wipe σ vs) (upd H T (.tup [x, y])) fun σ2 H2 => wipe σ2 vs = wipe σ vs ∧ tt σ2 H2 fun b H3 =>
      if b = true then te σ2 H3 fun y H4 => ∃ acc, H4 D = some (.lst acc) ∧ acc.length < sizeLine ∧ Pv (i + 1) (upd H4 D (.lst (acc ++ [y]))) else Pv (i + 1) H3) (hd : ∀ H, Pv xs.length H → Qd H) :
    ∃ W : Nat → Nat → Hp → Prop, (∃ m, W 0 m (upd H1 D (.lst []))) ∧ ∀ i m H, W i m H →
      ((Itz K a b).stop i H ∧ Qd H) ∨ ((Itz K a b).go i H ∧ ∃ Nx : Hp → Prop, (∀ H', Nx H' → ∃ m', m' < m ∧ W (i + 1) m' H') ∧ ∀ x H', (Itz K a b).yld i H x H' → g x (wipe σ vs) H' fun σ2 H2 => wipe σ2 vs = wipe σ vs ∧ tt σ2 H2 fun b H3 =>
        if b = true then te σ2 H3 fun y H4 => ∃ acc, H4 D = some (.lst acc) ∧ acc.length < sizeLine ∧ Nx (upd H4 D (.lst (acc ++ [y]))) else Nx H3) := by
  refine ⟨fun i m H => m = xs.length - i ∧ i ≤ xs.length ∧ Pv i H, ⟨xs.length, by simp, Nat.zero_le _, h0⟩, ?_⟩
  rintro i m H ⟨rfl, hi, p⟩
  obtain ⟨q1, q2⟩ := hl i H hi p
  by_cases hlt : i < xs.length
  · have hlt2 : i < ys.length := by omega
    refine .inr ⟨⟨xs, ys, xs[i], ys[i], q1, q2, List.getElem?_eq_getElem hlt, List.getElem?_eq_getElem hlt2⟩, Pv (i + 1), fun H' p' => ⟨xs.length - (i + 1), by omega, rfl, hlt, p'⟩, ?_⟩
    rintro v H' ⟨T, x, y, rfl, hT, rfl, e1, e2⟩
    exact hs i x y H T (e1 xs q1) (e2 ys q2) p hT
  · have e : i = xs.length := by omega
    subst e
    exact .inl ⟨⟨xs, ys, q1, q2, .inl (Nat.le_refl _)⟩, hd H p⟩
def spPass (C : Addr) : Sp := fun vs H Q _ => ∃ (p : Addr) (G : Hp) (own : List Addr) (h : House), vs = [.ref p] ∧ PlantAt C G H p own h ∧ HouseOk h ∧
  ∀ (G' H' : Hp) (own' : List Addr), PlantAt C G' H' p own' (h.changed (h.qs.map fun q => { q with pairs := nextAll q.marks q.pairs }) (h.now + 1)) → Stp G H own G' H' own' → Q .non H'
def spBackM (C : Addr) : Sp := fun vs H Q _ => ∃ (p : Addr) (G : Hp) (own : List Addr) (h : House) (x : List Quantity × Nat) (r : List (List Quantity × Nat)), vs = [.ref p] ∧ PlantAt C G H p own h ∧ h.past = x :: r ∧
  ∀ (H' : Hp) (own' : List Addr), PlantAt C G H' p own' ⟨x.1, x.2, r⟩ → Stp G H own G H' own' → Q .non H'
theorem pr_mapR {α β γ : Type} {F : α → β → Prop} {G : α → γ → Prop} {f : β → γ} : ∀ {l : List α} {m : List β}, Paired F l m → (∀ a b, F a b → G a (f b)) → Paired G l (m.map f)
  | _, _, .nil, _ => .nil
  | _, _, .cons r t, h => .cons (h _ _ r) (pr_mapR t h)
theorem tYes_of {σ : L2.St} {H : Hp} {A B : Hp → Prop} (h : A H) : tYes σ H (fun b H3 => if b = true then A H3 else B H3) := by
  show (if true = true then A H else B H)
  rw [if_pos rfl]
  exact h
theorem scPass : FnScope ["self", "marks", "pairs"] ["self"] (defScope sPass) := ⟨rfl, rfl, rfl, by decide +kernel, rfl, by decide +kernel, by decide +kernel⟩
theorem ok_pass {f fR fF : Addr} {fd fdR fdF : FuncData} (D : MDef K C "pass_moment" "Plant.pass_moment" sPass ["self"] f fd) (T : PCls K mg C) (TD : Dirs K mg aD) (DR : MDef K C "remember" "Plant.remember" sRem ["self"] fR fdR)
    (DF : Def K mg "following_pairs" sFol ["marks", "pairs"] fF fdF) (GF : FnOk P w K mg base CX0 4 fF fdF ["marks", "pairs"] spFol) : FnOk P w K mg base CX0 5 f fd ["self"] (spPass C) := by
  have GR : FnOk P w K mg base CX0 1 fR fdR ["self"] (spRem C) := ok_rem DR T TD
  refine D.fn.ok scPass (fun vs H Q E h => ?_) (fun cdv A outer s H vs Q E hr h => ?_)
  · obtain ⟨p, G, own, h, rfl, _⟩ := h
    rfl
  · obtain ⟨p, G, own, h, rfl, PA, ok, k⟩ := h
    refine ⟨_, pss_cons (ps_expr (pe_meth0 (pv 0) T.cl DR.me GR (hr.mono (by decide)) DR.bd .nil pass0))
      (pss_cons (ps_fld (pv 0) (pe_op op_add (pe_fld (pv 0) rfl) pe_int) rfl)
      (pss_one (ps_fld (pv 0) (pe_lc (own := [("marks", 1), ("pairs", 2)]) rfl scPass.nd (pi_zip rfl T.zip_ (pa_cons (pe_fld (pv 0) rfl) (pa_cons (pe_fld (pv 0) rfl) pa_nil))) (blkOk_by (by show blkC ["self", "marks", "pairs"] (defScope sPass) _ _ = true; decide +kernel))
        (fun _ _ _ _ _ => pg_two K rfl (i := 1) (j := 2) rfl scPass.nd rfl rfl (Or.inl rfl) (Or.inl rfl) (Or.inr rfl) (Or.inr rfl))
        (fun _ _ _ _ _ => pts_nil)
        (fun _ _ _ _ _ => pe_call GF hr rfl DF.at_ DF.fn.kp DF.bd .nil pass0 (pa_cons (pv 1) (pa_cons (pv 2) pa_nil)))) rfl))), ?_⟩
    obtain ⟨dx0, lm0, lp0, le0, sn0, _, _, z1, _⟩ := PA.ex
    refine ⟨_, rfl, p, dx0, _, rfl, z1, mName _ _ _ _ _ nRem, p, G, own, h, rfl, PA, ok, fun H1 own1 P1 S1 => ?_⟩
    have there := @PlantAt.there C G H1 p own1 _ P1
    obtain ⟨dx, lm, lp, le, sn, rfl, nd, h1, ⟨h2, as, h3, h4⟩, h5, h6⟩ := P1.ex
    have N := own_nd nd
    have free := P1.free
    have sub := P1.sub
    have hasl : as.length = h.qs.length := h4.length
    -- self.moment = self.moment + 1
    refine ⟨_, rfl, p, C, dx, _, _, rfl, h1, T.cl, T.nMo, pf_moment _ _ _ _, _, _, rfl, rfl, _, rfl, p, C, dx, _, rfl, h1, T.cl, T.nMo, pf_len _ _ _ _, ?_⟩
    rw [put_moment]
    generalize hH2 : upd H1 p (.ins C dx (pf (((h.changed h.qs h.now).now : Int) + 1) lm lp le)) = H2
    have k2 : ∀ b, b ≠ p → H2 b = H1 b := fun b hb => by rw [← hH2, upd_ne hb]
    have a1 : H2 p = some (.ins C dx (pf (((h.changed h.qs h.now).now : Int) + 1) lm lp le)) := by rw [← hH2, upd_same]
    have h2' : H2 lm = _ := (k2 lm N.plm.symm).trans h2
    have h3' : H2 lp = _ := (k2 lp N.plp.symm).trans h3
    refine ⟨_, rfl, p, C, dx, _, _, rfl, a1, T.cl, T.nMa, pf_marks _ _ _ _, _, rfl, p, C, dx, _, _, rfl, a1, T.cl, T.nPo, pf_possible _ _ _ _, lm, lp, _, _, rfl, SqL.of h2', SqL.of h3', fun L hL => ?_⟩
    have g2 : Same G H2 := fun b o e => by
      rw [k2 b (by rintro rfl; rw [free _ (by unfold ownOf; simp)] at e; cases e)]
      exact sub b o e
    have there2 : ∀ b ∈ ownOf p lm lp le sn, ∃ o, H2 b = some o ∧ isTup (some o) = false := fun b hb => by
      by_cases e : b = p
      · rw [e]; exact ⟨_, a1, rfl⟩
      · obtain ⟨o, e1, e2⟩ := there hb
        exact ⟨o, by rw [k2 b e]; exact e1, e2⟩
    refine lc_zip (K := K) (a := lm) (b := lp) (xs := vi (h.qs.map (·.marks))) (ys := as.map V.ref) (by rw [vi_len, List.length_map, List.length_map, hasl])
      (fun i H' => ∃ (G' : Hp) (rs : List Addr), Same H2 H' ∧ Same G G' ∧ Same G' H' ∧ G' L = none ∧ (∀ b o, H2 b = some o → isTup (some o) = false → G b = none → G' b = none) ∧ H' L = some (.lst (rs.map V.ref)) ∧ Paired (fun r (q : Quantity) => PairsAt G' r (nextAll q.marks q.pairs)) rs (h.qs.take i))
      ⟨G, [], same_new hL, Same.refl G, g2.trans (same_new hL), g2.free hL, fun _ _ _ _ g => g, upd_same, .nil⟩ (fun i H' _ ⟨_, _, s3, _⟩ => ⟨SqL.of (s3 _ _ h2'), SqL.of (s3 _ _ h3')⟩) ?_ ?_
    · rintro i x y H3 Tt hx hy ⟨G3, rs, s3, sG, g3, gL, gO, hL3, p3⟩ hT
      obtain ⟨m, hm, rfl⟩ := map_get hx
      obtain ⟨q, hq, rfl⟩ := map_get hm
      obtain ⟨a, ha, rfl⟩ := map_get hy
      obtain ⟨q', hq', hPq⟩ := pr_getL h4 ha
      have eq : q' = q := by
        have : h.qs[i]? = some q' := hq'
        rw [hq] at this
        exact (Option.some.inj this).symm
      subst eq
      have qok : QOk q' := ok.qs q' (List.mem_of_getElem? hq)
      have sT : Same H3 (upd H3 Tt (.tup [.int (q'.marks : Int), .ref a])) := same_new hT
      refine ⟨Tt, _, rfl, SqT.of upd_same, rfl, _, _, rfl, _, _, rfl, rfl, rfl, ?_⟩
      have gT : Same G (upd H3 Tt (.tup [.int (q'.marks : Int), .ref a])) := (sG.trans g3).trans sT
      refine tYes_of ?_
      refine ⟨_, rfl, _, rfl, q'.marks, a, q'.pairs, rfl, qok.marks, hPq.mono gT, fun x hx => qok.mem hx, qok.len, fun H4 r S4 R4 => ?_⟩
      have g4 : Same G3 H4 := (g3.trans sT).trans S4
      have hLT : (upd H3 Tt (.tup [.int (q'.marks : Int), .ref a])) L = some (.lst (rs.map V.ref)) := sT _ _ hL3
      have hL4 : H4 L = some (.lst (rs.map V.ref)) := S4 _ _ hLT
      have gL4 : Fz G3 (upd H3 Tt (.tup [.int (q'.marks : Int), .ref a])) H4 L = none := by
        rw [Fz_none hLT (by rw [hL4]; rfl)]
        exact gL
      refine ⟨_, hL4, ?_, Fz G3 (upd H3 Tt (.tup [.int (q'.marks : Int), .ref a])) H4, rs ++ [r], ?_, sG.trans (Fz_old g4), ?_, gL4, ?_, ?_, ?_⟩
      · refine line_small ?_
        have l1 := p3.length
        rw [List.length_take] at l1
        have := ok.n5
        rw [List.length_map]
        omega
      · intro b o e
        rw [upd_ne (ne_of_none e hL)]
        exact S4 _ _ (sT _ _ (s3 b o e))
      · intro b o e
        rw [upd_ne (by rintro rfl; rw [gL4] at e; cases e)]
        exact Fz_sub g4 b o e
      · intro b o e1 e2 e4
        have e3 := sT _ _ (s3 _ _ e1)
        rw [Fz_none e3 (by rw [S4 _ _ e3]; exact e2)]
        exact gO b o e1 e2 e4
      · rw [upd_same, List.map_append]
        rfl
      · rw [take_one hq]
        exact Paired.snoc (pr_mono (fun r' q'' e => e.mono (Fz_old g4)) p3) (R4.mono Fz_new)
    · rintro Hf ⟨Gf, rs, s3, sG, g3, gL, gN, hL3, p3⟩
      have gO : ∀ b ∈ ownOf p lm lp le sn, Gf b = none := fun b hb => by
        obtain ⟨o, e1, e2⟩ := there2 b hb
        exact gN b o e1 e2 (free b hb)
      rw [vi_len, List.length_map, List.take_length] at p3
      refine ⟨_, rfl, p, C, dx, _, rfl, s3 _ _ a1, T.cl, T.nPo, pf_len _ _ _ _, ?_⟩
      rw [put_possible]
      have nL : ∀ b ∈ ownOf p lm lp le sn, b ≠ L := fun b hb => by
        obtain ⟨o, e, _⟩ := there2 b hb
        exact ne_of_none e hL
      have mp : p ∈ ownOf p lm lp le sn := by unfold ownOf; simp
      have mle : le ∈ ownOf p lm lp le sn := by unfold ownOf; simp
      have mlm : lm ∈ ownOf p lm lp le sn := by unfold ownOf; simp
      have msn : ∀ b ∈ snOwn sn, b ∈ ownOf p lm lp le sn := fun b hb => by unfold ownOf; simp [hb]
      have nd' : (ownOf p lm L le sn).Nodup := by
        have q := nd
        unfold ownOf at q ⊢
        simp only [List.nodup_cons, List.mem_cons, not_or] at q ⊢
        obtain ⟨⟨b1, b2, b3, b4⟩, ⟨c1, c2, c3⟩, ⟨d1, d2⟩, e1, e2⟩ := q
        exact ⟨⟨b1, b2, nL p mp, b4⟩, ⟨c1, nL le mle, c3⟩, ⟨nL lm mlm, d2⟩, fun hb => nL L (msn L hb) rfl, e2⟩
      have sub' : ∀ b, b ∈ ownOf p lm L le sn → b ∈ ownOf p lm lp le sn ∨ b = L := fun b hb => by
        unfold ownOf at hb ⊢
        simp only [List.mem_cons] at hb ⊢
        rcases hb with e | e | e | e | e
        · exact .inl (.inl e)
        · exact .inl (.inr (.inl e))
        · exact .inl (.inr (.inr (.inl e)))
        · exact .inr e
        · exact .inl (.inr (.inr (.inr (.inr e))))
      have kf : ∀ b o, H2 b = some o → b ≠ p → (upd Hf p (.ins C dx (pf (((h.changed h.qs h.now).now : Int) + 1) lm L le))) b = some o := fun b o e nb => by
        rw [upd_ne nb]
        exact s3 b o e
      have en : (((h.now + 1 : Nat)) : Int) = (((h.changed h.qs h.now).now : Int) + 1) := by
        show (((h.now + 1 : Nat)) : Int) = (h.now : Int) + 1
        omega
      refine k Gf _ (ownOf p lm L le sn) (PlantAt.mk' (G := G) (H := H1) (dx := dx) ?_ ?_ nd' ?_ ⟨?_, rs, ?_, ?_⟩ ?_ sG ?_ ?_ h6) (S1.trans ⟨sG, fun b o e hb => ?_, fun b hb => ?_, fun b o e hb t g => gN b o (by rw [k2 b (by rintro rfl; exact hb mp)]; exact e) t g⟩)
      · intro b o e
        rw [upd_ne (by rintro rfl; rw [gO _ mp] at e; cases e)]
        exact g3 b o e
      · intro b hb
        rcases sub' b hb with z | z
        · exact gO b z
        · rw [z]; exact gL
      · rw [upd_same]
        show some (HO.ins C dx (pf (((h.changed h.qs h.now).now : Int) + 1) lm L le)) = some (HO.ins C dx (pf (((h.now + 1 : Nat)) : Int) lm L le))
        rw [en]
      · rw [kf lm _ h2' N.plm.symm]
        show some (HO.lst (vi (h.qs.map (·.marks)))) = some (HO.lst (vi ((h.qs.map fun q => { q with pairs := nextAll q.marks q.pairs }).map fun q => q.marks)))
        rw [List.map_map]
        rfl
      · rw [upd_ne (nL p mp).symm]
        exact hL3
      · have q : Paired (fun a (q : Quantity) => PairsAt Gf a (nextAll q.marks q.pairs)) rs h.qs := p3
        show Paired (fun a (q : Quantity) => PairsAt Gf a q.pairs) rs (h.qs.map fun q => { q with pairs := nextAll q.marks q.pairs })
        exact pr_mapR q fun a q e => e
      · exact kf le _ ((k2 le N.ple.symm).trans h5) N.ple.symm
      · intro b xs e
        have nb : b ≠ p := ne_of e h1 (by intro z; cases z)
        exact kf b _ (by rw [k2 b nb]; exact e) nb
      · intro b hb
        obtain ⟨xs, e⟩ := sn_some h6 hb
        have nb := (N.sn b hb).1
        rw [e]
        exact kf b _ (by rw [k2 b nb]; exact e) nb
      · have nb : b ≠ p := by rintro rfl; exact hb mp
        exact kf b o (by rw [k2 b nb]; exact e) nb
      · rcases sub' b hb with z | z
        · exact .inl z
        · right
          rw [z, ← k2 L (nL p mp).symm]
          exact hL
theorem scBackM : FnScope ["self", "stood"] ["self"] (defScope sBackM) := ⟨rfl, rfl, rfl, by decide +kernel, rfl, by decide +kernel, by decide +kernel⟩
theorem pr_last {α β : Type} {F : α → β → Prop} : ∀ {l : List α} {m : List β} {b : β}, Paired F l (m ++ [b]) → ∃ l' a, l = l' ++ [a] ∧ Paired F l' m ∧ F a b
  | _, [], _, .cons r .nil => ⟨[], _, rfl, .nil, r⟩
  | _, _ :: _, _, .cons r t => by
    obtain ⟨l', a, e, p, q⟩ := pr_last t
    exact ⟨_ :: l', a, by rw [e]; rfl, .cons r p, q⟩
theorem ok_backM {f : Addr} {fd : FuncData} (D : MDef K C "take_back" "Plant.take_back" sBackM ["self"] f fd) (T : PCls K mg C) : FnOk P w K mg base CX0 1 f fd ["self"] (spBackM C) := by
  refine D.fn.ok scBackM (fun vs H Q E h => ?_) (fun cdv A outer s H vs Q E hr h => ?_)
  · obtain ⟨p, G, own, h, x, r, rfl, _⟩ := h
    rfl
  · obtain ⟨p, G, own, h, x, r, rfl, PA, hx, k⟩ := h
    obtain ⟨dx, lm, lp, le, sn, rfl, nd, h1, ⟨h2, as, h3, h4⟩, h5, h6⟩ := PA.ex
    have free := PA.free
    have sub := PA.sub
    rw [hx, List.reverse_cons] at h6
    obtain ⟨sn0, s0, rfl, h7, h8, h9, as0, h10, h11⟩ := pr_last h6
    obtain ⟨t, sm, sp⟩ := s0
    dsimp only at h8 h9 h10
    have N := own_nd nd
    obtain ⟨nm1, nm2, nm3, nm4⟩ := N.sn sm (by rw [snOwn_app]; simp [snOwn])
    obtain ⟨np1, np2, np3, np4⟩ := N.sn sp (by rw [snOwn_app]; simp [snOwn])
    refine ⟨_, pss_cons (ps_set (i := 1) scBackM.nd rfl (Or.inl rfl) (pe_bm0 PySem.F.plainAttrs_list PySem.F.slot_list_pop PySem.F.type_list_pop mt_pop (pe_fld (pv 0) rfl)))
      (pss_cons (ps_fld (pv 0) (pe_ix ix_tup (pv 1) pe_int (fun _ _ => rfl)) rfl)
      (pss_cons (ps_fld (pv 0) (pe_ix ix_tup (pv 1) pe_int (fun _ _ => rfl)) rfl)
      (pss_one (ps_fld (pv 0) (pe_ix ix_tup (pv 1) pe_int (fun _ _ => rfl)) rfl)))), ?_⟩
    refine ⟨_, rfl, p, C, dx, _, _, rfl, h1, T.cl, T.nEa, pf_earlier _ _ _ _, .inl ⟨rfl, _, SqL.of h5⟩, le, _, V.ref t, rfl, rfl, h5, ?_, ?_⟩
    · rw [List.map_append, List.length_append]
      simp
    have tl : t ≠ le := ne_of h8 h5 (by intro z; cases z)
    have tp : t ≠ p := ne_of h8 h1 (by intro z; cases z)
    have b1 : (upd H le (.lst ((sn0 ++ [(t, sm, sp)]).map (fun s => V.ref s.1)).dropLast)) t = some (.tup [.int (x.2 : Int), .ref sm, .ref sp]) := by rw [upd_ne tl]; exact h8
    have b2 : (upd H le (.lst ((sn0 ++ [(t, sm, sp)]).map (fun s => V.ref s.1)).dropLast)) p = some (.ins C dx (pf (h.now : Int) lm lp le)) := by rw [upd_ne N.ple]; exact h1
    refine ⟨_, rfl, t, _, _, _, rfl, rfl, SqT.of b1, at_of (j := 0) rfl rfl, _, rfl, p, C, dx, _, rfl, b2, T.cl, T.nMo, pf_len _ _ _ _, ?_⟩
    rw [put_moment]
    refine ⟨_, rfl, t, _, _, _, rfl, rfl, SqT.of (by rw [upd_ne tp]; exact b1), at_of (j := 1) rfl rfl, _, rfl, p, C, dx, _, rfl, upd_same, T.cl, T.nMa, pf_len _ _ _ _, ?_⟩
    rw [put_marks]
    refine ⟨_, rfl, t, _, _, _, rfl, rfl, SqT.of (by rw [upd_ne tp, upd_ne tp]; exact b1), at_of (j := 2) rfl rfl, _, rfl, p, C, dx, _, rfl, upd_same, T.cl, T.nPo, pf_len _ _ _ _, ?_⟩
    rw [put_possible]
    generalize hHf : upd (upd (upd (upd H le (.lst ((sn0 ++ [(t, sm, sp)]).map (fun s => V.ref s.1)).dropLast)) p (.ins C dx (pf (x.2 : Int) lm lp le))) p (.ins C dx (pf (x.2 : Int) sm lp le))) p (.ins C dx (pf (x.2 : Int) sm sp le)) = Hf
    have f1 : Hf p = some (.ins C dx (pf (x.2 : Int) sm sp le)) := by rw [← hHf, upd_same]
    have f2 : Hf le = some (.lst (sn0.map fun s => V.ref s.1)) := by
      rw [← hHf, upd_ne N.ple.symm, upd_ne N.ple.symm, upd_ne N.ple.symm, upd_same, List.map_append]
      simp
    have f3 : ∀ b, b ≠ p → b ≠ le → Hf b = H b := fun b n1 n2 => by rw [← hHf, upd_ne n1, upd_ne n1, upd_ne n1, upd_ne n2]
    have inOwn : ∀ b, b ∈ ownOf p sm sp le sn0 → b ∈ ownOf p lm lp le (sn0 ++ [(t, sm, sp)]) := fun b hb => by
      unfold ownOf at hb ⊢
      rw [snOwn_app]
      simp only [List.mem_cons, List.mem_append] at hb ⊢
      rcases hb with e | e | e | e | e
      · exact .inl e
      · exact .inr (.inl e)
      · exact .inr (.inr (.inr (.inr (.inr (by rw [e]; simp [snOwn])))))
      · exact .inr (.inr (.inr (.inr (.inr (by rw [e]; simp [snOwn])))))
      · exact .inr (.inr (.inr (.inr (.inl e))))
    have nd' : (ownOf p sm sp le sn0).Nodup := by
      have q := nd
      unfold ownOf at q ⊢
      rw [snOwn_app] at q
      have q1 : (snOwn sn0 ++ [sm, sp]).Nodup := (List.nodup_cons.mp (List.nodup_cons.mp (List.nodup_cons.mp (List.nodup_cons.mp q).2).2).2).2
      have q2 : (sm :: sp :: snOwn sn0).Nodup := (List.perm_append_comm (l₁ := snOwn sn0) (l₂ := [sm, sp])).nodup_iff.mp q1
      refine List.nodup_cons.mpr ⟨?_, List.nodup_cons.mpr ⟨?_, q2⟩⟩
      · simp only [List.mem_cons, not_or]
        exact ⟨N.ple, nm1.symm, np1.symm, fun hb => (N.sn p (by rw [snOwn_app]; simp [hb])).1 rfl⟩
      · simp only [List.mem_cons, not_or]
        exact ⟨nm2.symm, np2.symm, fun hb => (N.sn le (by rw [snOwn_app]; simp [hb])).2.1 rfl⟩
    have gp : G p = none := free p (by unfold ownOf; simp)
    have gle : G le = none := free le (by unfold ownOf; simp)
    refine k Hf (ownOf p sm sp le sn0) (PlantAt.mk' (G := G) (H := H) (dx := dx) ?_ (fun b hb => free b (inOwn b hb)) nd' f1 ⟨?_, as0, ?_, h11⟩ f2 (Same.refl G) ?_ ?_ h7) ⟨Same.refl G, fun b o e hb => ?_, fun b hb => .inl (inOwn b hb), fun _ _ _ _ _ g => g⟩
    · intro b o e
      rw [f3 b (by rintro rfl; rw [gp] at e; cases e) (by rintro rfl; rw [gle] at e; cases e)]
      exact sub b o e
    · rw [f3 sm nm1 nm2]
      exact h9
    · rw [f3 sp np1 np2]
      exact h10
    · intro b xs e
      rw [f3 b (ne_of e h1 (by intro z; cases z)) (ne_of e h5 (by intro z; cases z))]
      exact e
    · intro b hb
      obtain ⟨n1, n2, _⟩ := N.sn b (by rw [snOwn_app]; simp [hb])
      exact f3 b n1 n2
    · rw [f3 b (by rintro rfl; exact hb (by unfold ownOf; simp)) (by rintro rfl; exact hb (by unfold ownOf; simp))]
      exact e
end
end Bm

end
section
set_option Elab.async false
set_option linter.all false
set_option maxRecDepth 100000
set_option maxHeartbeats 2000000
namespace Bm
open PySem PySem.Spec PyProof.Rows L2
open Kri5 (Pair Quantity House pairsOf nextAll)

abbrev sQuant : Stmt := top 28
abbrev sNar : Stmt := top 29
abbrev sPlace : Stmt := top 30
abbrev sWay : Stmt := top 31
abbrev sNot : Stmt := top 32
abbrev sTick : Stmt := top 33
abbrev sForget : Stmt := top 34
abbrev sBack : Stmt := top 35
/-- the numbers of the refusals, and bounds, as the top names them -/
structure Refs (mg : Str → Option Value) : Prop where
  noQ : ∃ t, mg "NO_QUANTITY" = some (.int (-2) t)
  none_ : ∃ t, mg "NONE_THERE" = some (.int (-6) t)
  begun : ∃ t, mg "NOT_BEGUN" = some (.int (-11) t)
  right : ∃ t, mg "NOT_RIGHT" = some (.int (-22) t)
  many : ∃ t, mg "TOO_MANY" = some (.int (-28) t)
  cannot : ∃ t, mg "CANNOT_BE" = some (.int (-33) t)
  marks : ∃ t, mg "MOST_MARKS" = some (.int 4 t)
  quants : ∃ t, mg "MOST_QUANTITIES" = some (.int 5 t)
  moments : ∃ t, mg "MOST_MOMENTS" = some (.int 40 t)
theorem PlantAt.same {C : Addr} {G H H' : Hp} {p : Addr} {own : List Addr} {h : House} (P : PlantAt C G H p own h) (s : Same H H') : PlantAt C G H' p own h := by
  obtain ⟨dx, lm, lp, le, sn, e, nd, h1, ⟨h2, as, h3, h4⟩, h5, h6⟩ := P.ex
  refine ⟨P.sub.trans s, P.free, dx, lm, lp, le, sn, e, nd, s _ _ h1, ⟨s _ _ h2, as, s _ _ h3, h4⟩, s _ _ h5, snaps_move (Same.refl G) (KeepT.of s) (fun b hb => ?_) h6⟩
  obtain ⟨xs, e⟩ := sn_some h6 hb
  rw [e]
  exact s _ _ e
theorem Stp.of_same {G H H' : Hp} {own : List Addr} (s : Same H H') : Stp G H own G H' own := ⟨Same.refl G, fun b o e _ => s b o e, fun b hb => .inl hb, fun _ _ _ _ _ g => g⟩
theorem Stp.of_frz {G H H' : Hp} {own : List Addr} (g : Same G H) (s : Same H H') : Stp G H own (Fz G H H') H' own := ⟨Fz_old (g.trans s), fun b o e _ => s b o e, fun b hb => .inl hb, fun b o e _ t z => by
  rw [Fz_none e (by rw [s _ _ e]; exact t)]
  exact z⟩
/-- more is kept for good: what is new -/
theorem PlantAt.frz {C : Addr} {G H H' : Hp} {p : Addr} {own : List Addr} {h : House} (P : PlantAt C G H p own h) (s : Same H H') : PlantAt C (Fz G H H') H' p own h := by
  have g : Same G H' := P.sub.trans s
  have P' := P.same s
  obtain ⟨dx, lm, lp, le, sn, e, nd, h1, h2, h5, h6⟩ := P'.ex
  refine ⟨Fz_sub g, fun b hb => ?_, dx, lm, lp, le, sn, e, nd, h1, h2.move (Fz_old g) rfl rfl, h5, snaps_move (Fz_old g) (KeepT.of (Same.refl H')) (fun _ _ => rfl) h6⟩
  obtain ⟨o, e1, e2⟩ := P.there hb
  rw [Fz_none e1 (by rw [s _ _ e1]; exact e2)]
  exact P.free b hb
/-- nothing that stands outside the plant stands at r -/
def Apart (H : Hp) (own : List Addr) (r : Addr) : Prop := ∀ b o, H b = some o → b ∉ own → b ≠ r
theorem Stp.apart {G H G' H' : Hp} {own own' : List Addr} (s : Stp G H own G' H' own') {r : Addr} (h : H' r = none) : Apart H own r := fun b o e hb => ne_of_none (s.keep b o e hb) h
theorem apart_new {H : Hp} {own : List Addr} {r : Addr} (h : H r = none) : Apart H own r := fun b o e _ => ne_of_none e h
/-- what a call's def promises: the n-th call, on a quantity that there is -/
def spDo (C : Addr) (n : Nat) : Sp := fun vs H Q _ => ∃ (p g : Addr) (G : Hp) (own : List Addr) (h : House) (k : Kri5.Call), vs = [.ref p, .ref g] ∧ PlantAt C G H p own h ∧ HouseOk h ∧ GivenAt G g k ∧ num k = n ∧ (∀ i, quant k = some i → i < h.qs.length) ∧
  ∀ (G' H' : Hp) (own' : List Addr) (h' : House) (a : Kri5.Ans) (r : Addr), Kri5.act (some h) k = (some h', a) → PlantAt C G' H' p own' h' → Stp G H own G' H' own' → Apart H own r → IntsAt H' r (Kri5Neutral.told a) → Q (.ref r) H'
theorem told_say (v : Int) : Kri5Neutral.told (Kri5.say v) = [v] := rfl
/-- a refusal, or another answer of one number that changes nothing -/
theorem one_list {C : Addr} {G H : Hp} {own : List Addr} {p : Addr} {h : House} {Q : VK} {k : Kri5.Call} {v : Int} (PA : PlantAt C G H p own h)
    (kk : ∀ (G' H' : Hp) (own' : List Addr) (h' : House) (a : Kri5.Ans) (r : Addr), Kri5.act (some h) k = (some h', a) → PlantAt C G' H' p own' h' → Stp G H own G' H' own' → Apart H own r → IntsAt H' r (Kri5Neutral.told a) → Q (.ref r) H')
    (e : Kri5.act (some h) k = (some h, Kri5.say v)) : 1 ≤ sizeLine ∧ ∀ r, H r = none → Q (.ref r) (upd H r (.lst [.int v])) :=
  ⟨by rw [sizeLine_eq]; decide, fun r hr => kk G _ own h (Kri5.say v) r e (PA.same (same_new hr)) (Stp.of_same (same_new hr)) (apart_new hr) upd_same⟩
section
variable {P : Program} {w : World} {K : PySem.W.Frag} {mg : Str → Option Value} {base : Heap} {aD C : Addr}
theorem scQuant : FnScope ["plant", "given"] ["plant", "given"] (defScope sQuant) := ⟨rfl, rfl, rfl, by decide +kernel, rfl, by decide +kernel, by decide +kernel⟩
theorem nAdd : ¬ (("add_quantity" : Str) = "moment") ∧ ¬ (("add_quantity" : Str) = "marks") ∧ ¬ (("add_quantity" : Str) = "possible") ∧ ¬ (("add_quantity" : Str) = "earlier") := by decide +kernel
theorem ok_quant {f fA : Addr} {fd fdA : FuncData} (D : Def K mg "quantity" sQuant ["plant", "given"] f fd) (T : PCls K mg C) (TD : Dirs K mg aD) (R : Refs mg) (DA : MDef K C "add_quantity" "Plant.add_quantity" sAddQ ["self", "marks"] fA fdA)
    (GA : FnOk P w K mg base CX0 3 fA fdA ["self", "marks"] (spAddQ C)) : FnOk P w K mg base CX0 4 f fd ["plant", "given"] (spDo C 1) := by
  obtain ⟨t1, r1⟩ := R.marks
  obtain ⟨t2, r2⟩ := R.right
  obtain ⟨t3, r3⟩ := R.quants
  obtain ⟨t4, r4⟩ := R.many
  refine D.fn.ok scQuant (fun vs H Q E h => ?_) (fun cdv A outer s H vs Q E hr h => ?_)
  · obtain ⟨p, g, G, own, h, k, rfl, _⟩ := h
    rfl
  · obtain ⟨p, g, G, own, h, k, rfl, PA, ok, hg, hk, _, kk⟩ := h
    obtain ⟨m, rfl⟩ : ∃ m, k = .quantity m := by cases k <;> simp [num] at hk; exact ⟨_, rfl⟩
    obtain ⟨rs, hg1, hg2⟩ := hg
    cases hg2
    have hgH : H g = some (.lst [.int (m : Int)]) := PA.sub _ _ hg1
    refine ⟨_, pss_cons (ps_if (pt_cmpR op_gt (pe_ix ix_list (pv 1) pe_int (fun _ _ => rfl)) (pe_glob (v := .int 4) rfl r1 ⟨_, rfl⟩) (nomark _)) (pss_one (ps_ret (pe_lst (pa_cons (pe_glob (v := .int (-22)) rfl r2 ⟨_, rfl⟩) pa_nil)))) pss_nil)
      (pss_cons (ps_if (pt_cmpR op_eq (pe_callB call_len_seq (by rfl) TD.len PySem.boot_len (pa_cons (pe_fld (pv 0) rfl) pa_nil)) (pe_glob (v := .int 5) rfl r3 ⟨_, rfl⟩) (nomark _)) (pss_one (ps_ret (pe_lst (pa_cons (pe_glob (v := .int (-28)) rfl r4 ⟨_, rfl⟩) pa_nil)))) pss_nil)
      (pss_cons (ps_expr (pe_meth (pv 0) T.cl DA.me GA hr DA.bd .nil pass0 (pa_cons (pe_ix ix_list (pv 1) pe_int (fun _ _ => rfl)) pa_nil)))
      (pss_one (ps_ret (pe_lst (pa_cons (pe_op op_sub (pe_callB call_len_seq (by rfl) TD.len PySem.boot_len (pa_cons (pe_fld (pv 0) rfl) pa_nil)) pe_int) pa_nil)))))), ?_⟩
    refine ⟨_, rfl, g, _, _, _, rfl, rfl, SqL.of hgH, at_of (j := 0) rfl rfl, _, _, rfl, rfl, _, rfl, ite2 (fun c => ?_) (fun c => ?_)⟩
    · have c := of_decide_eq_true c
      exact one_list PA kk (by rw [act_quantity, if_pos (by omega)])
    · have c : ¬ 4 < m := fun q => c (decide_eq_true (by omega))
      obtain ⟨dx, lm, lp, le, sn, _, nd, h1, ⟨h2, as, h3, h4⟩, h5, h6⟩ := PA.ex
      refine ⟨_, rfl, p, C, dx, _, _, rfl, h1, T.cl, T.nMa, pf_marks _ _ _ _, lm, _, rfl, .inl (SqL.of h2), rfl, _, rfl, ite2 (fun c2 => ?_) (fun c2 => ?_)⟩
      · have c2 := V.int.inj (of_decide_eq_true c2)
        rw [vi_len, List.length_map] at c2
        exact one_list PA kk (by rw [act_quantity, if_neg c, if_pos (by omega)])
      · have c2 : ¬ 5 ≤ h.qs.length := fun q => c2 (decide_eq_true (by rw [vi_len, List.length_map]; have := ok.n5; congr 1; omega))
        refine ⟨_, rfl, p, dx, _, rfl, h1, mName _ _ _ _ _ nAdd, _, rfl, g, _, _, _, rfl, rfl, SqL.of hgH, at_of (j := 0) rfl rfl, p, G, own, h, m, rfl, PA, ok, by omega, by omega, fun G' H' own' P' S' => ?_⟩
        obtain ⟨dx', lm', lp', le', sn', _, nd', h1', ⟨h2', as', h3', h4'⟩, h5', h6'⟩ := P'.ex
        refine ⟨_, rfl, p, C, dx', _, _, rfl, h1', T.cl, T.nMa, pf_marks _ _ _ _, lm', _, rfl, .inl (SqL.of h2'), _, _, rfl, rfl, (by show 1 ≤ sizeLine; rw [sizeLine_eq]; decide), fun r hr' => ?_⟩
        have e : Kri5.act (some h) (.quantity m) = (some (h.changed (h.qs ++ [⟨m, pairsOf m⟩]) h.now), Kri5.say h.qs.length) := by rw [act_quantity, if_neg c, if_neg c2]
        refine kk G' _ own' _ _ r e (P'.same (same_new hr')) (S'.trans (Stp.of_same (same_new hr'))) (S'.apart hr') ?_
        · show (upd H' r _) r = _
          rw [upd_same, told_say, vi_len, List.length_map]
          show some (HO.lst [V.int ((((h.qs ++ [(⟨m, pairsOf m⟩ : Quantity)]).length : Nat) : Int) - 1)]) = some (HO.lst [V.int (h.qs.length : Int)])
          rw [List.length_append]
          simp
end
end Bm

end
section
set_option Elab.async false
set_option linter.all false
set_option maxRecDepth 100000
set_option maxHeartbeats 2000000
namespace Bm
open PySem PySem.Spec PyProof.Rows L2
open Kri5 (Pair Quantity House pairsOf nextAll)

theorem ixl {X : Cx} (K : PySem.W.Frag) (h : X.K = K) : IxR X (rIxL K) := by
  subst h
  exact ix_list
theorem ixt {X : Cx} (K : PySem.W.Frag) (h : X.K = K) : IxR X (rIxT K) := by
  subst h
  exact ix_tup
def spNar (C : Addr) : Sp := fun vs H Q _ => ∃ (p r : Addr) (G : Hp) (own : List Addr) (h : House) (i : Nat) (ps : List Pair), vs = [.ref p, .int i, .ref r] ∧ PlantAt C G H p own h ∧ HouseOk h ∧ i < h.qs.length ∧ PairsAt G r ps ∧
  (ps = [] → ∀ r', H r' = none → Q (.ref r') (upd H r' (.lst [.int (-33)]))) ∧ (ps ≠ [] → ∀ (H' : Hp) (own' : List Addr) (r' : Addr), PlantAt C G H' p own' (h.set i ps) → Stp G H own G H' own' → Apart H own r' → IntsAt H' r' [(ps.length : Int)] → Q (.ref r') H')
theorem pairs_nil {G : Hp} {r : Addr} {ps : List Pair} {rs : List Addr} (h : Paired (TupAt G) rs ps) : (!(rs.map V.ref).isEmpty) = !decide (ps = []) := by
  cases h <;> rfl
theorem nSet : ¬ (("set_possible" : Str) = "moment") ∧ ¬ (("set_possible" : Str) = "marks") ∧ ¬ (("set_possible" : Str) = "possible") ∧ ¬ (("set_possible" : Str) = "earlier") := by decide +kernel
theorem nPassM : ¬ (("pass_moment" : Str) = "moment") ∧ ¬ (("pass_moment" : Str) = "marks") ∧ ¬ (("pass_moment" : Str) = "possible") ∧ ¬ (("pass_moment" : Str) = "earlier") := by decide +kernel
theorem nTakeB : ¬ (("take_back" : Str) = "moment") ∧ ¬ (("take_back" : Str) = "marks") ∧ ¬ (("take_back" : Str) = "possible") ∧ ¬ (("take_back" : Str) = "earlier") := by decide +kernel
section
variable {P : Program} {w : World} {K : PySem.W.Frag} {mg : Str → Option Value} {base : Heap} {aD C : Addr}
theorem scNar : FnScope ["plant", "i", "pairs"] ["plant", "i", "pairs"] (defScope sNar) := ⟨rfl, rfl, rfl, by decide +kernel, rfl, by decide +kernel, by decide +kernel⟩
theorem ok_nar {f fS : Addr} {fd fdS : FuncData} (D : Def K mg "narrow" sNar ["plant", "i", "pairs"] f fd) (T : PCls K mg C) (TD : Dirs K mg aD) (R : Refs mg) (DS : MDef K C "set_possible" "Plant.set_possible" sSetP ["self", "i", "pairs"] fS fdS)
    (GS : FnOk P w K mg base CX0 2 fS fdS ["self", "i", "pairs"] (spSetP C)) : FnOk P w K mg base CX0 3 f fd ["plant", "i", "pairs"] (spNar C) := by
  obtain ⟨t1, r1⟩ := R.cannot
  refine D.fn.ok scNar (fun vs H Q E h => ?_) (fun cdv A outer s H vs Q E hr h => ?_)
  · obtain ⟨p, r, G, own, h, i, ps, rfl, _⟩ := h
    rfl
  · obtain ⟨p, r, G, own, h, i, ps, rfl, PA, ok, hi, hP, k1, k2⟩ := h
    obtain ⟨rs, e1, e2⟩ := id hP
    have e1H : H r = some (.lst (rs.map V.ref)) := PA.sub _ _ e1
    refine ⟨_, pss_cons (ps_if (pt_not (pt_truth (pv 2) (fun _ => rfl))) (pss_one (ps_ret (pe_lst (pa_cons (pe_glob (v := .int (-33)) rfl r1 ⟨_, rfl⟩) pa_nil)))) pss_nil)
      (pss_cons (ps_expr (pe_meth (pv 0) T.cl DS.me GS hr DS.bd .nil pass0 (pa_cons (pv 1) (pa_cons (pv 2) pa_nil))))
      (pss_one (ps_ret (pe_lst (pa_cons (pe_callB call_len_seq (by rfl) TD.len PySem.boot_len (pa_cons (pv 2) pa_nil)) pa_nil))))), ?_⟩
    refine ⟨_, rfl, _, .inl ⟨_, SqL.of e1H, rfl⟩, ?_⟩
    show if (!(!(rs.map V.ref).isEmpty)) = true then _ else _
    rw [pairs_nil (r := r) e2, Bool.not_not]
    refine ite2 (fun c => ?_) (fun c => ?_)
    · exact ⟨by show 1 ≤ sizeLine; rw [sizeLine_eq]; decide, fun r' hr' => k1 (of_decide_eq_true c) r' hr'⟩
    · have c : ¬ ps = [] := fun q => c (decide_eq_true q)
      obtain ⟨dx, lm, lp, le, sn, _, nd, h1, _⟩ := PA.ex
      refine ⟨_, rfl, p, dx, _, rfl, h1, mName _ _ _ _ _ nSet, _, rfl, _, rfl, p, G, own, h, i, r, ps, rfl, PA, ok, hi, hP, fun H' own' P' S' => ?_⟩
      refine ⟨_, rfl, r, _, rfl, .inl (SqL.of (P'.sub _ _ e1)), (by show 1 ≤ sizeLine; rw [sizeLine_eq]; decide), fun r' hr' => ?_⟩
      refine k2 c _ own' r' (P'.same (same_new hr')) (S'.trans (Stp.of_same (same_new hr'))) (S'.apart hr') ?_
      show (upd H' r' _) r' = _
      rw [upd_same, List.length_map, e2.length]
      rfl
theorem in_dirs (q : Nat) : (!inV (.int (q : Int)) [.int 0, .int 1, .int 2]) = decide (2 < q) := by
  unfold inV
  simp only [List.any_cons, List.any_nil, eqV]
  rw [Bool.eq_iff_iff]
  simp
  omega
theorem scPlace : FnScope ["plant", "given", "i", "pair"] ["plant", "given"] (defScope sPlace) := ⟨rfl, rfl, rfl, by decide +kernel, rfl, by decide +kernel, by decide +kernel⟩
theorem ok_place {f fN fH : Addr} {fd fdN fdH : FuncData} (D : Def K mg "place" sPlace ["plant", "given"] f fd) (T : PCls K mg C) (TD : Dirs K mg aD) (R : Refs mg) (DH : Def K mg "has_place" sHpl ["marks", "place"] fH fdH) (GH : FnOk P w K mg base CX0 2 fH fdH ["marks", "place"] spHpl) (DN : Def K mg "narrow" sNar ["plant", "i", "pairs"] fN fdN)
    (GN : FnOk P w K mg base CX0 3 fN fdN ["plant", "i", "pairs"] (spNar C)) : FnOk P w K mg base CX0 4 f fd ["plant", "given"] (spDo C 2) := by
  obtain ⟨t2, r2⟩ := R.right
  refine D.fn.ok scPlace (fun vs H Q E h => ?_) (fun cdv A outer s H vs Q E hr h => ?_)
  · obtain ⟨p, g, G, own, h, k, rfl, _⟩ := h
    rfl
  · obtain ⟨p, g, G, own, h, k, rfl, PA, ok, hg, hk, hq, kk⟩ := h
    obtain ⟨i, q, rfl⟩ : ∃ i q, k = .place i q := by cases k <;> simp [num] at hk; exact ⟨_, _, rfl⟩
    have hi : i < h.qs.length := hq i rfl
    obtain ⟨rs, hg1, hg2⟩ := hg
    cases hg2
    have hgH : H g = some (.lst [.int (i : Int), .int (q : Int)]) := PA.sub _ _ hg1
    obtain ⟨dx, lm, lp, le, sn, _, nd, h1, ⟨h2, as, h3, h4⟩, h5, h6⟩ := PA.ex
    obtain ⟨ai, hai, hPi⟩ := pr_getR h4 (q_at hi)
    have hmark : (vi (h.qs.map (·.marks)))[i]? = some (.int ((h.q i).marks : Int)) := by
      unfold vi
      rw [List.getElem?_map, List.getElem?_map, q_at hi]
      rfl
    obtain ⟨rr, hr1, hr2⟩ := hPi
    have qok := ok.q hi
    refine ⟨_, pss_cons (ps_set (i := 2) scPlace.nd rfl (Or.inl rfl) (pe_ix ix_list (pv 1) pe_int (fun _ _ => rfl)))
      (pss_cons (ps_if (pt_not (pt_val (pe_call GH (hr.mono (by decide)) rfl DH.at_ DH.fn.kp DH.bd .nil pass0 (pa_cons (pe_ix ix_list (pe_fld (pv 0) rfl) (pv 2) (fun _ _ => rfl)) (pa_cons (pe_ix ix_list (pv 1) pe_int (fun _ _ => rfl)) pa_nil))))) (pss_one (ps_ret (pe_lst (pa_cons (pe_glob (v := .int (-22)) rfl r2 ⟨_, rfl⟩) pa_nil)))) pss_nil)
      (pss_one (ps_ret (pe_call GN hr rfl DN.at_ DN.fn.kp DN.bd .nil pass0 (pa_cons (pv 0) (pa_cons (pv 2) (pa_cons
        (pe_lc (own := [("pair", 3)]) rfl scPlace.nd (pi_list (pe_ix ix_list (pe_fld (pv 0) rfl) (pv 2) (fun _ _ => rfl))) (blkOk_by (by show blkC ["plant", "given", "i", "pair"] (defScope sPlace) _ _ = true; decide +kernel))
          (fun _ _ _ _ _ => pg_name (i := 3) scPlace.nd rfl (Or.inl rfl))
          (fun _ _ _ _ _ => pts_one (pt_cmpR op_eq (pe_ix (ixt K rfl) (pv 3) pe_int (fun _ _ => rfl)) (pe_ix (ixl K rfl) (pv 1) pe_int (fun _ _ => rfl)) (nomark _)))
          (fun _ _ _ _ _ => pv 3)) pa_nil))))))), ?_⟩
    refine ⟨_, rfl, g, _, _, _, rfl, rfl, SqL.of hgH, at_of (j := 0) rfl rfl, ?_⟩
    refine ⟨_, rfl, p, C, dx, _, _, rfl, h1, T.cl, T.nMa, pf_marks _ _ _ _, _, rfl, lm, _, _, _, rfl, rfl, SqL.of h2, atI_nat hmark, _, rfl, g, _, _, _, rfl, rfl, SqL.of hgH, at_of (j := 1) rfl rfl, (h.q i).marks, (q : Int), rfl, _, rfl, ite2 (fun c => ?_) (fun c => ?_)⟩
    · rw [Bool.not_eq_true', decide_eq_false_iff_not] at c
      exact one_list PA kk (by rw [act_place hi, if_pos (by omega)])
    · rw [Bool.not_eq_true', decide_eq_false_iff_not, Decidable.not_not] at c
      have c : ¬ 2 * (h.q i).marks < q := by omega
      refine ⟨_, rfl, _, rfl, _, rfl, p, C, dx, _, _, rfl, h1, T.cl, T.nPo, pf_possible _ _ _ _, _, rfl, lp, _, _, _, rfl, rfl, SqL.of h3, atI_nat (by rw [List.getElem?_map, hai]; rfl), ai, rfl, ⟨_, SqL.of (PA.sub _ _ hr1)⟩, fun L hL => ?_⟩
      refine lc_list (K := K) (a := ai) (xs := rr.map V.ref) (fun j H' => Same H H' ∧ ∃ rs' : List Addr, H' L = some (.lst (rs'.map V.ref)) ∧ Paired (TupAt H') rs' (((h.q i).pairs.take j).filter fun x => x.1 == q))
        ⟨same_new hL, [], upd_same, .nil⟩ (fun j H' _ ⟨s1, _⟩ => SqL.of (s1 _ _ (PA.sub _ _ hr1))) ?_ ?_
      · rintro j y H1 hy ⟨s1, rs', hL1, p1⟩
        obtain ⟨r, hr3, rfl⟩ := map_get hy
        obtain ⟨x, hx, hxr⟩ := pr_getL hr2 hr3
        have hxH : TupAt H1 r x := s1 _ _ (PA.sub _ _ hxr)
        refine ⟨rfl, ?_⟩
        refine ⟨_, rfl, r, _, _, _, rfl, rfl, tup0 hxH, at_of (j := 0) rfl rfl, _, rfl, g, _, _, _, rfl, rfl, SqL.of (s1 _ _ hgH), at_of (j := 1) rfl rfl, rfl, _, rfl, ?_⟩
        have ev : (decide (V.int (x.1 : Int) = V.int (q : Int))) = (x.1 == q) := by
          rw [dec_int, Bool.eq_iff_iff]
          simp
          try omega
        show if (decide (V.int (x.1 : Int) = V.int (q : Int))) = true then _ else _
        rw [ev]
        have et : ((h.q i).pairs.take (j + 1)).filter (fun x => x.1 == q) = ((h.q i).pairs.take j).filter (fun x => x.1 == q) ++ (if (x.1 == q) = true then [x] else []) := by
          rw [take_one hx, List.filter_append, List.filter_cons, List.filter_nil]
        refine ite2 (fun c1 => ?_) (fun c1 => ?_)
        · have hlen : (rs'.map V.ref).length < sizeLine := by
            refine line_small ?_
            have l1 := p1.length
            have l2 := List.length_filter_le (fun x : Pair => x.1 == q) ((h.q i).pairs.take j)
            rw [List.length_take] at l2
            have l3 := qok.len
            rw [List.length_map]
            omega
          refine ⟨_, rfl, _, hL1, hlen, ?_, rs' ++ [r], ?_, ?_⟩
          · intro b o e
            rw [upd_ne (ne_of_none e hL)]
            exact s1 b o e
          · rw [upd_same, List.map_append]
            rfl
          · rw [et, if_pos c1]
            have kt : KeepT H1 (upd H1 L (.lst (rs'.map V.ref ++ [V.ref r]))) := KeepT.upd hL1 rfl
            exact Paired.snoc (tups_keep kt p1) (kt _ _ hxH)
        · rw [et, if_neg c1, List.append_nil]
          exact ⟨s1, rs', hL1, p1⟩
      · rintro H1 ⟨s1, rs', hL1, p1⟩
        rw [List.length_map, hr2.length, List.take_length] at p1
        have P1 := PA.frz s1
        have S1 : Stp G H own (Fz G H H1) H1 own := Stp.of_frz PA.sub s1
        refine ⟨p, L, Fz G H H1, own, h, i, (h.q i).pairs.filter (fun x => x.1 == q), rfl, P1, ok, hi, ⟨rs', Fz_new _ _ (Nw_at hL hL1), pr_mono (fun r x e => Fz_new _ _ (Nw_tup e)) p1⟩, fun c1 r' hr' => ?_, fun c1 H' own' r' P' S' A' I' => ?_⟩
        · have e : Kri5.act (some h) (.place i q) = (some h, Kri5.say (-33)) := by
            rw [act_place hi, if_neg c]
            unfold narrowed
            rw [if_pos c1]
          exact kk G _ own h _ r' e (PA.same (s1.trans (same_new hr'))) (Stp.of_same (s1.trans (same_new hr'))) (fun b o e _ => ne_of_none (s1 b o e) hr') upd_same
        · have e : Kri5.act (some h) (.place i q) = (some (h.set i ((h.q i).pairs.filter (fun x => x.1 == q))), Kri5.say ((h.q i).pairs.filter (fun x => x.1 == q)).length) := by
            rw [act_place hi, if_neg c]
            unfold narrowed
            rw [if_neg c1]
          exact kk (Fz G H H1) H' own' _ _ r' e P' (S1.trans S') (fun b o e hb => A' b o (s1 b o e) hb) I'
theorem scWay : FnScope ["plant", "given", "i", "pair"] ["plant", "given"] (defScope sWay) := ⟨rfl, rfl, rfl, by decide +kernel, rfl, by decide +kernel, by decide +kernel⟩
theorem ok_way {f fN : Addr} {fd fdN : FuncData} (D : Def K mg "way" sWay ["plant", "given"] f fd) (T : PCls K mg C) (TD : Dirs K mg aD) (R : Refs mg) (DN : Def K mg "narrow" sNar ["plant", "i", "pairs"] fN fdN)
    (GN : FnOk P w K mg base CX0 3 fN fdN ["plant", "i", "pairs"] (spNar C)) : FnOk P w K mg base CX0 4 f fd ["plant", "given"] (spDo C 3) := by
  obtain ⟨t2, r2⟩ := R.right
  refine D.fn.ok scWay (fun vs H Q E h => ?_) (fun cdv A outer s H vs Q E hr h => ?_)
  · obtain ⟨p, g, G, own, h, k, rfl, _⟩ := h
    rfl
  · obtain ⟨p, g, G, own, h, k, rfl, PA, ok, hg, hk, hq, kk⟩ := h
    obtain ⟨i, q, rfl⟩ : ∃ i q, k = .way i q := by cases k <;> simp [num] at hk; exact ⟨_, _, rfl⟩
    have hi : i < h.qs.length := hq i rfl
    obtain ⟨rs, hg1, hg2⟩ := hg
    cases hg2
    have hgH : H g = some (.lst [.int (i : Int), .int (q : Int)]) := PA.sub _ _ hg1
    obtain ⟨dx, lm, lp, le, sn, _, nd, h1, ⟨h2, as, h3, h4⟩, h5, h6⟩ := PA.ex
    obtain ⟨ai, hai, hPi⟩ := pr_getR h4 (q_at hi)
    have hmark : (vi (h.qs.map (·.marks)))[i]? = some (.int ((h.q i).marks : Int)) := by
      unfold vi
      rw [List.getElem?_map, List.getElem?_map, q_at hi]
      rfl
    obtain ⟨rr, hr1, hr2⟩ := hPi
    have qok := ok.q hi
    refine ⟨_, pss_cons (ps_set (i := 2) scWay.nd rfl (Or.inl rfl) (pe_ix ix_list (pv 1) pe_int (fun _ _ => rfl)))
      (pss_cons (ps_if (pt_cmpR op_notIn_seq (pe_ix ix_list (pv 1) pe_int (fun _ _ => rfl)) (pe_glob (v := .ref aD) rfl TD.dirs rfl) (by with_unfolding_all rfl)) (pss_one (ps_ret (pe_lst (pa_cons (pe_glob (v := .int (-22)) rfl r2 ⟨_, rfl⟩) pa_nil)))) pss_nil)
      (pss_one (ps_ret (pe_call GN hr rfl DN.at_ DN.fn.kp DN.bd .nil pass0 (pa_cons (pv 0) (pa_cons (pv 2) (pa_cons
        (pe_lc (own := [("pair", 3)]) rfl scWay.nd (pi_list (pe_ix ix_list (pe_fld (pv 0) rfl) (pv 2) (fun _ _ => rfl))) (blkOk_by (by show blkC ["plant", "given", "i", "pair"] (defScope sWay) _ _ = true; decide +kernel))
          (fun _ _ _ _ _ => pg_name (i := 3) scWay.nd rfl (Or.inl rfl))
          (fun _ _ _ _ _ => pts_one (pt_cmpR op_eq (pe_ix (ixt K rfl) (pv 3) pe_int (fun _ _ => rfl)) (pe_ix (ixl K rfl) (pv 1) pe_int (fun _ _ => rfl)) (nomark _)))
          (fun _ _ _ _ _ => pv 3)) pa_nil))))))), ?_⟩
    refine ⟨_, rfl, g, _, _, _, rfl, rfl, SqL.of hgH, at_of (j := 0) rfl rfl, ?_⟩
    refine ⟨_, rfl, g, _, _, _, rfl, rfl, SqL.of hgH, at_of (j := 1) rfl rfl, aD, _, rfl, .inr (TD.dirT _), rfl, rfl, _, rfl, ?_⟩
    have ein : (if true = true then !inV (.int (q : Int)) [.int 0, .int 1, .int 2] else inV (.int (q : Int)) [.int 0, .int 1, .int 2]) = decide (2 < q) := by
      rw [if_pos rfl]
      exact in_dirs q
    show if (if true = true then !inV (.int (q : Int)) [.int 0, .int 1, .int 2] else inV (.int (q : Int)) [.int 0, .int 1, .int 2]) = true then _ else _
    rw [ein]
    refine ite2 (fun c => ?_) (fun c => ?_)
    · have c := of_decide_eq_true c
      exact one_list PA kk (by rw [act_way hi, if_pos c])
    · have c : ¬ 2 < q := fun z => c (decide_eq_true z)
      refine ⟨_, rfl, _, rfl, _, rfl, p, C, dx, _, _, rfl, h1, T.cl, T.nPo, pf_possible _ _ _ _, _, rfl, lp, _, _, _, rfl, rfl, SqL.of h3, atI_nat (by rw [List.getElem?_map, hai]; rfl), ai, rfl, ⟨_, SqL.of (PA.sub _ _ hr1)⟩, fun L hL => ?_⟩
      refine lc_list (K := K) (a := ai) (xs := rr.map V.ref) (fun j H' => Same H H' ∧ ∃ rs' : List Addr, H' L = some (.lst (rs'.map V.ref)) ∧ Paired (TupAt H') rs' (((h.q i).pairs.take j).filter fun x => x.2 == q))
        ⟨same_new hL, [], upd_same, .nil⟩ (fun j H' _ ⟨s1, _⟩ => SqL.of (s1 _ _ (PA.sub _ _ hr1))) ?_ ?_
      · rintro j y H1 hy ⟨s1, rs', hL1, p1⟩
        obtain ⟨r, hr3, rfl⟩ := map_get hy
        obtain ⟨x, hx, hxr⟩ := pr_getL hr2 hr3
        have hxH : TupAt H1 r x := s1 _ _ (PA.sub _ _ hxr)
        refine ⟨rfl, ?_⟩
        refine ⟨_, rfl, r, _, _, _, rfl, rfl, tup0 hxH, at_of (j := 1) rfl rfl, _, rfl, g, _, _, _, rfl, rfl, SqL.of (s1 _ _ hgH), at_of (j := 1) rfl rfl, rfl, _, rfl, ?_⟩
        have ev : (decide (V.int (x.2 : Int) = V.int (q : Int))) = (x.2 == q) := by
          rw [dec_int, Bool.eq_iff_iff]
          simp
          try omega
        show if (decide (V.int (x.2 : Int) = V.int (q : Int))) = true then _ else _
        rw [ev]
        have et : ((h.q i).pairs.take (j + 1)).filter (fun x => x.2 == q) = ((h.q i).pairs.take j).filter (fun x => x.2 == q) ++ (if (x.2 == q) = true then [x] else []) := by
          rw [take_one hx, List.filter_append, List.filter_cons, List.filter_nil]
        refine ite2 (fun c1 => ?_) (fun c1 => ?_)
        · have hlen : (rs'.map V.ref).length < sizeLine := by
            refine line_small ?_
            have l1 := p1.length
            have l2 := List.length_filter_le (fun x : Pair => x.2 == q) ((h.q i).pairs.take j)
            rw [List.length_take] at l2
            have l3 := qok.len
            rw [List.length_map]
            omega
          refine ⟨_, rfl, _, hL1, hlen, ?_, rs' ++ [r], ?_, ?_⟩
          · intro b o e
            rw [upd_ne (ne_of_none e hL)]
            exact s1 b o e
          · rw [upd_same, List.map_append]
            rfl
          · rw [et, if_pos c1]
            have kt : KeepT H1 (upd H1 L (.lst (rs'.map V.ref ++ [V.ref r]))) := KeepT.upd hL1 rfl
            exact Paired.snoc (tups_keep kt p1) (kt _ _ hxH)
        · rw [et, if_neg c1, List.append_nil]
          exact ⟨s1, rs', hL1, p1⟩
      · rintro H1 ⟨s1, rs', hL1, p1⟩
        rw [List.length_map, hr2.length, List.take_length] at p1
        have P1 := PA.frz s1
        have S1 : Stp G H own (Fz G H H1) H1 own := Stp.of_frz PA.sub s1
        refine ⟨p, L, Fz G H H1, own, h, i, (h.q i).pairs.filter (fun x => x.2 == q), rfl, P1, ok, hi, ⟨rs', Fz_new _ _ (Nw_at hL hL1), pr_mono (fun r x e => Fz_new _ _ (Nw_tup e)) p1⟩, fun c1 r' hr' => ?_, fun c1 H' own' r' P' S' A' I' => ?_⟩
        · have e : Kri5.act (some h) (.way i q) = (some h, Kri5.say (-33)) := by
            rw [act_way hi, if_neg c]
            unfold narrowed
            rw [if_pos c1]
          exact kk G _ own h _ r' e (PA.same (s1.trans (same_new hr'))) (Stp.of_same (s1.trans (same_new hr'))) (fun b o e _ => ne_of_none (s1 b o e) hr') upd_same
        · have e : Kri5.act (some h) (.way i q) = (some (h.set i ((h.q i).pairs.filter (fun x => x.2 == q))), Kri5.say ((h.q i).pairs.filter (fun x => x.2 == q)).length) := by
            rw [act_way hi, if_neg c]
            unfold narrowed
            rw [if_neg c1]
          exact kk (Fz G H H1) H' own' _ _ r' e P' (S1.trans S') (fun b o e hb => A' b o (s1 b o e) hb) I'
theorem scNot : FnScope ["plant", "given", "i", "pair"] ["plant", "given"] (defScope sNot) := ⟨rfl, rfl, rfl, by decide +kernel, rfl, by decide +kernel, by decide +kernel⟩
theorem ok_notat {f fN fH : Addr} {fd fdN fdH : FuncData} (D : Def K mg "notat" sNot ["plant", "given"] f fd) (T : PCls K mg C) (TD : Dirs K mg aD) (R : Refs mg) (DH : Def K mg "has_place" sHpl ["marks", "place"] fH fdH) (GH : FnOk P w K mg base CX0 2 fH fdH ["marks", "place"] spHpl) (DN : Def K mg "narrow" sNar ["plant", "i", "pairs"] fN fdN)
    (GN : FnOk P w K mg base CX0 3 fN fdN ["plant", "i", "pairs"] (spNar C)) : FnOk P w K mg base CX0 4 f fd ["plant", "given"] (spDo C 4) := by
  obtain ⟨t2, r2⟩ := R.right
  refine D.fn.ok scNot (fun vs H Q E h => ?_) (fun cdv A outer s H vs Q E hr h => ?_)
  · obtain ⟨p, g, G, own, h, k, rfl, _⟩ := h
    rfl
  · obtain ⟨p, g, G, own, h, k, rfl, PA, ok, hg, hk, hq, kk⟩ := h
    obtain ⟨i, q, rfl⟩ : ∃ i q, k = .notAt i q := by cases k <;> simp [num] at hk; exact ⟨_, _, rfl⟩
    have hi : i < h.qs.length := hq i rfl
    obtain ⟨rs, hg1, hg2⟩ := hg
    cases hg2
    have hgH : H g = some (.lst [.int (i : Int), .int (q : Int)]) := PA.sub _ _ hg1
    obtain ⟨dx, lm, lp, le, sn, _, nd, h1, ⟨h2, as, h3, h4⟩, h5, h6⟩ := PA.ex
    obtain ⟨ai, hai, hPi⟩ := pr_getR h4 (q_at hi)
    have hmark : (vi (h.qs.map (·.marks)))[i]? = some (.int ((h.q i).marks : Int)) := by
      unfold vi
      rw [List.getElem?_map, List.getElem?_map, q_at hi]
      rfl
    obtain ⟨rr, hr1, hr2⟩ := hPi
    have qok := ok.q hi
    refine ⟨_, pss_cons (ps_set (i := 2) scNot.nd rfl (Or.inl rfl) (pe_ix ix_list (pv 1) pe_int (fun _ _ => rfl)))
      (pss_cons (ps_if (pt_not (pt_val (pe_call GH (hr.mono (by decide)) rfl DH.at_ DH.fn.kp DH.bd .nil pass0 (pa_cons (pe_ix ix_list (pe_fld (pv 0) rfl) (pv 2) (fun _ _ => rfl)) (pa_cons (pe_ix ix_list (pv 1) pe_int (fun _ _ => rfl)) pa_nil))))) (pss_one (ps_ret (pe_lst (pa_cons (pe_glob (v := .int (-22)) rfl r2 ⟨_, rfl⟩) pa_nil)))) pss_nil)
      (pss_one (ps_ret (pe_call GN hr rfl DN.at_ DN.fn.kp DN.bd .nil pass0 (pa_cons (pv 0) (pa_cons (pv 2) (pa_cons
        (pe_lc (own := [("pair", 3)]) rfl scNot.nd (pi_list (pe_ix ix_list (pe_fld (pv 0) rfl) (pv 2) (fun _ _ => rfl))) (blkOk_by (by show blkC ["plant", "given", "i", "pair"] (defScope sNot) _ _ = true; decide +kernel))
          (fun _ _ _ _ _ => pg_name (i := 3) scNot.nd rfl (Or.inl rfl))
          (fun _ _ _ _ _ => pts_one (pt_cmpR op_ne (pe_ix (ixt K rfl) (pv 3) pe_int (fun _ _ => rfl)) (pe_ix (ixl K rfl) (pv 1) pe_int (fun _ _ => rfl)) (nomark _)))
          (fun _ _ _ _ _ => pv 3)) pa_nil))))))), ?_⟩
    refine ⟨_, rfl, g, _, _, _, rfl, rfl, SqL.of hgH, at_of (j := 0) rfl rfl, ?_⟩
    refine ⟨_, rfl, p, C, dx, _, _, rfl, h1, T.cl, T.nMa, pf_marks _ _ _ _, _, rfl, lm, _, _, _, rfl, rfl, SqL.of h2, atI_nat hmark, _, rfl, g, _, _, _, rfl, rfl, SqL.of hgH, at_of (j := 1) rfl rfl, (h.q i).marks, (q : Int), rfl, _, rfl, ite2 (fun c => ?_) (fun c => ?_)⟩
    · rw [Bool.not_eq_true', decide_eq_false_iff_not] at c
      exact one_list PA kk (by rw [act_notAt hi, if_pos (by omega)])
    · rw [Bool.not_eq_true', decide_eq_false_iff_not, Decidable.not_not] at c
      have c : ¬ 2 * (h.q i).marks < q := by omega
      refine ⟨_, rfl, _, rfl, _, rfl, p, C, dx, _, _, rfl, h1, T.cl, T.nPo, pf_possible _ _ _ _, _, rfl, lp, _, _, _, rfl, rfl, SqL.of h3, atI_nat (by rw [List.getElem?_map, hai]; rfl), ai, rfl, ⟨_, SqL.of (PA.sub _ _ hr1)⟩, fun L hL => ?_⟩
      refine lc_list (K := K) (a := ai) (xs := rr.map V.ref) (fun j H' => Same H H' ∧ ∃ rs' : List Addr, H' L = some (.lst (rs'.map V.ref)) ∧ Paired (TupAt H') rs' (((h.q i).pairs.take j).filter fun x => x.1 != q))
        ⟨same_new hL, [], upd_same, .nil⟩ (fun j H' _ ⟨s1, _⟩ => SqL.of (s1 _ _ (PA.sub _ _ hr1))) ?_ ?_
      · rintro j y H1 hy ⟨s1, rs', hL1, p1⟩
        obtain ⟨r, hr3, rfl⟩ := map_get hy
        obtain ⟨x, hx, hxr⟩ := pr_getL hr2 hr3
        have hxH : TupAt H1 r x := s1 _ _ (PA.sub _ _ hxr)
        refine ⟨rfl, ?_⟩
        refine ⟨_, rfl, r, _, _, _, rfl, rfl, tup0 hxH, at_of (j := 0) rfl rfl, _, rfl, g, _, _, _, rfl, rfl, SqL.of (s1 _ _ hgH), at_of (j := 1) rfl rfl, rfl, _, rfl, ?_⟩
        have ev : (!decide (V.int (x.1 : Int) = V.int (q : Int))) = (x.1 != q) := by
          rw [dec_int, Bool.eq_iff_iff]
          simp
          try omega
        show if (!decide (V.int (x.1 : Int) = V.int (q : Int))) = true then _ else _
        rw [ev]
        have et : ((h.q i).pairs.take (j + 1)).filter (fun x => x.1 != q) = ((h.q i).pairs.take j).filter (fun x => x.1 != q) ++ (if (x.1 != q) = true then [x] else []) := by
          rw [take_one hx, List.filter_append, List.filter_cons, List.filter_nil]
        refine ite2 (fun c1 => ?_) (fun c1 => ?_)
        · have hlen : (rs'.map V.ref).length < sizeLine := by
            refine line_small ?_
            have l1 := p1.length
            have l2 := List.length_filter_le (fun x : Pair => x.1 != q) ((h.q i).pairs.take j)
            rw [List.length_take] at l2
            have l3 := qok.len
            rw [List.length_map]
            omega
          refine ⟨_, rfl, _, hL1, hlen, ?_, rs' ++ [r], ?_, ?_⟩
          · intro b o e
            rw [upd_ne (ne_of_none e hL)]
            exact s1 b o e
          · rw [upd_same, List.map_append]
            rfl
          · rw [et, if_pos c1]
            have kt : KeepT H1 (upd H1 L (.lst (rs'.map V.ref ++ [V.ref r]))) := KeepT.upd hL1 rfl
            exact Paired.snoc (tups_keep kt p1) (kt _ _ hxH)
        · rw [et, if_neg c1, List.append_nil]
          exact ⟨s1, rs', hL1, p1⟩
      · rintro H1 ⟨s1, rs', hL1, p1⟩
        rw [List.length_map, hr2.length, List.take_length] at p1
        have P1 := PA.frz s1
        have S1 : Stp G H own (Fz G H H1) H1 own := Stp.of_frz PA.sub s1
        refine ⟨p, L, Fz G H H1, own, h, i, (h.q i).pairs.filter (fun x => x.1 != q), rfl, P1, ok, hi, ⟨rs', Fz_new _ _ (Nw_at hL hL1), pr_mono (fun r x e => Fz_new _ _ (Nw_tup e)) p1⟩, fun c1 r' hr' => ?_, fun c1 H' own' r' P' S' A' I' => ?_⟩
        · have e : Kri5.act (some h) (.notAt i q) = (some h, Kri5.say (-33)) := by
            rw [act_notAt hi, if_neg c]
            unfold narrowed
            rw [if_pos c1]
          exact kk G _ own h _ r' e (PA.same (s1.trans (same_new hr'))) (Stp.of_same (s1.trans (same_new hr'))) (fun b o e _ => ne_of_none (s1 b o e) hr') upd_same
        · have e : Kri5.act (some h) (.notAt i q) = (some (h.set i ((h.q i).pairs.filter (fun x => x.1 != q))), Kri5.say ((h.q i).pairs.filter (fun x => x.1 != q)).length) := by
            rw [act_notAt hi, if_neg c]
            unfold narrowed
            rw [if_neg c1]
          exact kk (Fz G H H1) H' own' _ _ r' e P' (S1.trans S') (fun b o e hb => A' b o (s1 b o e) hb) I'
end
end Bm

end
section
set_option Elab.async false
set_option linter.all false
set_option maxRecDepth 100000
set_option maxHeartbeats 2000000
namespace Bm
open PySem PySem.Spec PyProof.Rows L2
open Kri5 (Pair Quantity House pairsOf nextAll)
section
variable {P : Program} {w : World} {K : PySem.W.Frag} {mg : Str → Option Value} {base : Heap} {aD C : Addr}
theorem scTick : FnScope ["plant", "given"] ["plant", "given"] (defScope sTick) := ⟨rfl, rfl, rfl, by decide +kernel, rfl, by decide +kernel, by decide +kernel⟩
theorem ok_tick {f fM : Addr} {fd fdM : FuncData} (D : Def K mg "tick" sTick ["plant", "given"] f fd) (T : PCls K mg C) (R : Refs mg) (DM : MDef K C "pass_moment" "Plant.pass_moment" sPass ["self"] fM fdM)
    (GM : FnOk P w K mg base CX0 5 fM fdM ["self"] (spPass C)) : FnOk P w K mg base CX0 6 f fd ["plant", "given"] (spDo C 5) := by
  obtain ⟨t1, r1⟩ := R.moments
  obtain ⟨t2, r2⟩ := R.many
  refine D.fn.ok scTick (fun vs H Q E h => ?_) (fun cdv A outer s H vs Q E hr h => ?_)
  · obtain ⟨p, g, G, own, h, k, rfl, _⟩ := h
    rfl
  · obtain ⟨p, g, G, own, h, k, rfl, PA, ok, hg, hk, _, kk⟩ := h
    obtain rfl : k = .tick := by cases k <;> simp [num] at hk; rfl
    obtain ⟨dx, lm, lp, le, sn, _, nd, h1, _⟩ := PA.ex
    refine ⟨_, pss_cons (ps_if (pt_cmpR op_eq (pe_fld (pv 0) rfl) (pe_glob (v := .int 40) rfl r1 ⟨_, rfl⟩) (nomark _)) (pss_one (ps_ret (pe_lst (pa_cons (pe_glob (v := .int (-28)) rfl r2 ⟨_, rfl⟩) pa_nil)))) pss_nil)
      (pss_cons (ps_expr (pe_meth0 (pv 0) T.cl DM.me GM hr DM.bd .nil pass0))
      (pss_one (ps_ret (pe_lst (pa_cons (pe_fld (pv 0) rfl) pa_nil))))), ?_⟩
    refine ⟨_, rfl, p, C, dx, _, _, rfl, h1, T.cl, T.nMo, pf_moment _ _ _ _, rfl, _, rfl, ite2 (fun c => ?_) (fun c => ?_)⟩
    · have c := V.int.inj (of_decide_eq_true c)
      exact one_list PA kk (by rw [act_tick, if_pos (by omega)])
    · have c : ¬ 40 ≤ h.now := fun q => c (decide_eq_true (by have := ok.now; congr 1; omega))
      refine ⟨_, rfl, p, dx, _, rfl, h1, mName _ _ _ _ _ nPassM, p, G, own, h, rfl, PA, ok, fun G' H' own' P' S' => ?_⟩
      obtain ⟨dx', lm', lp', le', sn', _, nd', h1', _⟩ := P'.ex
      refine ⟨_, rfl, p, C, dx', _, _, rfl, h1', T.cl, T.nMo, pf_moment _ _ _ _, (by show 1 ≤ sizeLine; rw [sizeLine_eq]; decide), fun r hr' => ?_⟩
      have e : Kri5.act (some h) .tick = (some (h.changed (h.qs.map fun q => { q with pairs := nextAll q.marks q.pairs }) (h.now + 1)), Kri5.say (h.now + 1)) := by rw [act_tick, if_neg c]
      refine kk G' _ own' _ _ r e (P'.same (same_new hr')) (S'.trans (Stp.of_same (same_new hr'))) (S'.apart hr') ?_
      show (upd H' r _) r = _
      rw [upd_same]
      rfl
theorem scForget : FnScope ["plant", "given", "i", "pairs"] ["plant", "given"] (defScope sForget) := ⟨rfl, rfl, rfl, by decide +kernel, rfl, by decide +kernel, by decide +kernel⟩
theorem ok_forget {f fA fS : Addr} {fd fdA fdS : FuncData} (D : Def K mg "forget" sForget ["plant", "given"] f fd) (T : PCls K mg C) (TD : Dirs K mg aD) (DA : Def K mg "all_pairs" sAll ["marks"] fA fdA) (GA : FnOk P w K mg base CX0 2 fA fdA ["marks"] spAll)
    (DS : MDef K C "set_possible" "Plant.set_possible" sSetP ["self", "i", "pairs"] fS fdS) (GS : FnOk P w K mg base CX0 2 fS fdS ["self", "i", "pairs"] (spSetP C)) : FnOk P w K mg base CX0 3 f fd ["plant", "given"] (spDo C 6) := by
  refine D.fn.ok scForget (fun vs H Q E h => ?_) (fun cdv A outer s H vs Q E hr h => ?_)
  · obtain ⟨p, g, G, own, h, k, rfl, _⟩ := h
    rfl
  · obtain ⟨p, g, G, own, h, k, rfl, PA, ok, hg, hk, hq, kk⟩ := h
    obtain ⟨i, rfl⟩ : ∃ i, k = .forget i := by cases k <;> simp [num] at hk; exact ⟨_, rfl⟩
    have hi : i < h.qs.length := hq i rfl
    obtain ⟨rs, hg1, hg2⟩ := hg
    cases hg2
    have hgH : H g = some (.lst [.int (i : Int)]) := PA.sub _ _ hg1
    obtain ⟨dx, lm, lp, le, sn, _, nd, h1, ⟨h2, as, h3, h4⟩, h5, h6⟩ := PA.ex
    have hmark : (vi (h.qs.map (·.marks)))[i]? = some (.int ((h.q i).marks : Int)) := by
      unfold vi
      rw [List.getElem?_map, List.getElem?_map, q_at hi]
      rfl
    refine ⟨_, pss_cons (ps_set (i := 2) scForget.nd rfl (Or.inl rfl) (pe_ix ix_list (pv 1) pe_int (fun _ _ => rfl)))
      (pss_cons (ps_set (i := 3) scForget.nd rfl (Or.inl rfl) (pe_call GA hr rfl DA.at_ DA.fn.kp DA.bd .nil pass0 (pa_cons (pe_ix ix_list (pe_fld (pv 0) rfl) (pv 2) (fun _ _ => rfl)) pa_nil)))
      (pss_cons (ps_expr (pe_meth (pv 0) T.cl DS.me GS hr DS.bd .nil pass0 (pa_cons (pv 2) (pa_cons (pv 3) pa_nil))))
      (pss_one (ps_ret (pe_lst (pa_cons (pe_callB call_len_seq (by rfl) TD.len PySem.boot_len (pa_cons (pv 3) pa_nil)) pa_nil)))))), ?_⟩
    refine ⟨_, rfl, g, _, _, _, rfl, rfl, SqL.of hgH, at_of (j := 0) rfl rfl, ?_⟩
    refine ⟨_, rfl, p, C, dx, _, _, rfl, h1, T.cl, T.nMa, pf_marks _ _ _ _, _, rfl, lm, _, _, _, rfl, rfl, SqL.of h2, atI_nat hmark, (h.q i).marks, rfl, (ok.q hi).marks, fun H1 L s1 R1 => ?_⟩
    have P1 := PA.frz s1
    have S1 : Stp G H own (Fz G H H1) H1 own := Stp.of_frz PA.sub s1
    have R2 : PairsAt (Fz G H H1) L (pairsOf (h.q i).marks) := R1.mono Fz_new
    obtain ⟨rr, hr1, hr2⟩ := id R2
    refine ⟨_, rfl, p, dx, _, rfl, s1 _ _ h1, mName _ _ _ _ _ nSet, _, rfl, _, rfl, p, Fz G H H1, own, h, i, L, _, rfl, P1, ok, hi, R2, fun H' own' P' S' => ?_⟩
    refine ⟨_, rfl, L, _, rfl, .inl (SqL.of (P'.sub _ _ hr1)), (by show 1 ≤ sizeLine; rw [sizeLine_eq]; decide), fun r hr' => ?_⟩
    refine kk (Fz G H H1) _ own' _ _ r (act_forget hi) (P'.same (same_new hr')) ((S1.trans S').trans (Stp.of_same (same_new hr'))) ((S1.trans S').apart hr') ?_
    show (upd H' r _) r = _
    rw [upd_same, List.length_map, hr2.length]
    rfl
theorem scBack : FnScope ["plant", "given"] ["plant", "given"] (defScope sBack) := ⟨rfl, rfl, rfl, by decide +kernel, rfl, by decide +kernel, by decide +kernel⟩
theorem ok_back {f fB : Addr} {fd fdB : FuncData} (D : Def K mg "back" sBack ["plant", "given"] f fd) (T : PCls K mg C) (TD : Dirs K mg aD) (R : Refs mg) (DB : MDef K C "take_back" "Plant.take_back" sBackM ["self"] fB fdB)
    (GB : FnOk P w K mg base CX0 1 fB fdB ["self"] (spBackM C)) : FnOk P w K mg base CX0 2 f fd ["plant", "given"] (spDo C 7) := by
  obtain ⟨t1, r1⟩ := R.none_
  refine D.fn.ok scBack (fun vs H Q E h => ?_) (fun cdv A outer s H vs Q E hr h => ?_)
  · obtain ⟨p, g, G, own, h, k, rfl, _⟩ := h
    rfl
  · obtain ⟨p, g, G, own, h, k, rfl, PA, ok, hg, hk, _, kk⟩ := h
    obtain rfl : k = .back := by cases k <;> simp [num] at hk; rfl
    obtain ⟨dx, lm, lp, le, sn, _, nd, h1, _, h5, h6⟩ := PA.ex
    refine ⟨_, pss_cons (ps_if (pt_not (pt_truth (pe_fld (pv 0) rfl) (fun _ => rfl))) (pss_one (ps_ret (pe_lst (pa_cons (pe_glob (v := .int (-6)) rfl r1 ⟨_, rfl⟩) pa_nil)))) pss_nil)
      (pss_cons (ps_expr (pe_meth0 (pv 0) T.cl DB.me GB hr DB.bd .nil pass0))
      (pss_one (ps_ret (pe_lst (pa_cons (pe_callB call_len_seq (by rfl) TD.len PySem.boot_len (pa_cons (pe_fld (pv 0) rfl) pa_nil)) pa_nil))))), ?_⟩
    refine ⟨_, rfl, p, C, dx, _, _, rfl, h1, T.cl, T.nEa, pf_earlier _ _ _ _, _, .inl ⟨_, SqL.of h5, rfl⟩, ?_⟩
    have hl := h6.length
    rw [List.length_reverse] at hl
    cases hp : h.past with
    | nil =>
      rw [hp] at hl
      have : sn = [] := List.length_eq_zero_iff.mp hl
      subst this
      exact one_list PA kk (by rw [act_back, hp])
    | cons x rest =>
      rw [hp] at hl
      cases sn with
      | nil => cases hl
      | cons s0 sn =>
        refine ⟨_, rfl, p, dx, _, rfl, h1, mName _ _ _ _ _ nTakeB, p, G, own, h, x, rest, rfl, PA, hp, fun H' own' P' S' => ?_⟩
        obtain ⟨dx', lm', lp', le', sn', _, nd', h1', _, h5', h6'⟩ := P'.ex
        refine ⟨_, rfl, p, C, dx', _, _, rfl, h1', T.cl, T.nEa, pf_earlier _ _ _ _, le', _, rfl, .inl (SqL.of h5'), (by show 1 ≤ sizeLine; rw [sizeLine_eq]; decide), fun r hr' => ?_⟩
        have e : Kri5.act (some h) .back = (some ⟨x.1, x.2, rest⟩, Kri5.say rest.length) := by rw [act_back, hp]
        refine kk G _ own' _ _ r e (P'.same (same_new hr')) (S'.trans (Stp.of_same (same_new hr'))) (S'.apart hr') ?_
        have hl' := h6'.length
        rw [List.length_reverse] at hl'
        show (upd H' r _) r = _
        rw [upd_same, List.length_map, hl']
        rfl
end
end Bm

end
section
set_option Elab.async false
set_option linter.all false
set_option maxRecDepth 100000
set_option maxHeartbeats 2000000
namespace Bm
open PySem PySem.Spec PyProof.Rows L2

/-! ### what the top has written, looked at -/
def valIs : V → Value → Bool
  | .int i, .int j _ => decide (i = j)
  | .str x, .str y _ => decide (x = y)
  | _, _ => false
theorem valIs_ok : ∀ {v : V} {u : Value}, valIs v u = true → RelV v u := fun {v u} h => by
  unfold valIs at h
  split at h
  · have := of_decide_eq_true h
    subst this
    exact ⟨_, rfl⟩
  · have := of_decide_eq_true h
    subst this
    exact ⟨_, rfl⟩
  · cases h
def valsAre : List V → List Value → Bool
  | [], [] => true
  | v :: vs, u :: us => valIs v u && valsAre vs us
  | _, _ => false
theorem valsAre_ok : ∀ {vs : List V} {us : List Value}, valsAre vs us = true → Vals vs us
  | [], [], _ => .nil
  | v :: vs, u :: us, h => by
    unfold valsAre at h
    rw [Bool.and_eq_true] at h
    exact .cons (valIs_ok h.1) (valsAre_ok h.2)
  | [], _ :: _, h => by cases h
  | _ :: _, [], h => by cases h
def isTupK (K : PySem.W.Frag) (a : Addr) (xs : List V) : Bool := match K.lookup a with
  | some ⟨.type "tuple", _, .seq its _, _⟩ => decide (its.size ≤ 1000) && valsAre xs its.toList
  | _ => false
theorem isTupK_ok {K : PySem.W.Frag} {a : Addr} {xs : List V} (h : isTupK K a xs = true) : ∀ H, SqT K H a xs := fun H => by
  unfold isTupK at h
  split at h
  · rename_i e
    rw [Bool.and_eq_true] at h
    exact .inr ⟨_, _, _, e, rfl, rfl, Nat.le_trans (of_decide_eq_true h.1) (by rw [sizeLine_eq]; decide), valsAre_ok h.2⟩
  · cases h
def rowsK (K : PySem.W.Frag) : List Value → List (List V) → Bool
  | [], [] => true
  | .ref a :: us, r :: rs => isTupK K a r && rowsK K us rs
  | _, _ => false
theorem rowsK_ok {K : PySem.W.Frag} : ∀ {us : List Value} {rs : List (List V)}, rowsK K us rs = true → ∃ as : List Addr, Vals (as.map V.ref) us ∧ Paired (fun a r => ∀ H, SqT K H a r) as rs
  | [], [], _ => ⟨[], .nil, .nil⟩
  | u :: us, r :: rs, h => by
    cases u with
    | ref a =>
      have h : (isTupK K a r && rowsK K us rs) = true := h
      rw [Bool.and_eq_true] at h
      obtain ⟨as, h1, h2⟩ := rowsK_ok h.2
      exact ⟨a :: as, .cons rfl h1, .cons (isTupK_ok h.1) h2⟩
    | _ => cases h
  | [], _ :: _, h => by cases h
  | u :: _, [], h => by cases u <;> cases h
def isTabK (K : PySem.W.Frag) (a : Addr) (rows : List (List V)) : Bool := match K.lookup a with
  | some ⟨.type "tuple", _, .seq its _, _⟩ => decide (its.size ≤ 1000) && rowsK K its.toList rows
  | _ => false
theorem isTabK_ok {K : PySem.W.Frag} {a : Addr} {rows : List (List V)} (h : isTabK K a rows = true) : ∃ as : List Addr, (∀ H, SqT K H a (as.map V.ref)) ∧ Paired (fun a r => ∀ H, SqT K H a r) as rows := by
  unfold isTabK at h
  split at h
  · rename_i e
    rw [Bool.and_eq_true] at h
    obtain ⟨as, h1, h2⟩ := rowsK_ok h.2
    exact ⟨as, fun H => .inr ⟨_, _, _, e, rfl, rfl, Nat.le_trans (of_decide_eq_true h.1) (by rw [sizeLine_eq]; decide), h1⟩, h2⟩
  · cases h
/-- a dict of the top: its keys, and the names of the defs that stand there -/
def entK (K : PySem.W.Frag) : List DictEntry → List (Str × Str) → Bool
  | [], [] => true
  | ⟨_, .str x _, .ref f⟩ :: es, (y, n) :: r => decide (x = y) && (match PySem.W.nsIn K mainGlobals n with | some (some (.ref g)) => decide (g = f) | _ => false) && entK K es r
  | _, _ => false
def isDictK (K : PySem.W.Frag) (a : Addr) (D : List (Str × Str)) : Bool := !(a == sysModules) && match K.lookup a with
  | some ⟨.type "dict", none, .dict es _, sl⟩ => sl.isEmpty && entK K es.toList D
  | _ => false
theorem entK_ok {K : PySem.W.Frag} {h : Heap} {mg : Str → Option Value} (X : K.In h) (G : h.Ns mainGlobals mg) : ∀ {es : List DictEntry} {D : List (Str × Str)}, entK K es D = true → ∃ D' : List (Str × Addr), KTD.Rows (fun f v => v = Value.ref f) es D' ∧ Paired (fun (x : Str × Addr) (y : Str × Str) => x.1 = y.1 ∧ mg y.2 = some (.ref x.2)) D' D
  | [], [], _ => ⟨[], .nil, .nil⟩
  | e :: es, (y, n) :: r, h => by
    unfold entK at h
    split at h
    · rename_i q
      cases q
    · rename_i x t f es' y' n' r' q1 q2
      cases q1
      cases q2
      rw [Bool.and_eq_true, Bool.and_eq_true] at h
      obtain ⟨⟨h1, h2⟩, h3⟩ := h
      have hx := of_decide_eq_true h1
      subst hx
      obtain ⟨D', p1, p2⟩ := entK_ok X G h3
      split at h2
      · rename_i g hg
        have := of_decide_eq_true h2
        subst this
        exact ⟨(x, g) :: D', .cons rfl rfl p1, .cons ⟨rfl, PySem.W.mg_of X G hg⟩ p2⟩
      · cases h2
    · cases h
  | [], _ :: _, h => by cases h
  | _ :: _, [], h => by
    unfold entK at h
    split at h <;> simp_all
theorem isDictK_ok {K : PySem.W.Frag} {h : Heap} {mg : Str → Option Value} (X : K.In h) (G : h.Ns mainGlobals mg) {a : Addr} {D : List (Str × Str)} (e : isDictK K a D = true) : ∃ D' : List (Str × Addr), KTab K a D' ∧ Paired (fun (x : Str × Addr) (y : Str × Str) => x.1 = y.1 ∧ mg y.2 = some (.ref x.2)) D' D := by
  unfold isDictK at e
  rw [Bool.and_eq_true] at e
  obtain ⟨e1, e2⟩ := e
  split at e2
  · rename_i sl es n q
    rw [Bool.and_eq_true] at e2
    obtain ⟨D', p1, p2⟩ := entK_ok X G e2.2
    exact ⟨D', ⟨by simpa using e1, _, _, _, q, ⟨rfl, rfl, by simpa using e2.1⟩, rfl, p1⟩, p2⟩
  · cases e2
theorem tabk_mk {K : PySem.W.Frag} {h : Heap} {mg : Str → Option Value} {x : Str} {a : Addr} {rows : List (List V)} (X : K.In h) (G : h.Ns mainGlobals mg) (y : PySem.W.nsIn K mainGlobals x = some (some (.ref a))) (z : isTabK K a rows = true) : ∃ a, mg x = some (.ref a) ∧ isTabK K a rows = true := ⟨a, PySem.W.mg_of X G y, z⟩
theorem tupk_mk {K : PySem.W.Frag} {h : Heap} {mg : Str → Option Value} {x : Str} {a : Addr} {xs : List V} (X : K.In h) (G : h.Ns mainGlobals mg) (y : PySem.W.nsIn K mainGlobals x = some (some (.ref a))) (z : isTupK K a xs = true) : ∃ a, mg x = some (.ref a) ∧ isTupK K a xs = true := ⟨a, PySem.W.mg_of X G y, z⟩
theorem dictk_mk {K : PySem.W.Frag} {h : Heap} {mg : Str → Option Value} {x : Str} {a : Addr} {D : List (Str × Str)} (X : K.In h) (G : h.Ns mainGlobals mg) (y : PySem.W.nsIn K mainGlobals x = some (some (.ref a))) (z : isDictK K a D = true) : ∃ a, mg x = some (.ref a) ∧ isDictK K a D = true := ⟨a, PySem.W.mg_of X G y, z⟩
theorem intk_mk {K : PySem.W.Frag} {h : Heap} {mg : Str → Option Value} {x : Str} {i : Int} {t : Tok} (X : K.In h) (G : h.Ns mainGlobals mg) (y : PySem.W.nsIn K mainGlobals x = some (some (.int i t))) : ∃ t, mg x = some (.int i t) := ⟨t, PySem.W.mg_of X G y⟩
/-- a def of the top -/
theorem def_mk {K : PySem.W.Frag} {h : Heap} {mg : Str → Option Value} {x : Str} {st : Stmt} {ps : List Str} {f : Addr} {oc : Value} {od an : Option Addr} {osl : Array (Option Value)} {kV doc pm cdv ct : Value} (X : K.In h) (G : h.Ns mainGlobals mg)
    (a : PySem.W.nsIn K mainGlobals x = some (some (.ref f))) (l : K.lookup f = some ⟨oc, od, .func (PySem.W.fnOf x x (defArgs st) (defBody st) (defScope st) .none kV doc pm an cdv ct), osl⟩) (c : PySem.W.codeIn K cdv x = true) (k : PySem.W.keepIn K (.ref f) = true)
    (b : ∀ (kV doc pm : Value) (an : Option Addr) (cdv ct : Value) (us : List Value), us.length = ps.length → bindArgs (PySem.W.fnOf x x (defArgs st) (defBody st) (defScope st) .none kV doc pm an cdv ct) ⟨us, []⟩ = pure (ps.zip us)) :
    ∃ f fd, Def K mg x st ps f fd := ⟨f, _, fun_mk l c k, PySem.W.mg_of X G a, (fun_mk l c k).binds b⟩
/-- a method -/
theorem mdef_mk {K : PySem.W.Frag} {C : Addr} {x qual : Str} {st : Stmt} {ps : List Str} {f : Addr} {oc : Value} {od an : Option Addr} {osl : Array (Option Value)} {kV doc pm cdv ct : Value}
    (a : PySem.W.findIn K (.ref C) x = some (some (.ref f))) (i : PySem.W.isFn K (.ref f) = true) (l : K.lookup f = some ⟨oc, od, .func (PySem.W.fnOf x qual (defArgs st) (defBody st) (defScope st) .none kV doc pm an cdv ct), osl⟩) (c : PySem.W.codeIn K cdv qual = true) (k : PySem.W.keepIn K (.ref f) = true)
    (b : ∀ (kV doc pm : Value) (an : Option Addr) (cdv ct : Value) (us : List Value), us.length = ps.length → bindArgs (PySem.W.fnOf x qual (defArgs st) (defBody st) (defScope st) .none kV doc pm an cdv ct) ⟨us, []⟩ = pure (ps.zip us)) :
    ∃ f fd, MDef K C x qual st ps f fd := ⟨f, _, fun_mk l c k, ⟨a, i, k⟩, (fun_mk l c k).binds b⟩
end Bm

end
section
set_option Elab.async false
set_option linter.all false
set_option maxRecDepth 100000
set_option maxHeartbeats 2000000
namespace Bm
open PySem PySem.Spec PyProof.Rows L2
open Kri5 (Pair Quantity House pairsOf nextAll)

abbrev sNamesQ : Stmt := top 3
abbrev sIsCh : Stmt := top 37
abbrev sMakeCh : Stmt := top 38
abbrev sAnsQ : Stmt := top 72
abbrev sAnsCall : Stmt := top 74
abbrev sAns : Stmt := top 75
/-- what a table of the top's says of the calls: S tells which -/
structure Tbl (P : Program) (w : World) (K : PySem.W.Frag) (mg : Str → Option Value) (base : Heap) (C : Addr) (x : Str) (aT : Addr) (S : Nat → Bool) : Prop where
  at_ : mg x = some (.ref aT)
  ex : ∃ D, KTab K aT D ∧ (∀ k : Kri5.Call, S (num k) = true → ∃ f m fd, KTD.datumAt (nm k) D = some f ∧ FnOk P w K mg base CX0 m f fd ["plant", "given"] (spDo C (num k)) ∧ m ≤ 10 ∧ PySem.W.keepIn K (.ref f) = true ∧ Binds K fd ["plant", "given"] []) ∧
    ∀ k : Kri5.Call, S (num k) = false → KTD.datumAt (nm k) D = none
def spNamesQ : Sp := fun vs H Q _ => ∃ (g : Addr) (k : Kri5.Call), vs = [.str (nm k), .ref g] ∧ GivenAt H g k ∧ Q (.bl (quant k).isSome) H
def spIsCh (S : Nat → Bool) : Sp := fun vs H Q _ => ∃ k : Kri5.Call, vs = [.str (nm k)] ∧ Q (.bl (S (num k))) H
/-- the call k, on a quantity that there is, whatever its def -/
def spDoN (C : Addr) (S : Nat → Bool) : Sp := fun vs H Q _ => ∃ (p g : Addr) (G : Hp) (own : List Addr) (h : House) (k : Kri5.Call), vs = [.ref p, .str (nm k), .ref g] ∧ PlantAt C G H p own h ∧ HouseOk h ∧ GivenAt G g k ∧ S (num k) = true ∧ (∀ i, quant k = some i → i < h.qs.length) ∧
  ∀ (G' H' : Hp) (own' : List Addr) (h' : House) (a : Kri5.Ans) (r : Addr), Kri5.act (some h) k = (some h', a) → PlantAt C G' H' p own' h' → Stp G H own G' H' own' → Apart H own r → IntsAt H' r (Kri5Neutral.told a) → Q (.ref r) H'
def spAnsCall (C : Addr) : Sp := fun vs H Q _ => ∃ (p g : Addr) (G : Hp) (own : List Addr) (h : House) (k : Kri5.Call), vs = [.ref p, .str (nm k), .ref g] ∧ PlantAt C G H p own h ∧ HouseOk h ∧ GivenAt G g k ∧ num k ≠ 0 ∧
  ∀ (G' H' : Hp) (own' : List Addr) (h' : House) (a : Kri5.Ans) (r : Addr), Kri5.act (some h) k = (some h', a) → PlantAt C G' H' p own' h' → Stp G H own G' H' own' → Apart H own r → IntsAt H' r (Kri5Neutral.told a) → Q (.ref r) H'
theorem num_lt (k : Kri5.Call) : num k < 22 := by cases k <;> simp [num]
theorem tab_names : (tab.map (·.1)).Nodup := by decide +kernel
/-- a name tells its number -/
theorem nm_num {k k' : Kri5.Call} (h : nm k = nm k') : num k = num k' := by
  have e1 : (tab.map (·.1))[num k]? = some (nm k) := by rw [List.getElem?_map, tab_of k]; rfl
  have e2 : (tab.map (·.1))[num k']? = some (nm k') := by rw [List.getElem?_map, tab_of k']; rfl
  rw [← h] at e2
  exact nd_ix tab_names e1 e2
theorem nm_is (k : Kri5.Call) (k0 : Kri5.Call) : (nm k = nm k0) ↔ num k = num k0 := ⟨nm_num, fun e => by
  have e1 := tab_of k
  have e2 := tab_of k0
  rw [e] at e1
  rw [e1] at e2
  exact congrArg (·.1) (Option.some.inj e2)⟩
section
variable {P : Program} {w : World} {K : PySem.W.Frag} {mg : Str → Option Value} {base : Heap} {aD C : Addr}
theorem scNamesQ : FnScope ["name", "given"] ["name", "given"] (defScope sNamesQ) := ⟨rfl, rfl, rfl, by decide +kernel, rfl, by decide +kernel, by decide +kernel⟩
theorem quant_is (k : Kri5.Call) {rs : List Addr} (h : rs.length = (rws k).length) : ((!decide (num k = 1)) && decide (0 < (vi (args k) ++ rs.map V.ref).length)) = (quant k).isSome := by
  rw [List.length_append, vi_len, List.length_map, h]
  cases k <;> simp [num, args, rws, quant]
theorem ok_namesQ {f : Addr} {fd : FuncData} (D : Def K mg "names_quantity" sNamesQ ["name", "given"] f fd) (TD : Dirs K mg aD) : FnOk P w K mg base CX0 1 f fd ["name", "given"] spNamesQ := by
  refine D.fn.ok scNamesQ (fun vs H Q E h => ?_) (fun cdv A outer s H vs Q E hr h => ?_)
  · obtain ⟨g, k, rfl, _⟩ := h
    rfl
  · obtain ⟨g, k, rfl, ⟨rs, hg1, hg2⟩, kk⟩ := h
    refine ⟨_, pss_one (ps_ret (pe_and (pe_cmpR op_ne (pv 0) pe_str (nomark _)) (pe_one (pe_cmpR op_gt (pe_callB call_len_seq (by rfl) TD.len PySem.boot_len (pa_cons (pv 1) pa_nil)) pe_int (nomark _))))), ?_⟩
    have e0 : (!decide (V.str (nm k) = V.str "quantity")) = !decide (num k = 1) := by
      have := nm_is k (.quantity 0)
      rw [Bool.eq_iff_iff]
      simp only [Bool.not_eq_true', decide_eq_false_iff_not, V.str.injEq]
      exact not_congr this
    have e1 := quant_is k hg2.length
    refine ⟨_, rfl, rfl, _, rfl, ?_⟩
    show if (!decide (V.str (nm k) = V.str "quantity")) = true then _ else _
    rw [e0]
    refine ite2 (fun c => ?_) (fun c => ?_)
    · rw [c, Bool.true_and] at e1
      refine ⟨_, rfl, g, _, rfl, .inl (SqL.of hg1), _, _, rfl, rfl, ?_⟩
      rw [← e1] at kk
      have e2 : decide (0 < (vi (args k) ++ rs.map V.ref).length) = decide ((0 : Int) < (((vi (args k) ++ rs.map V.ref).length : Nat) : Int)) := by rw [Bool.eq_iff_iff, decide_eq_true_eq, decide_eq_true_eq]; omega
      rw [e2] at kk
      exact kk
    · rw [Bool.eq_false_iff.mpr c, Bool.false_and] at e1
      rw [← e1] at kk
      exact kk
theorem scIsCh : FnScope ["name"] ["name"] (defScope sIsCh) := ⟨rfl, rfl, rfl, by decide +kernel, rfl, by decide +kernel, by decide +kernel⟩
theorem ok_isCh {f aT : Addr} {fd : FuncData} {S : Nat → Bool} (D : Def K mg "is_change" sIsCh ["name"] f fd) (T : Tbl P w K mg base C "CHANGES" aT S) : FnOk P w K mg base CX0 1 f fd ["name"] (spIsCh S) := by
  obtain ⟨DD, hT, h1, h2⟩ := T.ex
  refine D.fn.ok scIsCh (fun vs H Q E h => ?_) (fun cdv A outer s H vs Q E hr h => ?_)
  · obtain ⟨k, rfl, _⟩ := h
    rfl
  · obtain ⟨k, rfl, kk⟩ := h
    refine ⟨_, pss_one (ps_ret (pe_cmp (pc_kin (pv 0) (pe_glob (v := .ref aT) rfl T.at_ rfl)) (by with_unfolding_all rfl))), ?_⟩
    refine ⟨_, rfl, aT, DD, _, rfl, rfl, hT, ?_⟩
    have e : (KTD.datumAt (nm k) DD).isSome = S (num k) := by
      cases q : S (num k) with
      | true =>
        obtain ⟨f, _, _, e, _⟩ := h1 k q
        rw [e]
        rfl
      | false =>
        rw [h2 k q]
        rfl
    rw [e]
    exact kk
theorem scMakeCh : FnScope ["plant", "name", "given", "change"] ["plant", "name", "given"] (defScope sMakeCh) := ⟨rfl, rfl, rfl, by decide +kernel, rfl, by decide +kernel, by decide +kernel⟩
theorem ok_makeCh {f aT : Addr} {fd : FuncData} {S : Nat → Bool} (D : Def K mg "make_change" sMakeCh ["plant", "name", "given"] f fd) (T : Tbl P w K mg base C "CHANGES" aT S) : FnOk P w K mg base CX0 11 f fd ["plant", "name", "given"] (spDoN C S) := by
  obtain ⟨DD, hT, h1, h2⟩ := T.ex
  refine D.fn.ok scMakeCh (fun vs H Q E h => ?_) (fun cdv A outer s H vs Q E hr h => ?_)
  · obtain ⟨p, g, G, own, h, k, rfl, _⟩ := h
    rfl
  · obtain ⟨p, g, G, own, h, k, rfl, PA, ok, hg, hS, hq, kk⟩ := h
    obtain ⟨f', m, fd', e1, e2, e3, e4, e5⟩ := h1 k hS
    refine ⟨_, pss_cons (ps_set (i := 3) scMakeCh.nd rfl (Or.inl rfl) (pe_kget (pe_glob (v := .ref aT) rfl T.at_ rfl) (pv 1) (fun _ _ => rfl)))
      (pss_one (ps_ret (pe_callV (i := 3) rfl (Or.inl rfl) (pa_cons (pv 0) (pa_cons (pv 2) pa_nil))))), ?_⟩
    refine ⟨_, rfl, aT, DD, _, f', rfl, rfl, hT, e1, ?_⟩
    exact ⟨f', m, fd', _, _, rfl, e2, hr.mono e3, e4, e5, _, rfl, _, rfl, p, g, G, own, h, k, rfl, PA, ok, hg, rfl, hq, kk⟩
theorem scAnsQ : FnScope ["plant", "name", "given", "question"] ["plant", "name", "given"] (defScope sAnsQ) := ⟨rfl, rfl, rfl, by decide +kernel, rfl, by decide +kernel, by decide +kernel⟩
theorem ok_ansQ {f aT : Addr} {fd : FuncData} {S : Nat → Bool} (D : Def K mg "answer_question" sAnsQ ["plant", "name", "given"] f fd) (T : Tbl P w K mg base C "QUESTIONS" aT S) : FnOk P w K mg base CX0 11 f fd ["plant", "name", "given"] (spDoN C S) := by
  obtain ⟨DD, hT, h1, h2⟩ := T.ex
  refine D.fn.ok scAnsQ (fun vs H Q E h => ?_) (fun cdv A outer s H vs Q E hr h => ?_)
  · obtain ⟨p, g, G, own, h, k, rfl, _⟩ := h
    rfl
  · obtain ⟨p, g, G, own, h, k, rfl, PA, ok, hg, hS, hq, kk⟩ := h
    obtain ⟨f', m, fd', e1, e2, e3, e4, e5⟩ := h1 k hS
    refine ⟨_, pss_cons (ps_set (i := 3) scAnsQ.nd rfl (Or.inl rfl) (pe_kget (pe_glob (v := .ref aT) rfl T.at_ rfl) (pv 1) (fun _ _ => rfl)))
      (pss_one (ps_ret (pe_callV (i := 3) rfl (Or.inl rfl) (pa_cons (pv 0) (pa_cons (pv 2) pa_nil))))), ?_⟩
    refine ⟨_, rfl, aT, DD, _, f', rfl, rfl, hT, e1, ?_⟩
    exact ⟨f', m, fd', _, _, rfl, e2, hr.mono e3, e4, e5, _, rfl, _, rfl, p, g, G, own, h, k, rfl, PA, ok, hg, rfl, hq, kk⟩
theorem nHas : ¬ (("has_quantity" : Str) = "moment") ∧ ¬ (("has_quantity" : Str) = "marks") ∧ ¬ (("has_quantity" : Str) = "possible") ∧ ¬ (("has_quantity" : Str) = "earlier") := by decide +kernel
theorem scAnsCall : FnScope ["plant", "name", "given"] ["plant", "name", "given"] (defScope sAnsCall) := ⟨rfl, rfl, rfl, by decide +kernel, rfl, by decide +kernel, by decide +kernel⟩
theorem quant_first {k : Kri5.Call} {i : Nat} (h : quant k = some i) : ∃ r, args k = i :: r := by cases k <;> simp [quant] at h <;> subst h <;> exact ⟨_, rfl⟩
theorem ok_ansCall {f fN fH fI fM fQ : Addr} {fd fdN fdH fdI fdM fdQ : FuncData} {S S2 : Nat → Bool} (D : Def K mg "answer_call" sAnsCall ["plant", "name", "given"] f fd) (T : PCls K mg C) (R : Refs mg) (hSS : ∀ n, n < 22 → n ≠ 0 → S n = false → S2 n = true)
    (DN : Def K mg "names_quantity" sNamesQ ["name", "given"] fN fdN) (GN : FnOk P w K mg base CX0 1 fN fdN ["name", "given"] spNamesQ) (DH : MDef K C "has_quantity" "Plant.has_quantity" sHas ["self", "i"] fH fdH) (GH : FnOk P w K mg base CX0 1 fH fdH ["self", "i"] (spHas C))
    (DI : Def K mg "is_change" sIsCh ["name"] fI fdI) (GI : FnOk P w K mg base CX0 1 fI fdI ["name"] (spIsCh S)) (DM : Def K mg "make_change" sMakeCh ["plant", "name", "given"] fM fdM) (GM : FnOk P w K mg base CX0 11 fM fdM ["plant", "name", "given"] (spDoN C S))
    (DQ : Def K mg "answer_question" sAnsQ ["plant", "name", "given"] fQ fdQ) (GQ : FnOk P w K mg base CX0 11 fQ fdQ ["plant", "name", "given"] (spDoN C S2)) : FnOk P w K mg base CX0 12 f fd ["plant", "name", "given"] (spAnsCall C) := by
  obtain ⟨t1, r1⟩ := R.noQ
  refine D.fn.ok scAnsCall (fun vs H Q E h => ?_) (fun cdv A outer s H vs Q E hr h => ?_)
  · obtain ⟨p, g, G, own, h, k, rfl, _⟩ := h
    rfl
  · obtain ⟨p, g, G, own, h, k, rfl, PA, ok, hg, h0, kk⟩ := h
    have hr1 := hr.mono (show 1 ≤ 11 by decide)
    refine ⟨_, pss_cons (ps_if (PW.pt (pw_and (pt_val (pe_call GN hr1 rfl DN.at_ DN.fn.kp DN.bd .nil pass0 (pa_cons (pv 1) (pa_cons (pv 2) pa_nil)))) (pw_and1 (pt_not (pt_val (pe_meth (pv 0) T.cl DH.me GH hr1 DH.bd .nil pass0 (pa_cons (pe_ix ix_list (pv 2) pe_int (fun _ _ => rfl)) pa_nil)))))))
        (pss_one (ps_ret (pe_lst (pa_cons (pe_glob (v := .int (-2)) rfl r1 ⟨_, rfl⟩) pa_nil)))) pss_nil)
      (pss_cons (ps_if (pt_val (pe_call GI hr1 rfl DI.at_ DI.fn.kp DI.bd .nil pass0 (pa_cons (pv 1) pa_nil))) (pss_one (ps_ret (pe_call GM hr rfl DM.at_ DM.fn.kp DM.bd .nil pass0 (pa_cons (pv 0) (pa_cons (pv 1) (pa_cons (pv 2) pa_nil)))))) pss_nil)
      (pss_one (ps_ret (pe_call GQ hr rfl DQ.at_ DQ.fn.kp DQ.bd .nil pass0 (pa_cons (pv 0) (pa_cons (pv 1) (pa_cons (pv 2) pa_nil))))))), ?_⟩
    -- behind the first test
    have rest : (∀ i, quant k = some i → i < h.qs.length) → _ := fun hq => (show _ from by
      exact (⟨_, rfl, k, rfl, _, rfl, ite2 (fun c => ⟨_, rfl, _, rfl, _, rfl, p, g, G, own, h, k, rfl, PA, ok, hg, c, hq, kk⟩)
        (fun c => ⟨_, rfl, _, rfl, _, rfl, p, g, G, own, h, k, rfl, PA, ok, hg, hSS _ (num_lt k) h0 (Bool.eq_false_iff.mpr c), hq, kk⟩)⟩ :
        tSeq (tIfS (tB (tCall (spIsCh S) [] E0 (tCons (tVar 1) tNil))) (tRet (tCall (spDoN C S) [] E0 (tCons (tVar 0) (tCons (tVar 1) (tCons (tVar 2) tNil))))) tNext) (tRet (tCall (spDoN C S2) [] E0 (tCons (tVar 0) (tCons (tVar 1) (tCons (tVar 2) tNil)))))
          { nx := fun _ H' => Q .non H', rt := Q } [some (.ref p), some (.str (nm k)), some (.ref g)] H))
    obtain ⟨rs, hg1, hg2⟩ := id hg
    refine ⟨_, rfl, _, rfl, g, k, rfl, hg.mono PA.sub, _, rfl, ?_⟩
    cases hqk : quant k with
    | none => exact rest (fun i e => by rw [hqk] at e; cases e)
    | some i =>
      obtain ⟨ar, ha⟩ := quant_first hqk
      obtain ⟨dx, lm, lp, le, sn, _, nd, h1, _⟩ := PA.ex
      have hgH := PA.sub _ _ hg1
      rw [ha] at hgH
      refine ⟨_, rfl, p, dx, _, rfl, h1, mName _ _ _ _ _ nHas, _, rfl, g, _, _, _, rfl, rfl, SqL.of hgH, at_of (j := 0) rfl rfl, p, G, own, h, i, rfl, PA, _, rfl, ?_⟩
      by_cases hi : i < h.qs.length
      · rw [decide_eq_true hi]
        exact rest (fun i' e => by rw [hqk] at e; cases e; exact hi)
      · rw [decide_eq_false hi]
        exact one_list PA kk (act_no hqk hi)
end
end Bm

end
section
set_option Elab.async false
set_option linter.all false
set_option maxRecDepth 100000
set_option maxHeartbeats 2000000
namespace Bm
open PySem PySem.Spec PyProof.Rows L2
open Kri5 (Pair Quantity House pairsOf nextAll)

def spAns (K : PySem.W.Frag) : Sp := fun vs H Q _ => ∃ (a : Addr) (ns : List Int), vs = [.ref a] ∧ SqL K H a (ns.map V.int) ∧ ns.length ≤ 16000 ∧ PyKri5.answers_asked ns = true ∧ ∀ (H' : Hp) (p : Addr), H' p = some (.lst ((PyKri5.answers ns).map V.int)) → Q (.ref p) H'
/-- a list that is not the plant's is written -/
theorem PlantAt.out {C : Addr} {G H : Hp} {p : Addr} {own : List Addr} {h : House} {t : Addr} {o : HO} {xs : List V} (P : PlantAt C G H p own h) (ht : H t = some (.lst xs)) (n1 : t ∉ own) (n2 : G t = none) : PlantAt C G (upd H t o) p own h := by
  obtain ⟨dx, lm, lp, le, sn, e, nd, h1, h2, h5, h6⟩ := P.ex
  have k : ∀ b ∈ own, (upd H t o) b = H b := fun b hb => upd_ne (by rintro rfl; exact n1 hb)
  have m : ∀ b ∈ ownOf p lm lp le sn, (upd H t o) b = H b := fun b hb => k b (by rw [e]; exact hb)
  refine ⟨fun b u q => ?_, P.free, dx, lm, lp, le, sn, e, nd, ?_, h2.move (Same.refl G) (m lm (by unfold ownOf; simp)) (m lp (by unfold ownOf; simp)), ?_, snaps_move (Same.refl G) (KeepT.upd ht rfl) (fun b hb => m b (by unfold ownOf; simp [hb])) h6⟩
  · rw [upd_ne (by rintro rfl; rw [n2] at q; cases q)]
    exact P.sub b u q
  · rw [m p (by unfold ownOf; simp)]
    exact h1
  · rw [m le (by unfold ownOf; simp)]
    exact h5
/-- what stands for the state of the object -/
def StateAt (C : Addr) (G H : Hp) (tl : Addr) : Kri5.Abs → V → Prop
  | none, v => v = .non
  | some h, v => ∃ (p : Addr) (own : List Addr), v = .ref p ∧ PlantAt C G H p own h ∧ HouseOk h ∧ tl ∉ own
theorem StateAt.out {C : Addr} {G H : Hp} {tl : Addr} {a : Kri5.Abs} {v : V} {o : HO} {xs : List V} (S : StateAt C G H tl a v) (ht : H tl = some (.lst xs)) (n2 : G tl = none) : StateAt C G (upd H tl o) tl a v := by
  cases a with
  | none => exact S
  | some h =>
    obtain ⟨p, own, e, P, ok, n⟩ := S
    exact ⟨p, own, e, P.out ht n n2, ok, n⟩
section
variable {P : Program} {w : World} {K : PySem.W.Frag} {mg : Str → Option Value} {base : Heap} {aD C : Addr}
theorem scAns : FnScope ["calls", "told", "plant", "name", "given", "answer"] ["calls"] (defScope sAns) := ⟨rfl, rfl, rfl, by decide +kernel, rfl, by decide +kernel, by decide +kernel⟩
theorem ok_ans {f fS fI fA : Addr} {fd fdS fdI fdA : FuncData} (D : Def K mg "answers" sAns ["calls"] f fd) (T : PCls K mg C) (TD : Dirs K mg aD) (R : Refs mg) (M : Mk K C fI)
    (DS : Def K mg "split_calls" sSplit ["numbers"] fS fdS) (GS : FnOk P w K mg base CX0 1 fS fdS ["numbers"] (spSplit K)) (bI : Binds K fdI ["self"] []) (GI : FnOk P w K mg base CX0 1 fI fdI ["self"] (spInit C))
    (DA : Def K mg "answer_call" sAnsCall ["plant", "name", "given"] fA fdA) (GA : FnOk P w K mg base CX0 12 fA fdA ["plant", "name", "given"] (spAnsCall C)) : FnOk P w K mg base CX0 13 f fd ["calls"] (spAns K) := by
  obtain ⟨t1, r1⟩ := R.begun
  refine D.fn.ok scAns (fun vs H Q E h => ?_) (fun cdv A outer s H vs Q E hr h => ?_)
  · obtain ⟨a, ns, rfl, _⟩ := h
    rfl
  · obtain ⟨a, ns, rfl, hS, h16, hask, kk⟩ := h
    obtain ⟨ks, rfl, h60, hsm, hans, h10⟩ := asked_view hask
    rw [hans] at kk
    refine ⟨_, pss_cons (ps_set (i := 1) scAns.nd rfl (Or.inl rfl) (pe_lst pa_nil))
      (pss_cons (ps_set (i := 2) scAns.nd rfl (Or.inl rfl) pe_non)
      (pss_cons (ps_for PassesOwn.never rfl (pi_list (pe_call GS (hr.mono (by decide)) rfl DS.at_ DS.fn.kp DS.bd .nil pass0 (pa_cons (pv 0) pa_nil))) (pg_two K rfl (i := 3) (j := 4) rfl scAns.nd rfl rfl (Or.inl rfl) (Or.inl rfl) (Or.inr rfl) (Or.inr rfl))
        (pss_cons (ps_if (pt_cmpR op_eq (pv 3) pe_str (nomark _))
            (pss_cons (ps_set (i := 2) scAns.nd rfl (Or.inl rfl) (pe_make0 M GI (hr.mono (by decide)) rfl T.mgC bI .nil pass0)) (pss_one (ps_set (i := 5) scAns.nd rfl (Or.inl rfl) (pe_lst (pa_cons pe_int pa_nil)))))
            (pss_one (ps_if (pt_cmp (pc_isN (pv 2)))
              (pss_one (ps_set (i := 5) scAns.nd rfl (Or.inl rfl) (pe_lst (pa_cons (pe_glob (v := .int (-11)) rfl r1 ⟨_, rfl⟩) pa_nil))))
              (pss_one (ps_set (i := 5) scAns.nd rfl (Or.inl rfl) (pe_call GA hr rfl DA.at_ DA.fn.kp DA.bd .nil pass0 (pa_cons (pv 2) (pa_cons (pv 3) (pa_cons (pv 4) pa_nil)))))))))
        (pss_cons (ps_expr (pe_bm PySem.F.plainAttrs_list PySem.F.slot_list_append PySem.F.type_list_append mt_append (pv 1) (pa_cons (pe_callB call_len_seq (by rfl) TD.len PySem.boot_len (pa_cons (pv 5) pa_nil)) pa_nil)))
        (pss_one (ps_expr (pe_bm PySem.F.plainAttrs_list PySem.F.slot_list_extend PySem.F.type_list_extend mt_extend (pv 1) (pa_cons (pv 5) pa_nil)))))))
      (pss_one (ps_ret (pv 1))))), ?_⟩
    refine ⟨Nat.zero_le _, fun tl htl => ?_⟩
    refine ⟨_, rfl, a, ks, rfl, (same_new htl).seq hS, h60, h16, hsm, fun H1 F s1 c1 => ?_⟩
    -- what is kept for good: the calls
    have sH : Same H (upd H tl (.lst [])) := same_new htl
    have htl1 : H1 tl = some (.lst []) := s1 _ _ upd_same
    have g0 : Nw (upd H tl (.lst [])) H1 tl = none := by
      cases q : Nw (upd H tl (.lst [])) H1 tl with
      | none => rfl
      | some o =>
        obtain ⟨q1, q2⟩ := Nw_is q
        rw [upd_same] at q2
        rw [htl1] at q1
        cases q1
        rcases q2 with q2 | ⟨xs, q2⟩ <;> cases q2
    obtain ⟨ts, hF, hTs⟩ := id c1
    refine ⟨F, rfl, ⟨_, SqL.of (Nw_sub _ _ hF)⟩, for_list (K := K) (a := F) (xs := ts.map V.ref) (fun i σ H' => ∃ (v2 : V) (v3 v4 v5 : Option V) (ab : Kri5.Abs) (G : Hp) (dn : List Int), σ = [some (.ref a), some (.ref tl), some v2, v3, v4, v5] ∧
        Same (Nw (upd H tl (.lst [])) H1) G ∧ Same G H' ∧ G tl = none ∧ H' tl = some (.lst (dn.map V.int)) ∧ outs none ks = dn ++ outs ab (ks.drop i) ∧ StateAt C G H' tl ab v2)
      ⟨.non, none, none, none, none, _, [], rfl, Same.refl _, Nw_sub, g0, htl1, rfl, rfl⟩ (fun i σ H' _ ⟨_, _, _, _, _, G, _, _, g1, g2, _⟩ => SqL.of (g2 _ _ (g1 _ _ hF))) ?_ ?_⟩
    · rintro i y σ H2 hy ⟨v2, v3, v4, v5, ab, G, dn, rfl, g1, g2, gt, ht2, hout, hst⟩
      obtain ⟨t, ht, rfl⟩ := map_get hy
      obtain ⟨k, hk, hkt⟩ := pr_getL hTs ht
      obtain ⟨g, hkt1, hkt2⟩ := hkt.mono g1
      have hdrop : ks.drop i = k :: ks.drop (i + 1) := by
        obtain ⟨hi, e⟩ := List.getElem?_eq_some_iff.mp hk
        rw [List.drop_eq_getElem_cons hi, e]
      refine ⟨t, _, rfl, SqT.of (g2 _ _ hkt1), rfl, _, _, rfl, _, _, rfl, rfl, ?_⟩
      -- the answer is told
      have tellit : ∀ (G3 H3 : Hp) (ab' : Kri5.Abs) (an : Kri5.Ans) (r : Addr) (v2' : V), Kri5.act ab k = (ab', an) → Same G G3 → Same G3 H3 → G3 tl = none → H3 tl = some (.lst (dn.map V.int)) → IntsAt H3 r (Kri5Neutral.told an) → r ≠ tl → StateAt C G3 H3 tl ab' v2' →
          tSeq (tDrop (tBM K "list" rAppend (tVar 1) (tCons (tCB (fun xs H Q => ∃ p ys, xs = [.ref p] ∧ (SqL K H p ys ∨ SqT K H p ys) ∧ Q (.int ys.length) H) (tCons (tVar 5) tNil)) tNil))) (tDrop (tBM K "list" rExtend (tVar 1) (tCons (tVar 5) tNil)))
            { nx := fun σ H' => ∃ (v2 : V) (v3 v4 v5 : Option V) (ab : Kri5.Abs) (G : Hp) (dn : List Int), σ = [some (.ref a), some (.ref tl), some v2, v3, v4, v5] ∧
                Same (Nw (upd H tl (.lst [])) H1) G ∧ Same G H' ∧ G tl = none ∧ H' tl = some (.lst (dn.map V.int)) ∧ outs none ks = dn ++ outs ab (ks.drop (i + 1)) ∧ StateAt C G H' tl ab v2, rt := Q }
            [some (.ref a), some (.ref tl), some v2', some (.str (nm k)), some (.ref g), some (.ref r)] H3 := by
        intro G3 H3 ab' an r v2' ea sG g3 gt3 ht3 hr3 nr hst3
        have hout2 : outs none ks = (dn ++ tell an) ++ outs ab' (ks.drop (i + 1)) := by
          rw [hout, hdrop]
          show dn ++ (tell (Kri5.act ab k).2 ++ outs (Kri5.act ab k).1 (ks.drop (i + 1))) = _
          rw [ea, List.append_assoc]
        have hlen : dn.length + (tell an).length ≤ 10000000 := by
          have := h10
          rw [hout2, List.length_append, List.length_append] at this
          omega
        have htell : (tell an).length = 1 + (Kri5Neutral.told an).length := by
          unfold tell
          rw [List.length_cons]
          omega
        refine ⟨_, rfl, .inl ⟨rfl, _, SqL.of ht3⟩, _, rfl, r, _, rfl, .inl (SqL.of hr3), tl, _, _, rfl, rfl, ht3, (by rw [List.length_map, sizeLine_eq]; omega), ?_⟩
        have h4 : (upd H3 tl (.lst (dn.map V.int ++ [.int ((((Kri5Neutral.told an).map V.int).length : Nat) : Int)]))) r = some (.lst ((Kri5Neutral.told an).map V.int)) := by rw [upd_ne nr]; exact hr3
        refine ⟨_, rfl, .inl ⟨rfl, _, SqL.of upd_same⟩, _, rfl, tl, r, _, _, rfl, rfl, upd_same, h4, (by rw [List.length_append, List.length_map, List.length_map, sizeLine_eq]; simp only [List.length_cons, List.length_nil]; omega), ?_⟩
        refine ⟨v2', _, _, _, ab', G3, dn ++ tell an, rfl, g1.trans sG, ?_, gt3, ?_, hout2, (hst3.out ht3 gt3).out upd_same gt3⟩
        · intro b o e
          have nb : b ≠ tl := by rintro rfl; rw [gt3] at e; cases e
          rw [upd_ne nb, upd_ne nb]
          exact g3 b o e
        · rw [upd_same, List.map_append]
          unfold tell
          rw [List.map_cons, List.length_map, List.append_assoc]
          rfl
      have e0 : decide (V.str (nm k) = V.str "begin") = decide (num k = 0) := by
        have := nm_is k .begin_
        rw [Bool.eq_iff_iff]
        simp only [decide_eq_true_eq, V.str.injEq]
        exact this
      refine ⟨_, rfl, rfl, _, rfl, ?_⟩
      show if decide (V.str (nm k) = V.str "begin") = true then _ else _
      rw [e0]
      refine ite2 (fun c => ?_) (fun c => ?_)
      · -- begin
        have c := of_decide_eq_true c
        obtain rfl : k = .begin_ := by cases k <;> simp [num] at c; rfl
        intro x dx nx ndx nex
        have gx : G x = none := g2.free nx
        have gdx : G dx = none := g2.free ndx
        have sx : Same G (upd (upd H2 dx (.own x)) x (.ins C dx [])) := fun b o e => by
          rw [upd_ne (ne_of_none e gx), upd_ne (ne_of_none e gdx)]
          exact g2 b o e
        refine ⟨x, dx, G, rfl, upd_same, sx, gx, fun H3 own P3 k3 o3 => ⟨rfl, ?_⟩⟩
        have k4 : ∀ b o, H2 b = some o → H3 b = some o := fun b o e => k3 b o (by rw [upd_ne (ne_of_none e nx), upd_ne (ne_of_none e ndx)]; exact e) (ne_of_none e nx)
        refine ⟨(by show 1 ≤ sizeLine; rw [sizeLine_eq]; decide), fun r hr' => ?_⟩
        have ntl : tl ∉ own := fun hb => by
          rcases o3 tl hb with z | z
          · rw [z, nx] at ht2; cases ht2
          · rw [upd_ne (ne_of_none ht2 nx), upd_ne (ne_of_none ht2 ndx), ht2] at z; cases z
        refine tellit G (upd H3 r (.lst [.int 0])) (some ⟨[], 0, []⟩) (Kri5.say 0) r (.ref x) (act_begin ab) (Same.refl G) (P3.sub.trans (same_new hr')) gt (same_new hr' _ _ (k4 _ _ ht2)) upd_same (ne_of_none (k4 _ _ ht2) hr').symm ⟨x, own, rfl, P3.same (same_new hr'), HouseOk.fresh, ntl⟩
      · have c : num k ≠ 0 := fun q => c (decide_eq_true q)
        have kb : k ≠ .begin_ := by rintro rfl; exact c rfl
        refine ⟨_, rfl, _, rfl, ?_⟩
        cases ab with
        | none =>
          obtain rfl : v2 = .non := hst
          show if decide (V.non = V.non) = true then _ else _
          rw [decide_eq_true rfl]
          refine iteT ⟨(by show 1 ≤ sizeLine; rw [sizeLine_eq]; decide), fun r hr' => ?_⟩
          exact tellit G (upd H2 r (.lst [.int (-11)])) none (Kri5.say (-11)) r .non (act_none k kb) (Same.refl G) (g2.trans (same_new hr')) gt (same_new hr' _ _ ht2) upd_same (ne_of_none ht2 hr').symm rfl
        | some h =>
          obtain ⟨p, own, rfl, PA, ok, ntl⟩ := hst
          show if decide (V.ref p = V.non) = true then _ else _
          rw [decide_eq_false (by intro z; cases z)]
          refine iteF ⟨_, rfl, _, rfl, _, rfl, p, g, G, own, h, k, rfl, PA, ok, hkt2, c, fun G' H' own' h' an r ea P' S' A' I' => ?_⟩
          have ok' : HouseOk h' := by
            obtain ⟨h'', q1, q2⟩ := act_ok ok k kb
            rw [ea] at q1
            cases q1
            exact q2
          have ht' : H' tl = some (.lst (dn.map V.int)) := S'.keep tl _ ht2 ntl
          have ntl' : tl ∉ own' := fun hb => by
            rcases S'.own tl hb with z | z
            · exact ntl z
            · rw [ht2] at z; cases z
          have gt' : G' tl = none := S'.new tl _ ht2 ntl rfl gt
          exact tellit G' H' (some h') an r (.ref p) ea S'.sub P'.sub gt' ht' I' (A' tl _ ht2 ntl).symm ⟨p, own', rfl, P', ok', ntl'⟩
    · rintro σ H2 ⟨v2, v3, v4, v5, ab, G, dn, rfl, g1, g2, gt, ht2, hout, hst⟩
      have e : ks.drop (ts.map V.ref).length = [] := by
        rw [List.length_map, hTs.length, List.drop_length]
      rw [e] at hout
      refine ⟨_, rfl, kk H2 tl ?_⟩
      rw [ht2, hout]
      show _ = some (HO.lst ((dn ++ []).map V.int))
      rw [List.append_nil]
end
end Bm

end
section
set_option Elab.async false
set_option linter.all false
set_option maxRecDepth 100000
set_option maxHeartbeats 2000000
namespace Bm
open PySem PySem.Spec PyProof.Rows L2
open Kri5 (Pair Quantity House pairsOf nextAll)

abbrev sPrec : Stmt := top 16
abbrev sBeh : Stmt := top 17
abbrev sIsRun : Stmt := top 43
abbrev sLeads : Stmt := top 44
theorem len1 : 1 ≤ sizeLine := by rw [sizeLine_eq]; decide
theorem len2 : 2 ≤ sizeLine := by rw [sizeLine_eq]; decide
/-- a list of pairs that is made grows by one -/
theorem grow {H1 H2 : Hp} {L r : Addr} {ps : List Pair} {x : Pair} (hL : H1 L = none) (s : Same H1 H2) (p : PairsAt H2 L ps) (hn : ps.length < 1000) (hx : TupAt H2 r x) :
    ∃ acc, H2 L = some (.lst acc) ∧ acc.length < sizeLine ∧ Same H1 (upd H2 L (.lst (acc ++ [.ref r]))) ∧ PairsAt (upd H2 L (.lst (acc ++ [.ref r]))) L (ps ++ [x]) := by
  obtain ⟨rs, h1, h2⟩ := p
  have kt : KeepT H2 (upd H2 L (.lst (rs.map V.ref ++ [V.ref r]))) := KeepT.upd h1 rfl
  refine ⟨_, h1, ?_, fun b o e => ?_, rs ++ [r], ?_, Paired.snoc (tups_keep kt h2) (kt _ _ hx)⟩
  · rw [List.length_map, h2.length]
    exact line_small hn
  · rw [upd_ne (ne_of_none e hL)]
    exact s b o e
  · rw [upd_same, List.map_append]
    rfl
theorem pairs_new {H : Hp} {L : Addr} : PairsAt (upd H L (.lst [])) L [] := ⟨[], upd_same, .nil⟩
theorem pairs_one {H : Hp} {t r : Addr} {x : Pair} (ht : H t = none) (hx : TupAt H r x) : PairsAt (upd H t (.lst [.ref r])) t [x] := ⟨[r], upd_same, .cons (same_new ht _ _ hx) .nil⟩
theorem take_filter {α : Type} {l : List α} {i : Nat} {x : α} (h : l[i]? = some x) (f : α → Bool) : (l.take (i + 1)).filter f = (l.take i).filter f ++ (if f x = true then [x] else []) := by
  rw [take_one h, List.filter_append, List.filter_cons, List.filter_nil]
theorem next_len (m : Nat) (hm : m ≤ 4) (l : List Pair) : (nextAll m l).length ≤ 27 := by
  have := List.length_filter_le (fun y => l.any fun x => Kri5.follows m x y) (pairsOf m)
  rw [pairsOf_length] at this
  show ((pairsOf m).filter _).length ≤ 27
  omega
theorem one_in {m : Nat} {x : Pair} (h : x ∈ pairsOf m) : ∀ y ∈ [x], y ∈ pairsOf m := fun y hy => by rw [List.mem_singleton.mp hy]; exact h
theorem next_has {m : Nat} {x y : Pair} (hy : y ∈ pairsOf m) : (nextAll m [x]).contains y = Kri5.follows m x y := by
  rw [Bool.eq_iff_iff, List.contains_iff_mem, mem_nx]
  constructor
  · rintro ⟨_, z, hz, q⟩
    rw [List.mem_singleton.mp hz] at q
    exact q
  · intro q
    exact ⟨hy, x, List.mem_singleton.mpr rfl, q⟩
def spPrec : Sp := fun vs H Q _ => ∃ (m : Nat) (r : Addr) (x : Pair), vs = [.int m, .ref r] ∧ m ≤ 4 ∧ TupAt H r x ∧ x ∈ pairsOf m ∧ ∀ (H' : Hp) (l : Addr), Same H H' → PairsAt H' l (Kri5.before m x) → Q (.ref l) H'
def spBeh : Sp := fun vs H Q _ => ∃ (m : Nat) (a : Addr) (ps : List Pair) (k : Nat), vs = [.int m, .ref a, .int k] ∧ m ≤ 4 ∧ PairsAt H a ps ∧ ps.Sublist (pairsOf m) ∧ k ≤ 40 ∧ ∀ (H' : Hp) (l : Addr), Same H H' → PairsAt H' l (Kri5.after m k ps) → Q (.ref l) H'
def spLeads : Sp := fun vs H Q _ => ∃ (m : Nat) (r g : Addr) (x : Pair) (gs : List Pair), vs = [.int m, .ref r, .ref g] ∧ m ≤ 4 ∧ TupAt H r x ∧ x ∈ pairsOf m ∧ PairsAt H g gs ∧ ∀ H' : Hp, Same H H' → Q (.bl (leads m x gs)) H'
def spIsRun : Sp := fun vs H Q _ => ∃ (m : Nat) (a : Addr) (ps : List Pair), vs = [.int m, .ref a] ∧ m ≤ 4 ∧ PairsAt H a ps ∧ (∀ x ∈ ps, x ∈ pairsOf m) ∧ ∀ H' : Hp, Same H H' → Q (.bl (Kri5.isRun m ps)) H'
section
variable {P : Program} {w : World} {K : PySem.W.Frag} {mg : Str → Option Value} {base : Heap} {aD C : Addr}
theorem scPrec : FnScope ["marks", "pair", "other"] ["marks", "pair"] (defScope sPrec) := ⟨rfl, rfl, rfl, by decide +kernel, rfl, by decide +kernel, by decide +kernel⟩
theorem ok_prec {f : Addr} {fd : FuncData} (D : Def K mg "preceding_pairs" sPrec ["marks", "pair"] f fd) (GA : Fn P w K mg base "all_pairs" ["marks"] 2 spAll) (GF : Fn P w K mg base "following_pairs" ["marks", "pairs"] 4 spFol) : FnOk P w K mg base CX0 5 f fd ["marks", "pair"] spPrec := by
  refine D.fn.ok scPrec (fun vs H Q E h => ?_) (fun cdv A outer s H vs Q E hr h => ?_)
  · obtain ⟨m, r, x, rfl, _⟩ := h
    rfl
  · obtain ⟨m, r, x, rfl, hm, ht, hx, k⟩ := h
    refine ⟨_, pss_one (ps_ret (pe_lc (own := [("other", 2)]) rfl scPrec.nd (pi_list (pe_fn GA (hr.mono (by decide)) rfl (pa_cons (pv 0) pa_nil))) (blkOk_by (by show blkC ["marks", "pair", "other"] (defScope sPrec) _ _ = true; decide +kernel))
      (fun _ _ _ _ _ => pg_name (i := 2) scPrec.nd rfl (Or.inl rfl))
      (fun _ _ _ _ _ => pts_one (pt_cmpR (op_inP (room66 hr)) (pv 1) (pe_fn GF hr rfl (pa_cons (pv 0) (pa_cons (pe_lst (pa_cons (pv 2) pa_nil)) pa_nil))) (by with_unfolding_all rfl)))
      (fun _ _ _ _ _ => pv 2))), ?_⟩
    refine ⟨_, rfl, m, rfl, hm, fun H1 L1 s1 P1 => ?_⟩
    obtain ⟨rs, e1, e2⟩ := P1.mono Nw_sub
    refine ⟨L1, rfl, ⟨_, SqL.of e1⟩, fun L hL => ?_⟩
    refine lc_list (K := K) (a := L1) (xs := rs.map V.ref) (fun j H' => Same H1 H' ∧ PairsAt H' L (((pairsOf m).take j).filter fun y => Kri5.follows m y x)) ⟨same_new hL, pairs_new⟩ (fun j H' _ ⟨s2, _⟩ => SqL.of (s2 _ _ e1)) ?_ ?_
    · rintro j v H2 hv ⟨s2, p2⟩
      obtain ⟨q, hq, rfl⟩ := map_get hv
      obtain ⟨y, hy, hyt⟩ := pr_getL e2 hq
      have hyH : TupAt H2 q y := s2 _ _ hyt
      refine ⟨rfl, _, rfl, _, rfl, _, rfl, len1, fun t ht2 => ?_⟩
      refine ⟨m, t, [y], rfl, hm, pairs_one ht2 hyH, one_in (List.mem_of_getElem? hy), (by decide : 1 ≤ 27), fun H3 l3 s3 P3 => ?_⟩
      have s23 : Same H2 H3 := (same_new ht2).trans s3
      have s13 : Same H1 H3 := s2.trans s23
      refine ⟨r, l3, x, _, rfl, rfl, s13 _ _ (s1 _ _ ht), P3.mono Nw_sub, _, rfl, ?_⟩
      show if (nextAll m [y]).contains x = true then _ else _
      rw [next_has hx, take_filter hy]
      refine ite2 (fun c => ?_) (fun c => ?_)
      · rw [if_pos c]
        refine ⟨_, rfl, grow hL s13 (p2.mono s23) ?_ (s23 _ _ hyH)⟩
        have l1 := List.length_filter_le (fun y => Kri5.follows m y x) ((pairsOf m).take j)
        rw [List.length_take, pairsOf_length] at l1
        omega
      · rw [if_neg c, List.append_nil]
        exact ⟨s13, p2.mono s23⟩
    · rintro H2 ⟨s2, p2⟩
      rw [List.length_map, e2.length, List.take_length] at p2
      exact k H2 L (s1.trans s2) p2
theorem scBeh : FnScope ["marks", "pairs", "moments", "reached", "moment"] ["marks", "pairs", "moments"] (defScope sBeh) := ⟨rfl, rfl, rfl, by decide +kernel, rfl, by decide +kernel, by decide +kernel⟩
theorem ok_beh {f : Addr} {fd : FuncData} (D : Def K mg "pairs_behind" sBeh ["marks", "pairs", "moments"] f fd) (T : Dirs K mg aD) (GF : Fn P w K mg base "following_pairs" ["marks", "pairs"] 4 spFol) : FnOk P w K mg base CX0 5 f fd ["marks", "pairs", "moments"] spBeh := by
  refine D.fn.ok scBeh (fun vs H Q E h => ?_) (fun cdv A outer s H vs Q E hr h => ?_)
  · obtain ⟨m, a, ps, n, rfl, _⟩ := h
    rfl
  · obtain ⟨m, a, ps, n, rfl, hm, hp, hsub, hn, k⟩ := h
    refine ⟨_, pss_cons (ps_set (i := 3) scBeh.nd rfl (Or.inl rfl) (pv 1))
      (pss_cons (ps_for PassesOwn.never rfl (pi_range1 rfl T.range (pa_cons (pv 2) pa_nil)) (pg_name (i := 4) scBeh.nd rfl (Or.inl rfl))
        (pss_one (ps_set (i := 3) scBeh.nd rfl (Or.inl rfl) (pe_fn GF hr rfl (pa_cons (pv 0) (pa_cons (pv 3) pa_nil))))))
      (pss_one (ps_ret (pv 3)))), ?_⟩
    refine ⟨_, rfl, _, rfl, _, rfl, by omega, by omega, ?_⟩
    rw [Int.toNat_natCast]
    refine for_range (lo := 0) (n := n) (fun i σ H' => ∃ (r : Addr) (v4 : Option V), σ = [some (.int m), some (.ref a), some (.int n), some (.ref r), v4] ∧ Same H H' ∧ PairsAt H' r (Kri5.after m i ps)) ⟨a, none, rfl, Same.refl H, hp⟩ ?_ ?_
    · rintro i σ H1 hi ⟨r, v4, rfl, s1, p1⟩
      have sb := after_sub m i ps hsub
      refine ⟨_, rfl, _, rfl, m, r, _, rfl, hm, p1, fun x hx => sb.subset hx, ?_, fun H2 l s2 p2 => ?_⟩
      · have := sb.length_le
        rw [pairsOf_length] at this
        omega
      · refine ⟨l, _, rfl, s1.trans s2, ?_⟩
        rw [after_end]
        exact p2.mono Nw_sub
    · rintro σ H1 ⟨r, v4, rfl, s1, p1⟩
      exact ⟨_, rfl, k H1 r s1 p1⟩
theorem scLeads : FnScope ["marks", "pair", "goals", "later"] ["marks", "pair", "goals"] (defScope sLeads) := ⟨rfl, rfl, rfl, by decide +kernel, rfl, by decide +kernel, by decide +kernel⟩
theorem any_id {α : Type} (f : α → Bool) (l : List α) : (l.map f).any id = l.any f := by rw [List.any_map]; rfl
theorem all_id {α : Type} (f : α → Bool) (l : List α) : (l.map f).all id = l.all f := by rw [List.all_map]; rfl
theorem bl_snoc {α : Type} {l : List α} {f : α → Bool} {i : Nat} {x : α} (h : l[i]? = some x) : (((l.take i).map f).map V.bl) ++ [V.bl (f x)] = ((l.take (i + 1)).map f).map V.bl := by
  rw [take_one h, List.map_append, List.map_append]
  rfl
theorem ok_leads {f : Addr} {fd : FuncData} (D : Def K mg "leads_to" sLeads ["marks", "pair", "goals"] f fd) (hany : mg "any" = none) (GF : Fn P w K mg base "following_pairs" ["marks", "pairs"] 4 spFol) : FnOk P w K mg base CX0 5 f fd ["marks", "pair", "goals"] spLeads := by
  refine D.fn.ok scLeads (fun vs H Q E h => ?_) (fun cdv A outer s H vs Q E hr h => ?_)
  · obtain ⟨m, r, g, x, gs, rfl, _⟩ := h
    rfl
  · obtain ⟨m, r, g, x, gs, rfl, hm, ht, hx, hg, k⟩ := h
    refine ⟨_, pss_one (ps_ret (pe_callB (cr_any rfl) (by rfl) hany boot_any (pa_cons (pe_lc (own := [("later", 3)]) rfl scLeads.nd (pi_list (pe_fn GF hr rfl (pa_cons (pv 0) (pa_cons (pe_lst (pa_cons (pv 1) pa_nil)) pa_nil)))) (blkOk_by (by show blkC ["marks", "pair", "goals", "later"] (defScope sLeads) _ _ = true; decide +kernel))
      (fun _ _ _ _ _ => pg_name (i := 3) scLeads.nd rfl (Or.inl rfl)) (fun _ _ _ _ _ => pts_nil)
      (fun _ _ _ _ _ => pe_cmpR (op_inP (room66 hr)) (pv 3) (pv 2) (by with_unfolding_all rfl))) pa_nil))), ?_⟩
    refine ⟨_, rfl, _, rfl, len1, fun t ht2 => ?_⟩
    refine ⟨m, t, [x], rfl, hm, pairs_one ht2 ht, one_in hx, (by decide : 1 ≤ 27), fun H1 l1 s1 P1 => ?_⟩
    have s01 : Same H H1 := (same_new ht2).trans s1
    obtain ⟨rs, e1, e2⟩ := P1.mono Nw_sub
    refine ⟨l1, rfl, ⟨_, SqL.of e1⟩, fun L hL => ?_⟩
    refine lc_list (K := K) (a := l1) (xs := rs.map V.ref) (fun j H' => Same H1 H' ∧ H' L = some (.lst ((((nextAll m [x]).take j).map fun y => gs.contains y).map V.bl))) ⟨same_new hL, upd_same⟩ (fun j H' _ ⟨s2, _⟩ => SqL.of (s2 _ _ e1)) ?_ ?_
    · rintro j v H2 hv ⟨s2, h2⟩
      obtain ⟨q, hq, rfl⟩ := map_get hv
      obtain ⟨y, hy, hyt⟩ := pr_getL e2 hq
      refine ⟨rfl, tYes_of ⟨_, rfl, _, rfl, q, g, y, gs, rfl, rfl, s2 _ _ hyt, hg.mono (s01.trans s2), _, h2, ?_, ?_, ?_⟩⟩
      · rw [List.length_map, List.length_map, List.length_take]
        have := next_len m hm [x]
        exact line_small (by omega)
      · intro b o e
        rw [upd_ne (ne_of_none e hL)]
        exact s2 b o e
      · rw [upd_same]
        exact congrArg (fun z => some (HO.lst z)) (bl_snoc (f := fun y => gs.contains y) hy)
    · rintro H2 ⟨s2, h2⟩
      rw [List.length_map, e2.length, List.take_length] at h2
      refine ⟨L, _, rfl, SqL.of h2, ?_⟩
      rw [any_id]
      exact k H2 (s01.trans s2)
theorem scIsRun : FnScope ["marks", "pairs", "earlier", "later"] ["marks", "pairs"] (defScope sIsRun) := ⟨rfl, rfl, rfl, by decide +kernel, rfl, by decide +kernel, by decide +kernel⟩
theorem cut_tail {α : Type} (xs : List V) : cutV xs (some 1) none = xs.tail := by
  unfold cutV HT.sIx
  cases xs with
  | nil => simp
  | cons a l => simp
theorem all_take {l : List (Pair × Pair)} {f : Pair × Pair → Bool} {i : Nat} {x : Pair × Pair} (h : l[i]? = some x) : (l.take (i + 1)).all f = ((l.take i).all f && f x) := by
  rw [take_one h, List.all_append]
  simp
theorem ok_isRun {f : Addr} {fd : FuncData} (D : Def K mg "is_run" sIsRun ["marks", "pairs"] f fd) (hzip : mg "zip" = none) (GF : Fn P w K mg base "following_pairs" ["marks", "pairs"] 4 spFol) : FnOk P w K mg base CX0 5 f fd ["marks", "pairs"] spIsRun := by
  refine D.fn.ok scIsRun (fun vs H Q E h => ?_) (fun cdv A outer s H vs Q E hr h => ?_)
  · obtain ⟨m, a, ps, rfl, _⟩ := h
    rfl
  · obtain ⟨m, a, ps, rfl, hm, ⟨rs, e1, e2⟩, hps, k⟩ := h
    refine ⟨_, pss_cons (ps_for PassesOwn.never rfl (pi_zip rfl hzip (pa_cons (pv 1) (pa_cons (pe_slice sl_list (pv 1) (po_some pe_int) po_none) pa_nil))) (pg_two K rfl (i := 2) (j := 3) rfl scIsRun.nd rfl rfl (Or.inl rfl) (Or.inl rfl) (Or.inr rfl) (Or.inr rfl))
        (pss_one (ps_if (pt_cmpR (op_notInP (room66 hr)) (pv 3) (pe_fn GF hr rfl (pa_cons (pv 0) (pa_cons (pe_lst (pa_cons (pv 2) pa_nil)) pa_nil))) (by with_unfolding_all rfl)) (pss_one (ps_ret pe_bl)) pss_nil)))
      (pss_one (ps_ret pe_bl)), ?_⟩
    have ez := isRun_steps hps
    refine ⟨_, rfl, _, rfl, _, rfl, a, _, rfl, SqL.of e1, fun c hc => ?_⟩
    rw [cut_tail (α := Nat), ← List.map_tail]
    have e1' : (upd H c (.lst (rs.tail.map V.ref))) a = some (.lst (rs.map V.ref)) := same_new hc _ _ e1
    refine ⟨a, c, _, _, rfl, SqL.of e1', SqL.of upd_same, for_zip (K := K) (a := a) (b := c) (xs := rs.map V.ref) (ys := rs.tail.map V.ref) (by rw [List.length_map, List.length_map, List.length_tail]; omega)
      (fun i σ H' => ∃ v2 v3 : Option V, σ = [some (.int m), some (.ref a), v2, v3] ∧ Same (upd H c (.lst (rs.tail.map V.ref))) H' ∧ ((ps.zip ps.tail).take i).all (fun q => (nextAll m [q.1]).contains q.2) = true)
      ⟨none, none, rfl, Same.refl _, by simp⟩ (fun i σ H' _ ⟨_, _, _, s1, _⟩ => ⟨SqL.of (s1 _ _ e1'), SqL.of (s1 _ _ upd_same)⟩) ?_ ?_⟩
    · rintro i u v σ H1 T hu hv ⟨v2, v3, rfl, s1, al⟩ hT
      obtain ⟨q1, hq1, rfl⟩ := map_get hu
      obtain ⟨q2, hq2, rfl⟩ := map_get hv
      obtain ⟨x, hx, hxt⟩ := pr_getL e2 hq1
      obtain ⟨y, hy, hyt⟩ := pr_getL (m := ps.tail) (by
        cases e2 with
        | nil => exact .nil
        | cons _ t => exact t) hq2
      have sT : Same H1 (upd H1 T (.tup [.ref q1, .ref q2])) := same_new hT
      have s0 : Same H (upd H1 T (.tup [.ref q1, .ref q2])) := ((same_new hc).trans s1).trans sT
      have hz : (ps.zip ps.tail)[i]? = some (x, y) := by
        rw [List.getElem?_zip_eq_some]
        exact ⟨hx, hy⟩
      refine ⟨T, _, rfl, SqT.of upd_same, rfl, _, _, rfl, _, _, rfl, rfl, ?_⟩
      refine ⟨_, rfl, _, rfl, _, rfl, len1, fun t ht2 => ?_⟩
      refine ⟨m, t, [x], rfl, hm, pairs_one ht2 (s0 _ _ hxt), one_in (hps x (List.mem_of_getElem? hx)), (by decide : 1 ≤ 27), fun H2 l2 s2 P2 => ?_⟩
      have s02 : Same H H2 := s0.trans ((same_new ht2).trans s2)
      refine ⟨q2, l2, y, _, rfl, rfl, s02 _ _ hyt, P2.mono Nw_sub, _, rfl, ?_⟩
      show if (!(nextAll m [x]).contains y) = true then _ else _
      refine ite2 (fun c1 => ?_) (fun c1 => ?_)
      · have q := k H2 s02
        rw [ez, show (ps.zip ps.tail).all (fun q => (nextAll m [q.1]).contains q.2) = false by
          rw [List.all_eq_false]
          refine ⟨(x, y), List.mem_of_getElem? hz, ?_⟩
          rw [Bool.not_eq_true'] at c1
          rw [c1]
          exact Bool.false_ne_true] at q
        exact q
      · refine ⟨_, _, rfl, s1.trans (sT.trans ((same_new ht2).trans s2)), ?_⟩
        rw [all_take hz, al, Bool.true_and]
        rw [Bool.not_eq_true', Bool.not_eq_false] at c1
        exact c1
    · rintro σ H1 ⟨v2, v3, rfl, s1, al⟩
      have el : (rs.tail.map V.ref).length = (ps.zip ps.tail).length := by
        have := e2.length
        rw [List.length_map, List.length_tail, List.length_zip, List.length_tail]
        omega
      rw [el, List.take_length] at al
      have q := k H1 ((same_new hc).trans s1)
      rw [ez, al] at q
      exact q
end
end Bm

end
section
set_option Elab.async false
set_option linter.all false
set_option maxRecDepth 100000
set_option maxHeartbeats 2000000
namespace Bm
open PySem PySem.Spec PyProof.Rows L2
open Kri5 (Pair Quantity House pairsOf nextAll)

abbrev sMom : Stmt := top 45
abbrev sShort : Stmt := top 46
theorem refs_nil {G : Hp} {ps : List Pair} {rs : List Addr} (h : Paired (TupAt G) rs ps) : (!(rs.map V.ref).isEmpty) = !decide (ps = []) := by
  cases h <;> rfl
/-- one of these is asked for -/
abbrev goalOf (gs : List Pair) : Pair → Bool := fun y => gs.contains y
theorem goal_of {m : Nat} (hm : m ≤ 4) {gs : List Pair} (hg : ∀ x ∈ gs, x ∈ pairsOf m) (hne : gs ≠ []) : Goal m (goalOf gs) := by
  obtain ⟨x, r, rfl⟩ := List.exists_cons_of_ne_nil hne
  exact ⟨hm, x, hg x List.mem_cons_self, List.contains_iff_mem.mpr List.mem_cons_self⟩
def spMom : Sp := fun vs H Q _ => ∃ (m : Nat) (g : Addr) (gs : List Pair), vs = [.int m, .ref g] ∧ m ≤ 4 ∧ PairsAt H g gs ∧ (∀ x ∈ gs, x ∈ pairsOf m) ∧ gs ≠ [] ∧ gs.length ≤ 27 ∧
  ∀ (H' : Hp) (d : Addr) (kvs : List (List Key × V)), Same H H' → H' d = some (.dT kvs) → (∀ x ∈ pairsOf m, valV kvs (kp x) = some (.int (dist m (goalOf gs) x))) → Q (.ref d) H'
def spShort : Sp := fun vs H Q _ => ∃ (m : Nat) (s g : Addr) (ss gs : List Pair), vs = [.int m, .ref s, .ref g] ∧ m ≤ 4 ∧ PairsAt H s ss ∧ (∀ x ∈ ss, x ∈ pairsOf m) ∧ ss.Pairwise lexP ∧ ss ≠ [] ∧ ss.length ≤ 27 ∧ PairsAt H g gs ∧ (∀ x ∈ gs, x ∈ pairsOf m) ∧ gs ≠ [] ∧ gs.length ≤ 27 ∧
  ∀ (H' : Hp) (l : Addr) (k : Nat) (way : List Pair), Same H H' → Kri5.soonest m ss (goalOf gs) = some k → (ss.findSome? fun x => Kri5.wayTo m (goalOf gs) k x) = some way → way.length = k + 1 → k ≤ 11 → PairsAt H' l way → Q (.ref l) H'
section
variable {P : Program} {w : World} {K : PySem.W.Frag} {mg : Str → Option Value} {base : Heap} {aD C : Addr}
theorem scMom : FnScope ["marks", "goals", "found", "reached", "moments", "pair"] ["marks", "goals"] (defScope sMom) := ⟨rfl, rfl, rfl, by decide +kernel, rfl, by decide +kernel, by decide +kernel⟩
theorem ok_mom {f : Addr} {fd : FuncData} (D : Def K mg "moments_to" sMom ["marks", "goals"] f fd) (GA : Fn P w K mg base "all_pairs" ["marks"] 2 spAll) (GL : Fn P w K mg base "leads_to" ["marks", "pair", "goals"] 5 spLeads) : FnOk P w K mg base CX0 6 f fd ["marks", "goals"] spMom := by
  refine D.fn.ok scMom (fun vs H Q E h => ?_) (fun cdv A outer s H vs Q E hr h => ?_)
  · obtain ⟨m, g, gs, rfl, _⟩ := h
    rfl
  · obtain ⟨m, g, gs, rfl, hm, hg, hgs, hne, h27, k⟩ := h
    have go := goal_of hm hgs hne
    refine ⟨_, pss_cons (ps_set (i := 2) scMom.nd rfl (Or.inr rfl) pe_dnewT)
      (pss_cons (ps_set (i := 3) scMom.nd rfl (Or.inr rfl) (pv 1))
      (pss_cons (ps_set (i := 4) scMom.nd rfl (Or.inl rfl) pe_int)
      (pss_cons (ps_while PassesOwn.never (pt_truth (pv 3) (fun _ => rfl))
        (pss_cons (ps_for PassesOwn.never rfl (pi_list (pv 3)) (pg_name (i := 5) scMom.nd rfl (Or.inl rfl)) (pss_one (ps_dput (hu_of hr) (pv 2) (pv 5) (pv 4) rfl)))
        (pss_cons (ps_set (i := 3) scMom.nd rfl (Or.inr rfl) (pe_lc (own := [("pair", 5)]) rfl scMom.nd (pi_list (pe_fn GA (hr.mono (by decide)) rfl (pa_cons (pv 0) pa_nil))) (blkOk_by (by show blkC ["marks", "goals", "found", "reached", "moments", "pair"] (defScope sMom) _ _ = true; decide +kernel))
          (fun _ _ _ _ _ => pg_name (i := 5) scMom.nd rfl (Or.inl rfl))
          (fun _ _ _ _ _ => pts_one (PW.pt (pw_and (pt_cmp (pc_dnotin (hu_of hr) (pv 5) (pv 2)) (by with_unfolding_all rfl)) (pw_and1 (pt_val (pe_fn GL hr rfl (pa_cons (pv 0) (pa_cons (pv 5) (pa_cons (pv 3) pa_nil)))))))))
          (fun _ _ _ _ _ => pv 5)))
        (pss_one (ps_set (i := 4) scMom.nd rfl (Or.inl rfl) (pe_op op_add (pv 4) pe_int))))))
      (pss_one (ps_ret (pv 2)))))), ?_⟩
    intro d hd
    refine ⟨_, rfl, ?_⟩
    let Wd : Nat → L2.St → Hp → Prop := fun n σ H' => ∃ (t : Nat) (r : Addr) (v5 : Option V) (rs : List Pair) (kvs : List (List Key × V)), n = 12 - t ∧ t ≤ 12 ∧ σ = [some (.int m), some (.ref g), some (.ref d), some (.ref r), some (.int (t : Int)), v5] ∧ Same H H' ∧ H' d = some (.dT kvs) ∧ PairsAt H' r rs ∧
      (∀ z, z ∈ rs ↔ z ∈ pairsOf m ∧ dist m (goalOf gs) z = t) ∧ rs.length ≤ 27 ∧ (∀ x ∈ pairsOf m, valV kvs (kp x) = if dist m (goalOf gs) x < t then some (.int (dist m (goalOf gs) x)) else none) ∧ kvs.length ≤ 27 * t
    refine ⟨Wd, ⟨12, 0, g, none, gs, [], rfl, by omega, rfl, same_new hd, upd_same, hg.mono (same_new hd), fun z => ?_, h27, fun x hx => rfl, Nat.le_refl _⟩, ?_⟩
    · constructor
      · intro hz
        exact ⟨hgs z hz, (dist_zero go (hgs z hz)).mpr (List.contains_iff_mem.mpr hz)⟩
      · rintro ⟨h1, h2⟩
        exact List.contains_iff_mem.mp ((dist_zero go h1).mp h2)
    rintro n σ H1 ⟨t, r, v5, rs, kvs, hn, ht, rfl, s1, h1, ⟨rr, e1, e2⟩, hrs, hr27, hkv, hkl⟩
    refine ⟨_, rfl, _, .inl ⟨_, SqL.of e1, rfl⟩, ?_⟩
    show if (!(rr.map V.ref).isEmpty) = true then _ else _
    rw [refs_nil e2]
    refine ite2 (fun c => ?_) (fun c => ?_)
    · have hne1 : rs ≠ [] := by
        intro z
        rw [z] at c
        cases c
      obtain ⟨x0, r0, ex⟩ := List.exists_cons_of_ne_nil hne1
      have hx0 := (hrs x0).mp (by rw [ex]; exact List.mem_cons_self)
      have t11 : t ≤ 11 := by
        have := (dist_is go hx0.1).2.2
        have := far_le m hm
        omega
      refine ⟨fun σ' H' => Wd (n - 1) σ' H', fun σ' H' w => ⟨n - 1, by omega, w⟩, ?_⟩
      refine ⟨_, rfl, r, rfl, ⟨_, SqL.of e1⟩, for_list (K := K) (a := r) (xs := rr.map V.ref) (fun i σ H' => ∃ (v5 : Option V) (kvs' : List (List Key × V)), σ = [some (.int m), some (.ref g), some (.ref d), some (.ref r), some (.int (t : Int)), v5] ∧ Same H H' ∧ H' d = some (.dT kvs') ∧ H' r = some (.lst (rr.map V.ref)) ∧ Paired (TupAt H') rr rs ∧
          (∀ x ∈ pairsOf m, valV kvs' (kp x) = if dist m (goalOf gs) x < t ∨ x ∈ rs.take i then some (.int (dist m (goalOf gs) x)) else none) ∧ kvs'.length ≤ 27 * t + i)
        ⟨v5, kvs, rfl, s1, h1, e1, e2, fun x hx => by rw [hkv x hx]; simp, hkl⟩ (fun i σ H' _ ⟨_, _, _, _, _, q, _⟩ => SqL.of q) ?_ ?_⟩
      · -- found[pair] = moments
        rintro i y σ H2 hy ⟨v5, kvs', rfl, s2, h2, q2, p2, hv2, hl2⟩
        obtain ⟨b, hb, rfl⟩ := map_get hy
        obtain ⟨x, hx, hxt⟩ := pr_getL p2 hb
        have hi : i < 27 := Nat.lt_of_lt_of_le (List.getElem?_eq_some_iff.mp hx).1 hr27
        have hxd := (hrs x).mp (List.mem_of_getElem? hx)
        refine ⟨_, rfl, _, rfl, _, rfl, d, _, rfl, DPut.t (k := kp x) h2 hxt (line_small (by omega)), ?_⟩
        have kt : KeepT H2 (upd H2 d (.dT (putK kvs' (kp x) (.int (t : Int))))) := KeepT.upd h2 rfl
        refine ⟨_, _, rfl, fun b o eb => ?_, upd_same, ?_, tups_keep kt p2, fun z hz => ?_, ?_⟩
        · rw [upd_ne (ne_of_none eb hd)]
          exact s2 b o eb
        · rw [upd_ne (ne_of q2 h2 (by intro z; cases z))]
          exact q2
        · rw [valV_put]
          by_cases ez : z = x
          · subst ez
            rw [if_pos rfl, if_pos (.inr (by rw [take_one hx]; simp)), hxd.2]
          · rw [if_neg (fun q => ez (kp_inj q)), hv2 z hz, take_one hx]
            simp [ez]
        · have := length_putK kvs' (kp x) (.int (t : Int))
          omega
      · rintro σ H2 ⟨v5, kvs', rfl, s2, h2, q2, p2, hv2, hl2⟩
        rw [List.length_map, p2.length, List.take_length] at hv2
        rw [List.length_map, p2.length] at hl2
        have hv3 : ∀ x ∈ pairsOf m, valV kvs' (kp x) = if dist m (goalOf gs) x < t + 1 then some (.int (dist m (goalOf gs) x)) else none := fun x hx => by
          rw [hv2 x hx]
          have q : (dist m (goalOf gs) x < t ∨ x ∈ rs) ↔ dist m (goalOf gs) x < t + 1 := by
            rw [hrs x]
            constructor
            · rintro (z | ⟨_, z⟩) <;> omega
            · intro z
              rcases Nat.lt_or_ge (dist m (goalOf gs) x) t with y | y
              · exact .inl y
              · exact .inr ⟨hx, by omega⟩
          by_cases c2 : dist m (goalOf gs) x < t + 1
          · rw [if_pos c2, if_pos (q.mpr c2)]
          · rw [if_neg c2, if_neg (fun z => c2 (q.mp z))]
        refine ⟨_, rfl, m, rfl, hm, fun H3 L1 s3 P3 => ?_⟩
        obtain ⟨ra, a1, a2⟩ := P3.mono Nw_sub
        refine ⟨L1, rfl, ⟨_, SqL.of a1⟩, fun L hL => ?_⟩
        refine lc_list (K := K) (a := L1) (xs := ra.map V.ref) (fun j H' => Same H3 H' ∧ PairsAt H' L (((pairsOf m).take j).filter fun y => dist m (goalOf gs) y == t + 1)) ⟨same_new hL, pairs_new⟩ (fun j H' _ ⟨s4, _⟩ => SqL.of (s4 _ _ a1)) ?_ ?_
        · rintro j v H4 hv ⟨s4, p4⟩
          obtain ⟨b, hb, rfl⟩ := map_get hv
          obtain ⟨y, hy, hyt⟩ := pr_getL a2 hb
          have hyH : TupAt H4 b y := s4 _ _ hyt
          have hyp := List.mem_of_getElem? hy
          have h4 : H4 d = some (.dT kvs') := s4 _ _ (s3 _ _ h2)
          have hlen : (((pairsOf m).take j).filter fun y => dist m (goalOf gs) y == t + 1).length < 1000 := by
            have l1 := List.length_filter_le (fun y => dist m (goalOf gs) y == t + 1) ((pairsOf m).take j)
            rw [List.length_take, pairsOf_length] at l1
            omega
          refine ⟨rfl, _, rfl, _, rfl, d, _, rfl, DGet.t (k := kp y) h4 hyH, _, rfl, ?_⟩
          rw [hv3 y hyp]
          by_cases c2 : dist m (goalOf gs) y < t + 1
          · rw [if_pos c2]
            show if (!(some (V.int (dist m (goalOf gs) y : Int))).isSome) = true then _ else _
            rw [if_neg (by intro z; cases z)]
            show if false = true then _ else _
            rw [if_neg Bool.false_ne_true, take_filter hy, if_neg (by rw [beq_iff_eq]; omega), List.append_nil]
            exact ⟨s4, p4⟩
          · rw [if_neg c2]
            show if (!(none : Option V).isSome) = true then _ else _
            rw [if_pos (show (!(none : Option V).isSome) = true from rfl)]
            refine ⟨_, rfl, _, rfl, _, rfl, m, b, r, y, rs, rfl, hm, hyH, hyp, ⟨rr, s4 _ _ (s3 _ _ q2), pr_mono (fun r x e => s4 _ _ (s3 _ _ e)) p2⟩, fun H5 s5 => ?_⟩
            refine ⟨_, rfl, ?_⟩
            have li := lead_iff go hyp hrs (by omega : ¬ dist m (goalOf gs) y ≤ t)
            show if leads m y rs = true then _ else _
            rw [take_filter hy]
            refine ite2 (fun c3 => ?_) (fun c3 => ?_)
            · rw [if_pos (by rw [beq_iff_eq]; exact li.mp c3)]
              exact ⟨_, rfl, grow hL (s4.trans s5) (p4.mono s5) hlen (s5 _ _ hyH)⟩
            · rw [if_neg (by rw [beq_iff_eq]; exact fun z => c3 (li.mpr z)), List.append_nil]
              exact ⟨s4.trans s5, p4.mono s5⟩
        · rintro H4 ⟨s4, p4⟩
          rw [List.length_map, a2.length, List.take_length] at p4
          refine ⟨_, rfl, _, _, rfl, rfl, ?_⟩
          refine ⟨t + 1, L, _, _, kvs', by omega, by omega, rfl, s2.trans (s3.trans s4), s4 _ _ (s3 _ _ h2), p4, fun z => ?_, ?_, hv3, by omega⟩
          · rw [List.mem_filter, beq_iff_eq]
          · have l1 := List.length_filter_le (fun y => dist m (goalOf gs) y == t + 1) (pairsOf m)
            rw [pairsOf_length] at l1
            omega
    · have hnil : rs = [] := by
        rcases Decidable.em (rs = []) with z | z
        · exact z
        · exact absurd (by rw [decide_eq_false z]; rfl) c
      refine ⟨_, rfl, k H1 d kvs s1 h1 fun x hx => ?_⟩
      have lt := dist_all go (t := t) (fun z hz q => by
        have := (hrs z).mpr ⟨hz, q⟩
        rw [hnil] at this
        cases this) hx
      rw [hkv x hx, if_pos lt]
theorem scShort : FnScope ["marks", "starts", "goals", "moments", "fewest", "found", "choice", "left", "least", "start", "pair"] ["marks", "starts", "goals"] (defScope sShort) := ⟨rfl, rfl, rfl, by decide +kernel, rfl, by decide +kernel, by decide +kernel⟩
theorem ok_short {f : Addr} {fd : FuncData} (D : Def K mg "shortest_run" sShort ["marks", "starts", "goals"] f fd) (T : Dirs K mg aD) (hmin : mg "min" = none) (GM : Fn P w K mg base "moments_to" ["marks", "goals"] 6 spMom) (GF : Fn P w K mg base "following_pairs" ["marks", "pairs"] 4 spFol) : FnOk P w K mg base CX0 7 f fd ["marks", "starts", "goals"] spShort := by
  refine D.fn.ok scShort (fun vs H Q E h => ?_) (fun cdv A outer s H vs Q E hr h => ?_)
  · obtain ⟨m, s, g, ss, gs, rfl, _⟩ := h
    rfl
  · obtain ⟨m, a, g, ss, gs, rfl, hm, hs, hss, hsrt, hsne, hs27, hg, hgs, hgne, hg27, kk⟩ := h
    have go := goal_of hm hgs hgne
    refine ⟨_, pss_cons (ps_set (i := 3) scShort.nd rfl (Or.inr rfl) (pe_fn GM hr rfl (pa_cons (pv 0) (pa_cons (pv 2) pa_nil))))
      (pss_cons (ps_set (i := 4) scShort.nd rfl (Or.inl rfl) (pe_callB (cr_min rfl) (by rfl) hmin boot_min (pa_cons (pe_lc (own := [("start", 9)]) rfl scShort.nd (pi_list (pv 1)) (blkOk_by (by show blkC ["marks", "starts", "goals", "moments", "fewest", "found", "choice", "left", "least", "start", "pair"] (defScope sShort) _ _ = true; decide +kernel))
          (fun _ _ _ _ _ => pg_name (i := 9) scShort.nd rfl (Or.inl rfl)) (fun _ _ _ _ _ => pts_nil) (fun _ _ _ _ _ => pe_dget (hu_of hr) (pv 3) (pv 9) (fun _ _ => rfl))) pa_nil)))
      (pss_cons (ps_set (i := 5) scShort.nd rfl (Or.inl rfl) (pe_lst pa_nil))
      (pss_cons (ps_set (i := 6) scShort.nd rfl (Or.inl rfl) (pv 1))
      (pss_cons (ps_for PassesOwn.never rfl (pi_range3 rfl T.range (pa_cons (pv 4) (pa_cons (pe_un un_neg pe_int) (pa_cons (pe_un un_neg pe_int) pa_nil)))) (pg_name (i := 7) scShort.nd rfl (Or.inr rfl))
        (pss_cons (ps_set (i := 8) scShort.nd rfl (Or.inl rfl) (pe_callB (cr_minP rfl (room66 hr)) (by rfl) hmin boot_min (pa_cons (pe_lc (own := [("pair", 10)]) rfl scShort.nd (pi_list (pv 6)) (blkOk_by (by show blkC ["marks", "starts", "goals", "moments", "fewest", "found", "choice", "left", "least", "start", "pair"] (defScope sShort) _ _ = true; decide +kernel))
            (fun _ _ _ _ _ => pg_name (i := 10) scShort.nd rfl (Or.inl rfl)) (fun _ _ _ _ _ => pts_one (pt_cmpR op_eq (pe_dget (hu_of hr) (pv 3) (pv 10) (fun _ _ => rfl)) (pv 7) (nomark _))) (fun _ _ _ _ _ => pv 10)) pa_nil)))
        (pss_cons (ps_expr (pe_bm PySem.F.plainAttrs_list PySem.F.slot_list_append PySem.F.type_list_append mt_append (pv 5) (pa_cons (pv 8) pa_nil)))
        (pss_one (ps_set (i := 6) scShort.nd rfl (Or.inl rfl) (pe_fn GF (hr.mono (by decide)) rfl (pa_cons (pv 0) (pa_cons (pe_lst (pa_cons (pv 8) pa_nil)) pa_nil))))))))
      (pss_one (ps_ret (pv 5))))))), ?_⟩
    refine ⟨_, rfl, _, rfl, m, g, gs, rfl, hm, hg, hgs, hgne, hg27, fun H1 d kvs s1 h1 hkv => ?_⟩
    obtain ⟨rs, e1, e2⟩ := id hs
    have e1' : H1 a = some (.lst (rs.map V.ref)) := s1 _ _ e1
    have e2' : Paired (TupAt H1) rs ss := pr_mono (fun r x e => s1 _ _ e) e2
    -- fewest
    refine ⟨_, rfl, ?_⟩
    refine ⟨a, rfl, ⟨_, SqL.of e1'⟩, fun L hL => ?_⟩
    refine lc_list (K := K) (a := a) (xs := rs.map V.ref) (fun j H' => Same H1 H' ∧ H' L = some (.lst (((ss.take j).map fun x => (dist m (goalOf gs) x : Int)).map V.int))) ⟨same_new hL, upd_same⟩ (fun j H' _ ⟨s2, _⟩ => SqL.of (s2 _ _ e1')) ?_ ?_
    · rintro j v H2 hv ⟨s2, h2⟩
      obtain ⟨b, hb, rfl⟩ := map_get hv
      obtain ⟨x, hx, hxt⟩ := pr_getL e2' hb
      have q := DGet.t (k := kp x) (s2 _ _ h1) (s2 _ _ hxt)
      rw [hkv x (hss x (List.mem_of_getElem? hx))] at q
      refine ⟨rfl, tYes_of ⟨_, rfl, _, rfl, d, _, rfl, q, _, h2, ?_, ?_, ?_⟩⟩
      · rw [List.length_map, List.length_map, List.length_take]
        exact line_small (by omega)
      · intro b o e
        rw [upd_ne (ne_of_none e hL)]
        exact s2 b o e
      · rw [upd_same, take_one hx, List.map_append, List.map_append]
        rfl
    rintro H2 ⟨s2, h2⟩
    rw [List.length_map, e2.length, List.take_length] at h2
    refine ⟨L, _, rfl, SqL.of h2, by rw [List.length_map]; exact List.length_pos_iff.mpr hsne, fun mn hmn hle => ?_⟩
    obtain ⟨x0, hx0, rfl⟩ := List.mem_map.mp hmn
    have low : ∀ z ∈ ss, dist m (goalOf gs) x0 ≤ dist m (goalOf gs) z := fun z hz => by
      have := hle _ (List.mem_map.mpr ⟨z, hz, rfl⟩)
      omega
    generalize hk : dist m (goalOf gs) x0 = k at low
    obtain ⟨a1, a2, a3⟩ := soonest_min go hss ⟨x0, hx0, hk⟩ low
    obtain ⟨x1, w1, way, w2, w3⟩ := first_way a2
    have k11 : k ≤ 11 := by
      have := (dist_is go (hss x0 hx0)).2.2
      have := far_le m hm
      omega
    refine ⟨Nat.zero_le _, fun fo hfo => ?_⟩
    have s12 : Same H1 (upd H2 fo (.lst [])) := s2.trans (same_new hfo)
    refine ⟨_, rfl, ?_⟩
    refine ⟨_, rfl, _, rfl, _, rfl, (k : Int), -1, -1, _, rfl, RgC.neg (by omega) (by omega) (by omega) (by omega), ?_⟩
    have en : ((k : Int) - -1).toNat = k + 1 := by omega
    rw [en]
    refine for_rangeC (lo := (k : Int)) (c := -1) (n := k + 1) (fun i σ H' => ∃ (c : Addr) (v7 v8 : Option V) (dn chs rest : List Pair), σ = [some (.int m), some (.ref a), some (.ref g), some (.ref d), some (.int (k : Int)), some (.ref fo), some (.ref c), v7, v8, none, none] ∧
        Same H2 H' ∧ PairsAt H' fo dn ∧ PairsAt H' c chs ∧ c ≠ fo ∧ dn.length = i ∧ chs.length ≤ 27 ∧ way = dn ++ rest ∧ (i ≤ k → Left m (goalOf gs) (k - i) chs rest) ∧ (i = k + 1 → rest = []))
      ⟨a, none, none, [], ss, way, rfl, same_new hfo, pairs_new, hs.mono (s1.trans s12), ?_, rfl, hs27, rfl, fun _ => ⟨hss, hsrt, ⟨x0, hx0, hk⟩, low, w3⟩, fun z => absurd z (by omega)⟩ ?_ ?_
    · rintro rfl
      rw [s2 _ _ e1'] at hfo
      cases hfo
    · rintro i σ H3 hi ⟨c, v7, v8, dn, chs, rest, rfl, s3, pf, ⟨rc, c1, c2⟩, ncf, hdn, hc27, hway, hleft, _⟩
      have hik : i ≤ k := by omega
      have Lf := hleft hik
      have el : (k : Int) + (i : Nat) * (-1) = ((k - i : Nat) : Int) := by omega
      rw [el]
      obtain ⟨x, hx, hxd, hfind, hway2⟩ := left_first go Lf
      refine ⟨_, rfl, c, rfl, ⟨_, SqL.of c1⟩, fun L2 hL2 => ?_⟩
      refine lc_list (K := K) (a := c) (xs := rc.map V.ref) (fun j H' => Same H3 H' ∧ PairsAt H' L2 ((chs.take j).filter fun y => dist m (goalOf gs) y == k - i)) ⟨same_new hL2, pairs_new⟩ (fun j H' _ ⟨s4, _⟩ => SqL.of (s4 _ _ c1)) ?_ ?_
      · rintro j v H4 hv ⟨s4, p4⟩
        obtain ⟨b, hb, rfl⟩ := map_get hv
        obtain ⟨y, hy, hyt⟩ := pr_getL c2 hb
        have hyH : TupAt H4 b y := s4 _ _ hyt
        have q := DGet.t (k := kp y) (s4 _ _ (s3 _ _ (s2 _ _ h1))) hyH
        rw [hkv y (Lf.sub y (List.mem_of_getElem? hy))] at q
        refine ⟨rfl, _, rfl, _, rfl, d, _, rfl, q, _, rfl, rfl, _, rfl, ?_⟩
        have ev : decide (V.int (dist m (goalOf gs) y : Int) = V.int ((k - i : Nat) : Int)) = (dist m (goalOf gs) y == k - i) := by
          rw [dec_int, Bool.eq_iff_iff, beq_iff_eq, beq_iff_eq]
          omega
        show if decide (V.int (dist m (goalOf gs) y : Int) = V.int ((k - i : Nat) : Int)) = true then _ else _
        rw [ev, take_filter hy]
        refine ite2 (fun c3 => ?_) (fun c3 => ?_)
        · rw [if_pos c3]
          refine ⟨_, rfl, grow hL2 s4 p4 ?_ hyH⟩
          have l1 := List.length_filter_le (fun y => dist m (goalOf gs) y == k - i) (chs.take j)
          rw [List.length_take] at l1
          omega
        · rw [if_neg c3, List.append_nil]
          exact ⟨s4, p4⟩
      · rintro H4 ⟨s4, p4⟩
        rw [List.length_map, c2.length, List.take_length] at p4
        refine ⟨L2, _, rfl, p4, ?_, fun r z hz hzm hzl => ?_⟩
        · intro e
          have : x ∈ chs.filter fun y => dist m (goalOf gs) y == k - i := List.mem_filter.mpr ⟨hx, by rw [beq_iff_eq]; exact hxd⟩
          rw [e] at this
          cases this
        obtain rfl : z = x := first_least Lf.srt hfind hzm hzl
        have hzp := Lf.sub z hx
        obtain ⟨rf, f1, f2⟩ := pf.mono s4
        have hfl : (rf.map V.ref).length < sizeLine := by
          rw [List.length_map, f2.length]
          exact line_small (by omega)
        refine ⟨_, rfl, .inl ⟨rfl, _, SqL.of f1⟩, _, rfl, fo, _, _, rfl, rfl, f1, hfl, ?_⟩
        have kt : KeepT H4 (upd H4 fo (.lst (rf.map V.ref ++ [V.ref r]))) := KeepT.upd f1 rfl
        have sf : Same H2 (upd H4 fo (.lst (rf.map V.ref ++ [V.ref r]))) := fun b o e => by
          rw [upd_ne (ne_of_none e hfo)]
          exact s4 _ _ (s3 _ _ e)
        have pf5 : PairsAt (upd H4 fo (.lst (rf.map V.ref ++ [V.ref r]))) fo (dn ++ [z]) := ⟨rf ++ [r], by rw [upd_same, List.map_append]; rfl, Paired.snoc (tups_keep kt f2) (kt _ _ hz)⟩
        refine ⟨_, rfl, _, rfl, len1, fun t ht2 => ?_⟩
        refine ⟨m, t, [z], rfl, hm, pairs_one ht2 (kt _ _ hz), one_in hzp, (by decide : 1 ≤ 27), fun H6 l6 s6 P6 => ?_⟩
        have s56 : Same (upd H4 fo (.lst (rf.map V.ref ++ [V.ref r]))) H6 := (same_new ht2).trans s6
        have n6 : l6 ≠ fo := by
          rintro rfl
          obtain ⟨rq, q1, _⟩ := P6
          obtain ⟨_, q2⟩ := Nw_is q1
          have q3 : (upd (upd H4 l6 (.lst (rf.map V.ref ++ [V.ref r]))) t (.lst [V.ref r])) l6 = some (.lst (rf.map V.ref ++ [V.ref r])) := same_new ht2 _ _ upd_same
          rcases q2 with q2 | ⟨_, q2⟩
          · rw [q3] at q2
            cases q2
          · cases q2
        have fin : ∃ r2, rest = z :: r2 ∧ (i + 1 ≤ k → Left m (goalOf gs) (k - (i + 1)) (nextAll m [z]) r2) ∧ (i + 1 = k + 1 → r2 = []) := by
          rcases Nat.lt_or_ge i k with z1 | z1
          · have e : k - i = (k - (i + 1)) + 1 := by omega
            rw [e] at hxd hway2
            obtain ⟨r2, h3, h4⟩ := left_step go hzp hxd hway2
            exact ⟨r2, h3, fun _ => h4, fun q => absurd q (by omega)⟩
          · have e : k - i = 0 := by omega
            rw [e] at hxd hway2
            exact ⟨[], left_end go hzp hxd hway2, fun q => absurd q (by omega), fun _ => rfl⟩
        obtain ⟨r2, hr2, l1, l2⟩ := fin
        refine ⟨l6, _, _, dn ++ [z], nextAll m [z], r2, rfl, sf.trans s56, pf5.mono s56, P6.mono Nw_sub, n6, by rw [List.length_append, hdn]; rfl, next_len m hm _, by rw [hway, hr2, List.append_assoc]; rfl, l1, l2⟩
    · rintro σ H3 ⟨c, v7, v8, dn, chs, rest, rfl, s3, pf, _, _, hdn, _, hway, _, hend⟩
      rw [hend rfl, List.append_nil] at hway
      subst hway
      exact ⟨_, rfl, kk H3 fo k way (s1.trans (s2.trans s3)) a1 w3 hdn k11 pf⟩
end
end Bm

end
section
set_option Elab.async false
set_option linter.all false
set_option maxRecDepth 100000
set_option maxHeartbeats 2000000
namespace Bm
open PySem PySem.Spec PyProof.Rows L2
open Kri5 (Pair Quantity House pairsOf nextAll)

abbrev sCnt : Stmt := top 47
/-- the dict of pairs and numbers -/
def encN (qs : List (Pair × Nat)) : List (List Key × V) := qs.map fun q => (kp q.1, V.int (q.2 : Int))
theorem kp_dec (a b : Pair) : decide (kp a = kp b) = decide (a = b) := by
  rw [Bool.eq_iff_iff, decide_eq_true_eq, decide_eq_true_eq]
  exact ⟨kp_inj, fun e => by rw [e]⟩
theorem enc_put (qs : List (Pair × Nat)) (x : Pair) (n : Nat) : putK (encN qs) (kp x) (.int (n : Int)) = encN (putN qs x n) := by
  unfold putK encN putN
  have e : ((qs.map fun q => (kp q.1, V.int (q.2 : Int))).any fun kv => decide (kv.1 = kp x)) = qs.any fun q => decide (q.1 = x) := by
    rw [List.any_map]
    exact congrArg qs.any (funext fun q => kp_dec q.1 x)
  rw [e]
  split
  · rw [List.map_map, List.map_map]
    refine List.map_congr_left fun q _ => ?_
    dsimp only [Function.comp]
    by_cases c : q.1 = x
    · rw [if_pos (by rw [c]), if_pos c]
    · rw [if_neg (fun z => c (kp_inj z)), if_neg c]
  · rw [List.map_append]
    rfl
theorem enc_find (qs : List (Pair × Nat)) (x : Pair) : valV (encN qs) (kp x) = ((qs.find? fun q => decide (q.1 = x)).map fun q => q.2).map fun (n : Nat) => V.int (n : Int) := by
  induction qs with
  | nil => rfl
  | cons q qs ih =>
    unfold valV at ih ⊢
    show (((kp q.1, V.int (q.2 : Int)) :: encN qs).find? _).map _ = _
    rw [List.find?_cons, List.find?_cons]
    dsimp only
    rw [kp_dec]
    cases decide (q.1 = x) with
    | true => rfl
    | false => exact ih
theorem enc_val (qs : List (Pair × Nat)) (x : Pair) : (valV (encN qs) (kp x)).getD (.int 0) = .int (valN qs x : Int) := by
  rw [enc_find]
  unfold valN
  cases (qs.find? fun q => decide (q.1 = x)) <;> rfl
theorem enc_at {x : Pair} {c : Nat} : ∀ {qs : List (Pair × Nat)} {i : Nat}, (qs.map (·.1)).Nodup → qs[i]? = some (x, c) → valV (encN qs) (kp x) = some (.int (c : Int))
  | [], i, _, h => by simp at h
  | q :: qs, i, nd, h => by
    rw [List.map_cons, List.nodup_cons] at nd
    rw [enc_find, List.find?_cons]
    cases i with
    | zero =>
      simp at h
      subst h
      rw [decide_eq_true rfl]
      rfl
    | succ i =>
      have h' : qs[i]? = some (x, c) := by simpa using h
      have ne : ¬ q.1 = x := fun e => nd.1 (by rw [e]; exact List.mem_map.mpr ⟨_, List.mem_of_getElem? h', rfl⟩)
      rw [decide_eq_false ne]
      dsimp only
      rw [← enc_find]
      exact enc_at nd.2 h'
theorem enc_len (qs : List (Pair × Nat)) : (encN qs).length = (qs.map (·.1)).length := by
  unfold encN
  rw [List.length_map, List.length_map]
theorem put_new {qs : List (Pair × Nat)} {x : Pair} {n : Nat} (h : x ∉ qs.map (·.1)) : putN qs x n = qs ++ [(x, n)] := by
  unfold putN
  rw [if_neg]
  intro z
  obtain ⟨q, hq, e⟩ := List.any_eq_true.mp z
  exact h (List.mem_map.mpr ⟨q, hq, of_decide_eq_true e⟩)
theorem nd_at {α : Type} : ∀ {l : List α} {i j : Nat} {x : α}, l.Nodup → l[i]? = some x → l[j]? = some x → i = j
  | [], i, j, x, _, h, _ => by simp at h
  | a :: l, i, j, x, nd, h1, h2 => by
    obtain ⟨n1, n2⟩ := List.nodup_cons.mp nd
    cases i with
    | zero =>
      cases j with
      | zero => rfl
      | succ j =>
        simp at h1 h2
        subst h1
        exact absurd (List.mem_of_getElem? h2) n1
    | succ i =>
      cases j with
      | zero =>
        simp at h1 h2
        subst h2
        exact absurd (List.mem_of_getElem? h1) n1
      | succ j =>
        simp at h1 h2
        rw [nd_at n2 h1 h2]
theorem wsum_ones (W : Pair → Nat) (ps : List Pair) : wsum W (ps.map fun x => (x, 1)) = (ps.map W).sum := by
  unfold wsum
  rw [List.map_map]
  exact congrArg List.sum (List.map_congr_left fun x _ => by dsimp only [Function.comp]; rw [Nat.one_mul])
theorem wsum_take (W : Pair → Nat) {qs : List (Pair × Nat)} {i : Nat} {q : Pair × Nat} (h : qs[i]? = some q) : wsum W (qs.take (i + 1)) = wsum W (qs.take i) + q.2 * W q.1 := by
  rw [take_one h]
  exact wsum_snoc W _ q.1 q.2
theorem wsum_all (qs : List (Pair × Nat)) : ((qs.map fun q => (q.2 : Int)).sum) = ((wsum (fun _ => 1) qs : Nat) : Int) := by
  unfold wsum
  induction qs with
  | nil => rfl
  | cons q qs ih =>
    rw [List.map_cons, List.map_cons, List.sum_cons, List.sum_cons, ih, Nat.mul_one]
    omega
theorem sum_take (W : Pair → Nat) {l : List Pair} {i : Nat} {x : Pair} (h : l[i]? = some x) : ((l.take (i + 1)).map W).sum = ((l.take i).map W).sum + W x := by
  rw [take_one h, List.map_append, List.sum_append]
  simp
/-- a dict of pairs and numbers: no pair twice, all pairs of m marks, and what they weigh -/
structure Cnt (m : Nat) (W : Pair → Nat) (total : Nat) (qs : List (Pair × Nat)) : Prop where
  nd : (qs.map (·.1)).Nodup
  sub : ∀ x ∈ qs.map (·.1), x ∈ pairsOf m
  sum : wsum W qs = total
theorem Cnt.len {m : Nat} (hm : m ≤ 4) {W : Pair → Nat} {total : Nat} {qs : List (Pair × Nat)} (c : Cnt m W total qs) : (encN qs).length < sizeLine := by
  have := pairs_nodup_len hm c.nd c.sub
  rw [enc_len]
  exact line_small (by omega)
theorem Cnt.put {m : Nat} {W : Pair → Nat} {total : Nat} {qs : List (Pair × Nat)} (c : Cnt m W total qs) {y : Pair} (hy : y ∈ pairsOf m) (n : Nat) : Cnt m W (total + n * W y) (putN qs y (valN qs y + n)) :=
  ⟨put_nd c.nd, fun x hx => (put_mem hx).elim (c.sub x) fun e => by rw [e]; exact hy, by rw [wsum_put W c.nd, c.sum]⟩
def spCnt : Sp := fun vs H Q _ => ∃ (m : Nat) (a : Addr) (ps : List Pair) (k : Nat), vs = [.int m, .ref a, .int k] ∧ m ≤ 4 ∧ PairsAt H a ps ∧ ps.Sublist (pairsOf m) ∧ k ≤ 6 ∧ ∀ H' : Hp, Same H H' → Q (.int (((ps.map (Kri5.runs m k)).sum : Nat) : Int)) H'
section
variable {P : Program} {w : World} {K : PySem.W.Frag} {mg : Str → Option Value} {base : Heap} {aD C : Addr}
theorem scCnt : FnScope ["marks", "starts", "moments", "ending", "start", "moment", "further", "pair", "later"] ["marks", "starts", "moments"] (defScope sCnt) := ⟨rfl, rfl, rfl, by decide +kernel, rfl, by decide +kernel, by decide +kernel⟩
theorem ok_cnt {f : Addr} {fd : FuncData} (D : Def K mg "count_runs" sCnt ["marks", "starts", "moments"] f fd) (T : Dirs K mg aD) (hsum : mg "sum" = none) (GF : Fn P w K mg base "following_pairs" ["marks", "pairs"] 4 spFol) : FnOk P w K mg base CX0 5 f fd ["marks", "starts", "moments"] spCnt := by
  refine D.fn.ok scCnt (fun vs H Q E h => ?_) (fun cdv A outer s H vs Q E hr h => ?_)
  · obtain ⟨m, a, ps, n, rfl, _⟩ := h
    rfl
  · obtain ⟨m, a, ps, n, rfl, hm, ⟨rs, e1, e2⟩, hsub, hn, kk⟩ := h
    have hnd : ps.Nodup := hsub.nodup (pairsOf_nodup m)
    have hps : ∀ x ∈ ps, x ∈ pairsOf m := fun x hx => hsub.subset hx
    refine ⟨_, pss_cons (ps_set (i := 3) scCnt.nd rfl (Or.inl rfl) pe_dnewT)
      (pss_cons (ps_for PassesOwn.never rfl (pi_list (pv 1)) (pg_name (i := 4) scCnt.nd rfl (Or.inl rfl)) (pss_one (ps_dput (hu_of hr) (pv 3) (pv 4) pe_int rfl)))
      (pss_cons (ps_for PassesOwn.never rfl (pi_range1 rfl T.range (pa_cons (pv 2) pa_nil)) (pg_name (i := 5) scCnt.nd rfl (Or.inl rfl))
        (pss_cons (ps_set (i := 6) scCnt.nd rfl (Or.inl rfl) pe_dnewT)
        (pss_cons (ps_lock (ps_for PassesOwn.never rfl (pi_keys (pv 3)) (pg_name (i := 7) scCnt.nd rfl (Or.inl rfl))
          (pss_one (ps_for PassesOwn.never rfl (pi_list (pe_fn GF hr rfl (pa_cons (pv 0) (pa_cons (pe_lst (pa_cons (pv 7) pa_nil)) pa_nil)))) (pg_name (i := 8) scCnt.nd rfl (Or.inl rfl))
            (pss_one (ps_dput (hu_of hr) (pv 6) (pv 8) (pe_op op_add (pe_dget2 (hu_of hr) (pv 6) (pv 8) pe_int ⟨rfl, rfl, rfl, rfl⟩) (pe_dget (hu_of hr) (pv 3) (pv 7) (fun _ _ => rfl))) rfl))))))
        (pss_one (ps_set (i := 3) scCnt.nd rfl (Or.inl rfl) (pv 6))))))
      (pss_one (ps_ret (pe_sumVals rfl rfl hsum (pv 3)))))), ?_⟩
    intro e he
    refine ⟨_, rfl, a, rfl, ⟨_, SqL.of (same_new he _ _ e1)⟩, for_list (K := K) (a := a) (xs := rs.map V.ref) (fun i σ H' => ∃ v4 : Option V, σ = [some (.int m), some (.ref a), some (.int n), some (.ref e), v4, none, none, none, none] ∧ Same H H' ∧ H' e = some (.dT (encN ((ps.take i).map fun x => (x, 1)))))
      ⟨none, rfl, same_new he, upd_same⟩ (fun i σ H' _ ⟨_, _, s1, _⟩ => SqL.of (s1 _ _ e1)) ?_ ?_⟩
    · rintro i y σ H1 hy ⟨v4, rfl, s1, h1⟩
      obtain ⟨b, hb, rfl⟩ := map_get hy
      obtain ⟨x, hx, hxt⟩ := pr_getL e2 hb
      have keys : ((ps.take i).map fun x => ((x, 1) : Pair × Nat)).map (·.1) = ps.take i := by
        rw [List.map_map]
        exact (List.map_congr_left fun x _ => rfl).trans (List.map_id _)
      have hl : (encN ((ps.take i).map fun x => ((x, 1) : Pair × Nat))).length < sizeLine := by
        rw [enc_len, keys, List.length_take]
        have := hsub.length_le
        rw [pairsOf_length] at this
        exact line_small (by omega)
      refine ⟨_, rfl, _, rfl, e, _, rfl, DPut.t (k := kp x) h1 (s1 _ _ hxt) hl, ?_⟩
      refine ⟨_, rfl, fun b o eb => ?_, ?_⟩
      · rw [upd_ne (ne_of_none eb he)]
        exact s1 b o eb
      · have hxn : x ∉ ps.take i := by
          intro hm'
          obtain ⟨j, hj⟩ := List.getElem?_of_mem hm'
          rw [List.getElem?_take] at hj
          split at hj
          · rename_i hji
            exact absurd (nd_at hnd hj hx) (by omega)
          · cases hj
        rw [upd_same]
        have ep := enc_put ((ps.take i).map fun x => ((x, 1) : Pair × Nat)) x 1
        rw [put_new (by rw [keys]; exact hxn)] at ep
        have et : (ps.take (i + 1)).map (fun x => ((x, 1) : Pair × Nat)) = (ps.take i).map (fun x => ((x, 1) : Pair × Nat)) ++ [(x, 1)] := by
          rw [take_one hx, List.map_append]
          rfl
        rw [et]
        exact congrArg (fun z => some (HO.dT z)) ep
    rintro σ H1 ⟨v4, rfl, s1, h1⟩
    rw [List.length_map, e2.length, List.take_length] at h1
    have keys : (ps.map fun x => ((x, 1) : Pair × Nat)).map (·.1) = ps := by
      rw [List.map_map]
      exact (List.map_congr_left fun x _ => rfl).trans (List.map_id _)
    have c0 : Cnt m (Kri5.runs m n) ((ps.map (Kri5.runs m n)).sum) (ps.map fun x => (x, 1)) := ⟨by rw [keys]; exact hnd, fun x hx => hps x (by rw [keys] at hx; exact hx), wsum_ones _ _⟩
    generalize (ps.map (Kri5.runs m n)).sum = total at c0 kk
    refine ⟨_, rfl, _, rfl, by omega, by omega, ?_⟩
    rw [Int.toNat_natCast]
    refine for_range (lo := 0) (n := n) (fun i σ H' => ∃ (e : Addr) (v4 v5 v6 v7 v8 : Option V) (qs : List (Pair × Nat)), σ = [some (.int m), some (.ref a), some (.int n), some (.ref e), v4, v5, v6, v7, v8] ∧ Same H H' ∧ H e = none ∧ H' e = some (.dT (encN qs)) ∧ Cnt m (Kri5.runs m (n - i)) total qs)
      ⟨e, _, _, _, _, _, _, rfl, s1, he, h1, c0⟩ ?_ ?_
    · rintro i σ H2 hi ⟨e, v4, v5, v6, v7, v8, qs, rfl, s2, he2, h2, c2⟩
      intro fr hfr
      have hfe : fr ≠ e := by
        rintro rfl
        rw [h2] at hfr
        cases hfr
      have h3 : (upd H2 fr (.dT [])) e = some (.dT (encN qs)) := same_new hfr _ _ h2
      have hfrH : H fr = none := s2.free hfr
      refine ⟨e, _, h3, True.intro, fun od => ?_⟩
      have W0 : ∀ x, Kri5.runs m (n - i) x = ((nextAll m [x]).map (Kri5.runs m (n - (i + 1)))).sum := fun x => by
        rw [show n - i = (n - (i + 1)) + 1 by omega]
        exact runs_step m _ x
      have s3 : Same H (upd (upd H2 fr (.dT [])) e (.frz od (.dT (encN qs)))) := fun b o eb => by
        rw [upd_ne (ne_of_none eb he2), upd_ne (ne_of_none eb hfrH)]
        exact s2 b o eb
      have f3 : (upd (upd H2 fr (.dT [])) e (.frz od (.dT (encN qs)))) fr = some (.dT (encN [])) := by
        rw [upd_ne hfe, upd_same]
        rfl
      refine ⟨_, rfl, e, od, rfl, .inr ⟨_, upd_same, ?_⟩⟩
      refine for_keysT (d := e) (o := od) (kvs := encN qs) (fun j σ H' => ∃ (v7 v8 : Option V) (fs : List (Pair × Nat)), σ = [some (.int m), some (.ref a), some (.int n), some (.ref e), v4, some (.int (0 + (i : Int))), some (.ref fr), v7, v8] ∧ Same H H' ∧ H' e = some (.frz od (.dT (encN qs))) ∧ H' fr = some (.dT (encN fs)) ∧
          Cnt m (Kri5.runs m (n - (i + 1))) (wsum (Kri5.runs m (n - i)) (qs.take j)) fs)
        ⟨_, _, [], rfl, s3, upd_same, f3, ⟨List.nodup_nil, fun x hx => (by cases hx), rfl⟩⟩ (fun j σ H' ⟨_, _, _, _, _, q, _⟩ => q) ?_ ?_
      · -- a pair
        rintro j kx v q σ H4 hkv hq ⟨v7, v8, fs, rfl, s4, g4, f4, c4⟩
        obtain ⟨⟨x, c⟩, hxc, ekv⟩ := map_get hkv
        obtain ⟨rfl, rfl⟩ := Prod.mk.inj ekv
        have hqx : TupAt H4 q x := hq
        have hxp : x ∈ pairsOf m := c2.sub x (List.mem_map.mpr ⟨_, List.mem_of_getElem? hxc, rfl⟩)
        refine ⟨_, rfl, _, rfl, len1, fun t ht => ?_⟩
        refine ⟨m, t, [x], rfl, hm, pairs_one ht hqx, one_in hxp, (by decide : 1 ≤ 27), fun H5 l5 s5 P5 => ?_⟩
        have s45 : Same H4 H5 := (same_new ht).trans s5
        obtain ⟨rl, a1, a2⟩ := P5.mono Nw_sub
        refine ⟨l5, rfl, ⟨_, SqL.of a1⟩, for_list (K := K) (a := l5) (xs := rl.map V.ref) (fun l σ H' => ∃ (v8 : Option V) (fs : List (Pair × Nat)), σ = [some (.int m), some (.ref a), some (.int n), some (.ref e), v4, some (.int (0 + (i : Int))), some (.ref fr), some (.ref q), v8] ∧ Same H H' ∧ H' e = some (.frz od (.dT (encN qs))) ∧ H' fr = some (.dT (encN fs)) ∧
            H' l5 = some (.lst (rl.map V.ref)) ∧ Paired (TupAt H') rl (nextAll m [x]) ∧ TupAt H' q x ∧ Cnt m (Kri5.runs m (n - (i + 1))) (wsum (Kri5.runs m (n - i)) (qs.take j) + c * (((nextAll m [x]).take l).map (Kri5.runs m (n - (i + 1)))).sum) fs)
          ⟨v8, fs, rfl, s4.trans s45, s45 _ _ g4, s45 _ _ f4, a1, a2, s45 _ _ hqx, by simpa using c4⟩ (fun l σ H' _ ⟨_, _, _, _, _, _, z, _⟩ => SqL.of z) ?_ ?_⟩
        · -- further[later] = ..
          rintro l yv σ H6 hyv ⟨v8, fs, rfl, s6, g6, f6, b6, p6, q6, c6⟩
          obtain ⟨b, hb, rfl⟩ := map_get hyv
          obtain ⟨y, hy, hyt⟩ := pr_getL p6 hb
          have hyp : y ∈ pairsOf m := (mem_nx.mp (List.mem_of_getElem? hy)).1
          refine ⟨_, rfl, fr, rfl, .inr ⟨_, .inl f6⟩, _, rfl, _, DGet.t (k := kp y) f6 hyt, _, rfl, _, rfl, e, _, rfl, .inr ⟨_, kp x, q, .inr ⟨od, g6⟩, rfl, q6, (enc_at c2.nd hxc).symm⟩, _, _, enc_val fs y, rfl, ?_⟩
          refine ⟨_, rfl, _, rfl, fr, _, rfl, DPut.t (k := kp y) f6 hyt (c6.len hm), ?_⟩
          have kt := KeepT.upd (a := fr) (o := .dT (putK (encN fs) (kp y) (.int ((valN fs y : Int) + (c : Int))))) f6 rfl
          have ev : (valN fs y : Int) + (c : Int) = ((valN fs y + c : Nat) : Int) := by omega
          refine ⟨_, putN fs y (valN fs y + c), rfl, fun b o eb => ?_, ?_, ?_, ?_, tups_keep kt p6, kt _ _ q6, ?_⟩
          · rw [upd_ne (ne_of_none eb hfrH)]
            exact s6 b o eb
          · rw [upd_ne (Ne.symm hfe)]
            exact g6
          · rw [upd_same]
            show some (HO.dT (putK (encN fs) (kp y) (.int ((valN fs y : Int) + (c : Int))))) = _
            rw [ev, enc_put]
          · rw [upd_ne (ne_of b6 f6 (by intro z; cases z))]
            exact b6
          · rw [sum_take _ hy, Nat.mul_add, ← Nat.add_assoc]
            exact c6.put hyp c
        · rintro σ H6 ⟨v8, fs, rfl, s6, g6, f6, b6, p6, q6, c6⟩
          rw [List.length_map, p6.length, List.take_length, ← W0 x] at c6
          refine ⟨_, _, fs, rfl, s6, g6, f6, ?_⟩
          rw [wsum_take _ hxc]
          exact c6
      · rintro σ H4 ⟨v7, v8, fs, rfl, s4, g4, f4, c4⟩
        refine ⟨g4, _, rfl, ?_⟩
        have el : (encN qs).length = qs.length := by unfold encN; exact List.length_map _
        rw [el, List.take_length, c2.sum] at c4
        refine ⟨fr, _, _, _, _, _, fs, rfl, fun b o eb => ?_, hfrH, ?_, c4⟩
        · rw [upd_ne (ne_of_none eb he2)]
          exact s4 b o eb
        · rw [upd_ne hfe]
          exact f4
    · rintro σ H2 ⟨e, v4, v5, v6, v7, v8, qs, rfl, s2, he2, h2, c2⟩
      refine ⟨_, rfl, e, _, qs.map (fun q => (q.2 : Int)), rfl, h2, ?_, ?_⟩
      · unfold encN
        rw [List.map_map, List.map_map]
        rfl
      · rw [wsum_all]
        have q := c2.sum
        rw [Nat.sub_self] at q
        have e1 : wsum (Kri5.runs m 0) qs = wsum (fun _ => 1) qs := rfl
        rw [e1] at q
        rw [q]
        exact kk H2 s2
end
end Bm

end
section
set_option linter.all false
set_option maxRecDepth 100000
namespace Bm
open PySem
/-- one more int into the table of a set, tokens left out -/
def addK (st : Array (Int × Value) × SetTable) (k : Int) : Array (Int × Value) × SetTable :=
  let L := layNew st.2 st.1 k (.int k 0)
  if (!L.2.2.1 && L.2.1.tooFull) = true then ((relayAll L.2.1 L.1 (SetTable.grown L.1.size)).1, (relayAll L.2.1 L.1 (SetTable.grown L.1.size)).2.1) else (L.1, L.2.1)
def build (led : Bool) (ks : List Int) : Array (Int × Value) × SetTable := ks.foldl addK (#[], .fresh 0 0 led)
/-- all rows that leave some out -/
def subs : List Int → List (List Int)
  | [] => [[]]
  | a :: l => subs l ++ (subs l).map (a :: ·)
def walkOk : List Nat → Nat → Array Nat → Bool
  | [], i, xs => decide (xs.size ≤ SetTable.below xs i)
  | p :: ps, i, xs => true
/-- the places rise, so the walk from slot to slot meets each in its turn -/
def walks (xs : Array Nat) : Bool := (List.range xs.size).all fun i => decide (SetTable.below xs (if i = 0 then 0 else xs.getD (i - 1) 0 + 1) = i)
def chk (led : Bool) (ks : List Int) : Bool :=
  let st := build led ks
  st.2.plain && (st.2.led == led) && walks st.2.place && decide (SetTable.below st.2.place (st.2.place.getD (st.2.place.size - 1) 0 + 1) = st.2.place.size)
set_option maxHeartbeats 0 in
theorem chk_all : ((subs [0, 1, 2, 3, 4, 5, 6, 7, 8]).all fun ks => ks.isEmpty || (chk true ks && chk false ks)) = true := by decide +kernel
end Bm

end
section
set_option Elab.async false
set_option linter.all false
set_option maxRecDepth 100000
set_option maxHeartbeats 2000000
namespace Bm
open PySem PySem.Spec PyProof.Rows L2

def er : Value → Value
  | .int k _ => .int k 0
  | v => v
def erE (e : Int × Value) : Int × Value := (e.1, er e.2)
theorem insert_map {α β : Type} (f : α → β) (es : Array α) (p : Nat) (x : α) : (SetTable.insertAt es p x).map f = SetTable.insertAt (es.map f) p (f x) := by
  unfold SetTable.insertAt
  simp [Array.map_append, Array.map_extract]
theorem insert_size {α : Type} (es : Array α) (p : Nat) (x : α) {β : Type} (es' : Array β) (x' : β) (h : es.size = es'.size) : (SetTable.insertAt es p x).size = (SetTable.insertAt es' p x').size := by
  unfold SetTable.insertAt
  simp [h]
theorem lay_er (t : SetTable) (es : Array (Int × Value)) (h : Int) (x : Value) : layNew t (es.map erE) h (er x) = ((layNew t es h x).1.map erE, (layNew t es h x).2) := by
  unfold layNew
  cases t.freeSlot h with
  | none => simp [erE]
  | some q =>
    obtain ⟨slot, wd⟩ := q
    have e : SetTable.insertAt (es.map erE) (t.put slot).2 (h, er x) = (SetTable.insertAt es (t.put slot).2 (h, x)).map erE := (insert_map erE es (t.put slot).2 (h, x)).symm
    simp only [e, Array.size_map]
theorem relay_er (t : SetTable) (es : Array (Int × Value)) (n : Nat) : relayAll t (es.map erE) n = ((relayAll t es n).1.map erE, (relayAll t es n).2) := by
  unfold relayAll
  have e0 : (es.map erE).map (·.1) = es.map (·.1) := by
    rw [Array.map_map]
    rfl
  rw [e0, Array.size_map]
  cases t.relaid (es.map (·.1)) n with
  | none => rfl
  | some q =>
    obtain ⟨t', order⟩ := q
    have e : order.filterMap ((es.map erE)[·]?) = (order.filterMap (es[·]?)).map erE := by
      rw [Array.map_filterMap]
      congr 1
      funext i
      rw [Array.getElem?_map]
    simp only [e, Array.size_map]
    split <;> rfl
/-- the set at a holds the ints ks, put to it in this order -/
structure SetX (h : Heap) (a : Addr) (led : Bool) (ks : List Int) : Prop where
  ex : ∃ o es ep t, h.get? a = some o ∧ o.ExactSet ∧ o.data = .set es ep t ∧ build led ks = (es.map erE, t) ∧ (∀ e ∈ es.toList, ∃ tok, e.2 = Value.int e.1 tok) ∧ (es.toList.map (·.1)).Perm ks ∧ t.fits es.size = true
  small : ∀ k ∈ ks, 0 ≤ k ∧ k ≤ 8
theorem hash_small {k : Int} (h : 0 ≤ k ∧ k ≤ 8) : hashInt k = k := by
  have : k = 0 ∨ k = 1 ∨ k = 2 ∨ k = 3 ∨ k = 4 ∨ k = 5 ∨ k = 6 ∨ k = 7 ∨ k = 8 := by omega
  rcases this with rfl | rfl | rfl | rfl | rfl | rfl | rfl | rfl | rfl <;> rfl
section
variable {prog : Program} {w : World} {A : Around} {E : Value → Shared → Prop} {s : Shared}
theorem elems_of {es : List (Int × Value)} {ks : List Int} (h1 : ∀ e ∈ es, ∃ tok, e.2 = Value.int e.1 tok) (h2 : (es.map (·.1)).Perm ks) (h3 : ∀ k ∈ ks, 0 ≤ k ∧ k ≤ 8) : ElemsOf (intKind prog w) es := fun e he => by
  obtain ⟨tok, e2⟩ := h1 e he
  have hk : e.1 ∈ ks := h2.mem_iff.mp (List.mem_map.mpr ⟨e, he, rfl⟩)
  refine ⟨⟨e.1, ?_, (hash_small (h3 _ hk)).symm⟩, by rw [e2]; rfl⟩
  rw [e2]
  exact intKind_is _ _ _ _
theorem find_old {es : List (Int × Value)} {k : Int} (h1 : ∀ e ∈ es, ∃ tok, e.2 = Value.int e.1 tok) : (es.findIdx? fun e => (intKind prog w).is k e.2).isSome = decide (k ∈ es.map (·.1)) := by
  rw [Bool.eq_iff_iff, decide_eq_true_eq, List.findIdx?_isSome, List.any_eq_true]
  constructor
  · rintro ⟨e, he, q⟩
    obtain ⟨tok, e2⟩ := h1 e he
    rw [e2] at q
    have : k = e.1 := by
      have q' : Value.isInt k (Value.int e.1 tok) = true := q
      obtain ⟨t2, e3⟩ := Value.isInt_shape q'
      injection e3 with e4 _
      exact e4.symm
    rw [this]
    exact List.mem_map.mpr ⟨e, he, rfl⟩
  · intro hm
    obtain ⟨e, he, rfl⟩ := List.mem_map.mp hm
    obtain ⟨tok, e2⟩ := h1 e he
    exact ⟨e, he, by rw [e2]; exact intKind_is _ _ _ _⟩
theorem set_add_old {a : Addr} {led : Bool} {ks : List Int} {k : Int} {tok : Tok} {Q : Bool → Shared → Prop} (S : SetX s.heap a led ks) (hk : k ∈ ks) (hlen : ks.length ≤ 100) (h : Q false s) : wpAny (model prog w) A (setAddHashed a (.int k tok) (hashInt k)) Q E s := by
  obtain ⟨o, es, ep, t, go, gx, gd, gb, gi, gp, gf⟩ := S.ex
  have gel : ElemsOf (intKind prog w) es.toList := elems_of gi gp S.small
  have gsz : es.size < scanBound := by
    have := gp.length_eq
    rw [List.length_map, Array.length_toList] at this
    unfold scanBound
    omega
  unfold setAddHashed setAddHashedIn
  refine wpAny_holding (wpAny_bind (wpAny_setState_of go gd gf ?_))
  dsimp only
  rw [byScan_of (knd := intKind prog w) rfl gsz gel]
  simp only [↓reduceIte]
  unfold setAddByScan
  refine wpAny_bind (wpAny_bind (wpAny_rule (wpAny_bind (wpAny_setScan_of (knd := intKind prog w) (k := k) (intKind_is _ _ _ _) go gd gf gel ?_))))
  have fo := find_old (prog := prog) (w := w) (k := k) gi
  rw [decide_eq_true (gp.mem_iff.mpr hk)] at fo
  cases hr : List.findIdx? (fun e => (intKind prog w).is k e.2) es.toList with
  | none => rw [hr] at fo; cases fo
  | some j => exact wpAny_pure (wpAny_pure h)
theorem build_snoc (led : Bool) (ks : List Int) (k : Int) : build led (ks ++ [k]) = addK (build led ks) k := by
  unfold build
  rw [List.foldl_append]
  rfl
theorem put_ints {es es1 : Array (Int × Value)} {k : Int} {tok : Tok} (h1 : ∀ e ∈ es.toList, ∃ tok, e.2 = Value.int e.1 tok) (hp : List.Perm es1.toList (es.push (k, .int k tok)).toList) : ∀ e ∈ es1.toList, ∃ tok, e.2 = Value.int e.1 tok := fun e he => by
  have := hp.mem_iff.mp he
  rw [Array.toList_push, List.mem_append, List.mem_singleton] at this
  rcases this with q | q
  · exact h1 e q
  · rw [q]
    exact ⟨tok, rfl⟩
theorem put_keys2 {es es1 : Array (Int × Value)} {k : Int} {tok : Tok} {ks : List Int} (h1 : (es.toList.map (·.1)).Perm ks) (hp : List.Perm es1.toList (es.push (k, .int k tok)).toList) : (es1.toList.map (·.1)).Perm (ks ++ [k]) := by
  have q := hp.map (·.1)
  rw [Array.toList_push, List.map_append] at q
  exact q.trans (List.Perm.append_right _ h1)
/-- what the last part of an add leaves at a -/
def Laid (h : Heap) (a : Addr) (o : Obj) (es1 : Array (Int × Value)) (t1 : SetTable) (wd : Bool) : Prop :=
  ∃ es2 ep2 t2, h.get? a = some { o with data := .set es2 ep2 t2 } ∧ es2.toList.Perm es1.toList ∧ t2.fits es2.size = true ∧
    (es2.map erE, t2) = if (!wd && t1.tooFull) = true then ((relayAll t1 (es1.map erE) (SetTable.grown (es1.map erE).size)).1, (relayAll t1 (es1.map erE) (SetTable.grown (es1.map erE).size)).2.1) else (es1.map erE, t1)
theorem store_at {h : Heap} {a : Addr} {o : Obj} {es es' : Array (Int × Value)} {ep : Nat} {t t' : SetTable} (g : h.get? a = some o) (gd : o.data = .set es ep t) :
    (h.update a (Obj.putSet es' t')).get? a = some { o with data := .set es' (ep + 1) t' } := by
  have q := putSet_of es' t' gd
  rw [← q]
  exact Heap.get?_update_self (Obj.putSet es' t') g (by rw [q]; rfl)
theorem tail_put {gw : Bool → Sem Unit} (gwok : ∀ (b : Bool) (s' : Shared) (Z : Unit → Shared → Prop), Z () s' → wpAny (model prog w) A (gw b) Z E s')
    {a : Addr} {o : Obj} {es es1 : Array (Int × Value)} {ep : Nat} {t t1 : SetTable} {wd : Bool} {R : Option Bool → Shared → Prop}
    (go : s.heap.get? a = some o) (gd : o.data = .set es ep t) (room : es1.size < scanBound) (fit : t1.fits es1.size = true)
    (fin : ∀ h', Heap.SameBut a s.heap h' → Laid h' a o es1 t1 wd → R (some true) { s with heap := h' }) :
    wpAny (model prog w) A (do
        storeSet a es1 t1
        if (!wd && t1.tooFull) = true then do
            gw (relayAll t1 es1 (SetTable.grown es1.size)).2.2
            storeSet a (relayAll t1 es1 (SetTable.grown es1.size)).1 (relayAll t1 es1 (SetTable.grown es1.size)).2.1
            pure (some true)
          else pure (some true)) R E s := by
  refine wpAny_bind (wpAny_storeSet_of go gd ?_ (fits_of_scanBound room))
  have g1 := store_at (es' := es1) (t' := t1) go gd
  have b1 := Heap.SameBut.update s.heap a (Obj.putSet es1 t1)
  by_cases full : (!wd && t1.tooFull) = true
  · rw [if_pos full]
    have er2 := relay_er t1 es1 (SetTable.grown es1.size)
    have pe := relayAll_perm t1 es1 (SetTable.grown es1.size)
    have fr := relayAll_fits t1 es1 (SetTable.grown es1.size)
    generalize relayAll t1 es1 (SetTable.grown es1.size) = Z at er2 pe fr ⊢
    have sz : Z.1.size = es1.size := by rw [← Array.length_toList, pe.length_eq, Array.length_toList]
    refine wpAny_bind (gwok _ _ _ (wpAny_bind (wpAny_storeSet_of g1 rfl ?_ (fits_of_scanBound (by rw [sz]; exact room)))))
    refine wpAny_pure (fin _ (b1.trans (Heap.SameBut.update _ a _)) ⟨Z.1, _, Z.2.1, store_at (o := { o with data := .set es1 (ep + 1) t1 }) g1 rfl, pe, fr, ?_⟩)
    rw [if_pos full, Array.size_map, er2]
  · rw [if_neg full]
    exact wpAny_pure (fin _ b1 ⟨es1, _, t1, g1, List.Perm.refl _, fit, by rw [if_neg full]⟩)
theorem set_add_new {a : Addr} {led : Bool} {ks : List Int} {k : Int} {tok : Tok} {Q : Bool → Shared → Prop} (S : SetX s.heap a led ks) (hk : k ∉ ks) (hk8 : 0 ≤ k ∧ k ≤ 8) (hlen : ks.length ≤ 100)
    (h : ∀ h', Heap.SameBut a s.heap h' → SetX h' a led (ks ++ [k]) → Q true { s with heap := h' }) : wpAny (model prog w) A (setAddHashed a (.int k tok) (hashInt k)) Q E s := by
  obtain ⟨o, es, ep, t, go, gx, gd, gb, gi, gp, gf⟩ := S.ex
  have gel : ElemsOf (intKind prog w) es.toList := elems_of gi gp S.small
  have gn : es.size = ks.length := by
    have := gp.length_eq
    rw [List.length_map, Array.length_toList] at this
    exact this
  have gsz : es.size < scanBound := by unfold scanBound; omega
  have small' : ∀ x ∈ ks ++ [k], 0 ≤ x ∧ x ≤ 8 := fun x hx => by
    rcases List.mem_append.mp hx with z | z
    · exact S.small x z
    · rw [List.mem_singleton.mp z]
      exact hk8
  unfold setAddHashed setAddHashedIn
  refine wpAny_holding (wpAny_bind (wpAny_setState_of go gd gf ?_))
  dsimp only
  rw [byScan_of (knd := intKind prog w) rfl gsz gel]
  simp only [↓reduceIte]
  unfold setAddByScan
  refine wpAny_bind (wpAny_bind (wpAny_rule (wpAny_bind (wpAny_setScan_of (knd := intKind prog w) (k := k) (intKind_is _ _ _ _) go gd gf gel ?_))))
  have fo := find_old (prog := prog) (w := w) (k := k) gi
  rw [decide_eq_false (fun q => hk (gp.mem_iff.mp q))] at fo
  cases hr : List.findIdx? (fun e => (intKind prog w).is k e.2) es.toList with
  | some j => rw [hr] at fo; cases fo
  | none =>
    dsimp only
    rw [hash_small hk8]
    have bs : build led (ks ++ [k]) = addK (es.map erE, t) k := by rw [build_snoc, gb]
    have le := lay_er t es k (.int k tok)
    have hperm := layNew_perm t es k (.int k tok)
    have hfits := layNew_fits t es k (.int k tok)
    generalize hL : layNew t es k (.int k tok) = L at le hperm hfits ⊢
    obtain ⟨es1, t1, wd, gave⟩ := L
    dsimp only at le hperm hfits ⊢
    have le' : layNew t (es.map erE) k (.int k 0) = (es1.map erE, t1, wd, gave) := le
    have gi1 := put_ints gi hperm
    have gp1 := put_keys2 gp hperm
    have gsz1 : es1.size < scanBound := by
      have := gp1.length_eq
      rw [List.length_map, Array.length_toList, List.length_append] at this
      simp only [List.length_cons, List.length_nil] at this
      unfold scanBound
      omega
    have fin : ∀ h', Heap.SameBut a s.heap h' → Laid h' a o es1 t1 wd → Q true { s with heap := h' } := by
      rintro h' sb ⟨es2, ep2, t2, g2, p2, f2, e2⟩
      refine h h' sb ⟨⟨_, es2, ep2, t2, g2, gx, rfl, ?_, fun e he => gi1 e (p2.mem_iff.mp he), (p2.map _).trans gp1, f2⟩, small'⟩
      rw [bs, e2]
      unfold addK
      dsimp only
      rw [le']
    refine wpAny_bind ?_
    · cases gave <;> first | refine wpAny_pure ?_ | refine wpAny_rule ?_
      all_goals
        by_cases hpl : t1.plain = true
        · rw [if_pos hpl, hashByValue_scannable 8 (x := .int k tok) rfl]
          refine wpAny_bind (wpAny_pure ?_)
          refine tail_put ?_ go gd gsz1 hfits ?_
          · intro b s' Z hq; cases b <;> first | exact wpAny_pure hq | exact wpAny_rule hq
          · intro h' sb L
            exact wpAny_pure (fin h' sb L)
        · rw [if_neg hpl]
          refine wpAny_bind (wpAny_pure ?_)
          refine tail_put ?_ go gd gsz1 hfits ?_
          · intro b s' Z hq; cases b <;> first | exact wpAny_pure hq | exact wpAny_rule hq
          · intro h' sb L
            exact wpAny_pure (fin h' sb L)
end
end Bm

end
section
set_option Elab.async false
set_option linter.all false
set_option maxRecDepth 100000
set_option maxHeartbeats 2000000
namespace Bm
open PySem PySem.Spec PyProof.Rows L2

/-! ### the order in which a set is walked -/
theorem erase_perm {α : Type} : ∀ (l : List α) (i : Nat) (h : i < l.length), (l[i] :: l.eraseIdx i).Perm l
  | a :: l, 0, _ => List.Perm.refl _
  | a :: l, i + 1, h => (List.Perm.swap a (l[i]'(Nat.lt_of_succ_lt_succ h)) _).trans (List.Perm.cons a (erase_perm l i (Nat.lt_of_succ_lt_succ h)))
theorem pick_go {α : Type} (next : Nat → Nat) : ∀ (fuel k : Nat) (left : List α) (out : Array α), left.length ≤ fuel → (pickOrder.go next fuel k left out).toList.Perm (out.toList ++ left)
  | 0, k, left, out, h => by
    have : left = [] := List.length_eq_zero_iff.mp (by omega)
    subst this
    simp [pickOrder.go]
  | fuel + 1, k, left, out, h => by
    unfold pickOrder.go
    cases hx : left[next k % left.length]? with
    | none =>
      dsimp only
      have hn : left = [] := by
        cases left with
        | nil => rfl
        | cons a l =>
          rw [List.getElem?_eq_none_iff] at hx
          exact absurd (Nat.mod_lt (next k) (show 0 < (a :: l).length by simp)) (by omega)
      subst hn
      simp
    | some x =>
      dsimp only
      obtain ⟨hlt, hg⟩ := List.getElem?_eq_some_iff.mp hx
      refine (pick_go next fuel (k + 1) _ _ ?_).trans ?_
      · rw [List.length_eraseIdx_of_lt hlt]
        omega
      · rw [Array.toList_push, List.append_assoc]
        refine List.Perm.append_left _ ?_
        rw [← hg]
        exact erase_perm _ _ hlt
theorem pick_perm {α : Type} (next : Nat → Nat) (xs : Array α) : (pickOrder next xs).toList.Perm xs.toList := by
  have := pick_go next xs.size 0 xs.toList #[] (by rw [Array.length_toList]; exact Nat.le_refl _)
  simpa [pickOrder] using this

theorem setit_slot_next : Slot "set_iterator" "__next__" "set_iterator.__next__" :=
  .of (owner := "set_iterator") (n := "__next__") (by rw [typeLookup_type, builtinLookup_eq_fast]; kernel_rfl) (by decide +kernel) (by decide +kernel) (by decide +kernel) (by first | exact .inl (by decide +kernel) | exact .inr (by decide +kernel)) (by rw [isSubtype_type]; kernel_rfl)
theorem setit_entry_next : entryFor table "set_iterator.__next__" = some Builtin.«set_iterator.__next__» := entryFor_of_tree (by kernel_rfl)
theorem setit_owner : Manifest.owners.lookup (String.ofList ['r', 'o', 't', 'a', 'r', 'e', 't', 'i', '_', 't', 'e', 's'].reverse) = some Manifest.sig_set_iterator := by kernel_rfl
theorem setit_args_next (a : Value) : argsOk "set_iterator.__next__" ⟨[a], []⟩ := by
  unfold argsOk; rw [signature?_of (id := "set_iterator.__next__") (n := ['_', '_', 't', 'x', 'e', 'n', '_', '_']) (o := ['r', 'o', 't', 'a', 'r', 'e', 't', 'i', '_', 't', 'e', 's']) (by kernel_rfl) setit_owner]; kernel_rfl
theorem setit_slot_iter : Slot "set_iterator" "__iter__" "set_iterator.__iter__" :=
  .of (owner := "set_iterator") (n := "__iter__") (by rw [typeLookup_type, builtinLookup_eq_fast]; kernel_rfl) (by decide +kernel) (by decide +kernel) (by decide +kernel) (by first | exact .inl (by decide +kernel) | exact .inr (by decide +kernel)) (by rw [isSubtype_type]; kernel_rfl)
theorem setit_entry_iter : entryFor table "set_iterator.__iter__" = some Builtin.«dict_keyiterator.__iter__» :=
  entryFor_alias (id' := "dict_keyiterator.__iter__") (by kernel_rfl) rfl (by decide +kernel) (by kernel_rfl)
theorem setit_args_iter (a : Value) : argsOk "set_iterator.__iter__" ⟨[a], []⟩ := by
  unfold argsOk; rw [signature?_of (id := "set_iterator.__iter__") (n := ['_', '_', 'r', 'e', 't', 'i', '_', '_']) (o := ['r', 'o', 't', 'a', 'r', 'e', 't', 'i', '_', 't', 'e', 's']) (by kernel_rfl) setit_owner]; kernel_rfl
theorem set_entry_iter : entryFor table "set.__iter__" = some Builtin.«frozenset.__iter__» :=
  entryFor_alias (id' := "frozenset.__iter__") (by kernel_rfl) rfl (by decide +kernel) (by kernel_rfl)

/-- a set whose table is plain, led where it must be, and whose places rise -/
structure SetFit (w : World) (o : Obj) (es : Array (Int × Value)) (ep : Nat) (t : SetTable) : Prop where
  cls : o.cls = .type "set"
  dat : o.data = .set es ep t
  fit : t.fits es.size = true
  plain : t.plain = true
  led : w.params.followText "set-order" = false → t.led = true
  walk : walks t.place = true
  last : t.place.size ≠ 0 → SetTable.below t.place (t.place.getD (t.place.size - 1) 0 + 1) = t.place.size
/-- what the walk meets, in its order -/
def ordered (w : World) (r : Addr) (es : Array (Int × Value)) (ep : Nat) : Array (Int × Value) :=
  if w.params.followText "set-order" then pickOrder (w.params.setOrder r ep) es else es
theorem ordered_perm (w : World) (r : Addr) (es : Array (Int × Value)) (ep : Nat) : (ordered w r es ep).toList.Perm es.toList := by
  unfold ordered
  split
  · exact pick_perm _ _
  · exact List.Perm.refl _
theorem ordered_size (w : World) (r : Addr) (es : Array (Int × Value)) (ep : Nat) : (ordered w r es ep).size = es.size := by
  rw [← Array.length_toList, (ordered_perm w r es ep).length_eq, Array.length_toList]
/-- the slot from which the i-th is looked for -/
def slotOf (w : World) (t : SetTable) (i : Nat) : Nat := if w.params.followText "set-order" then 0 else if i = 0 then 0 else t.place.getD (i - 1) 0 + 1
/-- the iterator of the set r, having given i of n -/
def IsSetIter (w : World) (h : Heap) (I r : Addr) (t : SetTable) (i n ep : Nat) : Prop :=
  ∃ o, h.get? I = some o ∧ o.cls = .type "set_iterator" ∧ o.data = .fields #[.int (slotOf w t i) 0, .int i 0, .ref r, .int n 0, .int ep 0]
section
variable {prog : Program} {w : World} {A : Around} {E : Value → Shared → Prop} {s : Shared}
theorem IsSetIter.typeIs {I r : Addr} {t : SetTable} {i n ep : Nat} (x : IsSetIter w s.heap I r t i n ep) : s.TypeIs (.ref I) "set_iterator" := let ⟨o, g, c, _⟩ := x; ⟨o, g, c⟩
theorem IsSetIter.at {h h' : Heap} {I r : Addr} {t : SetTable} {i n ep : Nat} (x : IsSetIter w h I r t i n ep) (e : ∀ o, h.get? I = some o → h'.get? I = some o) : IsSetIter w h' I r t i n ep := let ⟨o, g, c⟩ := x; ⟨o, e _ g, c⟩
theorem iter_set {r : Addr} {o : Obj} {es : Array (Int × Value)} {ep : Nat} {t : SetTable} {Q : Value → Shared → Prop} (go : s.heap.get? r = some o) (Y : SetFit w o es ep t)
    (hQ : Q (.ref s.heap.objs.size) { s with heap := s.heap.push { cls := .type "set_iterator", data := .fields #[.int 0 0, .int 0 0, .ref r, .int es.size 0, .int ep 0] } }) :
    wpAny (model prog w) A (pyIter (.ref r)) Q E s := by
  have hT : s.TypeIs (.ref r) "set" := ⟨o, go, Y.cls⟩
  refine wpAny_pyIter_slot hT F.slot_set_iter (wpAny_call_entry F.slot_set_iter hT set_entry_iter ?_ (F.args_set_iter_1 _))
  show wpAny _ _ (Builtin.Frozenset.sizeOf r >>= _) _ _ s
  unfold Builtin.Frozenset.sizeOf
  refine wpAny_bind (wpAny_bind (wpAny_setEntries_of go Y.dat Y.fit (wpAny_pure ?_)))
  dsimp only
  refine wpAny_bind ?_
  unfold setDrawn setsByText
  refine wpAny_bind (wpAny_setState_of go Y.dat Y.fit ?_)
  dsimp only
  refine wpAny_bind (wpAny_bind (wpAny_askSetting (wpAny_pure (wpAny_pure ?_))))
  dsimp only
  refine wpAny_ite_split (fun hc => ?_) (fun _ => ?_)
  · exfalso
    have hc' : (!(w.params.followText "set-order") && (!t.plain && decide (es.size > 1))) = true := hc
    rw [Y.plain] at hc'
    simp at hc'
  · refine wpAny_bind (wpAny_pure ?_)
    unfold setEpoch
    refine wpAny_bind (wpAny_bind (wpAny_setState_of go Y.dat Y.fit (wpAny_pure ?_)))
    refine wpAny_bind (wpAny_newObj_type ?_)
    refine wpAny_pure ⟨_, rfl, "set_iterator", _, ⟨_, Heap.get?_push_size _ rfl, rfl⟩, setit_slot_next.lookup, ?_⟩
    exact hQ
end
end Bm

end
section
set_option Elab.async false
set_option linter.all false
set_option maxRecDepth 100000
set_option maxHeartbeats 2000000
namespace Bm
open PySem PySem.Spec PyProof.Rows L2
theorem walks_at {xs : Array Nat} (h : walks xs = true) {i : Nat} (hi : i < xs.size) : SetTable.below xs (if i = 0 then 0 else xs.getD (i - 1) 0 + 1) = i := by
  unfold walks at h
  rw [List.all_eq_true] at h
  exact of_decide_eq_true (h i (List.mem_range.mpr hi))
section
variable {prog : Program} {w : World} {A : Around} {E : Value → Shared → Prop} {s : Shared} {r : Addr} {o : Obj} {es : Array (Int × Value)} {ep : Nat} {t : SetTable}
theorem SetFit.size (Y : SetFit w o es ep t) : t.place.size = es.size := by
  have := Y.fit
  unfold SetTable.fits at this
  simp at this
  exact this.1
theorem next_some {i : Nat} {k : Int} {v : Value} {Q : Option (Value × Nat) → Shared → Prop} (go : s.heap.get? r = some o) (Y : SetFit w o es ep t) (hx : (ordered w r es ep)[i]? = some (k, v))
    (hQ : Q (some (v, slotOf w t (i + 1))) s) : wpAny (model prog w) A (setNext r (slotOf w t i) i ep) Q E s := by
  unfold setNext
  refine wpAny_bind (wpAny_setState_of go Y.dat Y.fit ?_)
  dsimp only
  unfold setsByText
  refine wpAny_bind (wpAny_bind (wpAny_askSetting (wpAny_pure ?_)))
  dsimp only
  by_cases hb : w.params.followText "set-order" = true
  · have hb' : (model prog w).w.params.followText "set-order" = true := hb
    rw [if_pos hb', if_neg (by simp)]
    unfold setWalk setsByText
    refine wpAny_bind (wpAny_bind (wpAny_setState_of go Y.dat Y.fit ?_))
    dsimp only
    refine wpAny_bind (wpAny_bind (wpAny_askSetting (wpAny_pure ?_)))
    dsimp only
    rw [if_pos hb']
    refine wpAny_bind (wpAny_askSetting (wpAny_pure (wpAny_pure ?_)))
    unfold ordered at hx
    rw [if_pos hb] at hx
    unfold slotOf at hQ ⊢
    rw [if_pos hb] at hQ ⊢
    show Q (((pickOrder (w.params.setOrder r ep) es)[i]?).map fun e => (e.2, 0)) s
    rw [hx]
    exact hQ
  · have hb' : ¬ (model prog w).w.params.followText "set-order" = true := hb
    rw [if_neg hb']
    unfold ordered at hx
    rw [if_neg hb] at hx
    unfold slotOf at hQ ⊢
    rw [if_neg hb] at hQ ⊢
    have hi : i < es.size := by
      rcases Nat.lt_or_ge i es.size with q | q
      · exact q
      · rw [Array.getElem?_eq_none q] at hx
        cases hx
    have hp : i < t.place.size := by rw [Y.size]; exact hi
    refine wpAny_ite_split (fun hc => ?_) (fun _ => ?_)
    · exfalso
      have hc' : (!t.plain && decide (es.size > 1)) = true := hc
      rw [Y.plain] at hc'
      simp at hc'
    · refine wpAny_bind ?_
      show wpAny _ _ (if (!t.led && !es.isEmpty) = true then unsupported "set:maker-not-led" else pure ()) _ _ s
      rw [if_neg (by rw [Y.led (by simpa using hb)]; simp)]
      refine wpAny_pure (wpAny_pure ?_)
      rw [walks_at Y.walk hp, hx, Array.getElem?_eq_getElem hp]
      dsimp only
      have e1 : t.place.getD (i + 1 - 1) 0 = t.place[i] := by
        rw [Nat.add_sub_cancel, Array.getD_eq_getD_getElem?, Array.getElem?_eq_getElem hp]
        rfl
      rw [if_neg (Nat.succ_ne_zero i), e1] at hQ
      exact hQ
theorem next_none {Q : Option (Value × Nat) → Shared → Prop} (go : s.heap.get? r = some o) (Y : SetFit w o es ep t)
    (hQ : Q none s) : wpAny (model prog w) A (setNext r (slotOf w t es.size) es.size ep) Q E s := by
  unfold setNext
  refine wpAny_bind (wpAny_setState_of go Y.dat Y.fit ?_)
  dsimp only
  unfold setsByText
  refine wpAny_bind (wpAny_bind (wpAny_askSetting (wpAny_pure ?_)))
  dsimp only
  by_cases hb : w.params.followText "set-order" = true
  · have hb' : (model prog w).w.params.followText "set-order" = true := hb
    rw [if_pos hb', if_neg (by simp)]
    unfold setWalk setsByText
    refine wpAny_bind (wpAny_bind (wpAny_setState_of go Y.dat Y.fit ?_))
    dsimp only
    refine wpAny_bind (wpAny_bind (wpAny_askSetting (wpAny_pure ?_)))
    dsimp only
    rw [if_pos hb']
    refine wpAny_bind (wpAny_askSetting (wpAny_pure (wpAny_pure ?_)))
    have hz := ordered_size w r es ep
    unfold ordered at hz
    rw [if_pos hb] at hz
    show Q (((pickOrder (w.params.setOrder r ep) es)[es.size]?).map fun e => (e.2, _)) s
    rw [Array.getElem?_eq_none (by rw [hz]; exact Nat.le_refl _)]
    exact hQ
  · have hb' : ¬ (model prog w).w.params.followText "set-order" = true := hb
    rw [if_neg hb']
    unfold slotOf
    rw [if_neg hb]
    refine wpAny_ite_split (fun hc => ?_) (fun _ => ?_)
    · exfalso
      have hc' : (!t.plain && decide (es.size > 1)) = true := hc
      rw [Y.plain] at hc'
      simp at hc'
    · refine wpAny_bind ?_
      show wpAny _ _ (if (!t.led && !es.isEmpty) = true then unsupported "set:maker-not-led" else pure ()) _ _ s
      rw [if_neg (by rw [Y.led (by simpa using hb)]; simp)]
      refine wpAny_pure (wpAny_pure ?_)
      have hnone : es[SetTable.below t.place (if es.size = 0 then 0 else t.place.getD (es.size - 1) 0 + 1)]? = none := by
        by_cases h0 : es.size = 0
        · exact Array.getElem?_eq_none (by omega)
        · have := Y.last (by rw [Y.size]; exact h0)
          rw [Y.size] at this
          rw [if_neg h0, this]
          exact Array.getElem?_eq_none (Nat.le_refl _)
      rw [hnone]
      exact hQ
theorem pynext_some {I : Addr} {i : Nat} {k : Int} {v : Value} {Q : Option Value → Shared → Prop} (hit : IsSetIter w s.heap I r t i es.size ep) (go : s.heap.get? r = some o) (Y : SetFit w o es ep t)
    (hx : (ordered w r es ep)[i]? = some (k, v)) (hQ : ∀ h', IsSetIter w h' I r t (i + 1) es.size ep → Heap.SameBut I s.heap h' → Q (some v) { s with heap := h' }) :
    wpAny (model prog w) A (pyNext (.ref I)) Q E s := by
  obtain ⟨oi, gi, ci, di⟩ := id hit
  unfold pyNext
  refine wpAny_bind (wpAny_attempt (wpAny_callSpecial?_slot (name := Str.ofString "__next__") hit.typeIs setit_slot_next
    (wpAny_call_entry setit_slot_next hit.typeIs setit_entry_next ?_ (setit_args_next _))))
  unfold Builtin.«set_iterator.__next__»
  refine wpAny_bind (wpAny_pure ?_)
  refine wpAny_bind (wpAny_fieldsOf gi di ?_)
  dsimp only
  refine wpAny_bind (wpAny_setEntries_of go Y.dat Y.fit ?_)
  rw [if_neg (by simp)]
  simp only [Int.toNat_natCast]
  refine wpAny_bind (next_some go Y hx ?_)
  dsimp only
  refine wpAny_bind (wpAny_setField gi di (by simp) ?_)
  have g1 := Heap.get?_update_self (Obj.mapFields (·.setIfInBounds 0 (rawInt ((slotOf w t (i + 1) : Nat) : Int)))) gi (Obj.isFreed_of_fields (Obj.data_mapFields di _))
  have d1 := Obj.data_mapFields di (·.setIfInBounds 0 (rawInt ((slotOf w t (i + 1) : Nat) : Int)))
  refine wpAny_bind (wpAny_setField g1 d1 (by simp) ?_)
  have g2 := Heap.get?_update_self (Obj.mapFields (·.setIfInBounds 1 (rawInt ((i : Int) + 1)))) g1 (Obj.isFreed_of_fields (Obj.data_mapFields d1 _))
  have d2 := Obj.data_mapFields d1 (·.setIfInBounds 1 (rawInt ((i : Int) + 1)))
  refine wpAny_pure ⟨v, rfl, wpAny_pure (hQ _ ⟨_, g2, (Obj.cls_mapFields ..).trans ((Obj.cls_mapFields ..).trans ci), ?_⟩ ((Heap.SameBut.update ..).trans (Heap.SameBut.update ..)))⟩
  rw [d2]
  simp [rawInt]
theorem pynext_none {I : Addr} {Q : Option Value → Shared → Prop} (hh : A.handled = none) (hit : IsSetIter w s.heap I r t es.size es.size ep) (go : s.heap.get? r = some o) (Y : SetFit w o es ep t)
    (hQ : ∀ h', Heap.ExtBut I s.heap h' → Q none { s with heap := h' }) :
    wpAny (model prog w) A (pyNext (.ref I)) Q E s := by
  obtain ⟨oi, gi, ci, di⟩ := id hit
  unfold pyNext
  refine wpAny_bind (wpAny_attempt (wpAny_callSpecial?_slot (name := Str.ofString "__next__") hit.typeIs setit_slot_next
    (wpAny_call_entry setit_slot_next hit.typeIs setit_entry_next ?_ (setit_args_next _))))
  unfold Builtin.«set_iterator.__next__»
  refine wpAny_bind (wpAny_pure ?_)
  refine wpAny_bind (wpAny_fieldsOf gi di ?_)
  dsimp only
  refine wpAny_bind (wpAny_setEntries_of go Y.dat Y.fit ?_)
  rw [if_neg (by simp)]
  simp only [Int.toNat_natCast]
  refine wpAny_bind (next_none go Y ?_)
  dsimp only
  refine wpAny_bind (wpAny_setField gi di (by simp) ?_)
  refine wpAny_bind ?_
  simp only [newExc, newTuple]
  refine wpAny_bind (wpAny_newObj_type ?_ (by size_fits))
  refine wpAny_bind (m := firstArgMember _ _) (wpAny_of_eq (a := Value.none) (by first | rfl | (simp only [firstArgMember]; rfl)) ?_)
  refine wpAny_newObj_type ?_ (by size_fits)
  simp only [raiseNew]
  refine wpAny_bind (wpAny_handled ?_)
  rw [show A.in1.handled = none from hh]
  refine wpAny_bind (wpAny_pure (wpAny_throw ?_))
  refine wpAny_bind (wpAny_isInstance (T := "StopIteration") (b := true) ⟨_, Heap.get?_push_size _ rfl, rfl⟩ isSubtype_stop ?_)
  exact wpAny_pure (hQ _ (((Heap.SameBut.update ..).extBut.push _).push _))
theorem pyiter_self {I : Addr} {i n : Nat} {Q : Value → Shared → Prop} (hit : IsSetIter w s.heap I r t i n ep) (hQ : Q (.ref I) s) : wpAny (model prog w) A (pyIter (.ref I)) Q E s := by
  refine wpAny_pyIter_slot hit.typeIs setit_slot_iter (wpAny_call_entry setit_slot_iter hit.typeIs setit_entry_iter ?_ (setit_args_iter _))
  show wpAny _ _ (ret (.ref I)) _ _ s
  exact wpAny_pure ⟨_, rfl, "set_iterator", _, hit.typeIs, setit_slot_next.lookup, hQ⟩
/-- the walk of a set -/
theorem walk_set (hh : A.handled = none) (I : Addr) (hne : r ≠ I) (Y : SetFit w o es ep t) :
    Walks prog w A I [I, r] [I] es.size (fun i v => ∃ k, (ordered w r es ep)[i]? = some (k, v)) (fun i h => IsSetIter w h I r t i es.size ep ∧ h.get? r = some o) where
  sub := fun b hb => by simp at hb; simp [hb]
  frame := fun _ _ _ st hk => ⟨st.1.at fun o e => hk I (by simp) o e, hk r (by simp) o st.2⟩
  item := fun i s Q E hi st hQ => by
    obtain ⟨⟨k, x⟩, hx⟩ : ∃ p, (ordered w r es ep)[i]? = some p := ⟨_, Array.getElem?_eq_getElem (by rw [ordered_size]; exact hi)⟩
    refine pynext_some st.1 st.2 Y hx fun h' hit' sb => ?_
    exact hQ x h' s.toks ⟨k, hx⟩ ⟨hit', by rw [sb.2 r hne]; exact st.2⟩ fun b o hb e => by rw [sb.2 b (fun h => hb (by simp [h]))]; exact e
  done := fun s Q E st hQ => pynext_none hh st.1 st.2 Y fun h' he' => hQ h' s.toks fun b o hb e => he' b o (fun h => hb (by simp [h])) e
  self := fun _ _ _ _ st hQ => pyiter_self st.1 hQ
theorem set_hint (hT : s.TypeIs (.ref r) "set") {Q : Bool → Shared → Prop} (h : Q false s) : wpAny (model prog w) A (Builtin.List.listLengthHint (.ref r)) Q E s := by
  unfold Builtin.List.listLengthHint
  refine wpAny_bind (wpAny_specialOf hT PySem.F.slot_set_len.lookup ?_)
  generalize hid : ("set.__len__" : String) = id0
  wp_delta
  rw [show splitId id0 = some ("set", "__len__") from by subst hid; decide +kernel]
  subst hid
  refine wpAny_bind (wpAny_isInstance (T := "set") (b := true) hT (by rw [isSubtype_type]; kernel_rfl) ?_)
  refine wpAny_ite_split (fun hno => absurd hno (by decide)) (fun _ => ?_)
  refine wpAny_ite_split (fun _ => ?_) (fun hno => absurd (by decide +kernel) hno)
  refine wpAny_bind (wpAny_typeOf hT ?_)
  exact wpAny_pure h
theorem src_set (Y : SetFit w o es ep t) : PySem.W.KdlSrc prog w "set" r r es.size (fun i v => ∃ k, (ordered w r es ep)[i]? = some (k, v)) (fun h => h.get? r = some o) where
  type := fun _ hm => ⟨o, hm, Y.cls⟩
  there := fun _ hm => ⟨Heap.lt_size hm, Heap.lt_size hm⟩
  keep := fun _ _ hm hk => hk r (.inl rfl) o hm
  notList := by decide
  notTuple := by decide
  hint := fun _ _ _ _ hm hq => set_hint ⟨o, hm, Y.cls⟩ hq
  iter := fun _ _ hh hm => ⟨_, _, (fun _ _ hq => iter_set hm Y hq), walk_set hh _ (Nat.ne_of_lt (Heap.lt_size hm)) Y, ⟨⟨_, Heap.get?_push_size _ rfl, rfl, by unfold slotOf; split <;> rfl⟩, Heap.get?_push_of_some _ hm⟩⟩
end
end Bm

end
section
set_option Elab.async false
set_option linter.all false
set_option maxRecDepth 100000
set_option maxHeartbeats 4100000
namespace Bm
open PySem PySem.Spec PyProof.Rows L2
theorem SetX.at {h h' : Heap} {a : Addr} {led : Bool} {ks : List Int} (X : SetX h a led ks) (e : ∀ o, h.get? a = some o → h'.get? a = some o) : SetX h' a led ks :=
  ⟨let ⟨o, es, ep, t, g, rest⟩ := X.ex; ⟨o, es, ep, t, e o g, rest⟩, X.small⟩
theorem met_old {vl : Nat → Int} {i : Nat} (h : vl i ∈ firstMet vl i) : firstMet vl (i + 1) = firstMet vl i := by
  rw [firstMet_succ]
  unfold step_dedup
  have q : ((firstMet vl i).any fun x => x == vl i) = true := List.any_eq_true.mpr ⟨_, h, beq_self_eq_true _⟩
  exact if_pos q
theorem met_new {vl : Nat → Int} {i : Nat} (h : vl i ∉ firstMet vl i) : firstMet vl (i + 1) = firstMet vl i ++ [vl i] := by
  rw [firstMet_succ]
  unfold step_dedup
  rw [if_neg]
  intro q
  obtain ⟨x, hx, e⟩ := List.any_eq_true.mp q
  rw [eq_of_beq e] at hx
  exact h hx
section
variable {prog : Program} {w : World} {A : Around} {Z0 : Result → Shared → Prop} {I : Addr} {fx wx : List Addr} {G : Array GenState → Array GenState → Prop} {n : Nat} {P : Nat → Value → Prop} {St : Nat → Shared → Prop}
/-- set(..): every int of the walk is put into the set S -/
theorem loop_put (W : WalksS prog w A.in1 I fx wx G n P St) (S : Addr) (off : S ∉ fx) {led : Bool} (vl : Nat → Int) (isInt : ∀ i v, P i v → ∃ t, v = .int (vl i) t)
    (small : ∀ i, i < n → 0 ≤ vl i ∧ vl i ≤ 8) (short : ∀ i, i ≤ n → (firstMet vl i).length ≤ 100) :
    ∀ (k i : Nat) (s : Shared), n - i = k → i ≤ n → St i s → SetX s.heap S led (firstMet vl i) →
      (∀ s', Moved (S :: wx) G s s' → SetX s'.heap S led (firstMet vl n) → Z0 (.ok (.ret .none)) s') →
      codeAny (model prog w) A (.builtin "set.update.loop" ⟨[.ref S, .ref I], []⟩) Z0 s := by
  have offw : S ∉ wx := fun z => off (W.sub _ z)
  have more : ∀ b ∈ wx, b ∈ S :: wx := fun b hb => List.mem_cons_of_mem _ hb
  intro k
  induction k with
  | zero =>
    intro i s hk hi st X fin
    obtain rfl : i = n := by omega
    refine codeAny_builtin PyProof.Rows.F.entry_set_update_loop ?_
    rw [Around.under_plainId PyProof.Rows.F.plain_set_update_loop _]
    show wpAny _ A.in1 (pyNext (.ref I) >>= _) _ _ s
    refine wpAny_bind (W.done s _ _ st fun s' mv => ?_)
    exact wpAny_pure (fin s' (mv.mono more) (X.at fun o e => mv.heap S _ offw e))
  | succ k ih =>
    intro i s hk hi st X fin
    have lt : i < n := by omega
    refine codeAny_builtin PyProof.Rows.F.entry_set_update_loop ?_
    rw [Around.under_plainId PyProof.Rows.F.plain_set_update_loop _]
    show wpAny _ A.in1 (pyNext (.ref I) >>= _) _ _ s
    refine wpAny_bind (W.item i s _ _ lt st fun v s' hP st' mv => ?_)
    obtain ⟨t, rfl⟩ := isInt i v hP
    have X' : SetX s'.heap S led (firstMet vl i) := X.at fun o e => mv.heap S _ offw e
    show wpAny _ A.in1 (holding [Value.int (vl i) t] (setAdd S (.int (vl i) t)) >>= _) _ _ s'
    refine wpAny_bind (wpAny_holding ?_)
    unfold setAdd
    refine wpAny_holding (wpAny_bind ((intKind prog w).pyHash (k := vl i) (intKind_is _ _ _ _) ?_))
    by_cases hm : vl i ∈ firstMet vl i
    · refine set_add_old (s := { s' with toks := s'.toks + 1 }) X' hm (short i hi) (wpAny_pure ⟨plainId_quiet PyProof.Rows.F.plain_set_update_loop _, ih (i + 1) _ (by omega) lt (W.frame _ s' _ _ st' (Nat.le_succ _) fun b hb o e => e) ?_ fun s'' mv2 X2 => ?_⟩)
      · rw [met_old hm]
        exact X'
      · exact fin s'' (Moved.trans W.gtrans ((mv.mono more).then_heap (Nat.le_succ _) fun b o hb e => e) mv2) X2
    · refine set_add_new (s := { s' with toks := s'.toks + 1 }) X' hm (small i lt) (short i hi) fun h' sb X2 => (wpAny_pure ⟨plainId_quiet PyProof.Rows.F.plain_set_update_loop _, ih (i + 1) _ (by omega) lt (W.frame _ s' _ _ st' (Nat.le_succ _) fun b hb o e => ?_) ?_ fun s'' mv2 X3 => ?_⟩)
      · rw [sb.2 b fun z => off (z ▸ hb)]
        exact e
      · rw [met_new hm]
        exact X2
      · refine fin s'' (Moved.trans W.gtrans ((mv.mono more).then_heap (Nat.le_succ _) fun b o hb e => ?_) mv2) X3
        rw [sb.2 b fun z => hb (z ▸ List.mem_cons_self)]
        exact e
end
section
variable {prog : Program} {w : World} {A : Around} {E : Value → Shared → Prop} {s : Shared}
/-- an empty set, as set() makes it -/
def emptySet (w : World) : Obj := { cls := .type "set", dict := none, data := .set #[] 0 (.fresh 0 0 (!w.params.followText "set-order")) }
theorem set_made (a : Value) {Z : Value → Shared → Prop} (h : Z (.ref s.heap.objs.size) { s with heap := s.heap.push (emptySet w) }) :
    codeAny (model prog w) A (.call (.builtin "set.__new__") ⟨[.type "set", a], []⟩) (wants Z E) s := by
  refine codeAny_of_tree ?_
  show wpAny _ A.in1 (checkBuiltinCall "set.__new__" ⟨[.type "set", a], []⟩ >>= fun _ => again (.builtin "set.__new__" ⟨[.type "set", a], []⟩)) _ _ s
  refine wpAny_bind (wpAny_of_eq (PySem.F.newCall_set_1 a) (wpAny_pure ⟨plainId_quiet PySem.F.plain_set_new _, codeAny_builtin PySem.F.entry_set_new ?_⟩))
  rw [Around.under_plainId PySem.F.plain_set_new _]
  unfold Builtin.«set.__new__» Builtin.Frozenset.newClass
  have sub := sub_set_self
  obtain ⟨hp, g, d, tk, os⟩ := s
  dsimp only
  wp_walk
  refine wpAny_askSetting (wpAny_pure ?_)
  dsimp only
  simp only [newObj]
  exact wpAny_bind (wpAny_alloc (wpAny_pure (wpAny_pure h)))
theorem setx_empty {h : Heap} {a : Addr} (g : h.get? a = some (emptySet w)) : SetX h a (!w.params.followText "set-order") [] :=
  ⟨⟨_, #[], 0, _, g, ⟨rfl, rfl, rfl⟩, rfl, by simp [build], fun e he => by simp at he, by simp, rfl⟩, fun k hk => by simp at hk⟩
end
end Bm

end
section
set_option Elab.async false
set_option linter.all false
set_option maxRecDepth 100000
set_option maxHeartbeats 4100000
namespace Bm
open PySem PySem.Spec PyProof.Rows L2
section
variable {prog : Program} {w : World} {A : Around} {E : Value → Shared → Prop} {s : Shared}
/-- set(l), l a list of small ints -/
theorem set_of_list {l : Addr} {items : Array Value} {ns : List Int} {Q : Value → Shared → Prop} (hh : A.handled = none) (hl : s.heap.IsList l items) (hi : IntsAre items.toList ns)
    (small : ∀ i, i < items.size → 0 ≤ ns.getD i 0 ∧ ns.getD i 0 ≤ 8) (short : ∀ i, i ≤ items.size → (firstMet (fun i => ns.getD i 0) i).length ≤ 100)
    (h : ∀ (h' : Heap) (tk : Nat), SetX h' s.heap.objs.size (!w.params.followText "set-order") (firstMet (fun i => ns.getD i 0) items.size) →
      (∀ b o, s.heap.get? b = some o → h'.get? b = some o) → Q (.ref s.heap.objs.size) { s with heap := h', toks := tk }) :
    wpAny (model prog w) A (call (.type "set") [.ref l]) Q E s := by
  obtain ⟨c, tl, mro⟩ := PySem.F.called_set.mro
  have made := PySem.F.called_set.made
  have sub := PySem.F.called_set.sub
  refine wpAny_call (codeAny_of_tree ?_)
  show wpAny _ _ (callAny (.type "set") _) _ _ _
  refine wpAny_pure ⟨Code.quiet_builtin _ (by decide +kernel), codeAny_builtin PySem.F.entry_type_call ?_⟩
  rw [Around.under_plain (weight_type_call_type "set" [.ref l] []) rfl]
  have n1 := PySem.F.called_set.notType
  have n2 := PySem.F.called_set.canCreate
  have n3 := PySem.F.typeCall_set_1 (.ref l)
  repeat (any_goals (first | assumption | wp_step))
  refine codeAny_mono (set_made (.ref l) (E := E) (Z := fun obj s₁ => obj = .ref s.heap.objs.size ∧ s₁ = { s with heap := s.heap.push (emptySet w) }) ⟨rfl, rfl⟩) fun r s₁ hr => ?_
  cases r with
  | error e => exact hr
  | ok fl =>
    cases fl with
    | ret obj =>
      obtain ⟨rfl, rfl⟩ := hr
      have gS : (s.heap.push (emptySet w)).get? s.heap.objs.size = some (emptySet w) := Heap.get?_push_size _ rfl
      have tS : Shared.TypeIs { s with heap := s.heap.push (emptySet w) } (.ref s.heap.objs.size) "set" := ⟨_, gS, rfl⟩
      have i1 := PySem.F.called_set.init.lookup
      have i2 := PySem.F.called_set.init.bind (.ref s.heap.objs.size)
      repeat (any_goals (first | assumption | wp_step))
      refine codeAny_mono (codeAny_call_builtin (R := wants (fun r z₂ => r = .none ∧ ∃ h' tk, z₂ = { s with heap := h', toks := tk } ∧
          SetX h' s.heap.objs.size (!w.params.followText "set-order") (firstMet (fun i => ns.getD i 0) items.size) ∧
          (∀ b o, s.heap.get? b = some o → h'.get? b = some o)) E) PySem.F.called_set.init.plain PySem.F.entry_set_init (check_set_init_1 tS ?_)) fun y₂ z₂ hy₂ => ?_
      · obtain ⟨ol, gl, cl, nl, dl⟩ := hl
        obtain ⟨kc, kd, kdt, ksl⟩ := ol
        simp only at cl dl
        subst cl; subst dl
        have gl' : (s.heap.push (emptySet w)).get? l = some { cls := .type "list", dict := kd, data := .seq items nl, slots := ksl } := Heap.get?_push_of_some _ gl
        have s1 := PySem.F.sub_list_set
        have s2 := PySem.F.sub_list_frozenset
        have s3 : (Value.type "list" == Value.type "dict") = false := by decide
        have l1 : (s.heap.push (emptySet w)).IsList l items := ⟨_, gl', rfl, nl, rfl⟩
        unfold Builtin.«set.__init__» noKeywords Builtin.Frozenset.updateFrom
        generalize hPI : pyIter = PI
        wp_walk
        subst hPI
        refine wpAny_pyIter_list l1 (wpAny_bind (wpAny_runValue ?_))
        have llt : l < s.heap.objs.size := Heap.lt_size gl
        have cm3 : A.in1.in1.in1.handled = none := by simp [hh]
        have lne : l ≠ (s.heap.push (emptySet w)).objs.size := by
          rw [size_push']
          exact Nat.ne_of_lt (Nat.lt_succ_of_lt llt)
        have off : s.heap.objs.size ∉ [(s.heap.push (emptySet w)).objs.size, l] := by
          rw [size_push']
          intro z
          rcases List.mem_cons.mp z with z | z
          · exact Nat.ne_of_lt (Nat.lt_succ_self _) z
          · exact Nat.ne_of_gt llt (List.mem_singleton.mp z)
        refine loop_put ((Walks.list cm3 _ l lne items).toS) s.heap.objs.size off (fun i => ns.getD i 0) (fun i v hv => IntsAre.int_at hi i v (by rw [Array.getElem?_toList]; exact hv)) small short (items.size - 0) 0 _ (by omega) (Nat.zero_le _)
          ⟨⟨_, Heap.get?_push_size _ rfl, rfl, rfl⟩, (l1.push _)⟩ (setx_empty (Heap.get?_push_of_some _ gS)) ?_
        intro s' mv X'
        obtain ⟨h', gq, dq, tq, oq⟩ := s'
        have eg : gq = s.gens := mv.gens
        have ed : dq = s.drawn := mv.drawn
        have eo : oq = s.os := mv.os
        subst eg; subst ed; subst eo
        refine wpAny_pure ?_
        show wpAny _ _ (ret Value.none) _ _ _
        refine wpAny_pure ⟨rfl, h', tq, rfl, X', fun b o e => mv.heap b o (fun z => ?_) (Heap.get?_push_of_some _ (Heap.get?_push_of_some _ e))⟩
        have lt := Heap.lt_size e
        have sz := size_push' s.heap (emptySet w)
        rcases List.mem_cons.mp z with z | z
        · exact Nat.ne_of_lt lt z
        · rw [List.mem_singleton.mp z, sz] at lt
          exact Nat.not_succ_lt_self lt
      · cases y₂ with
        | error e => exact hy₂
        | ok ff₂ =>
          cases ff₂ with
          | ret r =>
            obtain ⟨rfl, h', tk, rfl, X', old⟩ := hy₂
            repeat (any_goals (first | assumption | wp_step))
            exact h _ _ X' old
          | _ => exact hy₂.elim
    | _ => exact hr.elim
end
end Bm

end
section
set_option Elab.async false
set_option linter.all false
set_option maxRecDepth 100000
set_option maxHeartbeats 4100000
namespace Bm
open PySem PySem.Spec PyProof.Rows L2
theorem subs_le : ∀ (l ks : List Int), List.Sublist ks l → ks ∈ subs l
  | _, _, .slnil => List.mem_singleton.mpr rfl
  | _, _, .cons a h => List.mem_append_left _ (subs_le _ _ h)
  | _, _, .cons₂ a h => List.mem_append_right _ (List.mem_map.mpr ⟨_, subs_le _ _ h, rfl⟩)
/-- n ints from a on -/
def runI : Int → Nat → List Int
  | _, 0 => []
  | a, n + 1 => a :: runI (a + 1) n
theorem rising_sub : ∀ (n : Nat) (a : Int) (ks : List Int), ks.Pairwise (· < ·) → (∀ k ∈ ks, a ≤ k ∧ k < a + n) → List.Sublist ks (runI a n)
  | 0, a, [], _, _ => .slnil
  | 0, a, k :: ks, _, h => by
    have := h k List.mem_cons_self
    omega
  | n + 1, a, [], _, _ => List.nil_sublist _
  | n + 1, a, k :: ks, hp, h => by
    obtain ⟨h1, h2⟩ := List.pairwise_cons.mp hp
    have hk := h k List.mem_cons_self
    by_cases e : k = a
    · subst e
      refine .cons₂ _ (rising_sub n (k + 1) ks h2 fun x hx => ?_)
      have q1 := h1 x hx
      have q2 := h x (List.mem_cons_of_mem _ hx)
      omega
    · refine .cons _ (rising_sub n (a + 1) (k :: ks) hp fun x hx => ?_)
      have q2 := h x hx
      rcases List.mem_cons.mp hx with z | z
      · subst z
        omega
      · have q1 := h1 x z
        omega
theorem chk_of {ks : List Int} (hp : ks.Pairwise (· < ·)) (h : ∀ k ∈ ks, 0 ≤ k ∧ k ≤ 8) (hne : ks ≠ []) (led : Bool) : chk led ks = true := by
  have m : ks ∈ subs [0, 1, 2, 3, 4, 5, 6, 7, 8] := subs_le _ _ (rising_sub 9 0 ks hp fun k hk => by have := h k hk; omega)
  have q := List.all_eq_true.mp chk_all ks m
  have e : ks.isEmpty = false := by
    cases ks with
    | nil => exact absurd rfl hne
    | cons _ _ => rfl
  rw [e, Bool.false_or, Bool.and_eq_true] at q
  cases led
  · exact q.2
  · exact q.1
theorem met_rising {val : Nat → Int} {n : Nat} (up : ∀ i j, i ≤ j → j < n → val i ≤ val j) : ∀ i, i ≤ n → (firstMet val i).Pairwise (· < ·) ∧ (∀ x, x ∈ firstMet val i ↔ ∃ j, j < i ∧ x = val j)
  | 0, _ => ⟨List.Pairwise.nil, fun x => ⟨fun z => (List.not_mem_nil z).elim, fun ⟨j, hj, _⟩ => absurd hj (Nat.not_lt_zero _)⟩⟩
  | i + 1, hi => by
    obtain ⟨p, m⟩ := met_rising up i (by omega)
    by_cases hm : val i ∈ firstMet val i
    · rw [met_old hm]
      refine ⟨p, fun x => ⟨fun z => ?_, fun ⟨j, hj, e⟩ => ?_⟩⟩
      · obtain ⟨j, hj, e⟩ := (m x).mp z
        exact ⟨j, by omega, e⟩
      · by_cases ji : j = i
        · rw [e, ji]
          exact hm
        · exact (m x).mpr ⟨j, by omega, e⟩
    · rw [met_new hm]
      refine ⟨?_, fun x => ?_⟩
      · rw [List.pairwise_append]
        refine ⟨p, List.pairwise_singleton _ _, fun x hx y hy => ?_⟩
        rw [List.mem_singleton.mp hy]
        obtain ⟨j, hj, e⟩ := (m x).mp hx
        have q := up j i (by omega) (by omega)
        have ne : x ≠ val i := fun z => hm (z ▸ hx)
        omega
      · rw [List.mem_append, List.mem_singleton, m x]
        constructor
        · rintro (⟨j, hj, e⟩ | e)
          · exact ⟨j, by omega, e⟩
          · exact ⟨i, by omega, e⟩
        · rintro ⟨j, hj, e⟩
          by_cases ji : j = i
          · exact .inr (by rw [e, ji])
          · exact .inl ⟨j, by omega, e⟩
theorem fit_of {w : World} {h : Heap} {a : Addr} {ks : List Int} (S : SetX h a (!w.params.followText "set-order") ks) (hp : ks.Pairwise (· < ·)) :
    ∃ o es ep t, h.get? a = some o ∧ SetFit w o es ep t ∧ (∀ e ∈ es.toList, ∃ tok, e.2 = Value.int e.1 tok) ∧ (es.toList.map (·.1)).Perm ks := by
  obtain ⟨o, es, ep, t, go, gx, gd, gb, gi, gp, gf⟩ := S.ex
  refine ⟨o, es, ep, t, go, ?_, gi, gp⟩
  by_cases hne : ks = []
  · subst hne
    have e0 : build (!w.params.followText "set-order") [] = (#[], .fresh 0 0 (!w.params.followText "set-order")) := rfl
    rw [e0] at gb
    obtain ⟨g1, g2⟩ := Prod.mk.inj gb
    rw [← g2] at gf gd ⊢
    exact ⟨gx.1, gd, gf, rfl, fun q => by show (!w.params.followText "set-order") = true; rw [q]; rfl, rfl, fun q => absurd rfl q⟩
  · have c := chk_of hp S.small hne (!w.params.followText "set-order")
    unfold chk at c
    rw [gb] at c
    dsimp only at c
    rw [Bool.and_eq_true, Bool.and_eq_true, Bool.and_eq_true] at c
    obtain ⟨⟨⟨c1, c2⟩, c3⟩, c4⟩ := c
    exact ⟨gx.1, gd, gf, c1, fun q => by rw [eq_of_beq c2, q]; rfl, c3, fun _ => of_decide_eq_true c4⟩
end Bm

end
section
set_option Elab.async false
set_option linter.all false
set_option maxRecDepth 100000
set_option maxHeartbeats 4100000
namespace Bm
open PySem PySem.Spec PyProof.Rows L2
theorem ints_len {vs : List Value} {ns : List Int} (h : IntsAre vs ns) : vs.length = ns.length := IntsAre.length h
theorem getD_memI {ns : List Int} {i : Nat} (h : i < ns.length) : ns.getD i 0 ∈ ns := by
  rw [List.getD_eq_getElem?_getD, List.getElem?_eq_getElem h]
  exact List.getElem_mem h
theorem ints_of : ∀ {l : List (Int × Value)}, (∀ e ∈ l, ∃ tok, e.2 = Value.int e.1 tok) → IntsAre (l.map (·.2)) (l.map (·.1))
  | [], _ => .nil
  | e :: l, h => by
    obtain ⟨t, q⟩ := h e List.mem_cons_self
    rw [List.map_cons, List.map_cons, q]
    exact .cons _ _ (ints_of fun x hx => h x (List.mem_cons_of_mem _ hx))
theorem strict_of {l ks : List Int} (hp : l.Perm ks) (hs : l.Pairwise (· ≤ ·)) (hk : ks.Pairwise (· < ·)) : l.Pairwise (· < ·) := by
  have nd : l.Nodup := hp.nodup_iff.mpr (hk.imp fun h => by omega)
  refine (hs.and nd).imp fun h => ?_
  omega
section
variable {X : Cx} {p p2 pos pos2 : Pos} {e : Expr} {te : TE}
def tSortSet (K : PySem.W.Frag) (te : TE) : TE := fun σ H Q => te σ H fun v H1 => ∃ (a : Addr) (ns : List Int), v = .ref a ∧ SqL K H1 a (ns.map V.int) ∧ ns.Pairwise (· ≤ ·) ∧ (∀ x ∈ ns, 0 ≤ x ∧ x ≤ 8) ∧
  ∀ (ks : List Int) (r : Addr), ks.Pairwise (· < ·) → (∀ x, x ∈ ks ↔ x ∈ ns) → H1 r = none → Q (.ref r) (upd H1 r (.lst (ks.map V.int)))
/-- sorted(set(e)), e a list of small ints that rise -/
theorem pe_sortSet (hc : X.calm = true) (hg : Gl X "sorted") (hm : X.mg "sorted" = none) (hg2 : Gl X "set") (hm2 : X.mg "set" = none) (he : PE X e te)
    (hs : starEach [e] X.env = [(false, eval e X.env)] := by rfl) :
    PE X (.Call (.Name "sorted" p) [.Call (.Name "set" p2) [e] [] pos2] [] pos) (tSortSet X.K te) := by
  intro pins s σ H Q I h
  refine wpAny_Call_Name_kw (ld_blt I hg hm rfl ?_ (by decide) (by decide))
  refine PyProof.Rows.callWith_builtin1 ?_ rfl rfl
  show wpAny _ _ (spliced ((false, eval (.Call (.Name "set" p2) [e] [] pos2) X.env) :: backTo pos (starEach [] X.env))) _ _ s
  refine Calls.spliced_cons ?_
  refine wpAny_Call_Name_kw (ld_blt I hg2 hm2 rfl ?_ (by decide) (by decide))
  refine PyProof.Rows.callWith_type1 ?_ hs rfl
  rw [hs]
  show wpAny _ _ (spliced ((false, eval e X.env) :: backTo pos2 (starEach [] X.env))) _ _ s
  refine Calls.spliced_cons (thn (he pins s σ H _ I h) fun u s1 ⟨v, H1, I1, rv, a, ns, ev, hsq, up, sm, q⟩ => ?_)
  subst ev
  obtain rfl : u = Value.ref a := rv
  refine Calls.spliced_nil ?_
  obtain ⟨its, rvs, hl, _⟩ := I1.list hsq
  have hi := rvs.ints
  have hlen : its.length = ns.length := IntsAre.length hi
  have up' : ∀ i j, i ≤ j → j < its.toArray.size → ns.getD i 0 ≤ ns.getD j 0 := fun i j hij hj => by
    rw [List.size_toArray, hlen] at hj
    rw [List.getD_eq_getElem?_getD, List.getD_eq_getElem?_getD, List.getElem?_eq_getElem hj, List.getElem?_eq_getElem (Nat.lt_of_le_of_lt hij hj)]
    rcases Nat.lt_or_ge i j with z | z
    · exact List.pairwise_iff_getElem.mp up i j (by omega) hj z
    · obtain rfl : i = j := by omega
      exact Int.le_refl _
  have small : ∀ i, i < its.toArray.size → 0 ≤ ns.getD i 0 ∧ ns.getD i 0 ≤ 8 := fun i hj => by
    rw [List.size_toArray, hlen] at hj
    exact sm _ (getD_memI hj)
  have rise := met_rising (val := fun i => ns.getD i 0) up'
  have insub : ∀ i, i ≤ its.toArray.size → ∀ k ∈ firstMet (fun i => ns.getD i 0) i, 0 ≤ k ∧ k ≤ 8 := fun i hi' k hk => by
    obtain ⟨j, hj, e⟩ := ((rise i hi').2 k).mp hk
    rw [e]
    exact small j (by omega)
  refine set_of_list (I1.ok.hd hc) hl.isList (by simpa using hi) small (fun i hi' => ?_) fun h' tk SX old => ?_
  · have := (rising_sub 9 0 _ (rise i hi').1 fun k hk => by have := insub i hi' k hk; omega).length_le
    have z : (runI 0 9).length = 9 := rfl
    omega
  · have rz := rise its.toArray.size (Nat.le_refl _)
    obtain ⟨o, es, ep, t, go, Y, gi, gp⟩ := fit_of SX rz.1
    refine Calls.spliced_nil ?_
    have I2 : Inv X pins σ H1 { s1 with heap := h', toks := tk } := I1.kept old
    have sz : es.size ≤ 9 := by
      have := (rising_sub 9 0 _ rz.1 fun k hk => by have := insub _ (Nat.le_refl _) k hk; omega).length_le
      have z : (runI 0 9).length = 9 := rfl
      have l2 := gp.length_eq
      rw [List.length_map, Array.length_toList] at l2
      omega
    have szl : es.size ≤ sizeLine := by rw [sizeLine_eq]; omega
    refine Calls.call_function_entry kind_sorted plain_sorted entry_sorted (args_sorted1 _) ?_
    unfold Builtin.«sorted»
    refine wpAny_bind (m := checkCount "sorted" 1 1 [Value.ref s1.heap.objs.size].length) (wpAny_pure (wpAny_bind (PySem.W.kdu_collect (s := { s1 with heap := h', toks := tk }) (A := X.A.in1) (src_set Y) (I2.ok.hd hc) go szl fun h2 tk2 acc old2 hacc => ?_)))
    have ea : acc.toList = (ordered X.w s1.heap.objs.size es ep).toList.map (·.2) := by
      refine List.ext_getElem? fun j => ?_
      rw [Array.getElem?_toList]
      by_cases hj : j < acc.size
      · rw [Array.getElem?_eq_getElem hj]
        obtain ⟨k, hk⟩ := hacc.2 j acc[j] (Array.getElem?_eq_getElem hj)
        rw [List.getElem?_map, Array.getElem?_toList, hk]
        rfl
      · have z : (ordered X.w s1.heap.objs.size es ep).size ≤ j := by
          rw [ordered_size, ← hacc.1]
          omega
        rw [Array.getElem?_eq_none (by omega), List.getElem?_map, Array.getElem?_toList, Array.getElem?_eq_none z]
        rfl
    have op := ordered_perm X.w s1.heap.objs.size es ep
    have hI : IntsAre acc.toList ((ordered X.w s1.heap.objs.size es ep).toList.map (·.1)) := by
      rw [ea]
      exact ints_of fun x hx => gi x (op.mem_iff.mp hx)
    have kp : ((ordered X.w s1.heap.objs.size es ep).toList.map (·.1)).Perm (firstMet (fun i => ns.getD i 0) its.toArray.size) := (op.map _).trans gp
    have al : acc.toList.length ≤ sizeLine := by
      rw [Array.length_toList, hacc.1]
      exact szl
    refine wpAny_bind (wpAny_newList ?_ al)
    have I3 : Inv X pins σ H1 { s1 with heap := h2, toks := tk2 } := I1.kept fun b ob z => old2 b ob (old b ob z)
    have hoL : (h2.push (seqObj "list" acc.toList.toArray 0)).get? h2.objs.size = some (seqObj "list" acc.toList.toArray 0) := Heap.get?_push_size _ rfl
    refine wpAny_bind (wpAny_holding (wpAny_call_entry slot_list_sort ⟨_, hoL, rfl⟩ entry_list_sort (list_sort_treeAny hoL hI al fun out ns' a1 a2 a3 => ⟨_, rfl, wpAny_pure ⟨_, rfl, ?_⟩⟩) (args_list_sort _)))
    have pk : ns'.Perm (firstMet (fun i => ns.getD i 0) its.toArray.size) := a2.trans kp
    have ms : ∀ x, x ∈ ns' ↔ x ∈ ns := fun x => by
      rw [pk.mem_iff, rz.2 x]
      constructor
      · rintro ⟨j, hj, rfl⟩
        rw [List.size_toArray, hlen] at hj
        exact getD_memI hj
      · intro hx
        obtain ⟨j, hj, z⟩ := List.mem_iff_getElem.mp hx
        refine ⟨j, by rw [List.size_toArray, hlen]; exact hj, ?_⟩
        rw [List.getD_eq_getElem?_getD, List.getElem?_eq_getElem hj]
        exact z.symm
    have fr : H1 h2.objs.size = none := I3.hok.fresh (Nat.le_refl _)
    obtain ⟨n', hat⟩ := sortedHeap_at (out := out) hoL
    refine ⟨.ref h2.objs.size, upd H1 h2.objs.size (.lst (ns'.map V.int)), ?_, rfl, q ns' _ (strict_of pk a3 rz.1) ms fr⟩
    refine I3.laid (t' := tk2) (a := h2.objs.size) (o := .lst (ns'.map V.int)) (fun b ob z => ?_) (Nat.le_refl _) ⟨?_, out.toList, n', vals_of_ints a1, ?_⟩
    · have hb : b < h2.objs.size := Heap.lt_size z
      rw [sortedHeap_old (Nat.ne_of_lt hb) (by rw [size_push']; exact Nat.lt_succ_of_lt hb)]
      exact Heap.get?_push_of_some _ z
    · rw [List.length_map, a2.length_eq, List.length_map, Array.length_toList, ordered_size]
      exact szl
    · exact hat
end
end Bm

end
section
set_option Elab.async false
set_option linter.all false
set_option maxRecDepth 100000
set_option maxHeartbeats 2000000
namespace Bm
open PySem PySem.Spec PyProof.Rows L2
open Kri5 (Pair Quantity House pairsOf nextAll)

abbrev sPla : Stmt := top 51
abbrev sWyA : Stmt := top 52
abbrev sFlat : Stmt := top 53
abbrev sTPl : Stmt := top 54
abbrev sTPr : Stmt := top 55
theorem act_pairs {h : House} {i : Nat} (hi : i < h.qs.length) : Kri5.act (some h) (.pairs i) = (some h, { num := ((h.q i).pairs.length : Nat), nums := Kri5.flat (h.q i).pairs }) :=
  congrArg (Prod.mk (some h)) (if_neg (no_of hi))
theorem act_ways {h : House} {i : Nat} (hi : i < h.qs.length) : Kri5.act (some h) (.ways i) = (some h, Kri5.say (h.ways i : Nat)) :=
  congrArg (Prod.mk (some h)) (if_neg (no_of hi))
theorem act_may {h : House} {i : Nat} (hi : i < h.qs.length) : Kri5.act (some h) (.may i) = (some h, Kri5.list (h.places i)) :=
  congrArg (Prod.mk (some h)) (if_neg (no_of hi))
theorem flat_snoc (l : List Pair) (x : Pair) : Kri5.flat (l ++ [x]) = Kri5.flat l ++ [(x.1 : Int), (x.2 : Int)] := by
  unfold Kri5.flat
  rw [List.flatMap_append]
  rfl
theorem flat_len (l : List Pair) : (Kri5.flat l).length = 2 * l.length := by
  unfold Kri5.flat
  rw [List.length_flatMap]
  simp [List.map_const', Nat.mul_comm]
theorem inK {X : Cx} (K : PySem.W.Frag) (h : X.K = K) : OpR X (compareOp .In) (rIn K false) := by
  subst h
  exact op_in_seq
/-- what the plant's list of the quantity i is -/
structure QAt (C : Addr) (G H : Hp) (p : Addr) (h : House) (i : Nat) (dx lm lp le ai : Addr) (as rr : List Addr) : Prop where
  ins : H p = some (.ins C dx (pf (h.now : Int) lm lp le))
  ms : H lm = some (.lst (vi (h.qs.map (·.marks))))
  ps : H lp = some (.lst (as.map V.ref))
  mrk : atI (vi (h.qs.map (·.marks))) (i : Int) = some (.int ((h.q i).marks : Int))
  at_ : atI (as.map V.ref) (i : Int) = some (.ref ai)
  lst : H ai = some (.lst (rr.map V.ref))
  frz : G ai = some (.lst (rr.map V.ref))
  prs : Paired (TupAt G) rr (h.q i).pairs
theorem PlantAt.qat {C : Addr} {G H : Hp} {p : Addr} {own : List Addr} {h : House} {i : Nat} (P : PlantAt C G H p own h) (hi : i < h.qs.length) : ∃ dx lm lp le ai as rr, QAt C G H p h i dx lm lp le ai as rr := by
  obtain ⟨dx, lm, lp, le, sn, _, nd, h1, ⟨h2, as, h3, h4⟩, h5, h6⟩ := P.ex
  obtain ⟨ai, hai, rr, hr1, hr2⟩ := pr_getR h4 (q_at hi)
  refine ⟨dx, lm, lp, le, ai, as, rr, h1, h2, h3, atI_nat ?_, atI_nat (by rw [List.getElem?_map, hai]; rfl), P.sub _ _ hr1, hr1, hr2⟩
  unfold vi
  rw [List.getElem?_map, List.getElem?_map, q_at hi]
  rfl
/-- the weights of the first j directions that there are -/
def wl (ps : List Pair) (j : Nat) : List Int := ((List.range j).filter fun d => ps.any fun x => x.2 == d).map fun d => ((2 ^ d : Nat) : Int)
theorem wl_succ (ps : List Pair) (j : Nat) : wl ps (j + 1) = wl ps j ++ (if (ps.any fun x => x.2 == j) = true then [((2 ^ j : Nat) : Int)] else []) := by
  unfold wl
  rw [List.range_succ, List.filter_append, List.map_append, List.filter_cons, List.filter_nil]
  split <;> rfl
theorem wl_len (ps : List Pair) (j : Nat) : (wl ps j).length ≤ j := by
  unfold wl
  rw [List.length_map]
  refine Nat.le_trans (List.length_filter_le _ _) ?_
  rw [List.length_range]
  exact Nat.le_refl _
theorem wl_sum (ps : List Pair) : (wl ps 3).sum = ((((List.range 3).map fun d => if ps.any (fun x => x.2 == d) then 2 ^ d else 0).foldl (fun a b => a + b) 0 : Nat) : Int) := by
  rw [wl_succ, wl_succ, wl_succ]
  show _ = ((((List.range 3).map fun d => if (ps.any fun x => x.2 == d) = true then 2 ^ d else 0).foldl (fun a b => a + b) 0 : Nat) : Int)
  have e : (List.range 3) = [0, 1, 2] := rfl
  rw [e]
  simp only [List.map_cons, List.map_nil, List.foldl_cons, List.foldl_nil]
  show ((([] : List Int) ++ _ ++ _) ++ _).sum = _
  cases (ps.any fun x => x.2 == 0) <;> cases (ps.any fun x => x.2 == 1) <;> cases (ps.any fun x => x.2 == 2) <;> rfl
theorem vi_flat (l : List Nat) : (vi l).all flatV = true := by
  unfold vi
  rw [List.all_map]
  exact List.all_eq_true.mpr fun _ _ => rfl
theorem in_vi (j : Nat) (l : List Nat) : inV (.int (j : Int)) (vi l) = l.any fun e => e == j := by
  unfold inV vi
  rw [List.any_map]
  refine congrArg (fun f => l.any f) (funext fun e => ?_)
  show eqV (V.int (e : Int)) (V.int (j : Int)) = (e == j)
  unfold eqV
  rw [Bool.eq_iff_iff]
  simp
  omega
theorem any_snd (ps : List Pair) (j : Nat) : ((ps.map (·.2)).any fun e => e == j) = ps.any fun x => x.2 == j := by
  rw [List.any_map]
  rfl
theorem rising_eq : ∀ {l m : List Int}, l.Pairwise (· < ·) → m.Pairwise (· < ·) → (∀ x, x ∈ l ↔ x ∈ m) → l = m
  | [], [], _, _, _ => rfl
  | [], b :: m, _, _, h => (List.not_mem_nil ((h b).mpr List.mem_cons_self)).elim
  | a :: l, [], _, _, h => (List.not_mem_nil ((h a).mp List.mem_cons_self)).elim
  | a :: l, b :: m, p, q, h => by
    obtain ⟨p1, p2⟩ := List.pairwise_cons.mp p
    obtain ⟨q1, q2⟩ := List.pairwise_cons.mp q
    have e : a = b := by
      rcases List.mem_cons.mp ((h a).mp List.mem_cons_self) with z | z
      · exact z
      · rcases List.mem_cons.mp ((h b).mpr List.mem_cons_self) with y | y
        · exact y.symm
        · have := q1 a z
          have := p1 b y
          omega
    subst e
    refine congrArg (a :: ·) (rising_eq p2 q2 fun x => ⟨fun hx => ?_, fun hx => ?_⟩)
    · rcases List.mem_cons.mp ((h x).mp (List.mem_cons_of_mem _ hx)) with z | z
      · have := p1 x hx
        omega
      · exact z
    · rcases List.mem_cons.mp ((h x).mpr (List.mem_cons_of_mem _ hx)) with z | z
      · have := q1 x hx
        omega
      · exact z
/-- the places of these pairs, as ints -/
def firsts (ps : List Pair) : List Int := ps.map fun x => (x.1 : Int)
theorem firsts_le {ps : List Pair} (h : ps.Pairwise lexP) : (firsts ps).Pairwise (· ≤ ·) := by
  unfold firsts
  rw [List.pairwise_map]
  refine h.imp fun {a b} z => ?_
  rcases z with z | z <;> omega
theorem firsts_small {m : Nat} (hm : m ≤ 4) {ps : List Pair} (h : ∀ x ∈ ps, x ∈ pairsOf m) : ∀ x ∈ firsts ps, 0 ≤ x ∧ x ≤ 8 := fun x hx => by
  obtain ⟨y, hy, rfl⟩ := List.mem_map.mp hx
  have := (mem_pairsOf.mp (h y hy)).1
  omega
theorem places_of {m : Nat} {ps : List Pair} (h : ∀ x ∈ ps, x ∈ pairsOf m) {ks : List Int} (hk : ks.Pairwise (· < ·)) (hm : ∀ x, x ∈ ks ↔ x ∈ firsts ps) : ks = (plc m ps).map fun (x : Nat) => (x : Int) := by
  refine rising_eq hk ?_ fun x => ?_
  · rw [List.pairwise_map]
    unfold plc
    refine (List.Pairwise.filter _ List.pairwise_lt_range).imp fun z => ?_
    omega
  · rw [hm x]
    unfold firsts plc
    rw [List.mem_map, List.mem_map]
    constructor
    · rintro ⟨y, hy, rfl⟩
      refine ⟨y.1, List.mem_filter.mpr ⟨List.mem_range.mpr ?_, List.any_eq_true.mpr ⟨y, hy, beq_self_eq_true _⟩⟩, rfl⟩
      have := (mem_pairsOf.mp (h y hy)).1
      omega
    · rintro ⟨p, hp, rfl⟩
      obtain ⟨y, hy, z⟩ := List.any_eq_true.mp (List.mem_filter.mp hp).2
      exact ⟨y, hy, by rw [eq_of_beq z]⟩
theorem firsts_snoc (l : List Pair) (x : Pair) : firsts (l ++ [x]) = firsts l ++ [(x.1 : Int)] := by
  unfold firsts
  rw [List.map_append]
  rfl
theorem told_list (l : List Nat) : (Kri5Neutral.told (Kri5.list l)).map V.int = V.int (l.length : Int) :: vi l := by
  show V.int (l.length : Int) :: (Kri5.ints l).map V.int = _
  unfold Kri5.ints vi
  rw [List.map_map]
  rfl
/-- the directions of these pairs, weighed -/
def wyOf (ps : List Pair) : Nat := ((List.range 3).map fun d => if ps.any (fun x => x.2 == d) then 2 ^ d else 0).foldl (fun a b => a + b) 0
theorem sorted_of {m : Nat} {ps : List Pair} (h : ps.Sublist (pairsOf m)) : ps.Pairwise lexP := (pairsOf_sorted m).sublist h
theorem len_of {m : Nat} (hm : m ≤ 4) {ps : List Pair} (h : ps.Sublist (pairsOf m)) : ps.length ≤ 27 := by
  have := h.length_le
  rw [pairsOf_length] at this
  omega
theorem QAt.pat {C : Addr} {G H : Hp} {p : Addr} {h : House} {i : Nat} {dx lm lp le ai : Addr} {as rr : List Addr} (q : QAt C G H p h i dx lm lp le ai as rr) (s : Same G H) : PairsAt H ai (h.q i).pairs := ⟨rr, q.lst, pr_mono (fun _ _ e => s _ _ e) q.prs⟩
def spPla : Sp := fun vs H Q _ => ∃ (a : Addr) (m : Nat) (ps : List Pair), vs = [.ref a] ∧ m ≤ 4 ∧ PairsAt H a ps ∧ ps.Sublist (pairsOf m) ∧ ∀ (H' : Hp) (r : Addr), Same H H' → H r = none → H' r = some (.lst (vi (plc m ps))) → Q (.ref r) H'
def spWyA : Sp := fun vs H Q _ => ∃ (a : Addr) (ps : List Pair), vs = [.ref a] ∧ PairsAt H a ps ∧ ps.length ≤ 27 ∧ ∀ H' : Hp, Same H H' → Q (.int (wyOf ps : Nat)) H'
def spFlat : Sp := fun vs H Q _ => ∃ (a : Addr) (ps : List Pair), vs = [.ref a] ∧ PairsAt H a ps ∧ ps.length ≤ 27 ∧ ∀ (H' : Hp) (r : Addr), Same H H' → H r = none → H' r = some (.lst ((Kri5.flat ps).map V.int)) → Q (.ref r) H'
def spTPl : Sp := fun vs H Q _ => ∃ (a : Addr) (m : Nat) (ps : List Pair), vs = [.ref a] ∧ m ≤ 4 ∧ PairsAt H a ps ∧ ps.Sublist (pairsOf m) ∧ ∀ (H' : Hp) (r : Addr), Same H H' → H r = none → IntsAt H' r (Kri5Neutral.told (Kri5.list (plc m ps))) → Q (.ref r) H'
def spTPr : Sp := fun vs H Q _ => ∃ (a : Addr) (ps : List Pair), vs = [.ref a] ∧ PairsAt H a ps ∧ ps.length ≤ 27 ∧ ∀ (H' : Hp) (r : Addr), Same H H' → H r = none → IntsAt H' r ((ps.length : Int) :: Kri5.flat ps) → Q (.ref r) H'
section
variable {P : Program} {w : World} {K : PySem.W.Frag} {mg : Str → Option Value} {base : Heap} {aD C : Addr}
theorem scPla : FnScope ["possible", "pair"] ["possible"] (defScope sPla) := ⟨rfl, rfl, rfl, by decide +kernel, rfl, by decide +kernel, by decide +kernel⟩
theorem ok_pla {f : Addr} {fd : FuncData} (D : Def K mg "places_among" sPla ["possible"] f fd) (TD : Dirs K mg aD) (hset : mg "set" = none) : FnOk P w K mg base CX0 1 f fd ["possible"] spPla := by
  refine D.fn.ok scPla (fun vs H Q E h => ?_) (fun cdv A outer s H vs Q E hr h => ?_)
  · obtain ⟨a, m, ps, rfl, _⟩ := h
    rfl
  · obtain ⟨a, m, ps, rfl, hm, ⟨rr, e1, e2⟩, hsub, kk⟩ := h
    have hin : ∀ x ∈ ps, x ∈ pairsOf m := fun x hx => hsub.subset hx
    have h27 := len_of hm hsub
    refine ⟨_, pss_one (ps_ret (pe_sortSet rfl (by rfl) TD.srt (by rfl) hset
        (pe_lc (own := [("pair", 1)]) rfl scPla.nd (pi_list (pv 0)) (blkOk_by (by show blkC ["possible", "pair"] (defScope sPla) _ _ = true; decide +kernel))
          (fun _ _ _ _ _ => pg_name (i := 1) scPla.nd rfl (Or.inl rfl)) (fun _ _ _ _ _ => pts_nil) (fun _ _ _ _ _ => pe_ix (ixt K rfl) (pv 1) pe_int (fun _ _ => rfl))))), ?_⟩
    refine ⟨_, rfl, a, rfl, ⟨_, SqL.of e1⟩, fun L hL => ?_⟩
    refine lc_list (K := K) (a := a) (xs := rr.map V.ref) (fun j H' => Same H H' ∧ H' L = some (.lst ((firsts (ps.take j)).map V.int))) ⟨same_new hL, upd_same⟩ (fun j H' _ ⟨s1, _⟩ => SqL.of (s1 _ _ e1)) ?_ ?_
    · rintro j y H1 hy ⟨s1, h1⟩
      obtain ⟨r, hr1, rfl⟩ := map_get hy
      obtain ⟨x, hx, hxr⟩ := pr_getL e2 hr1
      refine ⟨rfl, tYes_of ⟨_, rfl, r, _, _, _, rfl, rfl, tup0 (s1 _ _ hxr), at_of (j := 0) rfl rfl, _, h1, ?_, ?_, ?_⟩⟩
      · unfold firsts
        rw [List.length_map, List.length_map, List.length_take]
        exact line_small (by omega)
      · intro b o e
        rw [upd_ne (ne_of_none e hL)]
        exact s1 b o e
      · rw [upd_same, take_one hx, firsts_snoc, List.map_append]
        rfl
    · rintro H1 ⟨s1, h1⟩
      rw [List.length_map, e2.length, List.take_length] at h1
      refine ⟨L, firsts ps, rfl, SqL.of h1, firsts_le (sorted_of hsub), firsts_small hm hin, fun ks r hks hmem hr' => ?_⟩
      refine kk _ r (s1.trans (same_new hr')) (s1.free hr') ?_
      rw [upd_same, places_of hin hks hmem, List.map_map]
      rfl
theorem scWyA : FnScope ["possible", "seen", "pair", "direction"] ["possible"] (defScope sWyA) := ⟨rfl, rfl, rfl, by decide +kernel, rfl, by decide +kernel, by decide +kernel⟩
theorem ok_wya {f : Addr} {fd : FuncData} (D : Def K mg "ways_among" sWyA ["possible"] f fd) (TD : Dirs K mg aD) (hsum : mg "sum" = none) : FnOk P w K mg base CX0 1 f fd ["possible"] spWyA := by
  refine D.fn.ok scWyA (fun vs H Q E h => ?_) (fun cdv A outer s H vs Q E hr h => ?_)
  · obtain ⟨a, ps, rfl, _⟩ := h
    rfl
  · obtain ⟨a, ps, rfl, ⟨rr, e1, e2⟩, h27, kk⟩ := h
    refine ⟨_, pss_cons (ps_set (i := 1) scWyA.nd rfl (Or.inr rfl) (pe_lc (own := [("pair", 2)]) rfl scWyA.nd (pi_list (pv 0)) (blkOk_by (by show blkC ["possible", "seen", "pair", "direction"] (defScope sWyA) _ _ = true; decide +kernel))
          (fun _ _ _ _ _ => pg_name (i := 2) scWyA.nd rfl (Or.inl rfl)) (fun _ _ _ _ _ => pts_nil) (fun _ _ _ _ _ => pe_ix (ixt K rfl) (pv 2) pe_int (fun _ _ => rfl))))
      (pss_one (ps_ret (pe_callB (cr_sum rfl) (by rfl) hsum boot_sum (pa_cons
        (pe_lc (own := [("direction", 3)]) rfl scWyA.nd (pi_tup (pe_glob (v := .ref aD) rfl TD.dirs rfl)) (blkOk_by (by show blkC ["possible", "seen", "pair", "direction"] (defScope sWyA) _ _ = true; decide +kernel))
          (fun _ _ _ _ _ => pg_name (i := 3) scWyA.nd rfl (Or.inl rfl)) (fun _ _ _ _ _ => pts_one (pt_cmpR (inK K rfl) (pv 3) (pv 1) (by with_unfolding_all rfl))) (fun _ _ _ _ _ => pe_op op_shl pe_int (pv 3))) pa_nil)))), ?_⟩
    refine ⟨_, rfl, a, rfl, ⟨_, SqL.of e1⟩, fun L hL => ?_⟩
    refine lc_list (K := K) (a := a) (xs := rr.map V.ref) (fun j H' => Same H H' ∧ H' L = some (.lst (vi ((ps.take j).map (·.2))))) ⟨same_new hL, upd_same⟩ (fun j H' _ ⟨s1, _⟩ => SqL.of (s1 _ _ e1)) ?_ ?_
    · rintro j y H1 hy ⟨s1, h1⟩
      obtain ⟨r, hr1, rfl⟩ := map_get hy
      obtain ⟨x, hx, hxr⟩ := pr_getL e2 hr1
      refine ⟨rfl, tYes_of ⟨_, rfl, r, _, _, _, rfl, rfl, tup0 (s1 _ _ hxr), at_of (j := 1) rfl rfl, _, h1, ?_, ?_, ?_⟩⟩
      · rw [vi_len, List.length_map, List.length_take]
        exact line_small (by omega)
      · intro b o e
        rw [upd_ne (ne_of_none e hL)]
        exact s1 b o e
      · rw [upd_same, take_one hx, List.map_append]
        exact congrArg (fun z => some (HO.lst z)) (vi_snoc _ _)
    · rintro H1 ⟨s1, h1⟩
      rw [List.length_map, e2.length, List.take_length] at h1
      refine ⟨aD, rfl, ⟨_, TD.dirT _⟩, fun L2 hL2 => ?_⟩
      refine lc_tup (K := K) (a := aD) (xs := [.int 0, .int 1, .int 2]) (fun j H' => Same H1 H' ∧ H' L2 = some (.lst ((wl ps j).map V.int))) ⟨same_new hL2, upd_same⟩ (fun j H' _ _ => TD.dirT _) ?_ ?_
      · rintro j y H2 hy ⟨s2, h2⟩
        obtain ⟨hj, rfl⟩ := dirs_get hy
        refine ⟨rfl, _, rfl, _, rfl, L, _, rfl, .inl (SqL.of (s2 _ _ h1)), rfl, vi_flat _, _, rfl, ?_⟩
        show if (if false = true then !inV (.int (j : Int)) (vi (ps.map (·.2))) else inV (.int (j : Int)) (vi (ps.map (·.2)))) = true then _ else _
        rw [if_neg Bool.false_ne_true, in_vi, wl_succ, any_snd]
        refine ite2 (fun c => ?_) (fun c => ?_)
        · refine ⟨_, rfl, _, _, rfl, rfl, ⟨by omega, by omega, by decide⟩, _, h2, ?_, ?_, ?_⟩
          · rw [List.length_map]
            exact line_small (Nat.lt_of_le_of_lt (wl_len _ _) (by omega))
          · intro b o e
            rw [upd_ne (ne_of_none e hL2)]
            exact s2 b o e
          · rw [upd_same, if_pos c, List.map_append]
            show some (HO.lst ((wl ps j).map V.int ++ [V.int (1 * 2 ^ ((j : Int)).toNat)])) = some (HO.lst ((wl ps j).map V.int ++ [V.int ((2 ^ j : Nat) : Int)]))
            rw [Int.toNat_natCast, Int.one_mul]
            rfl
        · rw [if_neg c, List.append_nil]
          exact ⟨s2, h2⟩
      · rintro H2 ⟨s2, h2⟩
        refine ⟨L2, _, rfl, SqL.of h2, ?_⟩
        show Q (.int (wl ps 3).sum) H2
        rw [wl_sum]
        exact kk H2 (s1.trans s2)
theorem scFlat : FnScope ["listed", "told", "pair"] ["listed"] (defScope sFlat) := ⟨rfl, rfl, rfl, by decide +kernel, rfl, by decide +kernel, by decide +kernel⟩
theorem ok_flat {f : Addr} {fd : FuncData} (D : Def K mg "flattened" sFlat ["listed"] f fd) : FnOk P w K mg base CX0 1 f fd ["listed"] spFlat := by
  refine D.fn.ok scFlat (fun vs H Q E h => ?_) (fun cdv A outer s H vs Q E hr h => ?_)
  · obtain ⟨a, ps, rfl, _⟩ := h
    rfl
  · obtain ⟨a, ps, rfl, ⟨rr, e1, e2⟩, h27, kk⟩ := h
    refine ⟨_, pss_cons (ps_set (i := 1) scFlat.nd rfl (Or.inl rfl) (pe_lst pa_nil))
      (pss_cons (ps_for PassesOwn.never rfl (pi_list (pv 0)) (pg_name (i := 2) scFlat.nd rfl (Or.inl rfl))
        (pss_one (ps_expr (pe_bm PySem.F.plainAttrs_list PySem.F.slot_list_extend PySem.F.type_list_extend mt_extendT (pv 1) (pa_cons (pv 2) pa_nil)))))
      (pss_one (ps_ret (pv 1)))), ?_⟩
    refine ⟨Nat.zero_le _, fun tl htl => ?_⟩
    refine ⟨_, rfl, a, rfl, ⟨_, SqL.of (same_new htl _ _ e1)⟩, for_list (K := K) (a := a) (xs := rr.map V.ref) (fun j σ H' => ∃ v2 : Option V, σ = [some (.ref a), some (.ref tl), v2] ∧ Same H H' ∧ H' tl = some (.lst ((Kri5.flat (ps.take j)).map V.int)))
      ⟨none, rfl, same_new htl, upd_same⟩ (fun j σ H' _ ⟨_, _, s1, _⟩ => SqL.of (s1 _ _ e1)) ?_ ?_⟩
    · rintro j y σ H1 hy ⟨v2, rfl, s1, h1⟩
      obtain ⟨r, hr1, rfl⟩ := map_get hy
      obtain ⟨x, hx, hxr⟩ := pr_getL e2 hr1
      have hl : (Kri5.flat (ps.take j)).length ≤ 54 := by
        rw [flat_len, List.length_take]
        omega
      refine ⟨_, rfl, .inl ⟨rfl, _, SqL.of h1⟩, _, rfl, tl, r, _, _, rfl, rfl, h1, tup0 (s1 _ _ hxr), (by rw [List.length_map, sizeLine_eq]; simp only [List.length_cons, List.length_nil] at hl ⊢; omega), ?_⟩
      refine ⟨_, rfl, fun b o e => ?_, ?_⟩
      · rw [upd_ne (ne_of_none e htl)]
        exact s1 b o e
      · rw [upd_same, take_one hx, flat_snoc, List.map_append]
        rfl
    · rintro σ H1 ⟨v2, rfl, s1, h1⟩
      rw [List.length_map, e2.length, List.take_length] at h1
      exact ⟨_, rfl, kk H1 tl s1 htl h1⟩
theorem scTPl : FnScope ["possible", "places"] ["possible"] (defScope sTPl) := ⟨rfl, rfl, rfl, by decide +kernel, rfl, by decide +kernel, by decide +kernel⟩
theorem ok_tpl {f : Addr} {fd : FuncData} (D : Def K mg "tell_places" sTPl ["possible"] f fd) (TD : Dirs K mg aD) (GP : Fn P w K mg base "places_among" ["possible"] 1 spPla) : FnOk P w K mg base CX0 2 f fd ["possible"] spTPl := by
  refine D.fn.ok scTPl (fun vs H Q E h => ?_) (fun cdv A outer s H vs Q E hr h => ?_)
  · obtain ⟨a, m, ps, rfl, _⟩ := h
    rfl
  · obtain ⟨a, m, ps, rfl, hm, hp, hsub, kk⟩ := h
    refine ⟨_, pss_cons (ps_set (i := 1) scTPl.nd rfl (Or.inl rfl) (pe_fn GP hr rfl (pa_cons (pv 0) pa_nil)))
      (pss_one (ps_ret (pe_op op_cat (pe_lst (pa_cons (pe_callB call_len_seq (by rfl) TD.len PySem.boot_len (pa_cons (pv 1) pa_nil)) pa_nil)) (pv 1)))), ?_⟩
    refine ⟨_, rfl, a, m, ps, rfl, hm, hp, hsub, fun H1 r s1 hr1 h1 => ?_⟩
    refine ⟨_, rfl, r, _, rfl, .inl (SqL.of h1), len1, fun t ht => ?_⟩
    have ne : r ≠ t := ne_of_none h1 ht
    have el := plc_len m hm ps
    refine ⟨_, rfl, t, r, _, _, rfl, rfl, upd_same, by rw [upd_ne ne]; exact h1, ?_, fun u hu => ?_⟩
    · rw [vi_len, sizeLine_eq]
      show 1 + _ ≤ _
      omega
    · refine kk _ u ((s1.trans (same_new ht)).trans (same_new hu)) ((s1.trans (same_new ht)).free hu) ?_
      show (upd _ u _) u = _
      rw [upd_same, told_list, vi_len]
      rfl
theorem scTPr : FnScope ["listed"] ["listed"] (defScope sTPr) := ⟨rfl, rfl, rfl, by decide +kernel, rfl, by decide +kernel, by decide +kernel⟩
theorem ok_tpr {f : Addr} {fd : FuncData} (D : Def K mg "tell_pairs" sTPr ["listed"] f fd) (TD : Dirs K mg aD) (GF : Fn P w K mg base "flattened" ["listed"] 1 spFlat) : FnOk P w K mg base CX0 2 f fd ["listed"] spTPr := by
  refine D.fn.ok scTPr (fun vs H Q E h => ?_) (fun cdv A outer s H vs Q E hr h => ?_)
  · obtain ⟨a, ps, rfl, _⟩ := h
    rfl
  · obtain ⟨a, ps, rfl, hp, h27, kk⟩ := h
    obtain ⟨rr, e1, e2⟩ := id hp
    refine ⟨_, pss_one (ps_ret (pe_op op_cat (pe_lst (pa_cons (pe_callB call_len_seq (by rfl) TD.len PySem.boot_len (pa_cons (pv 0) pa_nil)) pa_nil)) (pe_fn GF hr rfl (pa_cons (pv 0) pa_nil)))), ?_⟩
    refine ⟨_, rfl, a, _, rfl, .inl (SqL.of e1), len1, fun t ht => ?_⟩
    refine ⟨_, rfl, a, ps, rfl, hp.mono (same_new ht), h27, fun H1 r s1 hr1 h1 => ?_⟩
    have fl : ((Kri5.flat ps).map V.int).length ≤ 54 := by
      rw [List.length_map, flat_len]
      omega
    refine ⟨t, r, _, _, rfl, rfl, s1 _ _ upd_same, h1, ?_, fun u hu => ?_⟩
    · rw [sizeLine_eq]
      show 1 + _ ≤ _
      omega
    · refine kk _ u (((same_new ht).trans s1).trans (same_new hu)) (((same_new ht).trans s1).free hu) ?_
      show (upd _ u _) u = _
      rw [upd_same, List.length_map, e2.length]
      rfl
end
end Bm

end
section
set_option Elab.async false
set_option linter.all false
set_option maxRecDepth 100000
set_option maxHeartbeats 2000000
namespace Bm
open PySem PySem.Spec PyProof.Rows L2
open Kri5 (Pair Quantity House pairsOf nextAll)

abbrev sMay : Stmt := top 56
abbrev sWays : Stmt := top 57
abbrev sPairs : Stmt := top 58
abbrev sSure : Stmt := top 59
abbrev sLater : Stmt := top 60
abbrev sFoll : Stmt := top 65
abbrev sPrece : Stmt := top 66
abbrev sCount : Stmt := top 68
abbrev sLook : Stmt := top 69
abbrev sState : Stmt := top 70
section
variable {C : Addr} {G H H1 : Hp} {own : List Addr} {p : Addr} {h : House} {Q : VK} {k : Kri5.Call} {a : Kri5.Ans} {v : Int} {r : Addr}
/-- an answer that changes nothing, in a new list -/
theorem fin_ask (PA : PlantAt C G H p own h) (kk : ∀ (G' H' : Hp) (own' : List Addr) (h' : House) (a : Kri5.Ans) (r : Addr), Kri5.act (some h) k = (some h', a) → PlantAt C G' H' p own' h' → Stp G H own G' H' own' → Apart H own r → IntsAt H' r (Kri5Neutral.told a) → Q (.ref r) H')
    (e : Kri5.act (some h) k = (some h, a)) (s : Same H H1) (hr : H r = none) (i : IntsAt H1 r (Kri5Neutral.told a)) : Q (.ref r) H1 := kk G H1 own h a r e (PA.same s) (Stp.of_same s) (apart_new hr) i
/-- .. of one number -/
theorem one_say (PA : PlantAt C G H p own h) (kk : ∀ (G' H' : Hp) (own' : List Addr) (h' : House) (a : Kri5.Ans) (r : Addr), Kri5.act (some h) k = (some h', a) → PlantAt C G' H' p own' h' → Stp G H own G' H' own' → Apart H own r → IntsAt H' r (Kri5Neutral.told a) → Q (.ref r) H')
    (s : Same H H1) (e : Kri5.act (some h) k = (some h, Kri5.say v)) : 1 ≤ sizeLine ∧ ∀ r, H1 r = none → Q (.ref r) (upd H1 r (.lst [.int v])) :=
  ⟨len1, fun r hr => fin_ask PA kk e (s.trans (same_new hr)) (s.free hr) upd_same⟩
end
section
variable {P : Program} {w : World} {K : PySem.W.Frag} {mg : Str → Option Value} {base : Heap} {aD C : Addr}
theorem scMay : FnScope ["plant", "given"] ["plant", "given"] (defScope sMay) := ⟨rfl, rfl, rfl, by decide +kernel, rfl, by decide +kernel, by decide +kernel⟩
theorem ok_may {f : Addr} {fd : FuncData} (D : Def K mg "may" sMay ["plant", "given"] f fd) (T : PCls K mg C) (GT : Fn P w K mg base "tell_places" ["possible"] 2 spTPl) : FnOk P w K mg base CX0 3 f fd ["plant", "given"] (spDo C 8) := by
  refine D.fn.ok scMay (fun vs H Q E h => ?_) (fun cdv A outer s H vs Q E hr h => ?_)
  · obtain ⟨p, g, G, own, h, k, rfl, _⟩ := h
    rfl
  · obtain ⟨p, g, G, own, h, k, rfl, PA, ok, hg, hk, hq, kk⟩ := h
    obtain ⟨i, rfl⟩ : ∃ i, k = .may i := by cases k <;> simp [num] at hk; exact ⟨_, rfl⟩
    have hi : i < h.qs.length := hq i rfl
    obtain ⟨rs, hg1, hg2⟩ := hg
    cases hg2
    have hgH : H g = some (.lst [.int (i : Int)]) := PA.sub _ _ hg1
    obtain ⟨dx, lm, lp, le, ai, as, rr, q⟩ := PA.qat hi
    have qok := ok.q hi
    refine ⟨_, pss_one (ps_ret (pe_fn GT hr rfl (pa_cons (pe_ix ix_list (pe_fld (pv 0) rfl) (pe_ix ix_list (pv 1) pe_int (fun _ _ => rfl)) (fun _ _ => rfl)) pa_nil))), ?_⟩
    refine ⟨_, rfl, p, C, dx, _, _, rfl, q.ins, T.cl, T.nPo, pf_possible _ _ _ _, _, rfl, g, _, _, _, rfl, rfl, SqL.of hgH, at_of (j := 0) rfl rfl, lp, _, _, _, rfl, rfl, SqL.of q.ps, q.at_, ai, (h.q i).marks, _, rfl, qok.marks, q.pat PA.sub, qok.sub, fun H1 r s1 hr1 h1 => ?_⟩
    exact fin_ask PA kk (act_may hi) s1 hr1 h1
theorem scWays : FnScope ["plant", "given"] ["plant", "given"] (defScope sWays) := ⟨rfl, rfl, rfl, by decide +kernel, rfl, by decide +kernel, by decide +kernel⟩
theorem ok_ways {f : Addr} {fd : FuncData} (D : Def K mg "ways" sWays ["plant", "given"] f fd) (T : PCls K mg C) (GW : Fn P w K mg base "ways_among" ["possible"] 1 spWyA) : FnOk P w K mg base CX0 2 f fd ["plant", "given"] (spDo C 9) := by
  refine D.fn.ok scWays (fun vs H Q E h => ?_) (fun cdv A outer s H vs Q E hr h => ?_)
  · obtain ⟨p, g, G, own, h, k, rfl, _⟩ := h
    rfl
  · obtain ⟨p, g, G, own, h, k, rfl, PA, ok, hg, hk, hq, kk⟩ := h
    obtain ⟨i, rfl⟩ : ∃ i, k = .ways i := by cases k <;> simp [num] at hk; exact ⟨_, rfl⟩
    have hi : i < h.qs.length := hq i rfl
    obtain ⟨rs, hg1, hg2⟩ := hg
    cases hg2
    have hgH : H g = some (.lst [.int (i : Int)]) := PA.sub _ _ hg1
    obtain ⟨dx, lm, lp, le, ai, as, rr, q⟩ := PA.qat hi
    have qok := ok.q hi
    refine ⟨_, pss_one (ps_ret (pe_lst (pa_cons (pe_fn GW hr rfl (pa_cons (pe_ix ix_list (pe_fld (pv 0) rfl) (pe_ix ix_list (pv 1) pe_int (fun _ _ => rfl)) (fun _ _ => rfl)) pa_nil)) pa_nil))), ?_⟩
    refine ⟨_, rfl, p, C, dx, _, _, rfl, q.ins, T.cl, T.nPo, pf_possible _ _ _ _, _, rfl, g, _, _, _, rfl, rfl, SqL.of hgH, at_of (j := 0) rfl rfl, lp, _, _, _, rfl, rfl, SqL.of q.ps, q.at_, ai, _, rfl, q.pat PA.sub, qok.len, fun H1 s1 => ?_⟩
    exact one_say PA kk s1 (act_ways hi)
theorem scPairs : FnScope ["plant", "given"] ["plant", "given"] (defScope sPairs) := ⟨rfl, rfl, rfl, by decide +kernel, rfl, by decide +kernel, by decide +kernel⟩
theorem ok_pairs {f : Addr} {fd : FuncData} (D : Def K mg "pairs" sPairs ["plant", "given"] f fd) (T : PCls K mg C) (GT : Fn P w K mg base "tell_pairs" ["listed"] 2 spTPr) : FnOk P w K mg base CX0 3 f fd ["plant", "given"] (spDo C 10) := by
  refine D.fn.ok scPairs (fun vs H Q E h => ?_) (fun cdv A outer s H vs Q E hr h => ?_)
  · obtain ⟨p, g, G, own, h, k, rfl, _⟩ := h
    rfl
  · obtain ⟨p, g, G, own, h, k, rfl, PA, ok, hg, hk, hq, kk⟩ := h
    obtain ⟨i, rfl⟩ : ∃ i, k = .pairs i := by cases k <;> simp [num] at hk; exact ⟨_, rfl⟩
    have hi : i < h.qs.length := hq i rfl
    obtain ⟨rs, hg1, hg2⟩ := hg
    cases hg2
    have hgH : H g = some (.lst [.int (i : Int)]) := PA.sub _ _ hg1
    obtain ⟨dx, lm, lp, le, ai, as, rr, q⟩ := PA.qat hi
    have qok := ok.q hi
    refine ⟨_, pss_one (ps_ret (pe_fn GT hr rfl (pa_cons (pe_ix ix_list (pe_fld (pv 0) rfl) (pe_ix ix_list (pv 1) pe_int (fun _ _ => rfl)) (fun _ _ => rfl)) pa_nil))), ?_⟩
    refine ⟨_, rfl, p, C, dx, _, _, rfl, q.ins, T.cl, T.nPo, pf_possible _ _ _ _, _, rfl, g, _, _, _, rfl, rfl, SqL.of hgH, at_of (j := 0) rfl rfl, lp, _, _, _, rfl, rfl, SqL.of q.ps, q.at_, ai, _, rfl, q.pat PA.sub, qok.len, fun H1 r s1 hr1 h1 => ?_⟩
    exact fin_ask PA kk (act_pairs hi) s1 hr1 h1
theorem plc_ne {m : Nat} {ps : List Pair} (h : ∀ x ∈ ps, x ∈ pairsOf m) (hne : ps ≠ []) : plc m ps ≠ [] := by
  obtain ⟨x, r, rfl⟩ := List.exists_cons_of_ne_nil hne
  intro e
  have : x.1 ∈ plc m (x :: r) := by
    unfold plc
    refine List.mem_filter.mpr ⟨List.mem_range.mpr ?_, List.any_eq_true.mpr ⟨x, List.mem_cons_self, beq_self_eq_true _⟩⟩
    have := (mem_pairsOf.mp (h x List.mem_cons_self)).1
    omega
  rw [e] at this
  cases this
theorem scSure : FnScope ["plant", "given", "places"] ["plant", "given"] (defScope sSure) := ⟨rfl, rfl, rfl, by decide +kernel, rfl, by decide +kernel, by decide +kernel⟩
theorem ok_sure {f : Addr} {fd : FuncData} (D : Def K mg "sure" sSure ["plant", "given"] f fd) (T : PCls K mg C) (TD : Dirs K mg aD) (R : Refs mg) (GP : Fn P w K mg base "places_among" ["possible"] 1 spPla) : FnOk P w K mg base CX0 2 f fd ["plant", "given"] (spDo C 11) := by
  obtain ⟨t1, r1⟩ := R.cannot
  refine D.fn.ok scSure (fun vs H Q E h => ?_) (fun cdv A outer s H vs Q E hr h => ?_)
  · obtain ⟨p, g, G, own, h, k, rfl, _⟩ := h
    rfl
  · obtain ⟨p, g, G, own, h, k, rfl, PA, ok, hg, hk, hq, kk⟩ := h
    obtain ⟨i, rfl⟩ : ∃ i, k = .sure i := by cases k <;> simp [num] at hk; exact ⟨_, rfl⟩
    have hi : i < h.qs.length := hq i rfl
    obtain ⟨rs, hg1, hg2⟩ := hg
    cases hg2
    have hgH : H g = some (.lst [.int (i : Int)]) := PA.sub _ _ hg1
    obtain ⟨dx, lm, lp, le, ai, as, rr, q⟩ := PA.qat hi
    have qok := ok.q hi
    refine ⟨_, pss_cons (ps_set (i := 2) scSure.nd rfl (Or.inl rfl) (pe_fn GP hr rfl (pa_cons (pe_ix ix_list (pe_fld (pv 0) rfl) (pe_ix ix_list (pv 1) pe_int (fun _ _ => rfl)) (fun _ _ => rfl)) pa_nil)))
      (pss_cons (ps_if (pt_cmpR op_gt (pe_callB call_len_seq (by rfl) TD.len PySem.boot_len (pa_cons (pv 2) pa_nil)) pe_int (nomark _)) (pss_one (ps_ret (pe_lst (pa_cons (pe_glob (v := .int (-33)) rfl r1 ⟨_, rfl⟩) pa_nil)))) pss_nil)
      (pss_one (ps_ret (pv 2)))), ?_⟩
    refine ⟨_, rfl, p, C, dx, _, _, rfl, q.ins, T.cl, T.nPo, pf_possible _ _ _ _, _, rfl, g, _, _, _, rfl, rfl, SqL.of hgH, at_of (j := 0) rfl rfl, lp, _, _, _, rfl, rfl, SqL.of q.ps, q.at_, ai, (h.q i).marks, _, rfl, qok.marks, q.pat PA.sub, qok.sub, fun H1 r s1 hr1 h1 => ?_⟩
    have ne := plc_ne (fun x hx => qok.mem hx) qok.ne
    have ea := act_sure hi
    have ep : h.places i = plc (h.q i).marks (h.q i).pairs := rfl
    rw [ep] at ea
    generalize plc (h.q i).marks (h.q i).pairs = pl at h1 ne ea
    refine ⟨_, rfl, r, _, rfl, .inl (SqL.of h1), _, _, rfl, rfl, _, rfl, ite2 (fun c => ?_) (fun c => ?_)⟩
    · have c := of_decide_eq_true c
      rw [vi_len] at c
      refine one_say PA kk s1 ?_
      rw [ea]
      match pl, c with
      | [], c => simp at c
      | [_], c => simp at c
      | _ :: _ :: _, _ => rfl
    · have c : ¬ 1 < pl.length := fun z => c (decide_eq_true (by rw [vi_len]; omega))
      match pl, ne, c, h1, ea with
      | [], ne, _, _, _ => exact absurd rfl ne
      | [x], _, _, h1, ea => exact ⟨_, rfl, fin_ask PA kk ea s1 hr1 h1⟩
      | _ :: _ :: _, _, c, _, _ => simp at c
theorem scLater : FnScope ["plant", "given", "i"] ["plant", "given"] (defScope sLater) := ⟨rfl, rfl, rfl, by decide +kernel, rfl, by decide +kernel, by decide +kernel⟩
theorem ok_later {f : Addr} {fd : FuncData} (D : Def K mg "later" sLater ["plant", "given"] f fd) (T : PCls K mg C) (R : Refs mg) (h40 : ∃ t, mg "MOST_MOMENTS_LATER" = some (.int 40 t)) (GT : Fn P w K mg base "tell_places" ["possible"] 2 spTPl) (GB : Fn P w K mg base "pairs_behind" ["marks", "pairs", "moments"] 5 spBeh) : FnOk P w K mg base CX0 6 f fd ["plant", "given"] (spDo C 19) := by
  obtain ⟨t1, r1⟩ := R.right
  obtain ⟨t2, r2⟩ := h40
  refine D.fn.ok scLater (fun vs H Q E h => ?_) (fun cdv A outer s H vs Q E hr h => ?_)
  · obtain ⟨p, g, G, own, h, k, rfl, _⟩ := h
    rfl
  · obtain ⟨p, g, G, own, h, k, rfl, PA, ok, hg, hk, hq, kk⟩ := h
    obtain ⟨i, n, rfl⟩ : ∃ i n, k = .later i n := by cases k <;> simp [num] at hk; exact ⟨_, _, rfl⟩
    have hi : i < h.qs.length := hq i rfl
    obtain ⟨rs, hg1, hg2⟩ := hg
    cases hg2
    have hgH : H g = some (.lst [.int (i : Int), .int (n : Int)]) := PA.sub _ _ hg1
    obtain ⟨dx, lm, lp, le, ai, as, rr, q⟩ := PA.qat hi
    have qok := ok.q hi
    refine ⟨_, pss_cons (ps_set (i := 2) scLater.nd rfl (Or.inl rfl) (pe_ix ix_list (pv 1) pe_int (fun _ _ => rfl)))
      (pss_cons (ps_if (pt_cmpR op_gt (pe_ix ix_list (pv 1) pe_int (fun _ _ => rfl)) (pe_glob (v := .int 40) rfl r2 ⟨_, rfl⟩) (nomark _)) (pss_one (ps_ret (pe_lst (pa_cons (pe_glob (v := .int (-22)) rfl r1 ⟨_, rfl⟩) pa_nil)))) pss_nil)
      (pss_one (ps_ret (pe_fn GT (hr.mono (by decide)) rfl (pa_cons (pe_fn GB hr rfl (pa_cons (pe_ix ix_list (pe_fld (pv 0) rfl) (pv 2) (fun _ _ => rfl)) (pa_cons (pe_ix ix_list (pe_fld (pv 0) rfl) (pv 2) (fun _ _ => rfl)) (pa_cons (pe_ix ix_list (pv 1) pe_int (fun _ _ => rfl)) pa_nil)))) pa_nil))))), ?_⟩
    refine ⟨_, rfl, g, _, _, _, rfl, rfl, SqL.of hgH, at_of (j := 0) rfl rfl, ?_⟩
    refine ⟨_, rfl, g, _, _, _, rfl, rfl, SqL.of hgH, at_of (j := 1) rfl rfl, _, _, rfl, rfl, _, rfl, ite2 (fun c => ?_) (fun c => ?_)⟩
    · have c := of_decide_eq_true c
      exact one_say PA kk (Same.refl H) (by rw [act_later hi, if_pos (by omega)])
    · have c : ¬ 40 < n := fun z => c (decide_eq_true (by omega))
      refine ⟨_, rfl, p, C, dx, _, _, rfl, q.ins, T.cl, T.nMa, pf_marks _ _ _ _, _, rfl, lm, _, _, _, rfl, rfl, SqL.of q.ms, q.mrk, _, rfl, p, C, dx, _, _, rfl, q.ins, T.cl, T.nPo, pf_possible _ _ _ _, _, rfl, lp, _, _, _, rfl, rfl, SqL.of q.ps, q.at_, _, rfl, g, _, _, _, rfl, rfl, SqL.of hgH, at_of (j := 1) rfl rfl,
        (h.q i).marks, ai, _, n, rfl, qok.marks, q.pat PA.sub, qok.sub, by omega, fun H1 l1 s1 p1 => ?_⟩
      refine ⟨l1, (h.q i).marks, _, rfl, qok.marks, p1, after_sub _ _ _ qok.sub, fun H2 r s2 hr2 h2 => ?_⟩
      exact fin_ask PA kk (by rw [act_later hi, if_neg c]; rfl) (s1.trans s2) (s1.free hr2) h2
theorem scCount : FnScope ["plant", "given", "i"] ["plant", "given"] (defScope sCount) := ⟨rfl, rfl, rfl, by decide +kernel, rfl, by decide +kernel, by decide +kernel⟩
theorem ok_count {f : Addr} {fd : FuncData} (D : Def K mg "count" sCount ["plant", "given"] f fd) (T : PCls K mg C) (R : Refs mg) (h6 : ∃ t, mg "MOST_MOMENTS_COUNTED" = some (.int 6 t)) (GC : Fn P w K mg base "count_runs" ["marks", "starts", "moments"] 5 spCnt) : FnOk P w K mg base CX0 6 f fd ["plant", "given"] (spDo C 18) := by
  obtain ⟨t1, r1⟩ := R.right
  obtain ⟨t2, r2⟩ := h6
  refine D.fn.ok scCount (fun vs H Q E h => ?_) (fun cdv A outer s H vs Q E hr h => ?_)
  · obtain ⟨p, g, G, own, h, k, rfl, _⟩ := h
    rfl
  · obtain ⟨p, g, G, own, h, k, rfl, PA, ok, hg, hk, hq, kk⟩ := h
    obtain ⟨i, n, rfl⟩ : ∃ i n, k = .count i n := by cases k <;> simp [num] at hk; exact ⟨_, _, rfl⟩
    have hi : i < h.qs.length := hq i rfl
    obtain ⟨rs, hg1, hg2⟩ := hg
    cases hg2
    have hgH : H g = some (.lst [.int (i : Int), .int (n : Int)]) := PA.sub _ _ hg1
    obtain ⟨dx, lm, lp, le, ai, as, rr, q⟩ := PA.qat hi
    have qok := ok.q hi
    refine ⟨_, pss_cons (ps_set (i := 2) scCount.nd rfl (Or.inl rfl) (pe_ix ix_list (pv 1) pe_int (fun _ _ => rfl)))
      (pss_cons (ps_if (pt_cmpR op_gt (pe_ix ix_list (pv 1) pe_int (fun _ _ => rfl)) (pe_glob (v := .int 6) rfl r2 ⟨_, rfl⟩) (nomark _)) (pss_one (ps_ret (pe_lst (pa_cons (pe_glob (v := .int (-22)) rfl r1 ⟨_, rfl⟩) pa_nil)))) pss_nil)
      (pss_one (ps_ret (pe_lst (pa_cons (pe_fn GC hr rfl (pa_cons (pe_ix ix_list (pe_fld (pv 0) rfl) (pv 2) (fun _ _ => rfl)) (pa_cons (pe_ix ix_list (pe_fld (pv 0) rfl) (pv 2) (fun _ _ => rfl)) (pa_cons (pe_ix ix_list (pv 1) pe_int (fun _ _ => rfl)) pa_nil)))) pa_nil))))), ?_⟩
    refine ⟨_, rfl, g, _, _, _, rfl, rfl, SqL.of hgH, at_of (j := 0) rfl rfl, ?_⟩
    refine ⟨_, rfl, g, _, _, _, rfl, rfl, SqL.of hgH, at_of (j := 1) rfl rfl, _, _, rfl, rfl, _, rfl, ite2 (fun c => ?_) (fun c => ?_)⟩
    · have c := of_decide_eq_true c
      exact one_say PA kk (Same.refl H) (by rw [act_count hi, if_pos (by omega)])
    · have c : ¬ 6 < n := fun z => c (decide_eq_true (by omega))
      refine ⟨_, rfl, p, C, dx, _, _, rfl, q.ins, T.cl, T.nMa, pf_marks _ _ _ _, _, rfl, lm, _, _, _, rfl, rfl, SqL.of q.ms, q.mrk, _, rfl, p, C, dx, _, _, rfl, q.ins, T.cl, T.nPo, pf_possible _ _ _ _, _, rfl, lp, _, _, _, rfl, rfl, SqL.of q.ps, q.at_, _, rfl, g, _, _, _, rfl, rfl, SqL.of hgH, at_of (j := 1) rfl rfl,
        (h.q i).marks, ai, _, n, rfl, qok.marks, q.pat PA.sub, qok.sub, by omega, fun H1 s1 => ?_⟩
      refine one_say PA kk s1 ?_
      rw [act_count hi, if_neg c, fold_add, Nat.zero_add]
theorem scLook : FnScope ["plant", "given", "i", "possible"] ["plant", "given"] (defScope sLook) := ⟨rfl, rfl, rfl, by decide +kernel, rfl, by decide +kernel, by decide +kernel⟩
theorem ok_look {f : Addr} {fd : FuncData} (D : Def K mg "look" sLook ["plant", "given"] f fd) (T : PCls K mg C) (TD : Dirs K mg aD) (GP : Fn P w K mg base "places_among" ["possible"] 1 spPla) (GW : Fn P w K mg base "ways_among" ["possible"] 1 spWyA) : FnOk P w K mg base CX0 2 f fd ["plant", "given"] (spDo C 20) := by
  refine D.fn.ok scLook (fun vs H Q E h => ?_) (fun cdv A outer s H vs Q E hr h => ?_)
  · obtain ⟨p, g, G, own, h, k, rfl, _⟩ := h
    rfl
  · obtain ⟨p, g, G, own, h, k, rfl, PA, ok, hg, hk, hq, kk⟩ := h
    obtain ⟨i, rfl⟩ : ∃ i, k = .look i := by cases k <;> simp [num] at hk; exact ⟨_, rfl⟩
    have hi : i < h.qs.length := hq i rfl
    obtain ⟨rs, hg1, hg2⟩ := hg
    cases hg2
    have hgH : H g = some (.lst [.int (i : Int)]) := PA.sub _ _ hg1
    obtain ⟨dx, lm, lp, le, ai, as, rr, q⟩ := PA.qat hi
    have qok := ok.q hi
    refine ⟨_, pss_cons (ps_set (i := 2) scLook.nd rfl (Or.inl rfl) (pe_ix ix_list (pv 1) pe_int (fun _ _ => rfl)))
      (pss_cons (ps_set (i := 3) scLook.nd rfl (Or.inl rfl) (pe_ix ix_list (pe_fld (pv 0) rfl) (pv 2) (fun _ _ => rfl)))
      (pss_one (ps_ret (pe_lst (pa_cons (pe_ix ix_list (pe_fld (pv 0) rfl) (pv 2) (fun _ _ => rfl)) (pa_cons (pe_callB call_len_seq (by rfl) TD.len PySem.boot_len (pa_cons (pv 3) pa_nil)) (pa_cons (pe_callB call_len_seq (by rfl) TD.len PySem.boot_len (pa_cons (pe_fn GP hr rfl (pa_cons (pv 3) pa_nil)) pa_nil)) (pa_cons (pe_fn GW hr rfl (pa_cons (pv 3) pa_nil)) pa_nil)))))))), ?_⟩
    refine ⟨_, rfl, g, _, _, _, rfl, rfl, SqL.of hgH, at_of (j := 0) rfl rfl, ?_⟩
    refine ⟨_, rfl, p, C, dx, _, _, rfl, q.ins, T.cl, T.nPo, pf_possible _ _ _ _, _, rfl, lp, _, _, _, rfl, rfl, SqL.of q.ps, q.at_, ?_⟩
    refine ⟨_, rfl, p, C, dx, _, _, rfl, q.ins, T.cl, T.nMa, pf_marks _ _ _ _, _, rfl, lm, _, _, _, rfl, rfl, SqL.of q.ms, q.mrk, _, rfl, ai, _, rfl, .inl (SqL.of q.lst), _, rfl, ai, (h.q i).marks, _, rfl, qok.marks, q.pat PA.sub, qok.sub, fun H1 r s1 hr1 h1 => ?_⟩
    refine ⟨r, _, rfl, .inl (SqL.of h1), _, rfl, ai, _, rfl, (q.pat PA.sub).mono s1, qok.len, fun H2 s2 => ?_⟩
    refine ⟨(by show 4 ≤ sizeLine; rw [sizeLine_eq]; decide), fun u hu => ?_⟩
    refine fin_ask PA kk (act_look hi) ((s1.trans s2).trans (same_new hu)) ((s1.trans s2).free hu) ?_
    show (upd H2 u _) u = _
    rw [upd_same, vi_len, List.length_map, q.prs.length]
    rfl
theorem scState : FnScope ["plant", "given"] ["plant", "given"] (defScope sState) := ⟨rfl, rfl, rfl, by decide +kernel, rfl, by decide +kernel, by decide +kernel⟩
theorem ok_state {f : Addr} {fd : FuncData} (D : Def K mg "state" sState ["plant", "given"] f fd) (T : PCls K mg C) (TD : Dirs K mg aD) : FnOk P w K mg base CX0 1 f fd ["plant", "given"] (spDo C 21) := by
  refine D.fn.ok scState (fun vs H Q E h => ?_) (fun cdv A outer s H vs Q E hr h => ?_)
  · obtain ⟨p, g, G, own, h, k, rfl, _⟩ := h
    rfl
  · obtain ⟨p, g, G, own, h, k, rfl, PA, ok, hg, hk, hq, kk⟩ := h
    obtain rfl : k = .state := by cases k <;> simp [num] at hk; rfl
    obtain ⟨dx, lm, lp, le, sn, _, nd, h1, ⟨h2, as, h3, h4⟩, h5, h6⟩ := PA.ex
    refine ⟨_, pss_one (ps_ret (pe_lst (pa_cons (pe_fld (pv 0) rfl) (pa_cons (pe_callB call_len_seq (by rfl) TD.len PySem.boot_len (pa_cons (pe_fld (pv 0) rfl) pa_nil)) (pa_cons (pe_callB call_len_seq (by rfl) TD.len PySem.boot_len (pa_cons (pe_fld (pv 0) rfl) pa_nil)) pa_nil))))), ?_⟩
    refine ⟨_, rfl, p, C, dx, _, _, rfl, h1, T.cl, T.nMo, pf_moment _ _ _ _, _, rfl, p, C, dx, _, _, rfl, h1, T.cl, T.nMa, pf_marks _ _ _ _, lm, _, rfl, .inl (SqL.of h2), _, rfl, p, C, dx, _, _, rfl, h1, T.cl, T.nEa, pf_earlier _ _ _ _, le, _, rfl, .inl (SqL.of h5), (by show 3 ≤ sizeLine; rw [sizeLine_eq]; decide), fun u hu => ?_⟩
    refine fin_ask PA kk (act_state h) (same_new hu) hu ?_
    show (upd H u _) u = _
    rw [upd_same, vi_len, List.length_map, List.length_map, h6.length, List.length_reverse]
    rfl
theorem scFoll : FnScope ["plant", "given", "marks"] ["plant", "given"] (defScope sFoll) := ⟨rfl, rfl, rfl, by decide +kernel, rfl, by decide +kernel, by decide +kernel⟩
theorem pr_if {m p d : Nat} : (!(decide (p ≤ 2 * m) && decide (d ≤ 2))) = (decide (2 * m < p) || decide (2 < d)) := by
  rw [Bool.eq_iff_iff]
  simp only [Bool.not_eq_true', Bool.and_eq_false_iff, Bool.or_eq_true, decide_eq_true_eq, decide_eq_false_iff_not]
  omega
theorem ok_foll {f : Addr} {fd : FuncData} (D : Def K mg "following" sFoll ["plant", "given"] f fd) (T : PCls K mg C) (R : Refs mg) (GH : Fn P w K mg base "has_pair" ["marks", "place", "direction"] 3 spHpr) (GT : Fn P w K mg base "tell_pairs" ["listed"] 2 spTPr) (GF : Fn P w K mg base "following_pairs" ["marks", "pairs"] 4 spFol) : FnOk P w K mg base CX0 5 f fd ["plant", "given"] (spDo C 15) := by
  obtain ⟨t1, r1⟩ := R.right
  refine D.fn.ok scFoll (fun vs H Q E h => ?_) (fun cdv A outer s H vs Q E hr h => ?_)
  · obtain ⟨p, g, G, own, h, k, rfl, _⟩ := h
    rfl
  · obtain ⟨p, g, G, own, h, k, rfl, PA, ok, hg, hk, hq, kk⟩ := h
    obtain ⟨i, x, d, rfl⟩ : ∃ i x d, k = .next i x d := by cases k <;> simp [num] at hk; exact ⟨_, _, _, rfl⟩
    have hi : i < h.qs.length := hq i rfl
    obtain ⟨rs, hg1, hg2⟩ := hg
    cases hg2
    have hgH : H g = some (.lst [.int (i : Int), .int (x : Int), .int (d : Int)]) := PA.sub _ _ hg1
    obtain ⟨dx, lm, lp, le, ai, as, rr, q⟩ := PA.qat hi
    have qok := ok.q hi
    refine ⟨_, pss_cons (ps_set (i := 2) scFoll.nd rfl (Or.inl rfl) (pe_ix ix_list (pe_fld (pv 0) rfl) (pe_ix ix_list (pv 1) pe_int (fun _ _ => rfl)) (fun _ _ => rfl)))
      (pss_cons (ps_if (pt_not (pt_val (pe_fn GH (hr.mono (by decide)) rfl (pa_cons (pv 2) (pa_cons (pe_ix ix_list (pv 1) pe_int (fun _ _ => rfl)) (pa_cons (pe_ix ix_list (pv 1) pe_int (fun _ _ => rfl)) pa_nil)))))) (pss_one (ps_ret (pe_lst (pa_cons (pe_glob (v := .int (-22)) rfl r1 ⟨_, rfl⟩) pa_nil)))) pss_nil)
      (pss_one (ps_ret (pe_fn GT (hr.mono (by decide)) rfl (pa_cons (pe_fn GF hr rfl (pa_cons (pv 2) (pa_cons (pe_lst (pa_cons (pe_tup (pa_cons (pe_ix ix_list (pv 1) pe_int (fun _ _ => rfl)) (pa_cons (pe_ix ix_list (pv 1) pe_int (fun _ _ => rfl)) pa_nil))) pa_nil)) pa_nil))) pa_nil))))), ?_⟩
    refine ⟨_, rfl, p, C, dx, _, _, rfl, q.ins, T.cl, T.nMa, pf_marks _ _ _ _, _, rfl, g, _, _, _, rfl, rfl, SqL.of hgH, at_of (j := 0) rfl rfl, lm, _, _, _, rfl, rfl, SqL.of q.ms, q.mrk, ?_⟩
    refine ⟨_, rfl, _, rfl, g, _, _, _, rfl, rfl, SqL.of hgH, at_of (j := 1) rfl rfl, _, rfl, g, _, _, _, rfl, rfl, SqL.of hgH, at_of (j := 2) rfl rfl, (h.q i).marks, x, d, rfl, _, rfl, ?_⟩
    have ea := act_next hi x d
    rw [← pr_if] at ea
    show if (!(decide (x ≤ 2 * (h.q i).marks) && decide (d ≤ 2))) = true then _ else _
    refine ite2 (fun c => ?_) (fun c => ?_)
    · exact one_say PA kk (Same.refl H) (by rw [ea, if_pos c])
    · have c2 : x ≤ 2 * (h.q i).marks ∧ d ≤ 2 := by
        rw [Bool.not_eq_true', Bool.not_eq_false, Bool.and_eq_true, decide_eq_true_eq, decide_eq_true_eq] at c
        exact c
      refine ⟨_, rfl, _, rfl, g, _, _, _, rfl, rfl, SqL.of hgH, at_of (j := 1) rfl rfl, _, rfl, g, _, _, _, rfl, rfl, SqL.of hgH, at_of (j := 2) rfl rfl, len2, fun u hu => ?_⟩
      refine ⟨len1, fun t ht => ?_⟩
      refine ⟨(h.q i).marks, t, [(x, d)], rfl, qok.marks, pairs_one (x := (x, d)) ht upd_same, one_in (mem_pairsOf.mpr c2), (by decide : 1 ≤ 27), fun H1 l1 s1 p1 => ?_⟩
      refine ⟨l1, _, rfl, p1.mono Nw_sub, next_len _ qok.marks _, fun H2 r s2 hr2 h2 => ?_⟩
      have s01 : Same H H1 := ((same_new hu).trans (same_new ht)).trans s1
      refine fin_ask (a := { num := (nextAll (h.q i).marks [(x, d)]).length, nums := Kri5.flat (nextAll (h.q i).marks [(x, d)]) }) PA kk (by rw [ea, if_neg c, next_one]) (s01.trans s2) (s01.free hr2) h2
theorem scPrece : FnScope ["plant", "given", "marks"] ["plant", "given"] (defScope sPrece) := ⟨rfl, rfl, rfl, by decide +kernel, rfl, by decide +kernel, by decide +kernel⟩
theorem ok_prece {f : Addr} {fd : FuncData} (D : Def K mg "preceding" sPrece ["plant", "given"] f fd) (T : PCls K mg C) (R : Refs mg) (GH : Fn P w K mg base "has_pair" ["marks", "place", "direction"] 3 spHpr) (GT : Fn P w K mg base "tell_pairs" ["listed"] 2 spTPr) (GF : Fn P w K mg base "preceding_pairs" ["marks", "pair"] 5 spPrec) : FnOk P w K mg base CX0 6 f fd ["plant", "given"] (spDo C 16) := by
  obtain ⟨t1, r1⟩ := R.right
  refine D.fn.ok scPrece (fun vs H Q E h => ?_) (fun cdv A outer s H vs Q E hr h => ?_)
  · obtain ⟨p, g, G, own, h, k, rfl, _⟩ := h
    rfl
  · obtain ⟨p, g, G, own, h, k, rfl, PA, ok, hg, hk, hq, kk⟩ := h
    obtain ⟨i, x, d, rfl⟩ : ∃ i x d, k = .before i x d := by cases k <;> simp [num] at hk; exact ⟨_, _, _, rfl⟩
    have hi : i < h.qs.length := hq i rfl
    obtain ⟨rs, hg1, hg2⟩ := hg
    cases hg2
    have hgH : H g = some (.lst [.int (i : Int), .int (x : Int), .int (d : Int)]) := PA.sub _ _ hg1
    obtain ⟨dx, lm, lp, le, ai, as, rr, q⟩ := PA.qat hi
    have qok := ok.q hi
    refine ⟨_, pss_cons (ps_set (i := 2) scPrece.nd rfl (Or.inl rfl) (pe_ix ix_list (pe_fld (pv 0) rfl) (pe_ix ix_list (pv 1) pe_int (fun _ _ => rfl)) (fun _ _ => rfl)))
      (pss_cons (ps_if (pt_not (pt_val (pe_fn GH (hr.mono (by decide)) rfl (pa_cons (pv 2) (pa_cons (pe_ix ix_list (pv 1) pe_int (fun _ _ => rfl)) (pa_cons (pe_ix ix_list (pv 1) pe_int (fun _ _ => rfl)) pa_nil)))))) (pss_one (ps_ret (pe_lst (pa_cons (pe_glob (v := .int (-22)) rfl r1 ⟨_, rfl⟩) pa_nil)))) pss_nil)
      (pss_one (ps_ret (pe_fn GT (hr.mono (by decide)) rfl (pa_cons (pe_fn GF hr rfl (pa_cons (pv 2) (pa_cons (pe_tup (pa_cons (pe_ix ix_list (pv 1) pe_int (fun _ _ => rfl)) (pa_cons (pe_ix ix_list (pv 1) pe_int (fun _ _ => rfl)) pa_nil))) pa_nil))) pa_nil))))), ?_⟩
    refine ⟨_, rfl, p, C, dx, _, _, rfl, q.ins, T.cl, T.nMa, pf_marks _ _ _ _, _, rfl, g, _, _, _, rfl, rfl, SqL.of hgH, at_of (j := 0) rfl rfl, lm, _, _, _, rfl, rfl, SqL.of q.ms, q.mrk, ?_⟩
    refine ⟨_, rfl, _, rfl, g, _, _, _, rfl, rfl, SqL.of hgH, at_of (j := 1) rfl rfl, _, rfl, g, _, _, _, rfl, rfl, SqL.of hgH, at_of (j := 2) rfl rfl, (h.q i).marks, x, d, rfl, _, rfl, ?_⟩
    have ea := act_before hi x d
    rw [← pr_if] at ea
    show if (!(decide (x ≤ 2 * (h.q i).marks) && decide (d ≤ 2))) = true then _ else _
    refine ite2 (fun c => ?_) (fun c => ?_)
    · exact one_say PA kk (Same.refl H) (by rw [ea, if_pos c])
    · have c2 : x ≤ 2 * (h.q i).marks ∧ d ≤ 2 := by
        rw [Bool.not_eq_true', Bool.not_eq_false, Bool.and_eq_true, decide_eq_true_eq, decide_eq_true_eq] at c
        exact c
      have bl : (Kri5.before (h.q i).marks (x, d)).length ≤ 27 := by
        have l1 := List.length_filter_le (fun y => Kri5.follows (h.q i).marks y (x, d)) (pairsOf (h.q i).marks)
        rw [pairsOf_length] at l1
        have := qok.marks
        show ((pairsOf (h.q i).marks).filter _).length ≤ 27
        omega
      refine ⟨_, rfl, _, rfl, g, _, _, _, rfl, rfl, SqL.of hgH, at_of (j := 1) rfl rfl, _, rfl, g, _, _, _, rfl, rfl, SqL.of hgH, at_of (j := 2) rfl rfl, len2, fun u hu => ?_⟩
      refine ⟨(h.q i).marks, u, (x, d), rfl, qok.marks, upd_same, mem_pairsOf.mpr c2, fun H1 l1 s1 p1 => ?_⟩
      refine ⟨l1, _, rfl, p1, bl, fun H2 r s2 hr2 h2 => ?_⟩
      have s01 : Same H H1 := (same_new hu).trans s1
      exact fin_ask (a := { num := (Kri5.before (h.q i).marks (x, d)).length, nums := Kri5.flat (Kri5.before (h.q i).marks (x, d)) }) PA kk (by rw [ea, if_neg c]) (s01.trans s2) (s01.free hr2) h2
end
end Bm

end
section
set_option Elab.async false
set_option linter.all false
set_option maxRecDepth 100000
set_option maxHeartbeats 2000000
namespace Bm
open PySem PySem.Spec PyProof.Rows L2
open Kri5 (Pair Quantity House pairsOf nextAll)

abbrev sRtp : Stmt := top 61
abbrev sSoon : Stmt := top 62
abbrev sPath : Stmt := top 63
abbrev sBtw : Stmt := top 64
abbrev sRunQ : Stmt := top 67
/-! ### what is asked matters at pairs only -/
theorem any_cg {l : List Pair} {f f' : Pair → Bool} (h : ∀ x ∈ l, f x = f' x) : l.any f = l.any f' := by
  induction l with
  | nil => rfl
  | cons a l ih => rw [List.any_cons, List.any_cons, h a List.mem_cons_self, ih fun x hx => h x (List.mem_cons_of_mem _ hx)]
theorem find_cg {β : Type} {l : List Pair} {g g' : Pair → Option β} (h : ∀ x ∈ l, g x = g' x) : l.findSome? g = l.findSome? g' := by
  induction l with
  | nil => rfl
  | cons a l ih => rw [List.findSome?_cons, List.findSome?_cons, h a List.mem_cons_self, ih fun x hx => h x (List.mem_cons_of_mem _ hx)]
theorem after_in {m : Nat} : ∀ (k : Nat) {l : List Pair}, (∀ x ∈ l, x ∈ pairsOf m) → ∀ y ∈ Kri5.after m k l, y ∈ pairsOf m
  | 0, l, h, y, hy => h y hy
  | k + 1, l, h, y, hy => by
    rw [after_end, mem_nx] at hy
    exact hy.1
section
variable {m : Nat} {f f' : Pair → Bool} (hf : ∀ x ∈ pairsOf m, f x = f' x)
include hf
theorem soonest_cg {l : List Pair} (hl : ∀ x ∈ l, x ∈ pairsOf m) : Kri5.soonest m l f = Kri5.soonest m l f' := by
  unfold Kri5.soonest
  refine congrArg (fun g => (List.range 28).find? g) (funext fun k => ?_)
  exact any_cg fun x hx => hf x (after_in k hl x hx)
theorem way_cg : ∀ (k : Nat) {x : Pair}, x ∈ pairsOf m → Kri5.wayTo m f k x = Kri5.wayTo m f' k x
  | 0, x, hx => by
    show (if f x = true then some [x] else none) = (if f' x = true then some [x] else none)
    rw [hf x hx]
  | k + 1, x, hx => by
    show (if (Kri5.after m (k + 1) [x]).any f = false then none else ((Kri5.next m x).findSome? fun y => Kri5.wayTo m f k y).map fun r => x :: r) = (if (Kri5.after m (k + 1) [x]).any f' = false then none else ((Kri5.next m x).findSome? fun y => Kri5.wayTo m f' k y).map fun r => x :: r)
    rw [any_cg fun y hy => hf y (after_in (k + 1) (one_in hx) y hy), find_cg fun y hy => way_cg k (next_in hy)]
end
/-- the pairs of a place -/
def atPl (p : Nat) : List Pair := (List.range 3).map fun d => (p, d)
theorem atPl_goal {m p : Nat} : ∀ x ∈ pairsOf m, goalOf (atPl p) x = (x.1 == p) := fun x hx => by
  have h2 := (mem_pairsOf.mp hx).2
  rw [Bool.eq_iff_iff]
  show (atPl p).contains x = true ↔ _
  rw [List.contains_iff_mem, beq_iff_eq]
  unfold atPl
  constructor
  · intro h
    obtain ⟨d, _, e⟩ := List.mem_map.mp h
    rw [← e]
  · intro e
    exact List.mem_map.mpr ⟨x.2, List.mem_range.mpr (by omega), by rw [← e]⟩
theorem atPl_in {m p : Nat} (h : p ≤ 2 * m) : ∀ x ∈ atPl p, x ∈ pairsOf m := fun x hx => by
  obtain ⟨d, hd, rfl⟩ := List.mem_map.mp hx
  have := List.mem_range.mp hd
  exact mem_pairsOf.mpr ⟨h, by omega⟩
theorem pe_fldK {X : Cx} (K : PySem.W.Frag) (hK : X.K = K) {e : Expr} {f : Str} {pos : Pos} {ta : TE} (he : PE X e ta) (hb : attributeBase e f X.env (eval e X.env) = eval e X.env) : PE X (.Attribute e f pos) (tFld K ta f) := by
  subst hK
  exact pe_fld he hb
def spRtp (C : Addr) : Sp := fun vs H Q _ => ∃ (p : Addr) (i x : Nat) (G : Hp) (own : List Addr) (h : House), vs = [.ref p, .int i, .int x] ∧ PlantAt C G H p own h ∧ HouseOk h ∧ i < h.qs.length ∧ x ≤ 2 * (h.q i).marks ∧
  ∀ (H' : Hp) (l : Addr) (k : Nat) (way : List Pair), Same H H' → Kri5.soonest (h.q i).marks (h.q i).pairs (fun y => y.1 == x) = some k → ((h.q i).pairs.findSome? fun y => Kri5.wayTo (h.q i).marks (fun z => z.1 == x) k y) = some way → way.length = k + 1 → k ≤ 11 → PairsAt H' l way → Q (.ref l) H'
section
variable {P : Program} {w : World} {K : PySem.W.Frag} {mg : Str → Option Value} {base : Heap} {aD C : Addr}
theorem scRtp : FnScope ["plant", "i", "place", "goals", "direction"] ["plant", "i", "place"] (defScope sRtp) := ⟨rfl, rfl, rfl, by decide +kernel, rfl, by decide +kernel, by decide +kernel⟩
theorem range_snoc (x j : Nat) : (List.range (j + 1)).map (fun d => ((x, d) : Pair)) = (List.range j).map (fun d => ((x, d) : Pair)) ++ [(x, j)] := by
  rw [List.range_succ, List.map_append]
  rfl
theorem ok_rtp {f : Addr} {fd : FuncData} (D : Def K mg "run_to_place" sRtp ["plant", "i", "place"] f fd) (T : PCls K mg C) (TD : Dirs K mg aD) (GS : Fn P w K mg base "shortest_run" ["marks", "starts", "goals"] 7 spShort) : FnOk P w K mg base CX0 8 f fd ["plant", "i", "place"] (spRtp C) := by
  refine D.fn.ok scRtp (fun vs H Q E h => ?_) (fun cdv A outer s H vs Q E hr h => ?_)
  · obtain ⟨p, i, x, G, own, h, rfl, _⟩ := h
    rfl
  · obtain ⟨p, i, x, G, own, h, rfl, PA, ok, hi, hx, kk⟩ := h
    have qok := ok.q hi
    refine ⟨_, pss_cons (ps_setLc (i := 3) (own := [("direction", 4)]) rfl scRtp.nd rfl rfl (sw_true rfl rfl rfl rfl) (pi_tup (pe_glob (v := .ref aD) rfl TD.dirs rfl)) (blkOk_by (by show blkC ["plant", "i", "place", "goals", "direction"] (defScope sRtp) _ _ = true; decide +kernel))
        (fun _ _ _ _ _ => pg_name (i := 4) scRtp.nd rfl (Or.inl rfl)) (fun _ _ _ _ _ => pts_nil) (fun _ _ _ _ _ => pe_tup (pa_cons (pv 2) (pa_cons (pv 4) pa_nil))))
      (pss_one (ps_ret (pe_fn GS hr rfl (pa_cons (pe_ix ix_list (pe_fld (pv 0) rfl) (pv 1) (fun _ _ => rfl)) (pa_cons (pe_ix ix_list (pe_fld (pv 0) rfl) (pv 1) (fun _ _ => rfl)) (pa_cons (pv 3) pa_nil)))))), ?_⟩
    refine ⟨aD, rfl, ⟨_, TD.dirT _⟩, fun L hL => ?_⟩
    refine lc_tup (K := K) (a := aD) (xs := [.int 0, .int 1, .int 2]) (fun j H' => Same H H' ∧ PairsAt H' L ((List.range j).map fun d => (x, d))) ⟨same_new hL, pairs_new⟩ (fun j H' _ _ => TD.dirT _) ?_ ?_
    · rintro j y H1 hy ⟨s1, p1⟩
      obtain ⟨hj, rfl⟩ := dirs_get hy
      refine ⟨rfl, tYes_of ⟨_, rfl, _, rfl, len2, fun t ht => ?_⟩⟩
      rw [range_snoc]
      refine grow hL (s1.trans (same_new ht)) (p1.mono (same_new ht)) ?_ (x := (x, j)) upd_same
      rw [List.length_map, List.length_range]
      omega
    · rintro H1 ⟨s1, p1⟩
      have PA1 := PA.same s1
      obtain ⟨dx, lm, lp, le, ai, as, rr, q⟩ := PA1.qat hi
      refine ⟨_, rfl, p, C, dx, _, _, rfl, q.ins, T.cl, T.nMa, pf_marks _ _ _ _, _, rfl, lm, _, _, _, rfl, rfl, SqL.of q.ms, q.mrk, _, rfl, p, C, dx, _, _, rfl, q.ins, T.cl, T.nPo, pf_possible _ _ _ _, _, rfl, lp, _, _, _, rfl, rfl, SqL.of q.ps, q.at_, _, rfl,
        (h.q i).marks, ai, L, (h.q i).pairs, atPl x, rfl, qok.marks, q.pat PA1.sub, fun y hy => qok.mem hy, qok.sorted, qok.ne, qok.len, p1, atPl_in hx, (by intro z; cases z), (by show 3 ≤ 27; decide), fun H2 l k way s2 h1 h2 h3 h4 h5 => ?_⟩
      have hin : ∀ y ∈ (h.q i).pairs, y ∈ pairsOf (h.q i).marks := fun y hy => qok.mem hy
      rw [soonest_cg atPl_goal hin] at h1
      rw [find_cg fun y hy => way_cg atPl_goal k (hin y hy)] at h2
      exact kk H2 l k way (s1.trans s2) h1 h2 h3 h4 h5
theorem scSoon : FnScope ["plant", "given", "i"] ["plant", "given"] (defScope sSoon) := ⟨rfl, rfl, rfl, by decide +kernel, rfl, by decide +kernel, by decide +kernel⟩
theorem pl_if {m x : Nat} : (!decide ((x : Int) ≤ ((2 * m : Nat) : Int))) = decide (2 * m < x) := by
  rw [Bool.eq_iff_iff]
  simp
  omega
theorem ok_soon {f : Addr} {fd : FuncData} (D : Def K mg "soonest" sSoon ["plant", "given"] f fd) (T : PCls K mg C) (TD : Dirs K mg aD) (R : Refs mg) (GH : Fn P w K mg base "has_place" ["marks", "place"] 2 spHpl) (GR : Fn P w K mg base "run_to_place" ["plant", "i", "place"] 8 (spRtp C)) : FnOk P w K mg base CX0 9 f fd ["plant", "given"] (spDo C 12) := by
  obtain ⟨t1, r1⟩ := R.right
  refine D.fn.ok scSoon (fun vs H Q E h => ?_) (fun cdv A outer s H vs Q E hr h => ?_)
  · obtain ⟨p, g, G, own, h, k, rfl, _⟩ := h
    rfl
  · obtain ⟨p, g, G, own, h, k, rfl, PA, ok, hg, hk, hq, kk⟩ := h
    obtain ⟨i, x, rfl⟩ : ∃ i x, k = .soonest i x := by cases k <;> simp [num] at hk; exact ⟨_, _, rfl⟩
    have hi : i < h.qs.length := hq i rfl
    obtain ⟨rs, hg1, hg2⟩ := hg
    cases hg2
    have hgH : H g = some (.lst [.int (i : Int), .int (x : Int)]) := PA.sub _ _ hg1
    obtain ⟨dx, lm, lp, le, ai, as, rr, q⟩ := PA.qat hi
    refine ⟨_, pss_cons (ps_set (i := 2) scSoon.nd rfl (Or.inl rfl) (pe_ix ix_list (pv 1) pe_int (fun _ _ => rfl)))
      (pss_cons (ps_if (pt_not (pt_val (pe_fn GH (hr.mono (by decide)) rfl (pa_cons (pe_ix ix_list (pe_fld (pv 0) rfl) (pv 2) (fun _ _ => rfl)) (pa_cons (pe_ix ix_list (pv 1) pe_int (fun _ _ => rfl)) pa_nil))))) (pss_one (ps_ret (pe_lst (pa_cons (pe_glob (v := .int (-22)) rfl r1 ⟨_, rfl⟩) pa_nil)))) pss_nil)
      (pss_one (ps_ret (pe_lst (pa_cons (pe_op op_sub (pe_callB call_len_seq (by rfl) TD.len PySem.boot_len (pa_cons (pe_fn GR hr rfl (pa_cons (pv 0) (pa_cons (pv 2) (pa_cons (pe_ix ix_list (pv 1) pe_int (fun _ _ => rfl)) pa_nil)))) pa_nil)) pe_int) pa_nil))))), ?_⟩
    refine ⟨_, rfl, g, _, _, _, rfl, rfl, SqL.of hgH, at_of (j := 0) rfl rfl, ?_⟩
    refine ⟨_, rfl, p, C, dx, _, _, rfl, q.ins, T.cl, T.nMa, pf_marks _ _ _ _, _, rfl, lm, _, _, _, rfl, rfl, SqL.of q.ms, q.mrk, _, rfl, g, _, _, _, rfl, rfl, SqL.of hgH, at_of (j := 1) rfl rfl, (h.q i).marks, (x : Int), rfl, _, rfl, ?_⟩
    show if (!decide ((x : Int) ≤ ((2 * (h.q i).marks : Nat) : Int))) = true then _ else _
    rw [pl_if]
    have ea := act_soonest hi x
    refine ite2 (fun c => ?_) (fun c => ?_)
    · exact one_say PA kk (Same.refl H) (by rw [ea, if_pos c])
    · have c2 : ¬ 2 * (h.q i).marks < x := fun z => c (decide_eq_true z)
      refine ⟨_, rfl, _, rfl, _, rfl, g, _, _, _, rfl, rfl, SqL.of hgH, at_of (j := 1) rfl rfl, p, i, x, G, own, h, rfl, PA, ok, hi, by omega, fun H1 l k way s1 h1 h2 h3 h4 h5 => ?_⟩
      obtain ⟨rw', w1, w2⟩ := h5
      refine ⟨l, _, rfl, .inl (SqL.of w1), _, _, rfl, rfl, ?_⟩
      have el : (((rw'.map V.ref).length : Nat) : Int) - 1 = (k : Int) := by
        rw [List.length_map, w2.length, h3]
        omega
      show 1 ≤ sizeLine ∧ ∀ r, H1 r = none → Q (.ref r) (upd H1 r (.lst [.int ((((rw'.map V.ref).length : Nat) : Int) - 1)]))
      rw [el]
      exact one_say PA kk s1 (by rw [ea, if_neg c, h1])
theorem scPath : FnScope ["plant", "given", "i", "found"] ["plant", "given"] (defScope sPath) := ⟨rfl, rfl, rfl, by decide +kernel, rfl, by decide +kernel, by decide +kernel⟩
theorem ok_path {f : Addr} {fd : FuncData} (D : Def K mg "path" sPath ["plant", "given"] f fd) (T : PCls K mg C) (TD : Dirs K mg aD) (R : Refs mg) (GH : Fn P w K mg base "has_place" ["marks", "place"] 2 spHpl) (GR : Fn P w K mg base "run_to_place" ["plant", "i", "place"] 8 (spRtp C)) (GL : Fn P w K mg base "flattened" ["listed"] 1 spFlat) : FnOk P w K mg base CX0 9 f fd ["plant", "given"] (spDo C 13) := by
  obtain ⟨t1, r1⟩ := R.right
  refine D.fn.ok scPath (fun vs H Q E h => ?_) (fun cdv A outer s H vs Q E hr h => ?_)
  · obtain ⟨p, g, G, own, h, k, rfl, _⟩ := h
    rfl
  · obtain ⟨p, g, G, own, h, k, rfl, PA, ok, hg, hk, hq, kk⟩ := h
    obtain ⟨i, x, rfl⟩ : ∃ i x, k = .path i x := by cases k <;> simp [num] at hk; exact ⟨_, _, rfl⟩
    have hi : i < h.qs.length := hq i rfl
    obtain ⟨rs, hg1, hg2⟩ := hg
    cases hg2
    have hgH : H g = some (.lst [.int (i : Int), .int (x : Int)]) := PA.sub _ _ hg1
    obtain ⟨dx, lm, lp, le, ai, as, rr, q⟩ := PA.qat hi
    refine ⟨_, pss_cons (ps_set (i := 2) scPath.nd rfl (Or.inl rfl) (pe_ix ix_list (pv 1) pe_int (fun _ _ => rfl)))
      (pss_cons (ps_if (pt_not (pt_val (pe_fn GH (hr.mono (by decide)) rfl (pa_cons (pe_ix ix_list (pe_fld (pv 0) rfl) (pv 2) (fun _ _ => rfl)) (pa_cons (pe_ix ix_list (pv 1) pe_int (fun _ _ => rfl)) pa_nil))))) (pss_one (ps_ret (pe_lst (pa_cons (pe_glob (v := .int (-22)) rfl r1 ⟨_, rfl⟩) pa_nil)))) pss_nil)
      (pss_cons (ps_set (i := 3) scPath.nd rfl (Or.inl rfl) (pe_fn GR hr rfl (pa_cons (pv 0) (pa_cons (pv 2) (pa_cons (pe_ix ix_list (pv 1) pe_int (fun _ _ => rfl)) pa_nil)))))
      (pss_one (ps_ret (pe_op op_cat (pe_lst (pa_cons (pe_op op_sub (pe_callB call_len_seq (by rfl) TD.len PySem.boot_len (pa_cons (pv 3) pa_nil)) pe_int) pa_nil)) (pe_fn GL (hr.mono (by decide)) rfl (pa_cons (pv 3) pa_nil))))))), ?_⟩
    refine ⟨_, rfl, g, _, _, _, rfl, rfl, SqL.of hgH, at_of (j := 0) rfl rfl, ?_⟩
    refine ⟨_, rfl, p, C, dx, _, _, rfl, q.ins, T.cl, T.nMa, pf_marks _ _ _ _, _, rfl, lm, _, _, _, rfl, rfl, SqL.of q.ms, q.mrk, _, rfl, g, _, _, _, rfl, rfl, SqL.of hgH, at_of (j := 1) rfl rfl, (h.q i).marks, (x : Int), rfl, _, rfl, ?_⟩
    show if (!decide ((x : Int) ≤ ((2 * (h.q i).marks : Nat) : Int))) = true then _ else _
    rw [pl_if]
    have ea := act_path hi x
    refine ite2 (fun c => ?_) (fun c => ?_)
    · exact one_say PA kk (Same.refl H) (by rw [ea, if_pos c])
    · have c2 : ¬ 2 * (h.q i).marks < x := fun z => c (decide_eq_true z)
      refine ⟨_, rfl, _, rfl, _, rfl, g, _, _, _, rfl, rfl, SqL.of hgH, at_of (j := 1) rfl rfl, p, i, x, G, own, h, rfl, PA, ok, hi, by omega, fun H1 l k way s1 h1 h2 h3 h4 h5 => ?_⟩
      obtain ⟨rw', w1, w2⟩ := id h5
      refine ⟨_, rfl, l, _, rfl, .inl (SqL.of w1), _, _, rfl, rfl, len1, fun t ht => ?_⟩
      refine ⟨_, rfl, l, way, rfl, h5.mono (same_new ht), by omega, fun H2 r s2 hr2 h6 => ?_⟩
      have s02 := (s1.trans (same_new ht)).trans s2
      have el : (((rw'.map V.ref).length : Nat) : Int) - 1 = (k : Int) := by
        rw [List.length_map, w2.length, h3]
        omega
      have fl : ((Kri5.flat way).map V.int).length ≤ 54 := by
        rw [List.length_map, flat_len]
        omega
      refine ⟨t, r, _, _, rfl, rfl, s2 _ _ upd_same, h6, ?_, fun u hu => ?_⟩
      · rw [sizeLine_eq]
        show 1 + _ ≤ _
        omega
      · have ea2 : Kri5.act (some h) (.path i x) = (some h, { num := (k : Int), nums := Kri5.flat way }) := by
          rw [ea, if_neg c, h1]
          show (some h, ({ num := (k : Int), nums := Kri5.flat (((h.q i).pairs.findSome? fun y => Kri5.wayTo (h.q i).marks (fun z => z.1 == x) k y).getD []) } : Kri5.Ans)) = _
          rw [h2]
          rfl
        refine fin_ask PA kk ea2 (s02.trans (same_new hu)) (s02.free hu) ?_
        show (upd _ u _) u = _
        rw [upd_same]
        show some (HO.lst (V.int ((((rw'.map V.ref).length : Nat) : Int) - 1) :: (Kri5.flat way).map V.int)) = _
        rw [el]
        rfl
theorem scBtw : FnScope ["plant", "given", "marks", "found"] ["plant", "given"] (defScope sBtw) := ⟨rfl, rfl, rfl, by decide +kernel, rfl, by decide +kernel, by decide +kernel⟩
theorem one_goal (y : Pair) : goalOf [y] = fun x => x == y := funext fun x => by
  show [y].contains x = _
  rw [List.contains_cons]
  simp
theorem ok_btw {f : Addr} {fd : FuncData} (D : Def K mg "between" sBtw ["plant", "given"] f fd) (T : PCls K mg C) (TD : Dirs K mg aD) (R : Refs mg) (GH : Fn P w K mg base "has_pair" ["marks", "place", "direction"] 3 spHpr) (GS : Fn P w K mg base "shortest_run" ["marks", "starts", "goals"] 7 spShort) : FnOk P w K mg base CX0 8 f fd ["plant", "given"] (spDo C 14) := by
  obtain ⟨t1, r1⟩ := R.right
  refine D.fn.ok scBtw (fun vs H Q E h => ?_) (fun cdv A outer s H vs Q E hr h => ?_)
  · obtain ⟨p, g, G, own, h, k, rfl, _⟩ := h
    rfl
  · obtain ⟨p, g, G, own, h, k, rfl, PA, ok, hg, hk, hq, kk⟩ := h
    obtain ⟨i, x, d, y, e, rfl⟩ : ∃ i x d y e, k = .between i x d y e := by cases k <;> simp [num] at hk; exact ⟨_, _, _, _, _, rfl⟩
    have hi : i < h.qs.length := hq i rfl
    obtain ⟨rs, hg1, hg2⟩ := hg
    cases hg2
    have hgH : H g = some (.lst [.int (i : Int), .int (x : Int), .int (d : Int), .int (y : Int), .int (e : Int)]) := PA.sub _ _ hg1
    obtain ⟨dx, lm, lp, le, ai, as, rr, q⟩ := PA.qat hi
    have qok := ok.q hi
    refine ⟨_, pss_cons (ps_set (i := 2) scBtw.nd rfl (Or.inl rfl) (pe_ix ix_list (pe_fld (pv 0) rfl) (pe_ix ix_list (pv 1) pe_int (fun _ _ => rfl)) (fun _ _ => rfl)))
      (pss_cons (ps_if (PW.pt (pw_or (pt_not (pt_val (pe_fn GH (hr.mono (by decide)) rfl (pa_cons (pv 2) (pa_cons (pe_ix ix_list (pv 1) pe_int (fun _ _ => rfl)) (pa_cons (pe_ix ix_list (pv 1) pe_int (fun _ _ => rfl)) pa_nil))))))
          (pw_or1 (pt_not (pt_val (pe_fn GH (hr.mono (by decide)) rfl (pa_cons (pv 2) (pa_cons (pe_ix ix_list (pv 1) pe_int (fun _ _ => rfl)) (pa_cons (pe_ix ix_list (pv 1) pe_int (fun _ _ => rfl)) pa_nil))))))))) (pss_one (ps_ret (pe_lst (pa_cons (pe_glob (v := .int (-22)) rfl r1 ⟨_, rfl⟩) pa_nil)))) pss_nil)
      (pss_cons (ps_set (i := 3) scBtw.nd rfl (Or.inl rfl) (pe_fn GS hr rfl (pa_cons (pv 2) (pa_cons (pe_lst (pa_cons (pe_tup (pa_cons (pe_ix ix_list (pv 1) pe_int (fun _ _ => rfl)) (pa_cons (pe_ix ix_list (pv 1) pe_int (fun _ _ => rfl)) pa_nil))) pa_nil)) (pa_cons (pe_lst (pa_cons (pe_tup (pa_cons (pe_ix ix_list (pv 1) pe_int (fun _ _ => rfl)) (pa_cons (pe_ix ix_list (pv 1) pe_int (fun _ _ => rfl)) pa_nil))) pa_nil)) pa_nil)))))
      (pss_one (ps_ret (pe_lst (pa_cons (pe_op op_sub (pe_callB call_len_seq (by rfl) TD.len PySem.boot_len (pa_cons (pv 3) pa_nil)) pe_int) pa_nil)))))), ?_⟩
    refine ⟨_, rfl, p, C, dx, _, _, rfl, q.ins, T.cl, T.nMa, pf_marks _ _ _ _, _, rfl, g, _, _, _, rfl, rfl, SqL.of hgH, at_of (j := 0) rfl rfl, lm, _, _, _, rfl, rfl, SqL.of q.ms, q.mrk, ?_⟩
    refine ⟨_, rfl, _, rfl, g, _, _, _, rfl, rfl, SqL.of hgH, at_of (j := 1) rfl rfl, _, rfl, g, _, _, _, rfl, rfl, SqL.of hgH, at_of (j := 2) rfl rfl, (h.q i).marks, x, d, rfl, _, rfl, ?_⟩
    have ea := act_between hi x d y e
    rw [← pr_if, ← pr_if] at ea
    show if (!(decide (x ≤ 2 * (h.q i).marks) && decide (d ≤ 2))) = true then _ else _
    have no : ∀ c : Bool, c = true → ((!(decide (x ≤ 2 * (h.q i).marks) && decide (d ≤ 2))) || (!(decide (y ≤ 2 * (h.q i).marks) && decide (e ≤ 2)))) = c → 1 ≤ sizeLine ∧ ∀ r, H r = none → Q (.ref r) (upd H r (.lst [.int (-22)])) := fun c hc e => by
      subst hc
      exact one_say PA kk (Same.refl H) (by rw [ea, if_pos e])
    refine ite2 (fun c => ?_) (fun c => ?_)
    · exact no true rfl (by rw [c]; rfl)
    · have c' := Bool.eq_false_iff.mpr c
      refine ⟨_, rfl, _, rfl, g, _, _, _, rfl, rfl, SqL.of hgH, at_of (j := 3) rfl rfl, _, rfl, g, _, _, _, rfl, rfl, SqL.of hgH, at_of (j := 4) rfl rfl, (h.q i).marks, y, e, rfl, _, rfl, ?_⟩
      show if (!(decide (y ≤ 2 * (h.q i).marks) && decide (e ≤ 2))) = true then _ else _
      refine ite2 (fun c3 => ?_) (fun c3 => ?_)
      · exact no true rfl (by rw [c', c3]; rfl)
      · have c2 : x ≤ 2 * (h.q i).marks ∧ d ≤ 2 := by
          rw [Bool.not_eq_true', Bool.not_eq_false, Bool.and_eq_true, decide_eq_true_eq, decide_eq_true_eq] at c
          exact c
        have c4 : y ≤ 2 * (h.q i).marks ∧ e ≤ 2 := by
          have z := c3
          rw [Bool.not_eq_true', Bool.not_eq_false, Bool.and_eq_true, decide_eq_true_eq, decide_eq_true_eq] at z
          exact z
        rw [c', Bool.eq_false_iff.mpr c3, if_neg (by decide)] at ea
        refine ⟨_, rfl, _, rfl, g, _, _, _, rfl, rfl, SqL.of hgH, at_of (j := 1) rfl rfl, _, rfl, g, _, _, _, rfl, rfl, SqL.of hgH, at_of (j := 2) rfl rfl, len2, fun u hu => ?_⟩
        refine ⟨len1, fun t ht => ?_⟩
        have s1 : Same H (upd (upd H u (.tup [.int (x : Int), .int (d : Int)])) t (.lst [.ref u])) := (same_new hu).trans (same_new ht)
        refine ⟨_, rfl, g, _, _, _, rfl, rfl, SqL.of (s1 _ _ hgH), at_of (j := 3) rfl rfl, _, rfl, g, _, _, _, rfl, rfl, SqL.of (s1 _ _ hgH), at_of (j := 4) rfl rfl, len2, fun u2 hu2 => ?_⟩
        refine ⟨len1, fun t2 ht2 => ?_⟩
        have s2 := (same_new (o := .tup [.int (y : Int), .int (e : Int)]) hu2).trans (same_new (o := .lst [.ref u2]) ht2)
        refine ⟨(h.q i).marks, t, t2, [(x, d)], [(y, e)], rfl, qok.marks, (pairs_one (x := (x, d)) ht upd_same).mono s2, one_in (mem_pairsOf.mpr c2), List.pairwise_singleton _ _, (by intro z; cases z), (by decide : 1 ≤ 27), pairs_one (x := (y, e)) ht2 upd_same, one_in (mem_pairsOf.mpr c4), (by intro z; cases z), (by decide : 1 ≤ 27), fun H3 l k way s3 h1 h2 h3 h4 h5 => ?_⟩
        rw [one_goal] at h1
        obtain ⟨rw', w1, w2⟩ := h5
        refine ⟨_, rfl, l, _, rfl, .inl (SqL.of w1), _, _, rfl, rfl, ?_⟩
        have el : (((rw'.map V.ref).length : Nat) : Int) - 1 = (k : Int) := by
          rw [List.length_map, w2.length, h3]
          omega
        show 1 ≤ sizeLine ∧ ∀ r, H3 r = none → Q (.ref r) (upd H3 r (.lst [.int ((((rw'.map V.ref).length : Nat) : Int) - 1)]))
        rw [el]
        exact one_say PA kk (s1.trans (s2.trans s3)) (by rw [ea, h1])
end
end Bm

end
section
set_option Elab.async false
set_option linter.all false
set_option maxRecDepth 100000
set_option maxHeartbeats 2000000
namespace Bm
open PySem PySem.Spec PyProof.Rows L2
open Kri5 (Pair Quantity House pairsOf nextAll)

theorem rg_two {n : Nat} (h1 : 0 < n) (h : n < 1000) : RgC 0 ((2 * n : Nat) : Int) 2 n := by
  have e : Builtin.Range.rangeSize 0 ((2 * n : Nat) : Int) 2 = n := by
    unfold Builtin.Range.rangeSize
    rw [if_pos (by decide), if_pos (by omega)]
    omega
  refine ⟨by decide, by decide, ?_, e⟩
  have f : ∀ i : Int, -10000 ≤ i → i ≤ 10000 → Builtin.Range.rangeFitsLong i = true := fun i a b => by
    unfold Builtin.Range.rangeFitsLong
    rw [Bool.and_eq_true, decide_eq_true_eq, decide_eq_true_eq]
    omega
  unfold Builtin.Range.small
  rw [e, f 0 (by omega) (by omega), f _ (by omega : (-10000 : Int) ≤ ((2 * n : Nat) : Int)) (by omega), f 2 (by omega) (by omega), f n (by omega) (by omega), if_pos (by decide), f _ (by omega : (-10000 : Int) ≤ ((2 * n : Nat) : Int) + (2 - 1)) (by omega), Bool.or_true]
  rfl
theorem pair_has {m : Nat} (x : Pair) : (decide (x.1 ≤ 2 * m) && decide (x.2 ≤ 2)) = (pairsOf m).contains x := by
  rw [Bool.eq_iff_iff, Bool.and_eq_true, decide_eq_true_eq, decide_eq_true_eq, List.contains_iff_mem, mem_pairsOf]
section
variable {P : Program} {w : World} {K : PySem.W.Frag} {mg : Str → Option Value} {base : Heap} {aD C : Addr}
theorem scRunQ : FnScope ["plant", "given", "i", "row", "listed", "may_begin", "at", "pair"] ["plant", "given"] (defScope sRunQ) := ⟨rfl, rfl, rfl, by decide +kernel, rfl, by decide +kernel, by decide +kernel⟩
theorem ok_runq {f : Addr} {fd : FuncData} (D : Def K mg "run" sRunQ ["plant", "given"] f fd) (T : PCls K mg C) (TD : Dirs K mg aD) (R : Refs mg) (hall : mg "all" = none) (GH : Fn P w K mg base "has_pair" ["marks", "place", "direction"] 3 spHpr) (GI : Fn P w K mg base "is_run" ["marks", "pairs"] 5 spIsRun) : FnOk P w K mg base CX0 6 f fd ["plant", "given"] (spDo C 17) := by
  obtain ⟨t1, r1⟩ := R.right
  refine D.fn.ok scRunQ (fun vs H Q E h => ?_) (fun cdv A outer s H vs Q E hr h => ?_)
  · obtain ⟨p, g, G, own, h, k, rfl, _⟩ := h
    rfl
  · obtain ⟨p, g, G, own, h, k, rfl, PA, ok, hg, hk, hq, kk⟩ := h
    obtain ⟨i, l, rfl⟩ : ∃ i l, k = .run i l := by cases k <;> simp [num] at hk; exact ⟨_, _, rfl⟩
    have hi : i < h.qs.length := hq i rfl
    obtain ⟨rs, hg1, hg2⟩ := hg
    obtain ⟨ro, rfl, hro, hl256⟩ : ∃ ro, rs = [ro] ∧ NatsAt G ro l ∧ l.length < 256 := by
      cases hg2 with
      | cons a t => cases t; exact ⟨_, rfl, a⟩
    have hgH : H g = some (.lst [.int (i : Int), .ref ro]) := PA.sub _ _ hg1
    have hrH : H ro = some (.lst (vi l)) := PA.sub _ _ hro
    obtain ⟨dx, lm, lp, le, ai, as, rr, q⟩ := PA.qat hi
    have qok := ok.q hi
    refine ⟨_, pss_cons (ps_set (i := 2) scRunQ.nd rfl (Or.inr rfl) (pe_ix ix_list (pv 1) pe_int (fun _ _ => rfl)))
      (pss_cons (ps_set (i := 3) scRunQ.nd rfl (Or.inr rfl) (pe_ix ix_list (pv 1) pe_int (fun _ _ => rfl)))
      (pss_cons (ps_if (PW.pt (pw_or (pt_cmpR op_eq (pe_callB call_len_seq (by rfl) TD.len PySem.boot_len (pa_cons (pv 3) pa_nil)) pe_int (nomark _)) (pw_or1 (pt_cmpR op_eq (pe_op op_mod (pe_callB call_len_seq (by rfl) TD.len PySem.boot_len (pa_cons (pv 3) pa_nil)) pe_int) pe_int (nomark _)))))
        (pss_one (ps_ret (pe_lst (pa_cons (pe_glob (v := .int (-22)) rfl r1 ⟨_, rfl⟩) pa_nil)))) pss_nil)
      (pss_cons (ps_setLc (i := 4) (own := [("at", 6)]) rfl scRunQ.nd rfl rfl (sw_true rfl rfl rfl rfl) (pi_range3 rfl TD.range (pa_cons pe_int (pa_cons (pe_callB call_len_seq (by rfl) TD.len PySem.boot_len (pa_cons (pv 3) pa_nil)) (pa_cons pe_int pa_nil)))) (blkOk_by (by show blkC ["plant", "given", "i", "row", "listed", "may_begin", "at", "pair"] (defScope sRunQ) _ _ = true; decide +kernel))
        (fun _ _ _ _ _ => pg_name (i := 6) scRunQ.nd rfl (Or.inl rfl)) (fun _ _ _ _ _ => pts_nil) (fun _ _ _ _ _ => pe_tup (pa_cons (pe_ix (ixl K rfl) (pv 3) (pv 6) (fun _ _ => rfl)) (pa_cons (pe_ix (ixl K rfl) (pv 3) (pe_op op_add (pv 6) pe_int) (fun _ _ => rfl)) pa_nil))))
      (pss_cons (ps_if (pt_not (pt_val (pe_callB (cr_all rfl) (by rfl) hall boot_all (pa_cons (pe_lc (own := [("pair", 7)]) rfl scRunQ.nd (pi_list (pv 4)) (blkOk_by (by show blkC ["plant", "given", "i", "row", "listed", "may_begin", "at", "pair"] (defScope sRunQ) _ _ = true; decide +kernel))
          (fun _ _ _ _ _ => pg_name (i := 7) scRunQ.nd rfl (Or.inl rfl)) (fun _ _ _ _ _ => pts_nil)
          (fun _ _ _ _ _ => pe_fn GH (hr.mono (by decide)) rfl (pa_cons (pe_ix (ixl K rfl) (pe_fldK K rfl (pv 0) rfl) (pv 2) (fun _ _ => rfl)) (pa_cons (pe_ix (ixt K rfl) (pv 7) pe_int (fun _ _ => rfl)) (pa_cons (pe_ix (ixt K rfl) (pv 7) pe_int (fun _ _ => rfl)) pa_nil))))) pa_nil))))
        (pss_one (ps_ret (pe_lst (pa_cons (pe_glob (v := .int (-22)) rfl r1 ⟨_, rfl⟩) pa_nil)))) pss_nil)
      (pss_cons (ps_set (i := 5) scRunQ.nd rfl (Or.inl rfl) (pe_cmpR (op_inP (room66 hr)) (pe_ix ix_list (pv 4) pe_int (fun _ _ => rfl)) (pe_ix ix_list (pe_fld (pv 0) rfl) (pv 2) (fun _ _ => rfl)) (by with_unfolding_all rfl)))
      (pss_one (ps_ret (pe_lst (pa_cons (pe_ifExp (PW.pt (pw_and (pt_val (pv 5)) (pw_and1 (pt_val (pe_fn GI hr rfl (pa_cons (pe_ix ix_list (pe_fld (pv 0) rfl) (pv 2) (fun _ _ => rfl)) (pa_cons (pv 4) pa_nil))))))) pe_int pe_int) pa_nil))))))))), ?_⟩
    refine ⟨_, rfl, g, _, _, _, rfl, rfl, SqL.of hgH, at_of (j := 0) rfl rfl, ?_⟩
    refine ⟨_, rfl, g, _, _, _, rfl, rfl, SqL.of hgH, at_of (j := 1) rfl rfl, ?_⟩
    refine ⟨_, rfl, ro, _, rfl, .inl (SqL.of hrH), rfl, _, rfl, ite2 (fun c => ?_) (fun c => ?_)⟩
    · -- none
      have c := V.int.inj (of_decide_eq_true c)
      rw [vi_len] at c
      obtain rfl : l = [] := List.eq_nil_of_length_eq_zero (by omega)
      exact one_say PA kk (Same.refl H) (by rw [act_run hi]; rfl)
    have c0 : 0 < l.length := by
      rcases Nat.eq_zero_or_pos l.length with z | z
      · exact absurd (decide_eq_true (by rw [vi_len, z]; rfl)) c
      · exact z
    refine ⟨_, rfl, ro, _, rfl, .inl (SqL.of hrH), _, _, rfl, rfl, (by show (0 : Int) < 2; decide), rfl, _, rfl, ite2 (fun c1 => ?_) (fun c1 => ?_)⟩
    · -- odd
      have c1 := V.int.inj (of_decide_eq_true c1)
      rw [vi_len] at c1
      have od := twos_odd (l.length / 2) (l := l) (by omega)
      exact one_say PA kk (Same.refl H) (by rw [act_run hi, od])
    have ev : ¬ ((l.length : Int) % 2 = 1) := fun z => c1 (decide_eq_true (by rw [vi_len]; exact congrArg V.int z))
    obtain ⟨n, hn⟩ : ∃ n, l.length = 2 * n := ⟨l.length / 2, by omega⟩
    obtain ⟨r, tw, hrl, hrj⟩ := twos_even n hn
    have ea : Kri5.act (some h) (.run i l) = (some h, if r = [] ∨ (r.all fun x => (pairsOf (h.q i).marks).contains x) = false then Kri5.say (-22) else Kri5.say (if (h.q i).pairs.contains (r.headD (0, 0)) && Kri5.isRun (h.q i).marks r then 1 else 0)) := by
      rw [act_run hi, tw]
    refine ⟨_, rfl, ro, _, rfl, .inl (SqL.of hrH), 0, _, 2, n, rfl, (by rw [vi_len, hn]; exact rg_two (by omega) (by omega)), fun L hL => ?_⟩
    refine lc_rangeC (lo := 0) (c := 2) (n := n) (fun j H' => Same H H' ∧ PairsAt H' L (r.take j)) ⟨same_new hL, pairs_new⟩ ?_ ?_
    · rintro j H1 hj ⟨s1, p1⟩
      obtain ⟨a, b, ha, hb, hab⟩ := hrj j hj
      have at0 : atI (vi l) (0 + (j : Nat) * 2) = some (.int (a : Int)) := at_of (j := 2 * j) (by omega) (by unfold vi; rw [List.getElem?_map, ha]; rfl)
      have at1 : atI (vi l) (0 + (j : Nat) * 2 + 1) = some (.int (b : Int)) := at_of (j := 2 * j + 1) (by omega) (by unfold vi; rw [List.getElem?_map, hb]; rfl)
      refine ⟨rfl, tYes_of ⟨_, rfl, _, rfl, ro, _, _, _, rfl, rfl, SqL.of (s1 _ _ hrH), at0, _, rfl, _, rfl, _, _, rfl, rfl, ro, _, _, _, rfl, rfl, SqL.of (s1 _ _ hrH), at1, len2, fun t ht => ?_⟩⟩
      rw [take_one hab]
      refine grow hL (s1.trans (same_new ht)) (p1.mono (same_new ht)) ?_ (x := (a, b)) upd_same
      rw [List.length_take]
      omega
    rintro H1 ⟨s1, p1⟩
    rw [← hrl, List.take_length] at p1
    obtain ⟨rs', e1, e2⟩ := id p1
    refine ⟨_, rfl, L, rfl, ⟨_, SqL.of e1⟩, fun L2 hL2 => ?_⟩
    refine lc_list (K := K) (a := L) (xs := rs'.map V.ref) (fun j H' => Same H1 H' ∧ H' L2 = some (.lst (((r.take j).map fun x => (pairsOf (h.q i).marks).contains x).map V.bl))) ⟨same_new hL2, upd_same⟩ (fun j H' _ ⟨s2, _⟩ => SqL.of (s2 _ _ e1)) ?_ ?_
    · rintro j v H2 hv ⟨s2, h2⟩
      obtain ⟨b, hb, rfl⟩ := map_get hv
      obtain ⟨x, hx, hxt⟩ := pr_getL e2 hb
      have s02 := s1.trans s2
      refine ⟨rfl, tYes_of ⟨_, rfl, p, C, dx, _, _, rfl, s02 _ _ q.ins, T.cl, T.nMa, pf_marks _ _ _ _, _, rfl, lm, _, _, _, rfl, rfl, SqL.of (s02 _ _ q.ms), q.mrk, _, rfl, b, _, _, _, rfl, rfl, tup0 (s2 _ _ hxt), at_of (j := 0) rfl rfl, _, rfl, b, _, _, _, rfl, rfl, tup0 (s2 _ _ hxt), at_of (j := 1) rfl rfl,
        (h.q i).marks, x.1, x.2, rfl, _, h2, ?_, ?_, ?_⟩⟩
      · rw [List.length_map, List.length_map, List.length_take]
        exact line_small (by omega)
      · intro b o e
        rw [upd_ne (ne_of_none e hL2)]
        exact s2 b o e
      · rw [upd_same, pair_has]
        exact congrArg (fun z => some (HO.lst z)) (bl_snoc (f := fun x => (pairsOf (h.q i).marks).contains x) hx)
    rintro H2 ⟨s2, h2⟩
    rw [List.length_map, e2.length, List.take_length] at h2
    have s02 := s1.trans s2
    refine ⟨L2, _, rfl, SqL.of h2, _, rfl, ?_⟩
    show if (!(r.map fun x => (pairsOf (h.q i).marks).contains x).all id) = true then _ else _
    rw [all_id]
    refine ite2 (fun c2 => ?_) (fun c2 => ?_)
    · rw [Bool.not_eq_true'] at c2
      exact one_say PA kk s02 (by rw [ea, if_pos (.inr c2)])
    have c2 : (r.all fun x => (pairsOf (h.q i).marks).contains x) = true := by
      rw [Bool.not_eq_true', Bool.not_eq_false] at c2
      exact c2
    have hin : ∀ x ∈ r, x ∈ pairsOf (h.q i).marks := fun x hx => List.contains_iff_mem.mp (List.all_eq_true.mp c2 x hx)
    have rne : r ≠ [] := by
      intro z
      rw [z] at hrl
      simp at hrl
      omega
    rw [if_neg (by rw [c2]; rintro (z | z); exact rne z; cases z)] at ea
    obtain ⟨x0, r0, rfl⟩ := List.exists_cons_of_ne_nil rne
    have ea : Kri5.act (some h) (.run i l) = (some h, Kri5.say (if ((h.q i).pairs.contains x0 && Kri5.isRun (h.q i).marks (x0 :: r0)) = true then 1 else 0)) := ea
    obtain ⟨b0, rs0, rfl, hb0⟩ : ∃ b0 rs0, rs' = b0 :: rs0 ∧ TupAt H1 b0 x0 := by
      cases e2 with
      | cons a t => exact ⟨_, _, rfl, a⟩
    refine ⟨_, rfl, L, _, _, _, rfl, rfl, SqL.of (s2 _ _ e1), at_of (j := 0) rfl rfl, _, rfl, p, C, dx, _, _, rfl, s02 _ _ q.ins, T.cl, T.nPo, pf_possible _ _ _ _, _, rfl, lp, _, _, _, rfl, rfl, SqL.of (s02 _ _ q.ps), q.at_, b0, ai, x0, _, rfl, rfl, s2 _ _ hb0, (q.pat PA.sub).mono s02, ?_⟩
    refine ⟨_, rfl, _, rfl, ?_⟩
    show if (h.q i).pairs.contains x0 = true then _ else _
    refine ite2 (fun c3 => ?_) (fun c3 => ?_)
    · rw [c3, Bool.true_and] at ea
      refine ⟨_, rfl, p, C, dx, _, _, rfl, s02 _ _ q.ins, T.cl, T.nMa, pf_marks _ _ _ _, _, rfl, lm, _, _, _, rfl, rfl, SqL.of (s02 _ _ q.ms), q.mrk, _, rfl, (h.q i).marks, L, _, rfl, qok.marks, p1.mono s2, hin, fun H3 s3 => ?_⟩
      refine ⟨_, rfl, ?_⟩
      show if Kri5.isRun (h.q i).marks (x0 :: r0) = true then _ else _
      refine ite2 (fun c4 => ?_) (fun c4 => ?_)
      · rw [if_pos c4] at ea
        exact one_say PA kk (s02.trans s3) ea
      · rw [if_neg c4] at ea
        exact one_say PA kk (s02.trans s3) ea
    · rw [Bool.eq_false_iff.mpr c3, Bool.false_and, if_neg Bool.false_ne_true] at ea
      exact one_say PA kk s02 ea
end
end Bm

end
section
set_option Elab.async false
set_option linter.all false
set_option maxRecDepth 100000
set_option maxHeartbeats 2000000
namespace Bm
open PySem PySem.Spec PyProof.Rows L2
open Kri5 (Pair Quantity House pairsOf nextAll)
def tabV : List (List V) := tab.map fun x => [.str x.1, .int x.2.1, .int x.2.2]
/-- the defs of the top -/
structure Names (K : PySem.W.Frag) (mg : Str → Option Value) : Prop where
  last : ∃ f fd, Def K mg "last_place" sLast ["marks"] f fd
  mark : ∃ f fd, Def K mg "is_mark" sMark ["place"] f fd
  all_ : ∃ f fd, Def K mg "all_pairs" sAll ["marks"] f fd
  fpl : ∃ f fd, Def K mg "following_places" sFpl ["marks", "place", "direction"] f fd
  fdir : ∃ f fd, Def K mg "following_directions" sFdir ["direction"] f fd
  fol : ∃ f fd, Def K mg "following_pairs" sFol ["marks", "pairs"] f fd
  split : ∃ f fd, Def K mg "split_calls" sSplit ["numbers"] f fd
  namesQ : ∃ f fd, Def K mg "names_quantity" sNamesQ ["name", "given"] f fd
  isCh : ∃ f fd, Def K mg "is_change" sIsCh ["name"] f fd
  makeCh : ∃ f fd, Def K mg "make_change" sMakeCh ["plant", "name", "given"] f fd
  ansQ : ∃ f fd, Def K mg "answer_question" sAnsQ ["plant", "name", "given"] f fd
  ansCall : ∃ f fd, Def K mg "answer_call" sAnsCall ["plant", "name", "given"] f fd
  quant : ∃ f fd, Def K mg "quantity" sQuant ["plant", "given"] f fd
  nar : ∃ f fd, Def K mg "narrow" sNar ["plant", "i", "pairs"] f fd
  place : ∃ f fd, Def K mg "place" sPlace ["plant", "given"] f fd
  way : ∃ f fd, Def K mg "way" sWay ["plant", "given"] f fd
  notat : ∃ f fd, Def K mg "notat" sNot ["plant", "given"] f fd
  tick : ∃ f fd, Def K mg "tick" sTick ["plant", "given"] f fd
  forget : ∃ f fd, Def K mg "forget" sForget ["plant", "given"] f fd
  back : ∃ f fd, Def K mg "back" sBack ["plant", "given"] f fd
  may : ∃ f fd, Def K mg "may" sMay ["plant", "given"] f fd
  ways : ∃ f fd, Def K mg "ways" sWays ["plant", "given"] f fd
  pairs : ∃ f fd, Def K mg "pairs" sPairs ["plant", "given"] f fd
  hpl : ∃ f fd, Def K mg "has_place" sHpl ["marks", "place"] f fd
  hpr : ∃ f fd, Def K mg "has_pair" sHpr ["marks", "place", "direction"] f fd
  prec : ∃ f fd, Def K mg "preceding_pairs" sPrec ["marks", "pair"] f fd
  beh : ∃ f fd, Def K mg "pairs_behind" sBeh ["marks", "pairs", "moments"] f fd
  isRun : ∃ f fd, Def K mg "is_run" sIsRun ["marks", "pairs"] f fd
  leads : ∃ f fd, Def K mg "leads_to" sLeads ["marks", "pair", "goals"] f fd
  mom : ∃ f fd, Def K mg "moments_to" sMom ["marks", "goals"] f fd
  short : ∃ f fd, Def K mg "shortest_run" sShort ["marks", "starts", "goals"] f fd
  cnt : ∃ f fd, Def K mg "count_runs" sCnt ["marks", "starts", "moments"] f fd
  pla : ∃ f fd, Def K mg "places_among" sPla ["possible"] f fd
  wya : ∃ f fd, Def K mg "ways_among" sWyA ["possible"] f fd
  flat : ∃ f fd, Def K mg "flattened" sFlat ["listed"] f fd
  tpl : ∃ f fd, Def K mg "tell_places" sTPl ["possible"] f fd
  tpr : ∃ f fd, Def K mg "tell_pairs" sTPr ["listed"] f fd
  sure : ∃ f fd, Def K mg "sure" sSure ["plant", "given"] f fd
  later : ∃ f fd, Def K mg "later" sLater ["plant", "given"] f fd
  rtp : ∃ f fd, Def K mg "run_to_place" sRtp ["plant", "i", "place"] f fd
  soon : ∃ f fd, Def K mg "soonest" sSoon ["plant", "given"] f fd
  path : ∃ f fd, Def K mg "path" sPath ["plant", "given"] f fd
  btw : ∃ f fd, Def K mg "between" sBtw ["plant", "given"] f fd
  foll : ∃ f fd, Def K mg "following" sFoll ["plant", "given"] f fd
  prece : ∃ f fd, Def K mg "preceding" sPrece ["plant", "given"] f fd
  runq : ∃ f fd, Def K mg "run" sRunQ ["plant", "given"] f fd
  count : ∃ f fd, Def K mg "count" sCount ["plant", "given"] f fd
  look : ∃ f fd, Def K mg "look" sLook ["plant", "given"] f fd
  state : ∃ f fd, Def K mg "state" sState ["plant", "given"] f fd
/-- the class of the top -/
structure PlantK (K : PySem.W.Frag) (C : Addr) : Prop where
  cl : Cls K C
  nMo : NoAttr K C "moment"
  nMa : NoAttr K C "marks"
  nPo : NoAttr K C "possible"
  nEa : NoAttr K C "earlier"
  makes : PySem.W.makesIn K C = true
  kp : PySem.W.keepIn K (.ref C) = true
  init : ∃ f fd, MDef K C "__init__" "Plant.__init__" sInit ["self"] f fd
  has : ∃ f fd, MDef K C "has_quantity" "Plant.has_quantity" sHas ["self", "i"] f fd
  rem : ∃ f fd, MDef K C "remember" "Plant.remember" sRem ["self"] f fd
  addQ : ∃ f fd, MDef K C "add_quantity" "Plant.add_quantity" sAddQ ["self", "marks"] f fd
  setP : ∃ f fd, MDef K C "set_possible" "Plant.set_possible" sSetP ["self", "i", "pairs"] f fd
  pass : ∃ f fd, MDef K C "pass_moment" "Plant.pass_moment" sPass ["self"] f fd
  backM : ∃ f fd, MDef K C "take_back" "Plant.take_back" sBackM ["self"] f fd
theorem plantk_mk {K : PySem.W.Frag} {h : Heap} {mg : Str → Option Value} {C : Addr} (X : K.In h) (G : h.Ns mainGlobals mg) (y : PySem.W.nsIn K mainGlobals "Plant" = some (some (.ref C)))
    (c1 : PySem.W.plainGet K C Str.empty = true) (c2 : PySem.W.hasDictIn K C = true) (c3 : PySem.W.plainOver K C = true) (c4 : PySem.W.findIn K (.ref C) "__setattr__" = some (some (.builtin "object.__setattr__")))
    (n1 : PySem.W.findIn K (.ref C) "moment" = some none) (n2 : PySem.W.findIn K (.ref C) "marks" = some none) (n3 : PySem.W.findIn K (.ref C) "possible" = some none) (n4 : PySem.W.findIn K (.ref C) "earlier" = some none)
    (m1 : PySem.W.makesIn K C = true) (m2 : PySem.W.keepIn K (.ref C) = true)
    (d1 : ∃ f fd, MDef K C "__init__" "Plant.__init__" sInit ["self"] f fd) (d2 : ∃ f fd, MDef K C "has_quantity" "Plant.has_quantity" sHas ["self", "i"] f fd) (d3 : ∃ f fd, MDef K C "remember" "Plant.remember" sRem ["self"] f fd)
    (d4 : ∃ f fd, MDef K C "add_quantity" "Plant.add_quantity" sAddQ ["self", "marks"] f fd) (d5 : ∃ f fd, MDef K C "set_possible" "Plant.set_possible" sSetP ["self", "i", "pairs"] f fd)
    (d6 : ∃ f fd, MDef K C "pass_moment" "Plant.pass_moment" sPass ["self"] f fd) (d7 : ∃ f fd, MDef K C "take_back" "Plant.take_back" sBackM ["self"] f fd) : ∃ C, mg "Plant" = some (.ref C) ∧ PlantK K C :=
  ⟨C, PySem.W.mg_of X G y, ⟨c1, c2, c3, c4⟩, n1, n2, n3, n4, m1, m2, d1, d2, d3, d4, d5, d6, d7⟩
theorem datum_paired {mg : Str → Option Value} {x : Str} : ∀ {D' : List (Str × Addr)} {D : List (Str × Str)}, Paired (fun (x : Str × Addr) (y : Str × Str) => x.1 = y.1 ∧ mg y.2 = some (.ref x.2)) D' D →
    (∀ n, KTD.datumAt x D = some n → ∃ f, KTD.datumAt x D' = some f ∧ mg n = some (.ref f)) ∧ (KTD.datumAt x D = none → KTD.datumAt x D' = none)
  | _, _, .nil => ⟨fun n e => (by cases e), fun _ => rfl⟩
  | (y, f) :: D', (z, n) :: D, .cons ⟨e1, e2⟩ t => by
    dsimp only at e1 e2
    subst e1
    obtain ⟨t1, t2⟩ := datum_paired (x := x) t
    unfold KTD.datumAt
    by_cases h : x = y
    · rw [if_pos (decide_eq_true h), if_pos (decide_eq_true h)]
      exact ⟨fun n' e => ⟨f, rfl, (by rw [← Option.some.inj e]; exact e2)⟩, fun e => (by cases e)⟩
    · have hn : ¬ decide (x = y) = true := fun q => h (of_decide_eq_true q)
      rw [if_neg hn, if_neg hn]
      exact ⟨t1, t2⟩
section
variable {P : Program} {w : World} {K : PySem.W.Frag} {mg : Str → Option Value} {base : Heap} {aD C : Addr}
/-- there is a def of this name that does what the call number n asks -/
def Does (P : Program) (w : World) (K : PySem.W.Frag) (mg : Str → Option Value) (base : Heap) (C : Addr) (x : Str) (n : Nat) : Prop :=
  ∃ f m fd, mg x = some (.ref f) ∧ FnOk P w K mg base CX0 m f fd ["plant", "given"] (spDo C n) ∧ m ≤ 10 ∧ PySem.W.keepIn K (.ref f) = true ∧ Binds K fd ["plant", "given"] []
theorem does {x : Str} {st : Stmt} {f : Addr} {fd : FuncData} {n m : Nat} (D : Def K mg x st ["plant", "given"] f fd) (G : FnOk P w K mg base CX0 m f fd ["plant", "given"] (spDo C n)) (hm : m ≤ 10) : Does P w K mg base C x n :=
  ⟨f, m, fd, D.at_, G, hm, D.fn.kp, D.bd⟩
theorem tbl_mk {h : Heap} {x : Str} {aT : Addr} {D : List (Str × Str)} {S : Nat → Bool} (X : K.In h) (G : h.Ns mainGlobals mg) (a : mg x = some (.ref aT)) (e : isDictK K aT D = true)
    (yes : ∀ k : Kri5.Call, S (num k) = true → ∃ n, KTD.datumAt (nm k) D = some n ∧ Does P w K mg base C n (num k)) (no : ∀ k : Kri5.Call, S (num k) = false → KTD.datumAt (nm k) D = none) : Tbl P w K mg base C x aT S := by
  obtain ⟨D', h1, h2⟩ := isDictK_ok X G e
  refine ⟨a, D', h1, fun k hk => ?_, fun k hk => (datum_paired h2).2 (no k hk)⟩
  obtain ⟨n, hn, f, m, fd, g1, g2, g3, g4, g5⟩ := yes k hk
  obtain ⟨f', e1, e2⟩ := (datum_paired h2).1 n hn
  rw [g1] at e2
  injection e2 with e2
  injection e2 with e2
  subst e2
  exact ⟨f, m, fd, e1, g2, g3, g4, g5⟩
def isChange (n : Nat) : Bool := decide (1 ≤ n) && decide (n ≤ 7)
def isAsk (n : Nat) : Bool := decide (8 ≤ n) && decide (n ≤ 21)
def askD : List (Str × Str) := [("may", "may"), ("ways", "ways"), ("pairs", "pairs"), ("sure", "sure"), ("soonest", "soonest"), ("path", "path"), ("between", "between"), ("next", "following"), ("before", "preceding"), ("run", "run"), ("count", "count"), ("later", "later"), ("look", "look"), ("state", "state")]
def chgD : List (Str × Str) := [("quantity", "quantity"), ("place", "place"), ("way", "way"), ("notat", "notat"), ("tick", "tick"), ("forget", "forget"), ("back", "back")]
/-- the name of the call number n -/
def nmAt (n : Nat) : Str := ((tab[n]?).map (·.1)).getD ""
theorem nm_at (k : Kri5.Call) : nm k = nmAt (num k) := by cases k <;> rfl
theorem chg_at : ∀ n, n < 22 → KTD.datumAt (nmAt n) chgD = if isChange n then some (nmAt n) else none := by decide +kernel
/-- the def of the call number n that changes nothing -/
def askN (n : Nat) : Str := ((askD[n - 8]?).map (·.2)).getD ""
theorem ask_at : ∀ n, n < 22 → KTD.datumAt (nmAt n) askD = if isAsk n then some (askN n) else none := by decide +kernel
theorem dirs_mk {h : Heap} {mg : Str → Option Value} (r : mg "range" = none) (l : mg "len" = none) (a : mg "abs" = none) (s : mg "sorted" = none) (d : ∃ a, mg "DIRECTIONS" = some (.ref a) ∧ isTupK K a [.int 0, .int 1, .int 2] = true)
    (st : ∃ t, mg "STEADY" = some (.int 1 t)) (ri : ∃ t, mg "RISING" = some (.int 2 t)) : ∃ aD, Dirs K mg aD := by
  obtain ⟨aD, d1, d2⟩ := d
  exact ⟨aD, r, l, a, s, d1, isTupK_ok d2, st, ri⟩
theorem calls_mk {mg : Str → Option Value} (c : ∃ a, mg "CALLS" = some (.ref a) ∧ isTabK K a tabV = true) : ∃ aC, CallsTab K mg aC := by
  obtain ⟨aC, c1, c2⟩ := c
  obtain ⟨as, h1, h2⟩ := isTabK_ok c2
  refine ⟨aC, c1, as, h1, ?_⟩
  have q : ∀ {as : List Addr} {l : List (Str × Nat × Nat)}, Paired (fun a r => ∀ H, SqT K H a r) as (l.map fun x => [V.str x.1, V.int x.2.1, V.int x.2.2]) → Paired (fun r (x : Str × Nat × Nat) => ∀ H, SqT K H r [.str x.1, .int x.2.1, .int x.2.2]) as l := by
    intro as l
    induction l generalizing as with
    | nil => intro z; cases z; exact .nil
    | cons x l ih =>
      intro z
      cases z with
      | cons r t => exact .cons r (ih t)
  exact q h2
/-- the whole, from what the top holds; asks: the calls that change nothing -/
theorem ans_ok {h : Heap} {f : Addr} {fd : FuncData} (X : K.In h) (G : h.Ns mainGlobals mg) (N : Names K mg) (PK : ∃ C, mg "Plant" = some (.ref C) ∧ PlantK K C) (TD : ∃ aD, Dirs K mg aD) (TC : ∃ aC, CallsTab K mg aC) (R : Refs mg)
    (hl : mg "list" = none) (hz : mg "zip" = none) (hmc : ∃ t, mg "MOST_CHANGES" = some (.int 40 t)) (hsum : mg "sum" = none) (hset : mg "set" = none)
    (DC : ∃ a, mg "CHANGES" = some (.ref a) ∧ isDictK K a chgD = true) (DQ : ∃ a, mg "QUESTIONS" = some (.ref a) ∧ isDictK K a askD = true)
    (hany : mg "any" = none) (hall : mg "all" = none) (hmin : mg "min" = none) (h40 : ∃ t, mg "MOST_MOMENTS_LATER" = some (.int 40 t)) (h6 : ∃ t, mg "MOST_MOMENTS_COUNTED" = some (.int 6 t))
    (D : Def K mg "answers" sAns ["calls"] f fd) : FnOk P w K mg base CX0 13 f fd ["calls"] (spAns K) := by
  obtain ⟨C, mgC, pk⟩ := PK
  obtain ⟨aD, TD⟩ := TD
  obtain ⟨aC, TC⟩ := TC
  obtain ⟨aCh, c1, c2⟩ := DC
  obtain ⟨aQ, q1, q2⟩ := DQ
  have T : PCls K mg C := ⟨pk.cl, pk.nMo, pk.nMa, pk.nPo, pk.nEa, mgC, hl, hz, hmc⟩
  obtain ⟨_, _, dLast⟩ := N.last
  obtain ⟨_, _, dMark⟩ := N.mark
  obtain ⟨_, _, dAll⟩ := N.all_
  obtain ⟨_, _, dFpl⟩ := N.fpl
  obtain ⟨_, _, dFdir⟩ := N.fdir
  obtain ⟨_, _, dFol⟩ := N.fol
  obtain ⟨_, _, dSplit⟩ := N.split
  obtain ⟨_, _, dNamesQ⟩ := N.namesQ
  obtain ⟨_, _, dIsCh⟩ := N.isCh
  obtain ⟨_, _, dMakeCh⟩ := N.makeCh
  obtain ⟨_, _, dAnsQ⟩ := N.ansQ
  obtain ⟨_, _, dAnsCall⟩ := N.ansCall
  obtain ⟨_, _, dQuant⟩ := N.quant
  obtain ⟨_, _, dNar⟩ := N.nar
  obtain ⟨_, _, dPlace⟩ := N.place
  obtain ⟨_, _, dWay⟩ := N.way
  obtain ⟨_, _, dNot⟩ := N.notat
  obtain ⟨_, _, dTick⟩ := N.tick
  obtain ⟨_, _, dForget⟩ := N.forget
  obtain ⟨_, _, dBack⟩ := N.back
  obtain ⟨_, _, dMay⟩ := N.may
  obtain ⟨_, _, dWays⟩ := N.ways
  obtain ⟨_, _, dPairs⟩ := N.pairs
  obtain ⟨_, _, dHpl⟩ := N.hpl
  obtain ⟨_, _, dHpr⟩ := N.hpr
  obtain ⟨_, _, dPrec⟩ := N.prec
  obtain ⟨_, _, dBeh⟩ := N.beh
  obtain ⟨_, _, dIsRun⟩ := N.isRun
  obtain ⟨_, _, dLeads⟩ := N.leads
  obtain ⟨_, _, dMom⟩ := N.mom
  obtain ⟨_, _, dShort⟩ := N.short
  obtain ⟨_, _, dCnt⟩ := N.cnt
  obtain ⟨_, _, dPla⟩ := N.pla
  obtain ⟨_, _, dWya⟩ := N.wya
  obtain ⟨_, _, dFlat⟩ := N.flat
  obtain ⟨_, _, dTpl⟩ := N.tpl
  obtain ⟨_, _, dTpr⟩ := N.tpr
  obtain ⟨_, _, dSure⟩ := N.sure
  obtain ⟨_, _, dLater⟩ := N.later
  obtain ⟨_, _, dRtp⟩ := N.rtp
  obtain ⟨_, _, dSoon⟩ := N.soon
  obtain ⟨_, _, dPath⟩ := N.path
  obtain ⟨_, _, dBtw⟩ := N.btw
  obtain ⟨_, _, dFoll⟩ := N.foll
  obtain ⟨_, _, dPrece⟩ := N.prece
  obtain ⟨_, _, dRunq⟩ := N.runq
  obtain ⟨_, _, dCount⟩ := N.count
  obtain ⟨_, _, dLook⟩ := N.look
  obtain ⟨_, _, dState⟩ := N.state
  obtain ⟨fI, _, mInit⟩ := pk.init
  obtain ⟨_, _, mHas⟩ := pk.has
  obtain ⟨_, _, mRem⟩ := pk.rem
  obtain ⟨_, _, mAddQ⟩ := pk.addQ
  obtain ⟨_, _, mSetP⟩ := pk.setP
  obtain ⟨_, _, mPass⟩ := pk.pass
  obtain ⟨_, _, mBackM⟩ := pk.backM
  have gHpl := ok_hpl (P := P) (w := w) (base := base) dHpl dLast
  have gAll := ok_all (P := P) (w := w) (base := base) dAll TD dLast
  have gFol := ok_fol (P := P) (w := w) (base := base) dFol TD dFpl dFdir dHpl dLast dMark
  have fA := Fn.of dAll gAll
  have fF := Fn.of dFol gFol
  have fHl := Fn.of dHpl gHpl
  have fHr := Fn.of dHpr (ok_hpr (P := P) (w := w) (base := base) dHpr TD dHpl dLast)
  have fPc := Fn.of dPrec (ok_prec dPrec fA fF)
  have fBe := Fn.of dBeh (ok_beh dBeh TD fF)
  have fIr := Fn.of dIsRun (ok_isRun dIsRun hz fF)
  have fLe := Fn.of dLeads (ok_leads dLeads hany fF)
  have fMo := Fn.of dMom (ok_mom dMom fA fLe)
  have fSh := Fn.of dShort (ok_short dShort TD hmin fMo fF)
  have fCn := Fn.of dCnt (ok_cnt dCnt TD hsum fF)
  have fPl := Fn.of dPla (ok_pla (P := P) (w := w) (base := base) dPla TD hset)
  have fWy := Fn.of dWya (ok_wya (P := P) (w := w) (base := base) dWya TD hsum)
  have fFl := Fn.of dFlat (ok_flat (P := P) (w := w) (base := base) dFlat)
  have fTl := Fn.of dTpl (ok_tpl dTpl TD fPl)
  have fTr := Fn.of dTpr (ok_tpr dTpr TD fFl)
  have fRt := Fn.of dRtp (ok_rtp dRtp T TD fSh)
  have gSetP := ok_setP (P := P) (w := w) (base := base) mSetP T TD mRem
  have gNar := ok_nar dNar T TD R mSetP gSetP
  have chg : Tbl P w K mg base C "CHANGES" aCh isChange := by
    refine tbl_mk X G c1 c2 (fun k hk => ?_) (fun k hk => ?_)
    · cases k <;> first | cases hk | skip
      · exact ⟨"quantity", (by rw [nm_at]; exact chg_at _ (by decide : 1 < 22)), does dQuant (ok_quant dQuant T TD R mAddQ (ok_addQ mAddQ T TD mRem dAll dLast)) (by decide)⟩
      · exact ⟨"place", (by rw [nm_at]; exact chg_at _ (by decide : 2 < 22)), does dPlace (ok_place dPlace T TD R dHpl gHpl dNar gNar) (by decide)⟩
      · exact ⟨"way", (by rw [nm_at]; exact chg_at _ (by decide : 3 < 22)), does dWay (ok_way dWay T TD R dNar gNar) (by decide)⟩
      · exact ⟨"notat", (by rw [nm_at]; exact chg_at _ (by decide : 4 < 22)), does dNot (ok_notat dNot T TD R dHpl gHpl dNar gNar) (by decide)⟩
      · exact ⟨"tick", (by rw [nm_at]; exact chg_at _ (by decide : 5 < 22)), does dTick (ok_tick dTick T R mPass (ok_pass mPass T TD mRem dFol gFol)) (by decide)⟩
      · exact ⟨"forget", (by rw [nm_at]; exact chg_at _ (by decide : 6 < 22)), does dForget (ok_forget dForget T TD dAll gAll mSetP gSetP) (by decide)⟩
      · exact ⟨"back", (by rw [nm_at]; exact chg_at _ (by decide : 7 < 22)), does dBack (ok_back dBack T TD R mBackM (ok_backM mBackM T)) (by decide)⟩
    · rw [nm_at, chg_at _ (num_lt k), if_neg (by rw [hk]; exact Bool.false_ne_true)]
  have ask : Tbl P w K mg base C "QUESTIONS" aQ isAsk := by
    refine tbl_mk X G q1 q2 (fun k hk => ?_) (fun k hk => ?_)
    · cases k <;> first | cases hk | skip
      · exact ⟨"may", (by rw [nm_at]; exact ask_at _ (by decide : 8 < 22)), does dMay (ok_may dMay T fTl) (by decide)⟩
      · exact ⟨"ways", (by rw [nm_at]; exact ask_at _ (by decide : 9 < 22)), does dWays (ok_ways dWays T fWy) (by decide)⟩
      · exact ⟨"pairs", (by rw [nm_at]; exact ask_at _ (by decide : 10 < 22)), does dPairs (ok_pairs dPairs T fTr) (by decide)⟩
      · exact ⟨"sure", (by rw [nm_at]; exact ask_at _ (by decide : 11 < 22)), does dSure (ok_sure dSure T TD R fPl) (by decide)⟩
      · exact ⟨"soonest", (by rw [nm_at]; exact ask_at _ (by decide : 12 < 22)), does dSoon (ok_soon dSoon T TD R fHl fRt) (by decide)⟩
      · exact ⟨"path", (by rw [nm_at]; exact ask_at _ (by decide : 13 < 22)), does dPath (ok_path dPath T TD R fHl fRt fFl) (by decide)⟩
      · exact ⟨"between", (by rw [nm_at]; exact ask_at _ (by decide : 14 < 22)), does dBtw (ok_btw dBtw T TD R fHr fSh) (by decide)⟩
      · exact ⟨"following", (by rw [nm_at]; exact ask_at _ (by decide : 15 < 22)), does dFoll (ok_foll dFoll T R fHr fTr fF) (by decide)⟩
      · exact ⟨"preceding", (by rw [nm_at]; exact ask_at _ (by decide : 16 < 22)), does dPrece (ok_prece dPrece T R fHr fTr fPc) (by decide)⟩
      · exact ⟨"run", (by rw [nm_at]; exact ask_at _ (by decide : 17 < 22)), does dRunq (ok_runq dRunq T TD R hall fHr fIr) (by decide)⟩
      · exact ⟨"count", (by rw [nm_at]; exact ask_at _ (by decide : 18 < 22)), does dCount (ok_count dCount T R h6 fCn) (by decide)⟩
      · exact ⟨"later", (by rw [nm_at]; exact ask_at _ (by decide : 19 < 22)), does dLater (ok_later dLater T R h40 fTl fBe) (by decide)⟩
      · exact ⟨"look", (by rw [nm_at]; exact ask_at _ (by decide : 20 < 22)), does dLook (ok_look dLook T TD fPl fWy) (by decide)⟩
      · exact ⟨"state", (by rw [nm_at]; exact ask_at _ (by decide : 21 < 22)), does dState (ok_state dState T TD) (by decide)⟩
    · rw [nm_at, ask_at _ (num_lt k), if_neg (by rw [hk]; exact Bool.false_ne_true)]
  refine ok_ans D T TD R ⟨pk.makes, mInit.me.at_, mInit.me.fn, pk.kp⟩ dSplit (ok_split dSplit TD TC) mInit.bd (ok_init mInit.fn T) dAnsCall ?_
  refine ok_ansCall dAnsCall T R (S := isChange) (S2 := isAsk) (fun n h1 h2 h3 => ?_) dNamesQ (ok_namesQ dNamesQ TD) mHas (ok_has mHas T TD) dIsCh (ok_isCh dIsCh chg) dMakeCh (ok_makeCh dMakeCh chg) dAnsQ (ok_ansQ dAnsQ ask)
  unfold isChange at h3
  unfold isAsk
  rw [Bool.and_eq_false_iff] at h3
  rw [Bool.and_eq_true]
  rcases h3 with z | z <;> have z := of_decide_eq_false z <;> exact ⟨decide_eq_true (by omega), decide_eq_true (by omega)⟩
end
end Bm

end
section
set_option Elab.async false
set_option linter.all false
set_option maxRecDepth 100000
namespace Bm
open PySem PySem.Spec PyProof.Rows L2
section
variable {P : Program} {w : World} {K : PySem.W.Frag} {mg : Str → Option Value} {base : Heap} {aD C : Addr}
theorem ans_binds {f : Addr} {fd : FuncData} (D : Def K mg "answers" sAns ["calls"] f fd) (s : Shared) (us : List Value) (hl : us.length = ["calls"].length) : BindsTo s fd ⟨us, []⟩ ((["calls"] : List Str).zip us) := by
  obtain ⟨oc, od, kV, doc, pm, an, cdv, ct, osl, rfl, _, _⟩ := D.fn.ex
  exact .of_eq (match us, hl with | [_], _ => rfl)
end
end Bm
def PySem.W.Fast.tw14692188874804053897 : Nat := 0
def PySem.W.Fast.tw10981545922807575920 : Nat := 0
def PySem.W.Fast.tw15848914345951574815 : Nat := 0
def PySem.W.Fast.tw17602447232247130926 : Nat := 0
def PySem.W.Fast.tw4907564214697792661 : Nat := 0
def PySem.W.Fast.tw5670423206094754042 : Nat := 0
def PySem.W.Fast.tw11933708669937359493 : Nat := 0
def PySem.W.Fast.tw12814009636357309651 : Nat := 0
def PySem.W.Fast.tw4518974124753020168 : Nat := 0
def PySem.W.Fast.tw3659992552495056290 : Nat := 0
def PySem.W.Fast.tw494509380232016053 : Nat := 0
open PySem PySem.W PyProof.Rows
open PySem.W (Codec)
set_option maxRecDepth 100000 in
set_option maxHeartbeats 0 in
theorem PySem.Challenge.cw_betweenmarks_s01_answers_holds : PySem.Challenge.rw_betweenmarks_s01_answers.Holds := by
  w_on; k_headS; (case hw => exact ⟨[.list []], by decide +kernel, by decide +kernel⟩)
  k_fillS
  refine L2.walk_specK (r := PySem.Challenge.rw_betweenmarks_s01_answers) (k := 13) (CX := L2.CX0) (ps := ["calls"]) (sp := Bm.spAns) (by decide +kernel) rfl rfl ⟨rfl, by decide, by decide⟩ (fun w h Y => PySem.W.kIn_of Y) ?F ?S (fun _ _ _ _ z => z)
  case F =>
    intro w mg fa h Y KX G hmg
    have d_last : ∃ f fd, Bm.Def (L2.KOf KX) mg "last_place" Bm.sLast ["marks"] f fd := by
      dsimp only [L2.KOf]
      refine' Bm.def_mk KX G ?a ?l ?c ?k ?b
      (case a => k_is); (case l => k_is); (case c => k_is); (case k => k_is)
      (case b => exact fun _ _ _ _ _ _ us hl => match us, hl with | [_], _ => rfl)
    have d_mark : ∃ f fd, Bm.Def (L2.KOf KX) mg "is_mark" Bm.sMark ["place"] f fd := by
      dsimp only [L2.KOf]
      refine' Bm.def_mk KX G ?a ?l ?c ?k ?b
      (case a => k_is); (case l => k_is); (case c => k_is); (case k => k_is)
      (case b => exact fun _ _ _ _ _ _ us hl => match us, hl with | [_], _ => rfl)
    have d_all_ : ∃ f fd, Bm.Def (L2.KOf KX) mg "all_pairs" Bm.sAll ["marks"] f fd := by
      dsimp only [L2.KOf]
      refine' Bm.def_mk KX G ?a ?l ?c ?k ?b
      (case a => k_is); (case l => k_is); (case c => k_is); (case k => k_is)
      (case b => exact fun _ _ _ _ _ _ us hl => match us, hl with | [_], _ => rfl)
    have d_fpl : ∃ f fd, Bm.Def (L2.KOf KX) mg "following_places" Bm.sFpl ["marks", "place", "direction"] f fd := by
      dsimp only [L2.KOf]
      refine' Bm.def_mk KX G ?a ?l ?c ?k ?b
      (case a => k_is); (case l => k_is); (case c => k_is); (case k => k_is)
      (case b => exact fun _ _ _ _ _ _ us hl => match us, hl with | [_, _, _], _ => rfl)
    have d_fdir : ∃ f fd, Bm.Def (L2.KOf KX) mg "following_directions" Bm.sFdir ["direction"] f fd := by
      dsimp only [L2.KOf]
      refine' Bm.def_mk KX G ?a ?l ?c ?k ?b
      (case a => k_is); (case l => k_is); (case c => k_is); (case k => k_is)
      (case b => exact fun _ _ _ _ _ _ us hl => match us, hl with | [_], _ => rfl)
    have d_fol : ∃ f fd, Bm.Def (L2.KOf KX) mg "following_pairs" Bm.sFol ["marks", "pairs"] f fd := by
      dsimp only [L2.KOf]
      refine' Bm.def_mk KX G ?a ?l ?c ?k ?b
      (case a => k_is); (case l => k_is); (case c => k_is); (case k => k_is)
      (case b => exact fun _ _ _ _ _ _ us hl => match us, hl with | [_, _], _ => rfl)
    have d_split : ∃ f fd, Bm.Def (L2.KOf KX) mg "split_calls" Bm.sSplit ["numbers"] f fd := by
      dsimp only [L2.KOf]
      refine' Bm.def_mk KX G ?a ?l ?c ?k ?b
      (case a => k_is); (case l => k_is); (case c => k_is); (case k => k_is)
      (case b => exact fun _ _ _ _ _ _ us hl => match us, hl with | [_], _ => rfl)
    have d_namesQ : ∃ f fd, Bm.Def (L2.KOf KX) mg "names_quantity" Bm.sNamesQ ["name", "given"] f fd := by
      dsimp only [L2.KOf]
      refine' Bm.def_mk KX G ?a ?l ?c ?k ?b
      (case a => k_is); (case l => k_is); (case c => k_is); (case k => k_is)
      (case b => exact fun _ _ _ _ _ _ us hl => match us, hl with | [_, _], _ => rfl)
    have d_isCh : ∃ f fd, Bm.Def (L2.KOf KX) mg "is_change" Bm.sIsCh ["name"] f fd := by
      dsimp only [L2.KOf]
      refine' Bm.def_mk KX G ?a ?l ?c ?k ?b
      (case a => k_is); (case l => k_is); (case c => k_is); (case k => k_is)
      (case b => exact fun _ _ _ _ _ _ us hl => match us, hl with | [_], _ => rfl)
    have d_makeCh : ∃ f fd, Bm.Def (L2.KOf KX) mg "make_change" Bm.sMakeCh ["plant", "name", "given"] f fd := by
      dsimp only [L2.KOf]
      refine' Bm.def_mk KX G ?a ?l ?c ?k ?b
      (case a => k_is); (case l => k_is); (case c => k_is); (case k => k_is)
      (case b => exact fun _ _ _ _ _ _ us hl => match us, hl with | [_, _, _], _ => rfl)
    have d_ansQ : ∃ f fd, Bm.Def (L2.KOf KX) mg "answer_question" Bm.sAnsQ ["plant", "name", "given"] f fd := by
      dsimp only [L2.KOf]
      refine' Bm.def_mk KX G ?a ?l ?c ?k ?b
      (case a => k_is); (case l => k_is); (case c => k_is); (case k => k_is)
      (case b => exact fun _ _ _ _ _ _ us hl => match us, hl with | [_, _, _], _ => rfl)
    have d_ansCall : ∃ f fd, Bm.Def (L2.KOf KX) mg "answer_call" Bm.sAnsCall ["plant", "name", "given"] f fd := by
      dsimp only [L2.KOf]
      refine' Bm.def_mk KX G ?a ?l ?c ?k ?b
      (case a => k_is); (case l => k_is); (case c => k_is); (case k => k_is)
      (case b => exact fun _ _ _ _ _ _ us hl => match us, hl with | [_, _, _], _ => rfl)
    have d_quant : ∃ f fd, Bm.Def (L2.KOf KX) mg "quantity" Bm.sQuant ["plant", "given"] f fd := by
      dsimp only [L2.KOf]
      refine' Bm.def_mk KX G ?a ?l ?c ?k ?b
      (case a => k_is); (case l => k_is); (case c => k_is); (case k => k_is)
      (case b => exact fun _ _ _ _ _ _ us hl => match us, hl with | [_, _], _ => rfl)
    have d_nar : ∃ f fd, Bm.Def (L2.KOf KX) mg "narrow" Bm.sNar ["plant", "i", "pairs"] f fd := by
      dsimp only [L2.KOf]
      refine' Bm.def_mk KX G ?a ?l ?c ?k ?b
      (case a => k_is); (case l => k_is); (case c => k_is); (case k => k_is)
      (case b => exact fun _ _ _ _ _ _ us hl => match us, hl with | [_, _, _], _ => rfl)
    have d_place : ∃ f fd, Bm.Def (L2.KOf KX) mg "place" Bm.sPlace ["plant", "given"] f fd := by
      dsimp only [L2.KOf]
      refine' Bm.def_mk KX G ?a ?l ?c ?k ?b
      (case a => k_is); (case l => k_is); (case c => k_is); (case k => k_is)
      (case b => exact fun _ _ _ _ _ _ us hl => match us, hl with | [_, _], _ => rfl)
    have d_way : ∃ f fd, Bm.Def (L2.KOf KX) mg "way" Bm.sWay ["plant", "given"] f fd := by
      dsimp only [L2.KOf]
      refine' Bm.def_mk KX G ?a ?l ?c ?k ?b
      (case a => k_is); (case l => k_is); (case c => k_is); (case k => k_is)
      (case b => exact fun _ _ _ _ _ _ us hl => match us, hl with | [_, _], _ => rfl)
    have d_notat : ∃ f fd, Bm.Def (L2.KOf KX) mg "notat" Bm.sNot ["plant", "given"] f fd := by
      dsimp only [L2.KOf]
      refine' Bm.def_mk KX G ?a ?l ?c ?k ?b
      (case a => k_is); (case l => k_is); (case c => k_is); (case k => k_is)
      (case b => exact fun _ _ _ _ _ _ us hl => match us, hl with | [_, _], _ => rfl)
    have d_tick : ∃ f fd, Bm.Def (L2.KOf KX) mg "tick" Bm.sTick ["plant", "given"] f fd := by
      dsimp only [L2.KOf]
      refine' Bm.def_mk KX G ?a ?l ?c ?k ?b
      (case a => k_is); (case l => k_is); (case c => k_is); (case k => k_is)
      (case b => exact fun _ _ _ _ _ _ us hl => match us, hl with | [_, _], _ => rfl)
    have d_forget : ∃ f fd, Bm.Def (L2.KOf KX) mg "forget" Bm.sForget ["plant", "given"] f fd := by
      dsimp only [L2.KOf]
      refine' Bm.def_mk KX G ?a ?l ?c ?k ?b
      (case a => k_is); (case l => k_is); (case c => k_is); (case k => k_is)
      (case b => exact fun _ _ _ _ _ _ us hl => match us, hl with | [_, _], _ => rfl)
    have d_back : ∃ f fd, Bm.Def (L2.KOf KX) mg "back" Bm.sBack ["plant", "given"] f fd := by
      dsimp only [L2.KOf]
      refine' Bm.def_mk KX G ?a ?l ?c ?k ?b
      (case a => k_is); (case l => k_is); (case c => k_is); (case k => k_is)
      (case b => exact fun _ _ _ _ _ _ us hl => match us, hl with | [_, _], _ => rfl)
    have d_may : ∃ f fd, Bm.Def (L2.KOf KX) mg "may" Bm.sMay ["plant", "given"] f fd := by
      dsimp only [L2.KOf]
      refine' Bm.def_mk KX G ?a ?l ?c ?k ?b
      (case a => k_is); (case l => k_is); (case c => k_is); (case k => k_is)
      (case b => exact fun _ _ _ _ _ _ us hl => match us, hl with | [_, _], _ => rfl)
    have d_ways : ∃ f fd, Bm.Def (L2.KOf KX) mg "ways" Bm.sWays ["plant", "given"] f fd := by
      dsimp only [L2.KOf]
      refine' Bm.def_mk KX G ?a ?l ?c ?k ?b
      (case a => k_is); (case l => k_is); (case c => k_is); (case k => k_is)
      (case b => exact fun _ _ _ _ _ _ us hl => match us, hl with | [_, _], _ => rfl)
    have d_pairs : ∃ f fd, Bm.Def (L2.KOf KX) mg "pairs" Bm.sPairs ["plant", "given"] f fd := by
      dsimp only [L2.KOf]
      refine' Bm.def_mk KX G ?a ?l ?c ?k ?b
      (case a => k_is); (case l => k_is); (case c => k_is); (case k => k_is)
      (case b => exact fun _ _ _ _ _ _ us hl => match us, hl with | [_, _], _ => rfl)
    have d_hpl : ∃ f fd, Bm.Def (L2.KOf KX) mg "has_place" Bm.sHpl ["marks", "place"] f fd := by
      dsimp only [L2.KOf]
      refine' Bm.def_mk KX G ?a ?l ?c ?k ?b
      (case a => k_is); (case l => k_is); (case c => k_is); (case k => k_is)
      (case b => exact fun _ _ _ _ _ _ us hl => match us, hl with | [_, _], _ => rfl)
    have d_hpr : ∃ f fd, Bm.Def (L2.KOf KX) mg "has_pair" Bm.sHpr ["marks", "place", "direction"] f fd := by
      dsimp only [L2.KOf]
      refine' Bm.def_mk KX G ?a ?l ?c ?k ?b
      (case a => k_is); (case l => k_is); (case c => k_is); (case k => k_is)
      (case b => exact fun _ _ _ _ _ _ us hl => match us, hl with | [_, _, _], _ => rfl)
    have d_prec : ∃ f fd, Bm.Def (L2.KOf KX) mg "preceding_pairs" Bm.sPrec ["marks", "pair"] f fd := by
      dsimp only [L2.KOf]
      refine' Bm.def_mk KX G ?a ?l ?c ?k ?b
      (case a => k_is); (case l => k_is); (case c => k_is); (case k => k_is)
      (case b => exact fun _ _ _ _ _ _ us hl => match us, hl with | [_, _], _ => rfl)
    have d_beh : ∃ f fd, Bm.Def (L2.KOf KX) mg "pairs_behind" Bm.sBeh ["marks", "pairs", "moments"] f fd := by
      dsimp only [L2.KOf]
      refine' Bm.def_mk KX G ?a ?l ?c ?k ?b
      (case a => k_is); (case l => k_is); (case c => k_is); (case k => k_is)
      (case b => exact fun _ _ _ _ _ _ us hl => match us, hl with | [_, _, _], _ => rfl)
    have d_isRun : ∃ f fd, Bm.Def (L2.KOf KX) mg "is_run" Bm.sIsRun ["marks", "pairs"] f fd := by
      dsimp only [L2.KOf]
      refine' Bm.def_mk KX G ?a ?l ?c ?k ?b
      (case a => k_is); (case l => k_is); (case c => k_is); (case k => k_is)
      (case b => exact fun _ _ _ _ _ _ us hl => match us, hl with | [_, _], _ => rfl)
    have d_leads : ∃ f fd, Bm.Def (L2.KOf KX) mg "leads_to" Bm.sLeads ["marks", "pair", "goals"] f fd := by
      dsimp only [L2.KOf]
      refine' Bm.def_mk KX G ?a ?l ?c ?k ?b
      (case a => k_is); (case l => k_is); (case c => k_is); (case k => k_is)
      (case b => exact fun _ _ _ _ _ _ us hl => match us, hl with | [_, _, _], _ => rfl)
    have d_mom : ∃ f fd, Bm.Def (L2.KOf KX) mg "moments_to" Bm.sMom ["marks", "goals"] f fd := by
      dsimp only [L2.KOf]
      refine' Bm.def_mk KX G ?a ?l ?c ?k ?b
      (case a => k_is); (case l => k_is); (case c => k_is); (case k => k_is)
      (case b => exact fun _ _ _ _ _ _ us hl => match us, hl with | [_, _], _ => rfl)
    have d_short : ∃ f fd, Bm.Def (L2.KOf KX) mg "shortest_run" Bm.sShort ["marks", "starts", "goals"] f fd := by
      dsimp only [L2.KOf]
      refine' Bm.def_mk KX G ?a ?l ?c ?k ?b
      (case a => k_is); (case l => k_is); (case c => k_is); (case k => k_is)
      (case b => exact fun _ _ _ _ _ _ us hl => match us, hl with | [_, _, _], _ => rfl)
    have d_cnt : ∃ f fd, Bm.Def (L2.KOf KX) mg "count_runs" Bm.sCnt ["marks", "starts", "moments"] f fd := by
      dsimp only [L2.KOf]
      refine' Bm.def_mk KX G ?a ?l ?c ?k ?b
      (case a => k_is); (case l => k_is); (case c => k_is); (case k => k_is)
      (case b => exact fun _ _ _ _ _ _ us hl => match us, hl with | [_, _, _], _ => rfl)
    have d_pla : ∃ f fd, Bm.Def (L2.KOf KX) mg "places_among" Bm.sPla ["possible"] f fd := by
      dsimp only [L2.KOf]
      refine' Bm.def_mk KX G ?a ?l ?c ?k ?b
      (case a => k_is); (case l => k_is); (case c => k_is); (case k => k_is)
      (case b => exact fun _ _ _ _ _ _ us hl => match us, hl with | [_], _ => rfl)
    have d_wya : ∃ f fd, Bm.Def (L2.KOf KX) mg "ways_among" Bm.sWyA ["possible"] f fd := by
      dsimp only [L2.KOf]
      refine' Bm.def_mk KX G ?a ?l ?c ?k ?b
      (case a => k_is); (case l => k_is); (case c => k_is); (case k => k_is)
      (case b => exact fun _ _ _ _ _ _ us hl => match us, hl with | [_], _ => rfl)
    have d_flat : ∃ f fd, Bm.Def (L2.KOf KX) mg "flattened" Bm.sFlat ["listed"] f fd := by
      dsimp only [L2.KOf]
      refine' Bm.def_mk KX G ?a ?l ?c ?k ?b
      (case a => k_is); (case l => k_is); (case c => k_is); (case k => k_is)
      (case b => exact fun _ _ _ _ _ _ us hl => match us, hl with | [_], _ => rfl)
    have d_tpl : ∃ f fd, Bm.Def (L2.KOf KX) mg "tell_places" Bm.sTPl ["possible"] f fd := by
      dsimp only [L2.KOf]
      refine' Bm.def_mk KX G ?a ?l ?c ?k ?b
      (case a => k_is); (case l => k_is); (case c => k_is); (case k => k_is)
      (case b => exact fun _ _ _ _ _ _ us hl => match us, hl with | [_], _ => rfl)
    have d_tpr : ∃ f fd, Bm.Def (L2.KOf KX) mg "tell_pairs" Bm.sTPr ["listed"] f fd := by
      dsimp only [L2.KOf]
      refine' Bm.def_mk KX G ?a ?l ?c ?k ?b
      (case a => k_is); (case l => k_is); (case c => k_is); (case k => k_is)
      (case b => exact fun _ _ _ _ _ _ us hl => match us, hl with | [_], _ => rfl)
    have d_sure : ∃ f fd, Bm.Def (L2.KOf KX) mg "sure" Bm.sSure ["plant", "given"] f fd := by
      dsimp only [L2.KOf]
      refine' Bm.def_mk KX G ?a ?l ?c ?k ?b
      (case a => k_is); (case l => k_is); (case c => k_is); (case k => k_is)
      (case b => exact fun _ _ _ _ _ _ us hl => match us, hl with | [_, _], _ => rfl)
    have d_later : ∃ f fd, Bm.Def (L2.KOf KX) mg "later" Bm.sLater ["plant", "given"] f fd := by
      dsimp only [L2.KOf]
      refine' Bm.def_mk KX G ?a ?l ?c ?k ?b
      (case a => k_is); (case l => k_is); (case c => k_is); (case k => k_is)
      (case b => exact fun _ _ _ _ _ _ us hl => match us, hl with | [_, _], _ => rfl)
    have d_rtp : ∃ f fd, Bm.Def (L2.KOf KX) mg "run_to_place" Bm.sRtp ["plant", "i", "place"] f fd := by
      dsimp only [L2.KOf]
      refine' Bm.def_mk KX G ?a ?l ?c ?k ?b
      (case a => k_is); (case l => k_is); (case c => k_is); (case k => k_is)
      (case b => exact fun _ _ _ _ _ _ us hl => match us, hl with | [_, _, _], _ => rfl)
    have d_soon : ∃ f fd, Bm.Def (L2.KOf KX) mg "soonest" Bm.sSoon ["plant", "given"] f fd := by
      dsimp only [L2.KOf]
      refine' Bm.def_mk KX G ?a ?l ?c ?k ?b
      (case a => k_is); (case l => k_is); (case c => k_is); (case k => k_is)
      (case b => exact fun _ _ _ _ _ _ us hl => match us, hl with | [_, _], _ => rfl)
    have d_path : ∃ f fd, Bm.Def (L2.KOf KX) mg "path" Bm.sPath ["plant", "given"] f fd := by
      dsimp only [L2.KOf]
      refine' Bm.def_mk KX G ?a ?l ?c ?k ?b
      (case a => k_is); (case l => k_is); (case c => k_is); (case k => k_is)
      (case b => exact fun _ _ _ _ _ _ us hl => match us, hl with | [_, _], _ => rfl)
    have d_btw : ∃ f fd, Bm.Def (L2.KOf KX) mg "between" Bm.sBtw ["plant", "given"] f fd := by
      dsimp only [L2.KOf]
      refine' Bm.def_mk KX G ?a ?l ?c ?k ?b
      (case a => k_is); (case l => k_is); (case c => k_is); (case k => k_is)
      (case b => exact fun _ _ _ _ _ _ us hl => match us, hl with | [_, _], _ => rfl)
    have d_foll : ∃ f fd, Bm.Def (L2.KOf KX) mg "following" Bm.sFoll ["plant", "given"] f fd := by
      dsimp only [L2.KOf]
      refine' Bm.def_mk KX G ?a ?l ?c ?k ?b
      (case a => k_is); (case l => k_is); (case c => k_is); (case k => k_is)
      (case b => exact fun _ _ _ _ _ _ us hl => match us, hl with | [_, _], _ => rfl)
    have d_prece : ∃ f fd, Bm.Def (L2.KOf KX) mg "preceding" Bm.sPrece ["plant", "given"] f fd := by
      dsimp only [L2.KOf]
      refine' Bm.def_mk KX G ?a ?l ?c ?k ?b
      (case a => k_is); (case l => k_is); (case c => k_is); (case k => k_is)
      (case b => exact fun _ _ _ _ _ _ us hl => match us, hl with | [_, _], _ => rfl)
    have d_runq : ∃ f fd, Bm.Def (L2.KOf KX) mg "run" Bm.sRunQ ["plant", "given"] f fd := by
      dsimp only [L2.KOf]
      refine' Bm.def_mk KX G ?a ?l ?c ?k ?b
      (case a => k_is); (case l => k_is); (case c => k_is); (case k => k_is)
      (case b => exact fun _ _ _ _ _ _ us hl => match us, hl with | [_, _], _ => rfl)
    have d_count : ∃ f fd, Bm.Def (L2.KOf KX) mg "count" Bm.sCount ["plant", "given"] f fd := by
      dsimp only [L2.KOf]
      refine' Bm.def_mk KX G ?a ?l ?c ?k ?b
      (case a => k_is); (case l => k_is); (case c => k_is); (case k => k_is)
      (case b => exact fun _ _ _ _ _ _ us hl => match us, hl with | [_, _], _ => rfl)
    have d_look : ∃ f fd, Bm.Def (L2.KOf KX) mg "look" Bm.sLook ["plant", "given"] f fd := by
      dsimp only [L2.KOf]
      refine' Bm.def_mk KX G ?a ?l ?c ?k ?b
      (case a => k_is); (case l => k_is); (case c => k_is); (case k => k_is)
      (case b => exact fun _ _ _ _ _ _ us hl => match us, hl with | [_, _], _ => rfl)
    have d_state : ∃ f fd, Bm.Def (L2.KOf KX) mg "state" Bm.sState ["plant", "given"] f fd := by
      dsimp only [L2.KOf]
      refine' Bm.def_mk KX G ?a ?l ?c ?k ?b
      (case a => k_is); (case l => k_is); (case c => k_is); (case k => k_is)
      (case b => exact fun _ _ _ _ _ _ us hl => match us, hl with | [_, _], _ => rfl)
    have d_ans : ∃ f fd, Bm.Def (L2.KOf KX) mg "answers" Bm.sAns ["calls"] f fd := by
      dsimp only [L2.KOf]
      refine' Bm.def_mk KX G ?a ?l ?c ?k ?b
      (case a => k_is); (case l => k_is); (case c => k_is); (case k => k_is)
      (case b => exact fun _ _ _ _ _ _ us hl => match us, hl with | [_], _ => rfl)
    have pk : ∃ C, mg "Plant" = some (.ref C) ∧ Bm.PlantK (L2.KOf KX) C := by
      dsimp only [L2.KOf]
      refine' Bm.plantk_mk KX G ?y ?c1 ?c2 ?c3 ?c4 ?n1 ?n2 ?n3 ?n4 ?m1 ?m2 ?d1 ?d2 ?d3 ?d4 ?d5 ?d6 ?d7
      (case y => k_is)
      (case c1 => k_is); (case c2 => k_is); (case c3 => k_is); (case c4 => k_is)
      (case n1 => k_is); (case n2 => k_is); (case n3 => k_is); (case n4 => k_is)
      (case m1 => k_is); (case m2 => k_is)
      case d1 =>
        refine' Bm.mdef_mk ?a ?i ?l ?c ?k ?b
        (case a => k_is); (case i => k_is); (case l => k_is); (case c => k_is); (case k => k_is)
        (case b => exact fun _ _ _ _ _ _ us hl => match us, hl with | [_], _ => rfl)
      case d2 =>
        refine' Bm.mdef_mk ?a ?i ?l ?c ?k ?b
        (case a => k_is); (case i => k_is); (case l => k_is); (case c => k_is); (case k => k_is)
        (case b => exact fun _ _ _ _ _ _ us hl => match us, hl with | [_, _], _ => rfl)
      case d3 =>
        refine' Bm.mdef_mk ?a ?i ?l ?c ?k ?b
        (case a => k_is); (case i => k_is); (case l => k_is); (case c => k_is); (case k => k_is)
        (case b => exact fun _ _ _ _ _ _ us hl => match us, hl with | [_], _ => rfl)
      case d4 =>
        refine' Bm.mdef_mk ?a ?i ?l ?c ?k ?b
        (case a => k_is); (case i => k_is); (case l => k_is); (case c => k_is); (case k => k_is)
        (case b => exact fun _ _ _ _ _ _ us hl => match us, hl with | [_, _], _ => rfl)
      case d5 =>
        refine' Bm.mdef_mk ?a ?i ?l ?c ?k ?b
        (case a => k_is); (case i => k_is); (case l => k_is); (case c => k_is); (case k => k_is)
        (case b => exact fun _ _ _ _ _ _ us hl => match us, hl with | [_, _, _], _ => rfl)
      case d6 =>
        refine' Bm.mdef_mk ?a ?i ?l ?c ?k ?b
        (case a => k_is); (case i => k_is); (case l => k_is); (case c => k_is); (case k => k_is)
        (case b => exact fun _ _ _ _ _ _ us hl => match us, hl with | [_], _ => rfl)
      case d7 =>
        refine' Bm.mdef_mk ?a ?i ?l ?c ?k ?b
        (case a => k_is); (case i => k_is); (case l => k_is); (case c => k_is); (case k => k_is)
        (case b => exact fun _ _ _ _ _ _ us hl => match us, hl with | [_], _ => rfl)
    have i_NO_QUANTITY : ∃ t, mg "NO_QUANTITY" = some (.int (-2) t) := by
      refine' Bm.intk_mk KX G ?y
      (case y => k_is)
    have i_NONE_THERE : ∃ t, mg "NONE_THERE" = some (.int (-6) t) := by
      refine' Bm.intk_mk KX G ?y
      (case y => k_is)
    have i_NOT_BEGUN : ∃ t, mg "NOT_BEGUN" = some (.int (-11) t) := by
      refine' Bm.intk_mk KX G ?y
      (case y => k_is)
    have i_NOT_RIGHT : ∃ t, mg "NOT_RIGHT" = some (.int (-22) t) := by
      refine' Bm.intk_mk KX G ?y
      (case y => k_is)
    have i_TOO_MANY : ∃ t, mg "TOO_MANY" = some (.int (-28) t) := by
      refine' Bm.intk_mk KX G ?y
      (case y => k_is)
    have i_CANNOT_BE : ∃ t, mg "CANNOT_BE" = some (.int (-33) t) := by
      refine' Bm.intk_mk KX G ?y
      (case y => k_is)
    have i_MOST_MARKS : ∃ t, mg "MOST_MARKS" = some (.int (4) t) := by
      refine' Bm.intk_mk KX G ?y
      (case y => k_is)
    have i_MOST_QUANTITIES : ∃ t, mg "MOST_QUANTITIES" = some (.int (5) t) := by
      refine' Bm.intk_mk KX G ?y
      (case y => k_is)
    have i_MOST_MOMENTS : ∃ t, mg "MOST_MOMENTS" = some (.int (40) t) := by
      refine' Bm.intk_mk KX G ?y
      (case y => k_is)
    have i_STEADY : ∃ t, mg "STEADY" = some (.int (1) t) := by
      refine' Bm.intk_mk KX G ?y
      (case y => k_is)
    have i_RISING : ∃ t, mg "RISING" = some (.int (2) t) := by
      refine' Bm.intk_mk KX G ?y
      (case y => k_is)
    have i_MOST_CHANGES : ∃ t, mg "MOST_CHANGES" = some (.int (40) t) := by
      refine' Bm.intk_mk KX G ?y
      (case y => k_is)
    have i_MOST_MOMENTS_LATER : ∃ t, mg "MOST_MOMENTS_LATER" = some (.int (40) t) := by
      refine' Bm.intk_mk KX G ?y
      (case y => k_is)
    have i_MOST_MOMENTS_COUNTED : ∃ t, mg "MOST_MOMENTS_COUNTED" = some (.int (6) t) := by
      refine' Bm.intk_mk KX G ?y
      (case y => k_is)
    have n_range : mg "range" = none := by
      refine' PySem.W.mg_none_of KX G ?y
      (case y => k_is)
    have n_len : mg "len" = none := by
      refine' PySem.W.mg_none_of KX G ?y
      (case y => k_is)
    have n_abs : mg "abs" = none := by
      refine' PySem.W.mg_none_of KX G ?y
      (case y => k_is)
    have n_sorted : mg "sorted" = none := by
      refine' PySem.W.mg_none_of KX G ?y
      (case y => k_is)
    have n_list : mg "list" = none := by
      refine' PySem.W.mg_none_of KX G ?y
      (case y => k_is)
    have n_zip : mg "zip" = none := by
      refine' PySem.W.mg_none_of KX G ?y
      (case y => k_is)
    have n_sum : mg "sum" = none := by
      refine' PySem.W.mg_none_of KX G ?y
      (case y => k_is)
    have n_set : mg "set" = none := by
      refine' PySem.W.mg_none_of KX G ?y
      (case y => k_is)
    have n_any : mg "any" = none := by
      refine' PySem.W.mg_none_of KX G ?y
      (case y => k_is)
    have n_all : mg "all" = none := by
      refine' PySem.W.mg_none_of KX G ?y
      (case y => k_is)
    have n_min : mg "min" = none := by
      refine' PySem.W.mg_none_of KX G ?y
      (case y => k_is)
    have e_dirs : ∃ a, mg "DIRECTIONS" = some (.ref a) ∧ Bm.isTupK (L2.KOf KX) a [.int 0, .int 1, .int 2] = true := by
      dsimp only [L2.KOf]
      refine' Bm.tupk_mk KX G ?y ?x
      (case y => k_is)
      (case x => kernel_rfl)
    have e_calls : ∃ aC, mg "CALLS" = some (.ref aC) ∧ Bm.isTabK (L2.KOf KX) aC Bm.tabV = true := by
      dsimp only [L2.KOf]
      refine' Bm.tabk_mk KX G ?y ?x
      (case y => k_is)
      (case x => kernel_rfl)
    have e_chg : ∃ aC, mg "CHANGES" = some (.ref aC) ∧ Bm.isDictK (L2.KOf KX) aC Bm.chgD = true := by
      dsimp only [L2.KOf]
      refine' Bm.dictk_mk KX G ?y ?x
      (case y => k_is)
      (case x => kernel_rfl)
    have e_ask : ∃ aC, mg "QUESTIONS" = some (.ref aC) ∧ Bm.isDictK (L2.KOf KX) aC Bm.askD = true := by
      dsimp only [L2.KOf]
      refine' Bm.dictk_mk KX G ?y ?x
      (case y => k_is)
      (case x => kernel_rfl)
    obtain ⟨fa', fd, D⟩ := d_ans
    have ef : fa' = fa := by
      have q := D.at_
      rw [show mg "answers" = some (.ref fa) from hmg] at q
      injection q with q
      injection q with q
      exact q.symm
    subst ef
    refine ⟨fd, Bm.ans_binds D, fun base kb gb => ?_⟩
    exact Bm.ans_ok kb gb ⟨d_last, d_mark, d_all_, d_fpl, d_fdir, d_fol, d_split, d_namesQ, d_isCh, d_makeCh, d_ansQ, d_ansCall, d_quant, d_nar, d_place, d_way, d_notat, d_tick, d_forget, d_back, d_may, d_ways, d_pairs, d_hpl, d_hpr, d_prec, d_beh, d_isRun, d_leads, d_mom, d_short, d_cnt, d_pla, d_wya, d_flat, d_tpl, d_tpr, d_sure, d_later, d_rtp, d_soon, d_path, d_btw, d_foll, d_prece, d_runq, d_count, d_look, d_state⟩ pk (Bm.dirs_mk (h := base) n_range n_len n_abs n_sorted e_dirs i_STEADY i_RISING) (Bm.calls_mk e_calls) ⟨i_NO_QUANTITY, i_NONE_THERE, i_NOT_BEGUN, i_NOT_RIGHT, i_TOO_MANY, i_CANNOT_BE, i_MOST_MARKS, i_MOST_QUANTITIES, i_MOST_MOMENTS⟩ n_list n_zip i_MOST_CHANGES n_sum n_set e_chg e_ask
      n_any n_all n_min i_MOST_MOMENTS_LATER i_MOST_MOMENTS_COUNTED D
  case S =>
    intro K H xs a hO hwi hask hx
    cases hx with
    | cons h1 h2 =>
      cases h2
      cases h1 with
      | lst hs ha =>
        have e := L2.ints_dw a.1 _ ha
        subst e
        have q : ((Codec.inLen 0 16000 a.1 && a.1.all (Codec.inInt 0 4294967295)) && true) = true := hwi
        rw [Bool.and_eq_true, Bool.and_eq_true] at q
        exact ⟨_, a.1, rfl, hs, (Codec.inNat_iff.mp q.1.1).2, hask, fun H' p hp => .lst (L2.SqL.of hp) (L2.dw_ints _)⟩


end
